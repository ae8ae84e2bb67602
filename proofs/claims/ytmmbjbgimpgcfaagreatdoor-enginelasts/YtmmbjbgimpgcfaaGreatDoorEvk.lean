/- EngineView's walk where no step is told (a nil slice). -/
import Derived.Test.YtmmbjbgimpgcfaaGreatDoorEvj
namespace Go.Proofs.YtmmbjbgimpgcfaaGreatDoor
open Go.RowKit Go.Sort
set_option maxRecDepth 100000

set_option maxHeartbeats 8000000 in
theorem engineView_none {EngAt : Nat → J → List O → (Nat → Prop) → World → Prop} (E : EngSays EngAt) (hM : ∀ W, Calls Tryz.prog 7 #[] W fun e w' => e = .returned (.bool true) ∧ Below W.heap.size W w')
    (low high md : Int) (oa : Option Addr) (c : Nat) (w : World) :
    Calls Tryz.prog 3 #[.int .i64 low, .int .i64 high, .int .i64 md, .slice oa 0 c] w fun e w' => e = .returned (.bool true) ∧ Below w.heap.size w w' := by
  have hBg := fun W => tale_begins E.toEngFeeds low high md W
  have hok := plan_ok low high md
  generalize loOf low = lo at *
  generalize hiOf low high = hi at *
  generalize modeOf md = mode at *
  clear hok
  go_enter Tryz.func3, Tryz.ntmps3
  go_wp2_with (first
    | (go_at_call 7; refine (hM _).mono ?_; rintro e w1 ⟨rfl, hb1⟩; have HB1 : Hid (Below w.heap.size w w1) := hb1; clear hb1)
    | (go_at_call 8; refine (hBg _).mono ?_; rintro e w2 ⟨bt, rfl, h2⟩; have T2 : Hid (Tale EngAt w1 bt lo hi mode 0 w2) := h2; clear h2)
    | fail)
  clear hBg hM
  have HL : Hid (Below w.heap.size w w2) := by
    obtain ⟨be, bf, nF, a0, a1, va, vb, A, B, F, L, x, S, h⟩ := T2.out
    exact HB1.out.trans (h.low.mono HB1.out.size)
  refine wp_loop_rounds 1 ?_
  rw [rounds_succ]
  go_wp2
  go_ret
  exact ⟨rfl, HL.out⟩

end Go.Proofs.YtmmbjbgimpgcfaaGreatDoor
