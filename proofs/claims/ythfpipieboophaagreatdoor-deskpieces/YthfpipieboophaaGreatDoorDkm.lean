/- What a line throws is caught. -/
import Derived.Test.YthfpipieboophaaGreatDoorDkl
import Derived.Defers
import Derived.Recover
namespace Go.Proofs.YthfpipieboophaaGreatDoor
open Go.RowKit Go.Sort Go.Shelf
set_option maxRecDepth 100000
theorem assert_err (c : Int) (w : World) : (Instr.typeAssert (.iface 24 (.int .i64 c)) 20 29 true).run Tryz.prog w = .ok (.tuple #[.iface 24 (.int .i64 c), .bool true]) w := by kernel_rfl
theorem assert_nil (w : World) : (Instr.typeAssert .nilIface 20 29 true).run Tryz.prog w = .ok (.tuple #[.nilIface, .bool false]) w := by kernel_rfl
theorem tmps_is (p : Addr) (v : Value) (b : Bool) (t : Value) : (#[Value.pointer (some p)] ++ (((((((Array.replicate 10 undef).setIfInBounds 3 v).setIfInBounds 4 t).setIfInBounds 2 t).setIfInBounds 5 v).setIfInBounds 6 (Value.bool b)).setIfInBounds 0 v).setIfInBounds 1 (Value.bool b)) = #[Value.pointer (some p), v, .bool b, t, v, t, v, .bool b, undef, undef, undef] := by kernel_rfl
theorem catch_idle (p : Addr) (w : World) : CallsD Tryz.prog 148 #[.pointer (some p)] .returning w fun e u' w' => e = .returned (.tuple #[]) ∧ u' = .returning ∧ w' = w := by
  have ha := assert_nil w
  refine callsD_of_wpS Tryz.func148 rfl fun c₀ cs hu => ?_
  apply wpS_seq
  apply wpS_region
  simp [wpOpsS, go_sem, recoverD, hu, Tryz.ntmps148, Exit.thenS, ha]
  refine wpS_of_wp ?_
  rw [tmps_is]
  go_wp2
  cases c₀
  simp_all [bodyPostS, results, Tryz.results148]
theorem catch_panicking (p : Addr) (c : Int) (hc : In64a c) (old : Value) (w : World) (ht : TabW w) (hg : w.cell? ⟨2, 0, none⟩ = some errT) (hf : ∀ W, Below w.heap.size w W → W.cell? p = some old ∧ W.frozen? p = false) :
    CallsD Tryz.prog 148 #[.pointer (some p)] (.panicking [{ v := .iface 24 (.int .i64 c), recovered := false }]) w fun e u' w' => e = .returned (.tuple #[]) ∧ u' = .panicking [{ v := .iface 24 (.int .i64 c), recovered := true }] ∧ ∃ w1, Below w.heap.size w w1 ∧ w' = w1.setCell p (sV (errTx c)) := by
  have ha := assert_err c w
  have HT : Hid (Calls Tryz.prog 75 #[.iface 24 (.int .i64 c)] w fun e w' => e = .returned (.string ⟨(errTx c).toArray⟩) ∧ (w'.cell? p = some old ∧ w'.frozen? p = false) ∧ Hid (Below w.heap.size w w')) := (tellWrong_any c hc w ht hg).mono fun e w' h => ⟨h.1, hf w' h.2, h.2⟩
  clear ht hg hf hc
  refine callsD_of_wpS Tryz.func148 rfl fun c₀ cs hu => ?_
  apply wpS_seq
  apply wpS_region
  simp [wpOpsS, go_sem, recoverD, hu, Tryz.ntmps148, Exit.thenS, ha]
  refine wpS_of_wp ?_
  rw [tmps_is]
  go_wp2_with (first
    | (go_at_call 75; refine HT.out.mono ?_; rintro e w2 ⟨rfl, c2, h2⟩)
    | fail)
  simp [bodyPostS, results, Tryz.results148]
  exact ⟨w2, h2.out, rfl⟩
end Go.Proofs.YthfpipieboophaaGreatDoor
