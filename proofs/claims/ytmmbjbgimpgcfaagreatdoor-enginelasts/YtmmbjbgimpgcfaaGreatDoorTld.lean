/- A tale's beginning (estuarykeep.tells), for every engine. -/
import Derived.Test.YtmmbjbgimpgcfaaGreatDoorTlc
namespace Go.Proofs.YtmmbjbgimpgcfaaGreatDoor
open Go.RowKit Go.Sort
set_option maxRecDepth 100000

def loOf (low : Int) : Int := (pickN low 41 : Int) - 20
def hiOf (low high : Int) : Int := (pickN low 41 : Int) - 20 + (pickN high 30 : Int)
def modeOf (md : Int) : Int := (pickN md 4 : Int)
theorem plan_ok (low high md : Int) : planOk (loOf low) (hiOf low high) (modeOf md) := by
  have h1 := (pickN_lt low 41 (by omega)).1
  have h2 := (pickN_lt high 30 (by omega)).1
  have h3 := (pickN_lt md 4 (by omega)).1
  unfold planOk loOf hiOf modeOf
  omega

theorem plan_any (low high md : Int) (w : World) : Calls Tryz.prog 28 #[.int .i64 low, .int .i64 high, .int .i64 md] w fun e w' => e = .returned (.agg #[.int .i64 (loOf low), .int .i64 (hiOf low high), .int .i64 (modeOf md)]) ∧ w' = w.alloc (.cells #[.int .i64 (loOf low), .int .i64 (hiOf low high), .int .i64 (modeOf md)] 32) := by
  have p1 := pickN_lt low 41 (by omega)
  have p2 := pickN_lt high 30 (by omega)
  have p3 := pickN_lt md 4 (by omega)
  have k1 : (IntKind.u64.wrap low).tmod 41 = loOf low + 20 := by have h : (IntKind.u64.wrap low).tmod 41 = ((pickN low 41 : Nat) : Int) := p1.2.symm; unfold loOf; omega
  have k2 : (IntKind.u64.wrap high).tmod 30 = hiOf low high - loOf low := by have h : (IntKind.u64.wrap high).tmod 30 = ((pickN high 30 : Nat) : Int) := p2.2.symm; unfold hiOf loOf; omega
  have k3 : (IntKind.u64.wrap md).tmod 4 = modeOf md := p3.2.symm
  have hok := plan_ok low high md
  have K : Hid ((IntKind.u64.wrap low).tmod 41 = loOf low + 20 ∧ (IntKind.u64.wrap high).tmod 30 = hiOf low high - loOf low ∧ (IntKind.u64.wrap md).tmod 4 = modeOf md) := ⟨k1, k2, k3⟩
  clear k1 k2 k3 p1 p2 p3
  unfold planOk at hok
  generalize loOf low = lo at *
  generalize hiOf low high = hi at *
  generalize modeOf md = mode at *
  have e1 : lo + 20 - 20 = lo := by omega
  have e2 : IntKind.i64.wrap lo = lo := wr64 (by omega) (by omega)
  have e3 : lo + (hi - lo) = hi := by omega
  have e4 : IntKind.i64.wrap hi = hi := wr64 (by omega) (by omega)
  clear hok
  go_enter Tryz.func28, Tryz.ntmps28
  go_wp2_with (first
    | (go_at_call 13; refine (pick_int _ _ _ (by omega) (by omega)).mono ?_; rintro e w' ⟨rfl, rfl⟩; first | rw [K.out.1] | rw [K.out.2.1] | rw [K.out.2.2])
    | fail)
  exact bodyPost_ret (v := .agg #[.int .i64 lo, .int .i64 hi, .int .i64 mode]) (by simp [results, Tryz.results28, go_sem]) rfl ⟨rfl, rfl⟩

set_option maxHeartbeats 1000000 in
/-- A tale is begun: the engine is new, no row was taken, the fold is empty. -/
theorem tale_new (Eng : Nat → Int → Int → Int → (Nat → Prop) → World → Prop) (low high md : Int) (w : World) (hst : ∀ be lo hi mode, Steady (Eng be lo hi mode))
    (hN : ∀ lo hi mode W, planOk lo hi mode → Calls Tryz.prog 24 #[.agg #[.int .i64 lo, .int .i64 hi, .int .i64 mode]] W fun e w' => ∃ be S, e = .returned (.tuple #[.pointer (some ⟨be, 0, none⟩), .nilIface]) ∧ Eng be lo hi mode S w' ∧ (∀ k, S k → W.heap.size ≤ k ∧ k < w'.heap.size) ∧ Below W.heap.size W w') :
    Calls Tryz.prog 8 #[.int .i64 low, .int .i64 high, .int .i64 md] w fun e w' => ∃ bt be bf S, e = .returned (.pointer (some ⟨bt, 0, none⟩)) ∧ TaleAt w' w.heap.size bt (.pointer (some ⟨be, 0, none⟩)) (loOf low) (hiOf low high) (modeOf md) (-300) (-300) (.slice none 0 0) (.slice none 0 0) bf 0 [] [] [] ∧ Eng be (loOf low) (hiOf low high) (modeOf md) S w' ∧
      (∀ k, S k → w.heap.size ≤ k ∧ k < w'.heap.size ∧ k ≠ bt ∧ k ≠ bf) ∧ w.heap.size ≤ bt ∧ w.heap.size ≤ bf ∧ Below w.heap.size w w' := by
  have hpl := plan_any low high md w
  have hok := plan_ok low high md
  generalize loOf low = lo at *
  generalize hiOf low high = hi at *
  generalize modeOf md = mode at *
  have hmm := @run_makeMap Tryz.prog
  have HS : Hid (∀ be, Steady (Eng be lo hi mode)) := fun be => hst be lo hi mode
  have hNew := fun W => hN lo hi mode W hok
  have HM : Hid (((w.alloc (.cells #[.int .i64 lo, .int .i64 hi, .int .i64 mode] 32)).alloc (.map #[] 0)).ownsMap Tryz.prog 50 (plainElem (H := Unit) Tryz.prog 3) (w.heap.size + 1) 0 (.map [])) := by
    have := World.ownsMap_made (H := Unit) (w.alloc (.cells #[.int .i64 lo, .int .i64 hi, .int .i64 mode] 32)) Tryz.prog 50 (plainElem Tryz.prog 3)
    show World.ownsMap _ _ _ _ _ _ _
    simpa using this
  clear hN hst hok
  go_enter Tryz.func8, Tryz.ntmps8
  go_wp2_with (first
    | (go_at_call 28; refine hpl.mono ?_; rintro e w' ⟨rfl, rfl⟩)
    | (go_at_call 24; refine (hNew _).mono ?_; rintro e w2 ⟨be, S, rfl, h1, h2, h3⟩; have HB : Hid (Eng be lo hi mode S w2 ∧ (∀ k, S k → (((w.alloc (.cells #[.int .i64 lo, .int .i64 hi, .int .i64 mode] 32)).alloc (.map #[] 0)).alloc (.cells #[.pointer none, .int .i64 lo, .int .i64 hi, .int .i64 mode, .slice none 0 0, .slice none 0 0, .int .i64 (-300), .int .i64 (-300), .map (some (w.heap.size + 1))] 38)).heap.size ≤ k ∧ k < w2.heap.size) ∧ RowKit.Below (((w.alloc (.cells #[.int .i64 lo, .int .i64 hi, .int .i64 mode] 32)).alloc (.map #[] 0)).alloc (.cells #[.pointer none, .int .i64 lo, .int .i64 hi, .int .i64 mode, .slice none 0 0, .slice none 0 0, .int .i64 (-300), .int .i64 (-300), .map (some (w.heap.size + 1))] 38)).heap.size (((w.alloc (.cells #[.int .i64 lo, .int .i64 hi, .int .i64 mode] 32)).alloc (.map #[] 0)).alloc (.cells #[.pointer none, .int .i64 lo, .int .i64 hi, .int .i64 mode, .slice none 0 0, .slice none 0 0, .int .i64 (-300), .int .i64 (-300), .map (some (w.heap.size + 1))] 38)) w2) := ⟨h1, h2, h3⟩; have hbt : w2.heap[w.heap.size + 1 + 1]? = some (.cells #[.pointer none, .int .i64 lo, .int .i64 hi, .int .i64 mode, .slice none 0 0, .slice none 0 0, .int .i64 (-300), .int .i64 (-300), .map (some (w.heap.size + 1))] 38) := (h3.block _ (by simp)).trans (by have := heap_alloc_new ((w.alloc (.cells #[.int .i64 lo, .int .i64 hi, .int .i64 mode] 32)).alloc (.map #[] 0)) (.cells #[.pointer none, .int .i64 lo, .int .i64 hi, .int .i64 mode, .slice none 0 0, .slice none 0 0, .int .i64 (-300), .int .i64 (-300), .map (some (w.heap.size + 1))] 38); simp only [World.size_alloc] at this; exact this); have hcb : w2.cell? ⟨w.heap.size + 1 + 1, 0, none⟩ = some (.pointer none) := (by rw [Go.Joins.cell_of_block hbt]; rfl); have hfb : w2.frozen? ⟨w.heap.size + 1 + 1, 0, none⟩ = false := Go.Joins.unfrozen_of_block hbt 0; have HBT : Hid (w2.heap[w.heap.size + 1 + 1]? = some (.cells #[.pointer none, .int .i64 lo, .int .i64 hi, .int .i64 mode, .slice none 0 0, .slice none 0 0, .int .i64 (-300), .int .i64 (-300), .map (some (w.heap.size + 1))] 38)) := hbt; clear h1 h2 h3 hbt)
    | fail)
  go_ret
  have hbl := HB.out.2.2
  have hsz := hbl.size
  have hset : ∀ k, k ≠ w.heap.size + 1 + 1 → (w2.setCell ⟨w.heap.size + 1 + 1, 0, none⟩ (.pointer (some ⟨be, 0, none⟩))).heap[k]? = w2.heap[k]? := fun k e => Below.heap_setCell _ _ _ _ e
  have hS2 : ∀ k, S k → w.heap.size + 1 + 1 + 1 ≤ k ∧ k < w2.heap.size := fun k hk => by have := HB.out.2.1 k hk; simp at this; omega
  have hm2 : w2.ownsMap Tryz.prog 50 (plainElem (H := Unit) Tryz.prog 3) (w.heap.size + 1) 0 (.map []) := own_map_kept (own_map_kept HM.out (Below.heap_alloc _ _ _ HM.out.lt)) (hbl.block _ (by simp))
  refine ⟨w.heap.size + 1 + 1, be, w.heap.size + 1, S, rfl, ⟨Go.Joins.block_setCell HBT.out _, World.ownsRow_nil _ _ _ _, World.ownsRow_nil _ _ _ _, (fun g e => by cases e), 0, .map [], Nat.le_refl _, own_map_kept hm2 (hset _ (by omega)), cnt_nil.cn0⟩, ?_, ?_, by omega, by omega, ?_⟩
  · exact HS.out be S w2 _ HB.out.1 (by simp) (fun k hk => hset k (by have := hS2 k hk; omega))
  · intro k hk
    have := hS2 k hk
    refine ⟨by omega, by simp; omega, by omega, by omega⟩
  · exact ((Go.Joins.below_alloc3 w _ _ _).trans (hbl.mono (by simp; omega))).setCell (by simp; omega) _

end Go.Proofs.YtmmbjbgimpgcfaaGreatDoor
