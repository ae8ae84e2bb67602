/- Package group: a tally's small functions; put where the tally is there. -/
import Derived.Test.YtgffodmipbefpaaDoorGrn
import Derived.Maps.OwnOps
import Derived.BigQuiet
namespace Go.Proofs.YtgffodmipbefpaaDoor
open Go.RowKit Go.Sort
set_option maxRecDepth 100000

theorem geq_some (bm : Nat) (w : World) : (binOp .eql 82 (.map (some bm)) (.map none)).run Tryd.prog w = .ok (.bool false) w := by kernel_rfl
theorem geq_none (w : World) : (binOp .eql 82 (.map none) (.map none)).run Tryd.prog w = .ok (.bool true) w := by kernel_rfl
theorem gwf_nat (n : Nat) (h : n < 1000000000) : (Lit.int .i64 (n : Int)).wf = true := WalkArith.wf_i64 (by omega)

set_option maxHeartbeats 800000 in
theorem takeRight_one (t r m : Nat) (τ : Tl) (w : World) (h : TalAt w t r m τ) (x : Int) (hx : (gi x).wf = true) (h1 : τ.R.count x = 1) :
    Calls Tryd.prog 88 #[tp t, .int .i64 x] w fun e w' => e = .returned (.tuple #[]) ∧ w'.heap.size = w.heap.size ∧ w.grownBy w' (some r) ∧ ∃ n D, n ≤ m + 1 ∧ w'.ownsMap Tryd.prog 3 (plainElem (H := Unit) Tryd.prog 3) r n D ∧ GCnt D (τ.R.erase x) := by
  have hc := h.cells
  obtain ⟨n, D, hn, hown, hcn⟩ := h.own
  have hrun := glook hown hcn x hx
  rw [h1] at hrun
  obtain ⟨W2, hd, hown2, ht⟩ := hown.drop gkeyed Tryd.underlying165 (gkey hx) 0
  have hsz : W2.heap.size = w.heap.size := by
    obtain ⟨_, _, _, _, _, rfl⟩ := ht
    simp [ChangeMaps.setBlock]
  have hpost : Hid (W2.heap.size = w.heap.size ∧ w.grownBy W2 (some r) ∧ ∃ n D, n ≤ m + 1 ∧ W2.ownsMap Tryd.prog 3 (plainElem (H := Unit) Tryd.prog 3) r n D ∧ GCnt D (τ.R.erase x)) :=
    ⟨hsz, ht.grown, n, _, by omega, hown2, hcn.del x h1⟩
  clear h hsz ht hown2 hown hcn
  go_enter Tryd.func88, Tryd.ntmps88
  go_wp2
  (try simp only [Exit.inBlock, Exit.then])
  refine bodyPost_ret (results_none rfl _ _ _) rfl ?_
  exact ⟨rfl, hpost.out⟩

set_option maxHeartbeats 800000 in
theorem takeRight_more (t r m : Nat) (τ : Tl) (w : World) (h : TalAt w t r m τ) (x : Int) (hx : (gi x).wf = true) (h2 : 2 ≤ τ.R.count x) (hm : m < 100000000) :
    Calls Tryd.prog 88 #[tp t, .int .i64 x] w fun e w' => e = .returned (.tuple #[]) ∧ w'.heap.size = w.heap.size ∧ w.grownBy w' (some r) ∧ ∃ n D, n ≤ m + 1 ∧ w'.ownsMap Tryd.prog 3 (plainElem (H := Unit) Tryd.prog 3) r n D ∧ GCnt D (τ.R.erase x) := by
  have hc := h.cells
  have hlen := h.len
  obtain ⟨n, D, hn, hown, hcn⟩ := h.own
  have hle : τ.R.count x ≤ τ.R.length := List.count_le_length
  have hrun := glook hown hcn x hx
  obtain ⟨W2, hd, hown2, ht⟩ := hown.store gkeyed Tryd.underlying165 (by unfold maxLen; omega) (gkey hx) (plainElem_int (H := Unit) (a := (τ.R.count x : Int) - 1) Tryd.underlying3 (WalkArith.wf_i64 (by omega)))
  have hsz : W2.heap.size = w.heap.size := by
    obtain ⟨_, _, _, _, _, rfl⟩ := ht
    simp [ChangeMaps.setBlock]
  have hpost : Hid (W2.heap.size = w.heap.size ∧ w.grownBy W2 (some r) ∧ ∃ n D, n ≤ m + 1 ∧ W2.ownsMap Tryd.prog 3 (plainElem (H := Unit) Tryd.prog 3) r n D ∧ GCnt D (τ.R.erase x)) :=
    ⟨hsz, ht.grown, n + 1, _, by omega, hown2, hcn.less x hx h2⟩
  have hlo : 2 ≤ (τ.R.count x : Int) := by omega
  have hhi : (τ.R.count x : Int) < 100000000 := by omega
  clear h hsz ht hown2 hown hcn hle h2
  generalize (τ.R.count x : Int) = c at *
  go_enter Tryd.func88, Tryd.ntmps88
  go_wp2
  go_end0
  exact ⟨rfl, hpost.out⟩

theorem takeRight_any (t r m : Nat) (τ : Tl) (w : World) (h : TalAt w t r m τ) (x : Int) (hx : x ∈ τ.R) (hm : m < 100000000) :
    Calls Tryd.prog 88 #[tp t, .int .i64 x] w fun e w' => e = .returned (.tuple #[]) ∧ w'.heap.size = w.heap.size ∧ w.grownBy w' (some r) ∧ ∃ n D, n ≤ m + 1 ∧ w'.ownsMap Tryd.prog 3 (plainElem (H := Unit) Tryd.prog 3) r n D ∧ GCnt D (τ.R.erase x) := by
  have hwf : (gi x).wf = true := by obtain ⟨n, D, hn, hown, hcn⟩ := h.own; exact hcn.wf x hx
  have hpos : 0 < τ.R.count x := List.count_pos_iff.2 hx
  by_cases h1 : τ.R.count x = 1
  · exact takeRight_one t r m τ w h x hwf h1
  · exact takeRight_more t r m τ w h x hwf (by omega) hm

/-- The world in which put has turned a tally's count and sum. -/
def putW (w : World) (x : O) (t : Nat) (c s : Int) : World :=
  if x.hl then (((w.setCell ⟨t, 0, none⟩ (.int .i64 (c + 1))).setCell ⟨t, 1, none⟩ (.int .i64 (wrap64 (s + x.lv)))).alloc (.cells (encO x).toArray 37)).drew.drew
  else ((w.setCell ⟨t, 0, none⟩ (.int .i64 (c + 1))).alloc (.cells (encO x).toArray 37)).drew

theorem putW_at {w : World} {t r : Nat} (τ : Tl) (x : O) (h : w.heap[t]? = some (.cells #[.int .i64 τ.c, .int .i64 τ.s, .map (some r)] 167)) :
    (putW w x t τ.c τ.s).heap[t]? = some (.cells #[.int .i64 (putT τ x).c, .int .i64 (putT τ x).s, .map (some r)] 167) ∧ (putW w x t τ.c τ.s).heap.size = w.heap.size + 1 ∧
    (∀ j, j < w.heap.size → j ≠ t → (putW w x t τ.c τ.s).heap[j]? = w.heap[j]?) ∧ (putW w x t τ.c τ.s).os = w.os ∧ (putW w x t τ.c τ.s).tape = w.tape ∧ (putW w x t τ.c τ.s).output = w.output := by
  have hlt : t < w.heap.size := (Array.getElem?_eq_some_iff.1 h).1
  have hb1 : (w.setCell ⟨t, 0, none⟩ (.int .i64 ((τ.c : Int) + 1))).heap[t]? = some (.cells #[.int .i64 ((τ.c : Int) + 1), .int .i64 τ.s, .map (some r)] 167) := by
    rw [Go.Joins.block_setCell h]; rfl
  have ho : ∀ j, j ≠ t → (w.setCell ⟨t, 0, none⟩ (.int .i64 ((τ.c : Int) + 1))).heap[j]? = w.heap[j]? := fun j hne => Below.heap_setCell _ _ _ _ hne
  have hput : (putT τ x).c = τ.c + 1 := rfl
  have e1 : (((τ.c + 1 : Nat) : Int)) = (τ.c : Int) + 1 := by omega
  rw [hput, e1]
  unfold putW
  cases hl : x.hl
  · simp only [Bool.false_eq_true, if_false]
    refine ⟨?_, by simp, fun j hj hne => ?_, rfl, rfl, rfl⟩
    · refine (Below.heap_alloc _ _ t (by simpa using hlt)).trans ?_
      rw [hb1]; simp [putT, hl]
    · exact (Below.heap_alloc _ _ j (by simpa using hj)).trans (ho j hne)
  · simp only [if_true]
    refine ⟨?_, by simp, fun j hj hne => ?_, rfl, rfl, rfl⟩
    · refine (Below.heap_alloc _ _ t (by simpa using hlt)).trans ?_
      rw [Go.Joins.block_setCell hb1]; simp [putT, hl]
    · refine (Below.heap_alloc _ _ j (by simpa using hj)).trans ?_
      rw [Below.heap_setCell _ _ _ _ hne]; exact ho j hne

set_option maxHeartbeats 2000000 in
theorem put_there (b o bm m n : Nat) (tal : Int → Nat × Nat) (G : Int → Option Tl) (D : DataW Value) (w : World) (hcell : w.cell? ⟨b, o, none⟩ = some (.map (some bm))) (hblt : b < w.heap.size) (h : GMap w b bm tal m G n D) (x : O) (hx : x.wf) (τ : Tl) (hk : G x.k = some τ) (hm : m < 100000000) :
    Calls Tryd.prog 59 #[.pointer (some ⟨b, o, none⟩), vO x] w fun e w' => e = .returned (.tuple #[]) ∧
      ((x.hr = false ∧ w' = putW w x (tal x.k).1 τ.c τ.s) ∨ (x.hr = true ∧ ∃ n D, n ≤ m + 1 ∧ w'.ownsMap Tryd.prog 3 (plainElem (H := Unit) Tryd.prog 3) (tal x.k).2 n D ∧ GCnt D (x.rv :: τ.R) ∧ (putW w x (tal x.k).1 τ.c τ.s).drew.grownBy w' (some (tal x.k).2))) := by
  have hT := h.tals x.k τ hk
  have hlook := h.look (W := (w.alloc (.cells (encO x).toArray 37)).drew) (Below.heap_alloc w _ bm h.own.lt) hx.k hk
  have hc := hT.cells
  have htlt := hT.lt
  have hnb := h.nb x.k τ hk
  have hlo : (1 : Int) ≤ τ.c := by have := hT.lo; omega
  have hhi : (τ.c : Int) < 100000000 := by have := hT.hi; omega
  have hne := hT.ne
  obtain ⟨p1, p2, p3, p4, p5, p6⟩ := putW_at τ x hT.blk
  obtain ⟨nr, Dr, hnr, hownr, hcr⟩ := hT.own
  have hownW : ((putW w x (tal x.k).1 τ.c τ.s).drew).ownsMap Tryd.prog 3 (plainElem (H := Unit) Tryd.prog 3) (tal x.k).2 nr Dr := ownsMap_at hownr (p3 _ htlt.2 hne.symm)
  have hcle : τ.R.count x.rv ≤ τ.R.length := List.count_le_length
  have hlen := hT.len
  have hrl := glook hownW hcr x.rv hx.rv
  obtain ⟨W2, hst, hown2, htn⟩ := hownW.store gkeyed Tryd.underlying165 (by unfold maxLen; omega) (gkey hx.rv) (plainElem_int (H := Unit) (a := (τ.R.count x.rv : Int) + 1) Tryd.underlying3 (WalkArith.wf_i64 (by omega)))
  have hend : Hid (∃ n D, n ≤ m + 1 ∧ W2.ownsMap Tryd.prog 3 (plainElem (H := Unit) Tryd.prog 3) (tal x.k).2 n D ∧ GCnt D (x.rv :: τ.R) ∧ (putW w x (tal x.k).1 τ.c τ.s).drew.grownBy W2 (some (tal x.k).2)) :=
    ⟨nr + 1, _, by omega, hown2, hcr.put x.rv hx.rv, htn.grown⟩
  have hcnt : (τ.R.count x.rv : Int) < 100000000 := by omega
  have hcnt0 : 0 ≤ (τ.R.count x.rv : Int) := by omega
  clear p1 p2 p3 p4 p5 p6 hownW hown2 htn hcr hownr hnr h hT hk hcle hlen
  generalize (τ.R.count x.rv : Int) = cn at *
  generalize (tal x.k).1 = t at *
  generalize (tal x.k).2 = r at *
  generalize (τ.c : Int) = c at *
  generalize τ.s = s at *
  have hq := geq_some bm
  obtain ⟨k, lk, lt, lv, rk, rt, rv, hl, hr⟩ := x
  cases hl <;> cases hr
  · clear hend hrl hst
    simp only [vO, encO, putW, Bool.false_eq_true, if_false] at hlook ⊢
    go_enter Tryd.func59, Tryd.ntmps59
    go_wp2
    go_region
    all_goals (try go_wp2)
    all_goals go_end0
    all_goals exact ⟨rfl, .inl ⟨trivial, rfl⟩⟩
  · have hend' := hend
    clear hend
    simp only [vO, encO, putW, Bool.false_eq_true, if_false] at hlook hrl hst ⊢
    simp only [encO, putW, Bool.false_eq_true, if_false] at hend'
    have hend : Hid _ := hend'
    clear hend'
    go_enter Tryd.func59, Tryd.ntmps59
    go_wp2
    go_region
    all_goals (try go_wp2)
    all_goals go_region
    all_goals (try go_wp2)
    all_goals go_end0
    all_goals exact ⟨rfl, .inr ⟨trivial, hend⟩⟩
  · clear hend hrl hst
    simp only [vO, encO, putW, Bool.false_eq_true, if_true] at hlook ⊢
    go_enter Tryd.func59, Tryd.ntmps59
    go_wp2
    go_region
    all_goals (try go_wp2)
    all_goals go_region
    all_goals (try go_wp2)
    all_goals go_end0
    all_goals exact ⟨rfl, .inl ⟨trivial, rfl⟩⟩
  · have hend' := hend
    clear hend
    simp only [vO, encO, putW, if_true] at hlook hrl hst ⊢
    simp only [encO, putW, if_true] at hend'
    have hend : Hid _ := hend'
    clear hend'
    go_enter Tryd.func59, Tryd.ntmps59
    go_wp2
    go_region
    all_goals (try go_wp2)
    all_goals go_region
    all_goals (try go_wp2)
    all_goals go_region
    all_goals (try go_wp2)
    all_goals go_end0
    all_goals exact ⟨rfl, .inr ⟨trivial, hend⟩⟩

end Go.Proofs.YtgffodmipbefpaaDoor
