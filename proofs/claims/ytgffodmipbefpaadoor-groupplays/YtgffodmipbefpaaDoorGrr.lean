/- Package group: put's walk where the tally is not there yet. -/
import Derived.Test.YtgffodmipbefpaaDoorGrq
namespace Go.Proofs.YtgffodmipbefpaaDoor
open Go.RowKit Go.Sort
set_option maxRecDepth 100000

/-- What the box of x holds, in any world in which its block is as it was laid. -/
theorem box_cells {W : World} {a : Nat} {x : O} (h : W.heap[a]? = some (.cells (encO x).toArray 37)) :
    W.cell? ⟨a, 0, none⟩ = some (.int .i64 x.k) ∧ W.cell? ⟨a, 3, none⟩ = some (.int .i64 x.lv) ∧ W.cell? ⟨a, 6, none⟩ = some (.int .i64 x.rv) ∧ W.cell? ⟨a, 7, none⟩ = some (.bool x.hl) ∧ W.cell? ⟨a, 8, none⟩ = some (.bool x.hr) := by
  refine ⟨?_, ?_, ?_, ?_, ?_⟩ <;> (rw [Go.Joins.cell_of_block h]; rfl)

theorem new_cells {V W2 : World} {bm n : Nat} {D : DataW Value} {k : Int} (h : NewAt V W2 bm n D k) :
    W2.cell? ⟨V.heap.size + 1, 0, none⟩ = some (.int .i64 0) ∧ W2.cell? ⟨V.heap.size + 1, 1, none⟩ = some (.int .i64 0) ∧ W2.cell? ⟨V.heap.size + 1, 2, none⟩ = some (.map (some V.heap.size)) ∧ W2.frozen? ⟨V.heap.size + 1, 0, none⟩ = false ∧ W2.frozen? ⟨V.heap.size + 1, 1, none⟩ = false := by
  refine ⟨?_, ?_, ?_, Go.Joins.unfrozen_of_block h.tb 0, Go.Joins.unfrozen_of_block h.tb 1⟩ <;> (rw [Go.Joins.cell_of_block h.tb]; rfl)

/-- The world at which put looks, where there is a map. -/
def lookW (w : World) (x : O) : World := (w.alloc (.cells (encO x).toArray 37)).drew

set_option maxHeartbeats 4000000 in
theorem put_new (b o bm m n : Nat) (tal : Int → Nat × Nat) (G : Int → Option Tl) (D : DataW Value) (w : World) (hcell : w.cell? ⟨b, o, none⟩ = some (.map (some bm))) (hblt : b < w.heap.size) (h : GMap w b bm tal m G n D) (x : O) (hx : x.wf) (hk : G x.k = none) (hm : m < 100000000) :
    Calls Tryd.prog 59 #[.pointer (some ⟨b, o, none⟩), vO x] w fun e w' => e = .returned (.tuple #[]) ∧ Ends (lookW w x) w' b bm m n tal G D x := by
  have hV : GMap (lookW w x) b bm tal m G n D := h.kept fun j hj hne => Below.heap_alloc w _ j (h.lt hj hne)
  have hsV : (lookW w x).heap.size = w.heap.size + 1 := by simp [lookW]
  have hbmlt := h.own.lt
  have hlook := hV.look_none rfl hx.k hk
  obtain ⟨W2, hst0, hN⟩ := new_at hV hx.k hm
  have hst : (Instr.mapUpdate 82 (.map (some bm)) (.int .i64 x.k) (tp (w.heap.size + 1 + 1))).run Tryd.prog ((((w.alloc (.cells (encO x).toArray 37)).alloc (.map #[] 0)).alloc (.cells #[.int .i64 0, .int .i64 0, .map (some (w.heap.size + 1))] 167)).drew.drew) = .ok () W2 := by
    have e : newV (lookW w x) = ((((w.alloc (.cells (encO x).toArray 37)).alloc (.map #[] 0)).alloc (.cells #[.int .i64 0, .int .i64 0, .map (some (w.heap.size + 1))] 167)).drew.drew) := by
      unfold newV
      rw [hsV]
      rfl
    rw [← e, ← hst0, hsV]
  have hc3 : (((w.alloc (.cells (encO x).toArray 37)).alloc (.map #[] 0)).alloc (.cells #[.int .i64 0, .int .i64 0, .map (some (w.heap.size + 1))] 167)).cell? ⟨b, o, none⟩ = some (.map (some bm)) := by
    rw [World.cell?_alloc_past _ _ _ (by simp; omega), World.cell?_alloc_past _ _ _ (by simp; omega), World.cell?_alloc_past _ _ _ hblt, hcell]
  clear hst0
  have hbox : W2.heap[w.heap.size]? = some (.cells (encO x).toArray 37) := (hN.block _ (by omega) (by omega)).trans (MapKept.heap_alloc w _).1
  have hcx := box_cells hbox
  have hcn := new_cells hN
  have hq := geq_some bm
  have hmm := @run_makeMap Tryd.prog
  have hbV : b < (lookW w x).heap.size := by omega
  cases hrr : x.hr
  · have hend : Hid (Ends (lookW w x) (putV W2 x ((lookW w x).heap.size + 1)) b bm m n tal G D x) := ends0 hV hbV x hx hk hN hrr
    rw [hsV] at hend
    have HE : Hid (∀ W', W' = putV W2 x (w.heap.size + 1 + 1) → Ends (lookW w x) W' b bm m n tal G D x) := fun W' e => by rw [e]; exact hend
    clear hend
    have hlt2 : w.heap.size + 1 + 1 < W2.heap.size := by have := hN.size; omega
    clear hV h hN hbox hk
    rw [hsV] at hcn
    generalize hEnds : Ends (lookW w x) = E at *
    clear hEnds
    simp only [lookW] at hlook
    clear hsV hbV
    obtain ⟨k, lk, lt, lv, rk, rt, rv, hl, hr⟩ := x
    simp only at hrr
    subst hrr
    cases hl
    · simp only [vO, encO, putV, Bool.false_eq_true, if_false] at hlook hst hc3 hcx HE ⊢
      go_enter Tryd.func59, Tryd.ntmps59
      go_wp2
      go_region
      all_goals (try go_wp2)
      all_goals go_region
      all_goals (try go_wp2)
      all_goals go_end0
      all_goals exact ⟨rfl, HE.out _ rfl⟩
    · simp only [vO, encO, putV, if_true] at hlook hst hc3 hcx HE ⊢
      go_enter Tryd.func59, Tryd.ntmps59
      go_wp2
      go_region
      all_goals (try go_wp2)
      all_goals go_region
      all_goals (try go_wp2)
      all_goals go_region
      all_goals (try go_wp2)
      all_goals go_end0
      all_goals exact ⟨rfl, HE.out _ rfl⟩
  · obtain ⟨W3, hl3, hs3, hend0⟩ := ends1 hV hbV x hx hk hN hrr
    rw [hsV] at hl3 hs3
    have hend : Hid (Ends (lookW w x) W3 b bm m n tal G D x) := hend0
    have HE : Hid (∀ W', W' = W3 → Ends (lookW w x) W' b bm m n tal G D x) := fun W' e => by rw [e]; exact hend
    clear hend hend0
    have hlt2 : w.heap.size + 1 + 1 < W2.heap.size := by have := hN.size; omega
    clear hV h hN hbox hk
    rw [hsV] at hcn
    generalize hEnds : Ends (lookW w x) = E at *
    clear hEnds
    simp only [lookW] at hlook
    clear hsV hbV
    obtain ⟨k, lk, lt, lv, rk, rt, rv, hl, hr⟩ := x
    simp only at hrr
    subst hrr
    cases hl
    · simp only [vO, encO, putV, Bool.false_eq_true, if_false] at hlook hst hc3 hcx hl3 hs3 ⊢
      go_enter Tryd.func59, Tryd.ntmps59
      go_wp2
      go_region
      all_goals (try go_wp2)
      all_goals go_region
      all_goals (try go_wp2)
      all_goals go_region
      all_goals (try go_wp2)
      all_goals go_end0
      all_goals exact ⟨rfl, HE.out _ rfl⟩
    · simp only [vO, encO, putV, if_true] at hlook hst hc3 hcx hl3 hs3 ⊢
      go_enter Tryd.func59, Tryd.ntmps59
      go_wp2
      go_region
      all_goals (try go_wp2)
      all_goals go_region
      all_goals (try go_wp2)
      all_goals go_region
      all_goals (try go_wp2)
      all_goals go_region
      all_goals (try go_wp2)
      all_goals go_end0
      all_goals exact ⟨rfl, HE.out _ rfl⟩

end Go.Proofs.YtgffodmipbefpaaDoor
