/- Package group: put's walk where there is no map yet. -/
import Derived.Test.YtgffodmipbefpaaDoorGrr
namespace Go.Proofs.YtgffodmipbefpaaDoor
open Go.RowKit Go.Sort
set_option maxRecDepth 100000

/-- The world at which put looks, where it has made the map. -/
def lookN (w : World) (b o : Nat) (x : O) : World := (((w.setCell ⟨b, o, none⟩ (.map (some (w.heap.size + 1)))).alloc (.cells (encO x).toArray 37)).alloc (.map #[] 0)).drew

theorem made_map {w : World} {b m : Nat} (tal : Int → Nat × Nat) (x : O) (o : Nat) (hblt : b < w.heap.size) : GMap (lookN w b o x) b (w.heap.size + 1) tal m (fun _ => none) 0 (.map []) := by
  refine ⟨Nat.zero_le _, ?_, gdat_nil tal, (fun _ _ h => by cases h), by omega, (fun _ _ h => by cases h), (fun _ _ _ _ h => by cases h)⟩
  have h0 := World.ownsMap_made (H := Value) ((w.setCell ⟨b, o, none⟩ (.map (some (w.heap.size + 1)))).alloc (.cells (encO x).toArray 37)) Tryd.prog 3 gR
  have e : ((w.setCell ⟨b, o, none⟩ (.map (some (w.heap.size + 1)))).alloc (.cells (encO x).toArray 37)).heap.size = w.heap.size + 1 := by simp
  rw [e] at h0
  exact h0.drew
theorem made_box {w : World} (x : O) (b o : Nat) : (lookN w b o x).heap[w.heap.size]? = some (.cells (encO x).toArray 37) := by
  have e : (w.setCell ⟨b, o, none⟩ (.map (some (w.heap.size + 1)))).heap.size = w.heap.size := by simp
  refine (Below.heap_alloc _ _ _ (by simp)).trans ?_
  have := (MapKept.heap_alloc (w.setCell ⟨b, o, none⟩ (.map (some (w.heap.size + 1)))) (.cells (encO x).toArray 37)).1
  rw [e] at this
  exact this
theorem cell_set_same {w : World} {b o : Nat} {v : Value} (h : w.cell? ⟨b, o, none⟩ = some v) (u : Value) : (w.setCell ⟨b, o, none⟩ u).cell? ⟨b, o, none⟩ = some u := World.cell?_setCell_same _ _ _ h

set_option maxHeartbeats 4000000 in
theorem put_nil (b o m : Nat) (tal : Int → Nat × Nat) (w : World) (hcell : w.cell? ⟨b, o, none⟩ = some (.map none)) (hfr : w.frozen? ⟨b, o, none⟩ = false) (hblt : b < w.heap.size) (x : O) (hx : x.wf) (hm : m < 100000000) :
    Calls Tryd.prog 59 #[.pointer (some ⟨b, o, none⟩), vO x] w fun e w' => e = .returned (.tuple #[]) ∧ Ends (lookN w b o x) w' b (w.heap.size + 1) m 0 tal (fun _ => none) (.map []) x := by
  have hV := made_map (m := m) tal x o hblt
  have hk : (fun _ => none : Int → Option Tl) x.k = none := rfl
  have hsV : (lookN w b o x).heap.size = w.heap.size + 2 := by simp [lookN]
  have hlook := hV.look_none rfl hx.k hk
  obtain ⟨W2, hst0, hN⟩ := new_at hV hx.k hm
  have hst : (Instr.mapUpdate 82 (.map (some (w.heap.size + 1))) (.int .i64 x.k) (tp (w.heap.size + 2 + 1))).run Tryd.prog (((((w.setCell ⟨b, o, none⟩ (.map (some (w.heap.size + 1)))).alloc (.cells (encO x).toArray 37)).alloc (.map #[] 0)).alloc (.map #[] 0)).alloc (.cells #[.int .i64 0, .int .i64 0, .map (some (w.heap.size + 2))] 167)).drew.drew = .ok () W2 := by
    have e : newV (lookN w b o x) = (((((w.setCell ⟨b, o, none⟩ (.map (some (w.heap.size + 1)))).alloc (.cells (encO x).toArray 37)).alloc (.map #[] 0)).alloc (.map #[] 0)).alloc (.cells #[.int .i64 0, .int .i64 0, .map (some (w.heap.size + 2))] 167)).drew.drew := by
      unfold newV
      rw [hsV]
      rfl
    rw [← e, ← hst0, hsV]
  have hbw : (w.setCell ⟨b, o, none⟩ (.map (some (w.heap.size + 1)))).cell? ⟨b, o, none⟩ = some (.map (some (w.heap.size + 1))) := cell_set_same hcell _
  have hc2 : (((w.setCell ⟨b, o, none⟩ (.map (some (w.heap.size + 1)))).alloc (.cells (encO x).toArray 37)).alloc (.map #[] 0)).cell? ⟨b, o, none⟩ = some (.map (some (w.heap.size + 1))) := by
    rw [World.cell?_alloc_past _ _ _ (by simp; omega), World.cell?_alloc_past _ _ _ (by simpa using hblt), hbw]
  have hc4 : ((((w.setCell ⟨b, o, none⟩ (.map (some (w.heap.size + 1)))).alloc (.cells (encO x).toArray 37)).alloc (.map #[] 0)).alloc (.map #[] 0)).cell? ⟨b, o, none⟩ = some (.map (some (w.heap.size + 1))) := by
    rw [World.cell?_alloc_past _ _ _ (by simp; omega), hc2]
  have hc3 : (((((w.setCell ⟨b, o, none⟩ (.map (some (w.heap.size + 1)))).alloc (.cells (encO x).toArray 37)).alloc (.map #[] 0)).alloc (.map #[] 0)).alloc (.cells #[.int .i64 0, .int .i64 0, .map (some (w.heap.size + 2))] 167)).cell? ⟨b, o, none⟩ = some (.map (some (w.heap.size + 1))) := by
    rw [World.cell?_alloc_past _ _ _ (by simp; omega), hc4]
  clear hst0
  have hbox : W2.heap[w.heap.size]? = some (.cells (encO x).toArray 37) := (hN.block _ (by omega) (by omega)).trans (made_box x b o)
  have hcx := box_cells hbox
  have hcn := new_cells hN
  have hq := geq_none
  have hmm := @run_makeMap Tryd.prog
  have hbV : b < (lookN w b o x).heap.size := by omega
  cases hrr : x.hr
  · have hend : Hid (Ends (lookN w b o x) (putV W2 x ((lookN w b o x).heap.size + 1)) b (w.heap.size + 1) m 0 tal (fun _ => none) (.map []) x) := ends0 hV hbV x hx hk hN hrr
    rw [hsV] at hend
    have HE : Hid (∀ W', W' = putV W2 x (w.heap.size + 2 + 1) → Ends (lookN w b o x) W' b (w.heap.size + 1) m 0 tal (fun _ => none) (.map []) x) := fun W' e => by rw [e]; exact hend
    clear hend
    have hlt2 : w.heap.size + 2 + 1 < W2.heap.size := by have := hN.size; omega
    clear hV hN hbox hk
    rw [hsV] at hcn
    generalize hEnds : Ends (lookN w b o x) = E at *
    clear hEnds
    simp only [lookN] at hlook
    clear hsV hbV
    obtain ⟨k, lk, lt, lv, rk, rt, rv, hl, hr⟩ := x
    simp only at hrr
    subst hrr
    cases hl
    · simp only [vO, encO, putV, Bool.false_eq_true, if_false] at hlook hst hc2 hc3 hc4 hcx HE ⊢
      go_enter Tryd.func59, Tryd.ntmps59
      go_wp2
      go_region
      all_goals (try go_wp2)
      all_goals go_region
      all_goals (try go_wp2)
      all_goals go_end0
      all_goals exact ⟨rfl, HE.out _ rfl⟩
    · simp only [vO, encO, putV, if_true] at hlook hst hc2 hc3 hc4 hcx HE ⊢
      go_enter Tryd.func59, Tryd.ntmps59
      go_wp2
      go_region
      all_goals (try go_wp2)
      all_goals go_region
      all_goals (try go_wp2)
      all_goals go_region
      all_goals (try go_wp2)
      all_goals go_end0
      all_goals exact ⟨rfl, HE.out _ rfl⟩
  · obtain ⟨W3, hl3, hs3, hend0⟩ := ends1 hV hbV x hx hk hN hrr
    rw [hsV] at hl3 hs3
    have hend : Hid (Ends (lookN w b o x) W3 b (w.heap.size + 1) m 0 tal (fun _ => none) (.map []) x) := hend0
    have HE : Hid (∀ W', W' = W3 → Ends (lookN w b o x) W' b (w.heap.size + 1) m 0 tal (fun _ => none) (.map []) x) := fun W' e => by rw [e]; exact hend
    clear hend hend0
    have hlt2 : w.heap.size + 2 + 1 < W2.heap.size := by have := hN.size; omega
    clear hV hN hbox hk
    rw [hsV] at hcn
    generalize hEnds : Ends (lookN w b o x) = E at *
    clear hEnds
    simp only [lookN] at hlook
    clear hsV hbV
    obtain ⟨k, lk, lt, lv, rk, rt, rv, hl, hr⟩ := x
    simp only at hrr
    subst hrr
    cases hl
    · simp only [vO, encO, putV, Bool.false_eq_true, if_false] at hlook hst hc2 hc3 hc4 hcx hl3 hs3 ⊢
      go_enter Tryd.func59, Tryd.ntmps59
      go_wp2
      go_region
      all_goals (try go_wp2)
      all_goals go_region
      all_goals (try go_wp2)
      all_goals go_region
      all_goals (try go_wp2)
      all_goals go_end0
      all_goals exact ⟨rfl, HE.out _ rfl⟩
    · simp only [vO, encO, putV, if_true] at hlook hst hc2 hc3 hc4 hcx hl3 hs3 ⊢
      go_enter Tryd.func59, Tryd.ntmps59
      go_wp2
      go_region
      all_goals (try go_wp2)
      all_goals go_region
      all_goals (try go_wp2)
      all_goals go_region
      all_goals (try go_wp2)
      all_goals go_region
      all_goals (try go_wp2)
      all_goals go_end0
      all_goals exact ⟨rfl, HE.out _ rfl⟩

end Go.Proofs.YtgffodmipbefpaaDoor
