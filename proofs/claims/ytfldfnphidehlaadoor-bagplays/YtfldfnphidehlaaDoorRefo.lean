/- The document's order of two Outs is the program's. -/
import Derived.Test.YtfldfnphidehlaaDoorNine
namespace Go.Proofs.YtfldfnphidehlaaDoor
open Go.RowKit Go.Sort
set_option maxRecDepth 100000

theorem box18 (x y : O) (w w' : World) (hb : Below (w.heap.size + 1 + 1) ((w.alloc (.cells #[.int .i64 x.k, .int .i64 x.lk, .int .i64 x.lt, .int .i64 x.lv, .int .i64 x.rk, .int .i64 x.rt, .int .i64 x.rv, .bool x.hl, .bool x.hr] 37)).alloc (.cells #[.int .i64 y.k, .int .i64 y.lk, .int .i64 y.lt, .int .i64 y.lv, .int .i64 y.rk, .int .i64 y.rt, .int .i64 y.rv, .bool y.hl, .bool y.hr] 37)) w') :
    w'.cell? ⟨w.heap.size, 0, none⟩ = some (.int .i64 x.k) ∧ w'.cell? ⟨w.heap.size, 1, none⟩ = some (.int .i64 x.lk) ∧ w'.cell? ⟨w.heap.size, 2, none⟩ = some (.int .i64 x.lt) ∧ w'.cell? ⟨w.heap.size, 3, none⟩ = some (.int .i64 x.lv) ∧ w'.cell? ⟨w.heap.size, 4, none⟩ = some (.int .i64 x.rk) ∧ w'.cell? ⟨w.heap.size, 5, none⟩ = some (.int .i64 x.rt) ∧ w'.cell? ⟨w.heap.size, 6, none⟩ = some (.int .i64 x.rv) ∧ w'.cell? ⟨w.heap.size, 7, none⟩ = some (.bool x.hl) ∧ w'.cell? ⟨w.heap.size, 8, none⟩ = some (.bool x.hr) ∧ w'.cell? ⟨w.heap.size + 1, 0, none⟩ = some (.int .i64 y.k) ∧ w'.cell? ⟨w.heap.size + 1, 1, none⟩ = some (.int .i64 y.lk) ∧ w'.cell? ⟨w.heap.size + 1, 2, none⟩ = some (.int .i64 y.lt) ∧ w'.cell? ⟨w.heap.size + 1, 3, none⟩ = some (.int .i64 y.lv) ∧ w'.cell? ⟨w.heap.size + 1, 4, none⟩ = some (.int .i64 y.rk) ∧ w'.cell? ⟨w.heap.size + 1, 5, none⟩ = some (.int .i64 y.rt) ∧ w'.cell? ⟨w.heap.size + 1, 6, none⟩ = some (.int .i64 y.rv) ∧ w'.cell? ⟨w.heap.size + 1, 7, none⟩ = some (.bool y.hl) ∧ w'.cell? ⟨w.heap.size + 1, 8, none⟩ = some (.bool y.hr) := by
  have h := fun (B o : Nat) (hB : B < w.heap.size + 1 + 1) => hb.cell (p := ⟨B, o, none⟩) hB
  simp (disch := omega) only [h]
  simp

theorem nine_cells {w : World} {base g cap : Nat} {zs : List Int} (h : w.ownsRow base 3 1 (.slice (some ⟨g, 0, none⟩) 9 cap) 9 (zs.map (Value.int .i64))) (hl : zs.length = 9) :
    ∀ j, j < 9 → w.cell? ⟨g, j, none⟩ = some (.int .i64 (zs.getD j 0)) := by
  intro j hj
  rw [World.ownsRow.cellAt h j (by omega)]
  simp [List.getElem?_eq_getElem (show j < zs.length by omega)]

theorem order9 (x y : O) (g1 c1 g2 c2 b1 b2 : Nat) (w : World)
    (p : w.ownsRow b1 3 1 (.slice (some ⟨g1, 0, none⟩) 9 c1) 9 ((lO x).map (Value.int .i64))) (q : w.ownsRow b2 3 1 (.slice (some ⟨g2, 0, none⟩) 9 c2) 9 ((lO y).map (Value.int .i64))) :
    Calls Tryd.prog 44 #[.slice (some ⟨g1, 0, none⟩) 9 c1, .slice (some ⟨g2, 0, none⟩) 9 c2] w fun e w' => e = .returned (.int .i64 (cO x y)) ∧ ∃ m, w' = w.drewN m := by
  rw [cO_ord]
  exact order_core (lO x) (lO y) 9 g1 c1 g2 c2 w rfl rfl (by omega) (nine_cells p rfl) (nine_cells q rfl)

theorem own_below {B : Nat} {v : Value} {n : Nat} {xs : List Value} {w w' : World} (h : w.ownsRow B 3 1 v n xs) (hb : Below w.heap.size w w') : w'.ownsRow B 3 1 v n xs := by
  refine ⟨h.1, ?_⟩
  rcases h.2 with hn | ⟨g, cap, cur, hv, hB, hg, rest⟩
  · exact .inl hn
  · refine .inr ⟨g, cap, cur, hv, hB, ?_, rest⟩
    rw [hb.block g ?_]; exact hg
    rcases Nat.lt_or_ge g w.heap.size with h' | h'
    · exact h'
    · rw [Array.getElem?_eq_none h'] at hg; cases hg

set_option maxHeartbeats 1000000 in
theorem refOuts_any (x y : O) (w : World) :
    Calls Tryd.prog 27 #[.agg #[.int .i64 x.k, .int .i64 x.lk, .int .i64 x.lt, .int .i64 x.lv, .int .i64 x.rk, .int .i64 x.rt, .int .i64 x.rv, .bool x.hl, .bool x.hr], .agg #[.int .i64 y.k, .int .i64 y.lk, .int .i64 y.lt, .int .i64 y.lv, .int .i64 y.rk, .int .i64 y.rt, .int .i64 y.rv, .bool y.hl, .bool y.hr]] w fun e w' => e = .returned (.int .i64 (cO x y)) ∧ Below w.heap.size w w' := by
  go_enter Tryd.func27, Tryd.ntmps27
  go_wp2
  go_region_held3 (fun w' => w'.cell? ⟨w.heap.size, 0, none⟩ = some (.int .i64 x.k) ∧ w'.cell? ⟨w.heap.size, 1, none⟩ = some (.int .i64 x.lk) ∧ w'.cell? ⟨w.heap.size, 2, none⟩ = some (.int .i64 x.lt) ∧ w'.cell? ⟨w.heap.size, 3, none⟩ = some (.int .i64 x.lv) ∧ w'.cell? ⟨w.heap.size, 4, none⟩ = some (.int .i64 x.rk) ∧ w'.cell? ⟨w.heap.size, 5, none⟩ = some (.int .i64 x.rt) ∧ w'.cell? ⟨w.heap.size, 6, none⟩ = some (.int .i64 x.rv) ∧ w'.cell? ⟨w.heap.size, 7, none⟩ = some (.bool x.hl) ∧ w'.cell? ⟨w.heap.size, 8, none⟩ = some (.bool x.hr) ∧ w'.cell? ⟨w.heap.size + 1, 0, none⟩ = some (.int .i64 y.k) ∧ w'.cell? ⟨w.heap.size + 1, 1, none⟩ = some (.int .i64 y.lk) ∧ w'.cell? ⟨w.heap.size + 1, 2, none⟩ = some (.int .i64 y.lt) ∧ w'.cell? ⟨w.heap.size + 1, 3, none⟩ = some (.int .i64 y.lv) ∧ w'.cell? ⟨w.heap.size + 1, 4, none⟩ = some (.int .i64 y.rk) ∧ w'.cell? ⟨w.heap.size + 1, 5, none⟩ = some (.int .i64 y.rt) ∧ w'.cell? ⟨w.heap.size + 1, 6, none⟩ = some (.int .i64 y.rv) ∧ w'.cell? ⟨w.heap.size + 1, 7, none⟩ = some (.bool y.hl) ∧ w'.cell? ⟨w.heap.size + 1, 8, none⟩ = some (.bool y.hr)) (first | (go_keep; done) | (exact box18 x y w _ hB3) | (exact box18 x y w _ hB2) | (exact box18 x y w _ hB1))
    (first
      | (go_at_call_of 41 y.k; refine (list9_any y _).mono ?_; rintro e w2 ⟨g2, c2, rfl, hb2, own2⟩; have hB2 := hB1.trans (hb2.mono hy1); have hy2 : w.heap.size + 1 + 1 ≤ w2.heap.size := (Nat.le_trans hy1 hb2.size); replace own1 := own_below own1 hb2)
      | (go_at_call 41; refine (list9_any x _).mono ?_; rintro e w1 ⟨g1, c1, rfl, hb1, own1⟩; have hB1 : Below (w.heap.size + 1 + 1) ((w.alloc (.cells #[.int .i64 x.k, .int .i64 x.lk, .int .i64 x.lt, .int .i64 x.lv, .int .i64 x.rk, .int .i64 x.rt, .int .i64 x.rv, .bool x.hl, .bool x.hr] 37)).alloc (.cells #[.int .i64 y.k, .int .i64 y.lk, .int .i64 y.lt, .int .i64 y.lv, .int .i64 y.rk, .int .i64 y.rt, .int .i64 y.rv, .bool y.hl, .bool y.hr] 37)) w1 := (Below.refl _ _).drew.trans (hb1.mono (by simp)); have hy1 : w.heap.size + 1 + 1 ≤ w1.heap.size := (by have := hb1.size; simpa using this))
      | (go_at_call 44; refine (order9 x y _ _ _ _ _ _ _ own1 own2).mono ?_; rintro e w3 ⟨rfl, m, rfl⟩; have hB3 := below_drewN hB2 m)
      | fail)
  go_wp2
  go_ret
  exact ⟨rfl, (Go.Joins.below_alloc2 _ _ _).trans (hB3.mono (by omega))⟩

end Go.Proofs.YtfldfnphidehlaaDoor
