/- What Compare answers of two rows, and its twin of the document: by key, time, value. -/
import Derived.Test.YtgffodmipbefpaaDoorGood
import Derived.Deep.RegionHeld3
namespace Go.Proofs.YtgffodmipbefpaaDoor
open Go.RowKit
set_option maxRecDepth 100000

theorem three_cells (w : World) (x y z : Value) (g : Nat) (hg : g = w.heap.size) (e : TypeId) (zs : List Int) (hz : [x, y, z] = zs.map (Value.int .i64)) : ∀ j, j < 3 → (w.alloc (.cells #[x, y, z] e)).cell? ⟨g, j, none⟩ = some (.int .i64 (zs.getD j 0)) := by
  subst hg
  match zs, hz with
  | [a, b, c], hz =>
    simp only [List.map_cons, List.map_nil, List.cons.injEq, and_true] at hz
    obtain ⟨rfl, rfl, rfl⟩ := hz
    intro j hj
    match j, hj with
    | 0, _ => simp
    | 1, _ => simp
    | 2, _ => simp

set_option maxHeartbeats 400000 in
theorem compare_at (k1 t1 v1 k2 t2 v2 : Int) (w : World) :
    Calls Tryd.prog 71 #[.agg #[.int .i64 k1, .int .i64 t1, .int .i64 v1], .agg #[.int .i64 k2, .int .i64 t2, .int .i64 v2]] w fun e w' => e = .returned (.int .i64 (orI [cmpI k1 k2, cmpI t1 t2, cmpI v1 v2])) ∧ w' = (((w.alloc (.cells #[.int .i64 k1, .int .i64 t1, .int .i64 v1] 35)).alloc (.cells #[.int .i64 k2, .int .i64 t2, .int .i64 v2] 35)).alloc (.cells #[.int .i64 (cmpI k1 k2), .int .i64 (cmpI t1 t2), .int .i64 (cmpI v1 v2)] 3)).drew := by
  go_enter Tryd.func71, Tryd.ntmps71
  go_wp2
  go_region_held3 (fun w' => w'.cell? ⟨w.heap.size, 0, none⟩ = some (.int .i64 k1) ∧ w'.cell? ⟨w.heap.size, 1, none⟩ = some (.int .i64 t1) ∧ w'.cell? ⟨w.heap.size, 2, none⟩ = some (.int .i64 v1) ∧ w'.cell? ⟨w.heap.size + 1, 0, none⟩ = some (.int .i64 k2) ∧ w'.cell? ⟨w.heap.size + 1, 1, none⟩ = some (.int .i64 t2) ∧ w'.cell? ⟨w.heap.size + 1, 2, none⟩ = some (.int .i64 v2)) (go_keep)
    (first | (go_at_call 69; refine (cmp_any _ _ _).mono ?_; rintro e w' ⟨rfl, rfl⟩) | (go_at_call 68; refine (or_core [cmpI k1 k2, cmpI t1 t2, cmpI v1 v2] 3 _ _ _ rfl (by omega) ?_).mono ?_; (exact three_cells _ _ _ _ _ (by simp) _ _ rfl); rintro e w' ⟨rfl, rfl⟩))
  all_goals go_wp2
  go_ret
  exact ⟨rfl, rfl⟩

theorem compare_any (k1 t1 v1 k2 t2 v2 : Int) (w : World) :
    Calls Tryd.prog 71 #[.agg #[.int .i64 k1, .int .i64 t1, .int .i64 v1], .agg #[.int .i64 k2, .int .i64 t2, .int .i64 v2]] w fun e w' => e = .returned (.int .i64 (orI [cmpI k1 k2, cmpI t1 t2, cmpI v1 v2])) ∧ Below w.heap.size w w' :=
  (compare_at k1 t1 v1 k2 t2 v2 w).mono fun _ _ ⟨he, hw⟩ => ⟨he, hw ▸ (Go.Joins.below_alloc3 _ _ _ _).drew⟩

set_option maxHeartbeats 400000 in
theorem list_any (k t v : Int) (w : World) :
    Calls Tryd.prog 78 #[.agg #[.int .i64 k, .int .i64 t, .int .i64 v]] w fun e w' => e = .returned (.slice (some ⟨w.heap.size + 1, 0, none⟩) 3 3) ∧ w' = (w.alloc (.cells #[.int .i64 k, .int .i64 t, .int .i64 v] 35)).alloc (.cells #[.int .i64 k, .int .i64 t, .int .i64 v] 3) := by
  go_enter Tryd.func78, Tryd.ntmps78
  go_wp2
  go_ret
  exact ⟨rfl, rfl⟩

theorem order3 (a0 a1 a2 b0 b1 b2 : Int) (g1 c1 g2 c2 : Nat) (w : World)
    (p0 : w.cell? ⟨g1, 0, none⟩ = some (.int .i64 a0)) (p1 : w.cell? ⟨g1, 1, none⟩ = some (.int .i64 a1)) (p2 : w.cell? ⟨g1, 2, none⟩ = some (.int .i64 a2))
    (q0 : w.cell? ⟨g2, 0, none⟩ = some (.int .i64 b0)) (q1 : w.cell? ⟨g2, 1, none⟩ = some (.int .i64 b1)) (q2 : w.cell? ⟨g2, 2, none⟩ = some (.int .i64 b2)) :
    Calls Tryd.prog 79 #[.slice (some ⟨g1, 0, none⟩) 3 c1, .slice (some ⟨g2, 0, none⟩) 3 c2] w fun e w' => e = .returned (.int .i64 (ordI [a0, a1, a2] [b0, b1, b2])) ∧ ∃ m, w' = w.drewN m := by
  refine order_core [a0, a1, a2] [b0, b1, b2] 3 g1 c1 g2 c2 w rfl rfl (by omega) ?_ ?_
  · intro j hj
    match j, hj with
    | 0, _ => exact p0
    | 1, _ => exact p1
    | 2, _ => exact p2
  · intro j hj
    match j, hj with
    | 0, _ => exact q0
    | 1, _ => exact q1
    | 2, _ => exact q2

end Go.Proofs.YtgffodmipbefpaaDoor
