/- CompareOut, called by the sort: which blocks it leaves. -/
import Derived.Test.YtfldfnphidehlaaDoorBase
import Derived.Sort.Grow
namespace Go.Proofs.YtfldfnphidehlaaDoor
open Go.RowKit Go.Sort
set_option maxRecDepth 100000

/-- w' is w, some draws on, with new blocks behind. -/
def Gr (w w' : World) : Prop := ∃ q os, w' = grow (w.drewN q) os
theorem Gr.refl (w : World) : Gr w w := ⟨0, #[], by rw [grow_empty]; rfl⟩
theorem Gr.drew {w w' : World} (h : Gr w w') : Gr w w'.drew := by
  obtain ⟨q, os, rfl⟩ := h
  exact ⟨q + 1, os, rfl⟩
theorem Gr.alloc {w w' : World} (h : Gr w w') (o : Obj) : Gr w (w'.alloc o) := by
  obtain ⟨q, os, rfl⟩ := h
  exact ⟨q, os ++ #[o], by rw [alloc_eq_grow, grow_grow]⟩

set_option linter.unusedSimpArgs false
set_option maxHeartbeats 1000000 in
theorem outs_gr0 (k lk lt lv rk rt rv k' lk' lt' lv' rk' rt' rv' : Int) (hl hr hl' hr' : Bool) (w : World) :
    Calls Tryd.prog 24 #[.agg #[.int .i64 k, .int .i64 lk, .int .i64 lt, .int .i64 lv, .int .i64 rk, .int .i64 rt, .int .i64 rv, .bool hl, .bool hr], .agg #[.int .i64 k', .int .i64 lk', .int .i64 lt', .int .i64 lv', .int .i64 rk', .int .i64 rt', .int .i64 rv', .bool hl', .bool hr']] w fun e w' => e = .returned (.int .i64 (orI [cmpI k k', cmpB hl hl', orI [cmpI lk lk', cmpI lt lt', cmpI lv lv'], cmpB hr hr', orI [cmpI rk rk', cmpI rt rt', cmpI rv rv']])) ∧ Gr w w' := by
  go_enter Tryd.func24, Tryd.ntmps24
  go_wp2
  go_region_held3 (fun w' => w'.cell? ⟨w.heap.size, 0, none⟩ = some (.int .i64 k) ∧ w'.cell? ⟨w.heap.size, 1, none⟩ = some (.int .i64 lk) ∧ w'.cell? ⟨w.heap.size, 2, none⟩ = some (.int .i64 lt) ∧ w'.cell? ⟨w.heap.size, 3, none⟩ = some (.int .i64 lv) ∧ w'.cell? ⟨w.heap.size, 4, none⟩ = some (.int .i64 rk) ∧ w'.cell? ⟨w.heap.size, 5, none⟩ = some (.int .i64 rt) ∧ w'.cell? ⟨w.heap.size, 6, none⟩ = some (.int .i64 rv) ∧ w'.cell? ⟨w.heap.size, 7, none⟩ = some (.bool hl) ∧ w'.cell? ⟨w.heap.size, 8, none⟩ = some (.bool hr) ∧ w'.cell? ⟨w.heap.size + 1, 0, none⟩ = some (.int .i64 k') ∧ w'.cell? ⟨w.heap.size + 1, 1, none⟩ = some (.int .i64 lk') ∧ w'.cell? ⟨w.heap.size + 1, 2, none⟩ = some (.int .i64 lt') ∧ w'.cell? ⟨w.heap.size + 1, 3, none⟩ = some (.int .i64 lv') ∧ w'.cell? ⟨w.heap.size + 1, 4, none⟩ = some (.int .i64 rk') ∧ w'.cell? ⟨w.heap.size + 1, 5, none⟩ = some (.int .i64 rt') ∧ w'.cell? ⟨w.heap.size + 1, 6, none⟩ = some (.int .i64 rv') ∧ w'.cell? ⟨w.heap.size + 1, 7, none⟩ = some (.bool hl') ∧ w'.cell? ⟨w.heap.size + 1, 8, none⟩ = some (.bool hr')) (first | (go_keep; done) | (simp (disch := first | omega | (simp only [World.size_alloc]; done) | (simp only [World.size_alloc]; omega)) only [World.cell?_drew, World.cell?_drewN, World.cell?_alloc_past, World.cell?_alloc_at]; simp; done))
    (first | (go_at_call 34; refine (cmp_any _ _ _).mono ?_; rintro e w' ⟨rfl, rfl⟩) | (go_at_call 35; refine (has_any _ _ _).mono ?_; rintro e w' ⟨rfl, rfl⟩) | (go_at_call 36; refine (compare_at _ _ _ _ _ _ _).mono ?_; rintro e w' ⟨rfl, rfl⟩) | (go_at_call 33; refine (or5 (cmpI k k') (cmpB hl hl') (orI [cmpI lk lk', cmpI lt lt', cmpI lv lv']) (cmpB hr hr') (orI [cmpI rk rk', cmpI rt rt', cmpI rv rv']) _ _ _ ?_ ?_ ?_ ?_ ?_).mono ?_; (simp (disch := first | omega | (simp only [World.size_alloc]; done) | (simp only [World.size_alloc]; omega)) only [World.cell?_drew, World.cell?_drewN, World.cell?_alloc_past, World.cell?_alloc_at]; simp); (simp (disch := first | omega | (simp only [World.size_alloc]; done) | (simp only [World.size_alloc]; omega)) only [World.cell?_drew, World.cell?_drewN, World.cell?_alloc_past, World.cell?_alloc_at]; simp); (simp (disch := first | omega | (simp only [World.size_alloc]; done) | (simp only [World.size_alloc]; omega)) only [World.cell?_drew, World.cell?_drewN, World.cell?_alloc_past, World.cell?_alloc_at]; simp); (simp (disch := first | omega | (simp only [World.size_alloc]; done) | (simp only [World.size_alloc]; omega)) only [World.cell?_drew, World.cell?_drewN, World.cell?_alloc_past, World.cell?_alloc_at]; simp); (simp (disch := first | omega | (simp only [World.size_alloc]; done) | (simp only [World.size_alloc]; omega)) only [World.cell?_drew, World.cell?_drewN, World.cell?_alloc_past, World.cell?_alloc_at]; simp); rintro e w' ⟨rfl, rfl⟩))
  all_goals go_wp2
  go_ret
  exact ⟨rfl, by repeat first | exact Gr.refl _ | refine Gr.drew ?_ | refine Gr.alloc ?_ _⟩

/-- CompareOut: it answers the order; it lays new blocks alone. -/
theorem outs_gr (x y : O) (w : World) : Calls Tryd.prog 24 #[vO x, vO y] w fun e w' => e = .returned (.int .i64 (cO x y)) ∧ Gr w w' :=
  outs_gr0 x.k x.lk x.lt x.lv x.rk x.rt x.rv y.k y.lk y.lt y.lv y.rk y.rt y.rv x.hl x.hr y.hl y.hr w

end Go.Proofs.YtfldfnphidehlaaDoor
