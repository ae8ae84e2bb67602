/- What CompareOut, Pair and Lone answer. -/
import Derived.Test.YtgffodmipbefpaaDoorComp
namespace Go.Proofs.YtgffodmipbefpaaDoor
open Go.RowKit
set_option maxRecDepth 100000

theorem or5 (a b c d e : Int) (g cp : Nat) (w : World)
    (p0 : w.cell? ⟨g, 0, none⟩ = some (.int .i64 a)) (p1 : w.cell? ⟨g, 1, none⟩ = some (.int .i64 b)) (p2 : w.cell? ⟨g, 2, none⟩ = some (.int .i64 c)) (p3 : w.cell? ⟨g, 3, none⟩ = some (.int .i64 d)) (p4 : w.cell? ⟨g, 4, none⟩ = some (.int .i64 e)) :
    Calls Tryd.prog 68 #[.slice (some ⟨g, 0, none⟩) 5 cp] w fun r w' => r = .returned (.int .i64 (orI [a, b, c, d, e])) ∧ w' = w := by
  refine or_core [a, b, c, d, e] 5 g cp w rfl (by omega) ?_
  intro j hj
  match j, hj with
  | 0, _ => exact p0
  | 1, _ => exact p1
  | 2, _ => exact p2
  | 3, _ => exact p3
  | 4, _ => exact p4

set_option linter.unusedSimpArgs false
set_option maxHeartbeats 1000000 in
theorem outs_any (k lk lt lv rk rt rv k' lk' lt' lv' rk' rt' rv' : Int) (hl hr hl' hr' : Bool) (w : World) :
    Calls Tryd.prog 42 #[.agg #[.int .i64 k, .int .i64 lk, .int .i64 lt, .int .i64 lv, .int .i64 rk, .int .i64 rt, .int .i64 rv, .bool hl, .bool hr], .agg #[.int .i64 k', .int .i64 lk', .int .i64 lt', .int .i64 lv', .int .i64 rk', .int .i64 rt', .int .i64 rv', .bool hl', .bool hr']] w fun e w' => e = .returned (.int .i64 (orI [cmpI k k', cmpB hl hl', orI [cmpI lk lk', cmpI lt lt', cmpI lv lv'], cmpB hr hr', orI [cmpI rk rk', cmpI rt rt', cmpI rv rv']])) ∧ Below w.heap.size w w' := by
  go_enter Tryd.func42, Tryd.ntmps42
  go_wp2
  go_region_held3 (fun w' => w'.cell? ⟨w.heap.size, 0, none⟩ = some (.int .i64 k) ∧ w'.cell? ⟨w.heap.size, 1, none⟩ = some (.int .i64 lk) ∧ w'.cell? ⟨w.heap.size, 2, none⟩ = some (.int .i64 lt) ∧ w'.cell? ⟨w.heap.size, 3, none⟩ = some (.int .i64 lv) ∧ w'.cell? ⟨w.heap.size, 4, none⟩ = some (.int .i64 rk) ∧ w'.cell? ⟨w.heap.size, 5, none⟩ = some (.int .i64 rt) ∧ w'.cell? ⟨w.heap.size, 6, none⟩ = some (.int .i64 rv) ∧ w'.cell? ⟨w.heap.size, 7, none⟩ = some (.bool hl) ∧ w'.cell? ⟨w.heap.size, 8, none⟩ = some (.bool hr) ∧ w'.cell? ⟨w.heap.size + 1, 0, none⟩ = some (.int .i64 k') ∧ w'.cell? ⟨w.heap.size + 1, 1, none⟩ = some (.int .i64 lk') ∧ w'.cell? ⟨w.heap.size + 1, 2, none⟩ = some (.int .i64 lt') ∧ w'.cell? ⟨w.heap.size + 1, 3, none⟩ = some (.int .i64 lv') ∧ w'.cell? ⟨w.heap.size + 1, 4, none⟩ = some (.int .i64 rk') ∧ w'.cell? ⟨w.heap.size + 1, 5, none⟩ = some (.int .i64 rt') ∧ w'.cell? ⟨w.heap.size + 1, 6, none⟩ = some (.int .i64 rv') ∧ w'.cell? ⟨w.heap.size + 1, 7, none⟩ = some (.bool hl') ∧ w'.cell? ⟨w.heap.size + 1, 8, none⟩ = some (.bool hr')) (first | (go_keep; done) | (simp (disch := first | omega | (simp only [World.size_alloc]; done) | (simp only [World.size_alloc]; omega)) only [World.cell?_drew, World.cell?_drewN, World.cell?_alloc_past, World.cell?_alloc_at]; simp; done))
    (first | (go_at_call 69; refine (cmp_any _ _ _).mono ?_; rintro e w' ⟨rfl, rfl⟩) | (go_at_call 70; refine (has_any _ _ _).mono ?_; rintro e w' ⟨rfl, rfl⟩) | (go_at_call 71; refine (compare_at _ _ _ _ _ _ _).mono ?_; rintro e w' ⟨rfl, rfl⟩) | (go_at_call 68; refine (or5 (cmpI k k') (cmpB hl hl') (orI [cmpI lk lk', cmpI lt lt', cmpI lv lv']) (cmpB hr hr') (orI [cmpI rk rk', cmpI rt rt', cmpI rv rv']) _ _ _ ?_ ?_ ?_ ?_ ?_).mono ?_; (simp (disch := first | omega | (simp only [World.size_alloc]; done) | (simp only [World.size_alloc]; omega)) only [World.cell?_drew, World.cell?_drewN, World.cell?_alloc_past, World.cell?_alloc_at]; simp); (simp (disch := first | omega | (simp only [World.size_alloc]; done) | (simp only [World.size_alloc]; omega)) only [World.cell?_drew, World.cell?_drewN, World.cell?_alloc_past, World.cell?_alloc_at]; simp); (simp (disch := first | omega | (simp only [World.size_alloc]; done) | (simp only [World.size_alloc]; omega)) only [World.cell?_drew, World.cell?_drewN, World.cell?_alloc_past, World.cell?_alloc_at]; simp); (simp (disch := first | omega | (simp only [World.size_alloc]; done) | (simp only [World.size_alloc]; omega)) only [World.cell?_drew, World.cell?_drewN, World.cell?_alloc_past, World.cell?_alloc_at]; simp); (simp (disch := first | omega | (simp only [World.size_alloc]; done) | (simp only [World.size_alloc]; omega)) only [World.cell?_drew, World.cell?_drewN, World.cell?_alloc_past, World.cell?_alloc_at]; simp); rintro e w' ⟨rfl, rfl⟩))
  all_goals go_wp2
  go_ret
  exact ⟨rfl, by
    repeat refine Below.drew ?_
    refine (((((((((Below.refl _ _).alloc ?_ _).alloc ?_ _).alloc ?_ _).alloc ?_ _).alloc ?_ _).alloc ?_ _).alloc ?_ _).alloc ?_ _).alloc ?_ _ <;> simp <;> omega⟩

end Go.Proofs.YtgffodmipbefpaaDoor
