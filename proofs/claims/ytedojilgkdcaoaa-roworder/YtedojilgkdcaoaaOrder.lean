/- The walk of RowOrder: it answers true. -/
import Derived.Test.YtedojilgkdcaoaaOut
import Derived.Test.YtedojilgkdcaoaaMath
import Derived.Lib.QuietBelow
namespace Go.Proofs.Ytedojilgkdcaoaa
open Go.RowKit Go.Sort

theorem refCompare_same (k1 t1 v1 k2 t2 v2 : Int) (w : World) :
    Calls Try.prog 9 #[.agg #[.int .i64 k1, .int .i64 t1, .int .i64 v1], .agg #[.int .i64 k2, .int .i64 t2, .int .i64 v2]] w fun e w' => e = .returned (.int .i64 (orI [cmpI k1 k2, cmpI t1 t2, cmpI v1 v2])) ∧ Below w.heap.size w w' := by
  rw [← cmp3]; exact refCompare_any k1 t1 v1 k2 t2 v2 w

set_option maxHeartbeats 1000000 in
theorem rowOrder_any (k1 t1 v1 k2 t2 v2 : Int) (w : World) :
    Calls Try.prog 3 #[.agg #[.int .i64 k1, .int .i64 t1, .int .i64 v1], .agg #[.int .i64 k2, .int .i64 t2, .int .i64 v2]] w fun e w' => e = .returned (.bool true) ∧ Below w.heap.size w w' := by
  go_enter Try.func3, Try.ntmps3
  go_wp2
  have hb0 : Below w.heap.size w ((w.alloc (.cells #[.int .i64 k1, .int .i64 t1, .int .i64 v1] 23)).alloc (.cells #[.int .i64 k2, .int .i64 t2, .int .i64 v2] 23)) := Go.Joins.below_alloc2 _ _ _
  have c0 := fun d os => cell_regrown (w := (w.alloc (.cells #[.int .i64 k1, .int .i64 t1, .int .i64 v1] 23)).alloc (.cells #[.int .i64 k2, .int .i64 t2, .int .i64 v2] 23)) (a := ⟨w.heap.size, 0, none⟩) (v := .int .i64 k1) (by simp) d os
  have c1 := fun d os => cell_regrown (w := (w.alloc (.cells #[.int .i64 k1, .int .i64 t1, .int .i64 v1] 23)).alloc (.cells #[.int .i64 k2, .int .i64 t2, .int .i64 v2] 23)) (a := ⟨w.heap.size, 1, none⟩) (v := .int .i64 t1) (by simp) d os
  have c2 := fun d os => cell_regrown (w := (w.alloc (.cells #[.int .i64 k1, .int .i64 t1, .int .i64 v1] 23)).alloc (.cells #[.int .i64 k2, .int .i64 t2, .int .i64 v2] 23)) (a := ⟨w.heap.size, 2, none⟩) (v := .int .i64 v1) (by simp) d os
  have e0 := fun d os => cell_regrown (w := (w.alloc (.cells #[.int .i64 k1, .int .i64 t1, .int .i64 v1] 23)).alloc (.cells #[.int .i64 k2, .int .i64 t2, .int .i64 v2] 23)) (a := ⟨w.heap.size + 1, 0, none⟩) (v := .int .i64 k2) (by simp) d os
  have e1 := fun d os => cell_regrown (w := (w.alloc (.cells #[.int .i64 k1, .int .i64 t1, .int .i64 v1] 23)).alloc (.cells #[.int .i64 k2, .int .i64 t2, .int .i64 v2] 23)) (a := ⟨w.heap.size + 1, 1, none⟩) (v := .int .i64 t2) (by simp) d os
  have e2 := fun d os => cell_regrown (w := (w.alloc (.cells #[.int .i64 k1, .int .i64 t1, .int .i64 v1] 23)).alloc (.cells #[.int .i64 k2, .int .i64 t2, .int .i64 v2] 23)) (a := ⟨w.heap.size + 1, 2, none⟩) (v := .int .i64 v2) (by simp) d os
  revert hb0 c0 c1 c2 e0 e1 e2
  generalize (w.alloc (.cells #[.int .i64 k1, .int .i64 t1, .int .i64 v1] 23)).alloc (.cells #[.int .i64 k2, .int .i64 t2, .int .i64 v2] 23) = W0
  intro hb0 c0 c1 c2 e0 e1 e2
  refine wp_region_quiet_below (by kernel_rfl) (by kernel_rfl) ?_
  repeat (quiet_step (first | (go_at_call 6; exact Calls.regrown_of (good_any _ _ _ _)) | (go_at_call 7; exact Calls.regrown_of (refGood_any _ _ _ _)) | (go_at_call 8; exact Calls.regrown_of (compare_any _ _ _ _ _ _ _)) | (go_at_call 9; exact Calls.regrown_of (refCompare_same _ _ _ _ _ _ _)) | (go_at_call 10; exact Calls.regrown_of (pair_any _ _ _ _ _ _ _)) | (go_at_call 11; exact Calls.regrown_of (refPair_any _ _ _ _ _ _ _))))
  refine wpQuiet_nil ?_
  intro _ hw'
  obtain ⟨⟨dq, osq⟩, hw''⟩ := hw'
  subst hw''
  go_wp2
  go_ret
  exact ⟨rfl, hb0.trans ((below_regrown W0 dq osq).mono hb0.size)⟩

end Go.Proofs.Ytedojilgkdcaoaa
