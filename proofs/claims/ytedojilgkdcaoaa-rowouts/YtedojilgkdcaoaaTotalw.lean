/- The walk of RowTotal: it answers true. -/
import Derived.Test.YtedojilgkdcaoaaOut
import Derived.Test.YtedojilgkdcaoaaMath
import Derived.Test.YtedojilgkdcaoaaLone
import Derived.Test.YtedojilgkdcaoaaMeets
import Derived.Lib.QuietBelow
namespace Go.Proofs.Ytedojilgkdcaoaa
open Go.RowKit Go.Sort

theorem lone1 (w : World) : Calls Try.prog 14 #[.int .i64 1, .agg #[.int .i64 1, .int .i64 2, .int .i64 3]] w fun e w' => e = .returned (.agg #[.int .i64 1, .int .i64 0, .int .i64 0, .int .i64 0, .int .i64 1, .int .i64 2, .int .i64 3, .bool false, .bool true]) ∧ Below w.heap.size w w' := lone_right 1 1 2 3 w rfl
theorem lone0 (w : World) : Calls Try.prog 14 #[.int .i64 0, .agg #[.int .i64 1, .int .i64 2, .int .i64 3]] w fun e w' => e = .returned (.agg #[.int .i64 1, .int .i64 1, .int .i64 2, .int .i64 3, .int .i64 0, .int .i64 0, .int .i64 0, .bool true, .bool false]) ∧ Below w.heap.size w w' := lone_left 1 2 3 w
theorem outs1 (w : World) : Calls Try.prog 12 #[.agg #[.int .i64 1, .int .i64 0, .int .i64 0, .int .i64 0, .int .i64 1, .int .i64 2, .int .i64 3, .bool false, .bool true], .agg #[.int .i64 1, .int .i64 1, .int .i64 2, .int .i64 3, .int .i64 0, .int .i64 0, .int .i64 0, .bool true, .bool false]] w fun e w' => e = .returned (.int .i64 (-1)) ∧ Below w.heap.size w w' :=
  outs_any 1 0 0 0 1 2 3 1 1 2 3 0 0 0 false true true false w
theorem comp1 (w : World) : Calls Try.prog 8 #[.agg #[.int .i64 1, .int .i64 2, .int .i64 3], .agg #[.int .i64 1, .int .i64 3, .int .i64 0]] w fun e w' => e = .returned (.int .i64 (-1)) ∧ Below w.heap.size w w' :=
  compare_any 1 2 3 1 3 0 w
theorem meets1 (w : World) : Calls Try.prog 16 #[.agg #[.int .i64 1, .int .i64 1, .int .i64 0], .agg #[.int .i64 1, .int .i64 2, .int .i64 3], .agg #[.int .i64 1, .int .i64 3, .int .i64 0]] w fun e w' => e = .returned (.bool true) ∧ Below w.heap.size w w' :=
  meets_any 1 1 0 1 2 3 1 3 0 w

set_option maxHeartbeats 1000000 in
theorem ordered_any (w : World) :
    Calls Try.prog 17 #[] w fun e w' => e = .returned (.bool true) ∧ Below w.heap.size w w' := by
  go_enter Try.func17, Try.ntmps17
  go_wp2
  have hb0 : Below w.heap.size w (w.alloc (.cells #[.int .i64 1, .int .i64 2, .int .i64 3] 23)) := Go.Joins.below_alloc1 _ _
  have c0 := fun d os => cell_regrown (w := w.alloc (.cells #[.int .i64 1, .int .i64 2, .int .i64 3] 23)) (a := ⟨w.heap.size, 0, none⟩) (v := .int .i64 1) (by simp) d os
  have c1 := fun d os => cell_regrown (w := w.alloc (.cells #[.int .i64 1, .int .i64 2, .int .i64 3] 23)) (a := ⟨w.heap.size, 1, none⟩) (v := .int .i64 2) (by simp) d os
  have c2 := fun d os => cell_regrown (w := w.alloc (.cells #[.int .i64 1, .int .i64 2, .int .i64 3] 23)) (a := ⟨w.heap.size, 2, none⟩) (v := .int .i64 3) (by simp) d os
  revert hb0 c0 c1 c2
  generalize w.alloc (.cells #[.int .i64 1, .int .i64 2, .int .i64 3] 23) = W0
  intro hb0 c0 c1 c2
  refine wp_region_quiet_below (by kernel_rfl) (by kernel_rfl) ?_
  repeat (quiet_step (first | (go_at_call_of 14 (Value.int IntKind.i64 0); exact Calls.regrown_of (lone0 _)) | (go_at_call 14; exact Calls.regrown_of (lone1 _)) | (go_at_call 12; exact Calls.regrown_of (outs1 _)) | (go_at_call 8; exact Calls.regrown_of (comp1 _)) | (go_at_call 16; exact Calls.regrown_of (meets1 _))))
  refine wpQuiet_nil ?_
  intro _ hw'
  obtain ⟨⟨dq, osq⟩, hw''⟩ := hw'
  subst hw''
  go_wp2
  go_ret
  exact ⟨rfl, hb0.trans ((below_regrown W0 dq osq).mono hb0.size)⟩

end Go.Proofs.Ytedojilgkdcaoaa
