/- What Lone, its twin of the document, and Meets answer. -/
import Derived.Test.YtfldfnphidehlaaGood
namespace Go.Proofs.Ytfldfnphidehlaa
open Go.RowKit

/-- The Out of one row of a side. -/
def loneV (s k t v : Int) : Value := if s = 0 then .agg #[.int .i64 k, .int .i64 k, .int .i64 t, .int .i64 v, .int .i64 0, .int .i64 0, .int .i64 0, .bool true, .bool false] else .agg #[.int .i64 k, .int .i64 0, .int .i64 0, .int .i64 0, .int .i64 k, .int .i64 t, .int .i64 v, .bool false, .bool true]

set_option maxHeartbeats 400000 in
theorem lone_left (k t v : Int) (w : World) :
    Calls Try.prog 15 #[.int .i64 0, .agg #[.int .i64 k, .int .i64 t, .int .i64 v]] w fun e w' => e = .returned (.agg #[.int .i64 k, .int .i64 k, .int .i64 t, .int .i64 v, .int .i64 0, .int .i64 0, .int .i64 0, .bool true, .bool false]) ∧ Below w.heap.size w w' := by
  go_enter Try.func15, Try.ntmps15
  go_wp2
  exact bodyPost_ret (v := .agg #[.int .i64 k, .int .i64 k, .int .i64 t, .int .i64 v, .int .i64 0, .int .i64 0, .int .i64 0, .bool true, .bool false]) (by simp [results, Try.results15, go_sem]) rfl ⟨rfl, Go.Joins.below_alloc2 _ _ _⟩
set_option maxHeartbeats 400000 in
theorem lone_right (s k t v : Int) (w : World) (h : (s == 0) = false) :
    Calls Try.prog 15 #[.int .i64 s, .agg #[.int .i64 k, .int .i64 t, .int .i64 v]] w fun e w' => e = .returned (.agg #[.int .i64 k, .int .i64 0, .int .i64 0, .int .i64 0, .int .i64 k, .int .i64 t, .int .i64 v, .bool false, .bool true]) ∧ Below w.heap.size w w' := by
  go_enter Try.func15, Try.ntmps15
  go_wp2
  exact bodyPost_ret (v := .agg #[.int .i64 k, .int .i64 0, .int .i64 0, .int .i64 0, .int .i64 k, .int .i64 t, .int .i64 v, .bool false, .bool true]) (by simp [results, Try.results15, go_sem]) rfl ⟨rfl, Go.Joins.below_alloc2 _ _ _⟩
set_option maxHeartbeats 400000 in
theorem refLone_left (k t v : Int) (w : World) :
    Calls Try.prog 16 #[.int .i64 0, .agg #[.int .i64 k, .int .i64 t, .int .i64 v]] w fun e w' => e = .returned (.agg #[.int .i64 k, .int .i64 k, .int .i64 t, .int .i64 v, .int .i64 0, .int .i64 0, .int .i64 0, .bool true, .bool false]) ∧ Below w.heap.size w w' := by
  go_enter Try.func16, Try.ntmps16
  go_wp2
  exact bodyPost_ret (v := .agg #[.int .i64 k, .int .i64 k, .int .i64 t, .int .i64 v, .int .i64 0, .int .i64 0, .int .i64 0, .bool true, .bool false]) (by simp [results, Try.results16, go_sem]) rfl ⟨rfl, Go.Joins.below_alloc3 _ _ _ _⟩
set_option maxHeartbeats 400000 in
theorem refLone_right (s k t v : Int) (w : World) (h : (s == 0) = false) :
    Calls Try.prog 16 #[.int .i64 s, .agg #[.int .i64 k, .int .i64 t, .int .i64 v]] w fun e w' => e = .returned (.agg #[.int .i64 k, .int .i64 0, .int .i64 0, .int .i64 0, .int .i64 k, .int .i64 t, .int .i64 v, .bool false, .bool true]) ∧ Below w.heap.size w w' := by
  go_enter Try.func16, Try.ntmps16
  go_wp2
  exact bodyPost_ret (v := .agg #[.int .i64 k, .int .i64 0, .int .i64 0, .int .i64 0, .int .i64 k, .int .i64 t, .int .i64 v, .bool false, .bool true]) (by simp [results, Try.results16, go_sem]) rfl ⟨rfl, Go.Joins.below_alloc3 _ _ _ _⟩

theorem lone_any (s k t v : Int) (w : World) :
    Calls Try.prog 15 #[.int .i64 s, .agg #[.int .i64 k, .int .i64 t, .int .i64 v]] w fun e w' => e = .returned (loneV s k t v) ∧ Below w.heap.size w w' := by
  by_cases h : s = 0
  · subst h; exact lone_left k t v w
  · unfold loneV; rw [if_neg h]; exact lone_right s k t v w (by simp [h])
theorem refLone_any (s k t v : Int) (w : World) :
    Calls Try.prog 16 #[.int .i64 s, .agg #[.int .i64 k, .int .i64 t, .int .i64 v]] w fun e w' => e = .returned (loneV s k t v) ∧ Below w.heap.size w w' := by
  by_cases h : s = 0
  · subst h; exact refLone_left k t v w
  · unfold loneV; rw [if_neg h]; exact refLone_right s k t v w (by simp [h])

end Go.Proofs.Ytfldfnphidehlaa
