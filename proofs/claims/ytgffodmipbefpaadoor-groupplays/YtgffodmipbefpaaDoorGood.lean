/- What Good and its twin of the document answer: the three numbers are from -MaxTime to MaxTime. -/
import Derived.Test.YtgffodmipbefpaaDoorLoops
import Derived.Lib.SmallJoins
namespace Go.Proofs.YtgffodmipbefpaaDoor
open Go.RowKit
set_option maxRecDepth 100000

/-- A row's value. -/
def rowV (k t v : Int) : Value := .agg #[.int .i64 k, .int .i64 t, .int .i64 v]
def goodI (k t v : Int) : Bool := inI (-1099511627776) 1099511627776 k && (inI (-1099511627776) 1099511627776 t && inI (-1099511627776) 1099511627776 v)

set_option maxHeartbeats 400000 in
theorem refGood_any (k t v : Int) (w : World) :
    Calls Tryd.prog 51 #[.agg #[.int .i64 k, .int .i64 t, .int .i64 v]] w fun e w' => e = .returned (.bool (goodI k t v)) ∧ Below w.heap.size w w' := by
  cases h1 : inI (-1099511627776) 1099511627776 k
  · go_enter Tryd.func51, Tryd.ntmps51
    go_wp2_with (go_at_call 50; refine (in_any _ _ _ _).mono ?_; rintro e w' ⟨rfl, rfl⟩)
    go_ret
    exact ⟨ret_bool (by simp [goodI, h1]), (Below.refl _ _).alloc (Nat.le_refl _) _⟩
  · cases h2 : inI (-1099511627776) 1099511627776 t
    · go_enter Tryd.func51, Tryd.ntmps51
      go_wp2_with (go_at_call 50; refine (in_any _ _ _ _).mono ?_; rintro e w' ⟨rfl, rfl⟩)
      go_ret
      exact ⟨ret_bool (by simp [goodI, h1, h2]), (Below.refl _ _).alloc (Nat.le_refl _) _⟩
    · go_enter Tryd.func51, Tryd.ntmps51
      go_wp2_with (go_at_call 50; refine (in_any _ _ _ _).mono ?_; rintro e w' ⟨rfl, rfl⟩)
      go_ret
      exact ⟨ret_bool (by simp [goodI, h1, h2]), (Below.refl _ _).alloc (Nat.le_refl _) _⟩

set_option maxHeartbeats 400000 in
theorem within_any (low high : Int) (w : World) :
    Calls Tryd.prog 80 #[.int .i64 low, .int .i64 high] w fun e w' => e = .returned (.func (.func 108) #[] #[.pointer (some ⟨w.heap.size, 0, none⟩), .pointer (some ⟨w.heap.size + 1, 0, none⟩)]) ∧ w' = (w.alloc (.cells #[.int .i64 low] 3)).alloc (.cells #[.int .i64 high] 3) := by
  go_enter Tryd.func80, Tryd.ntmps80
  go_wp2
  go_ret
  exact ⟨rfl, rfl⟩

set_option maxHeartbeats 400000 in
theorem good_any (k t v : Int) (w : World) :
    Calls Tryd.prog 47 #[.agg #[.int .i64 k, .int .i64 t, .int .i64 v]] w fun e w' => e = .returned (.bool (goodI k t v)) ∧ Below w.heap.size w w' := by
  cases h1 : inI (-1099511627776) 1099511627776 k
  · go_enter Tryd.func47, Tryd.ntmps47
    go_wp2_with (first | (go_at_call 108; go_must (refine (near_any _ (-1099511627776) 1099511627776 _ _ _ ?_ ?_).mono ?_; (go_simp); (go_simp); rintro e w' ⟨rfl, rfl⟩)) | (go_at_call 80; refine (within_any _ _ _).mono ?_; rintro e w' ⟨rfl, rfl⟩))
    go_ret
    exact ⟨ret_bool (by simp [goodI, h1]), (Go.Joins.below_alloc3 _ _ _ _)⟩
  · cases h2 : inI (-1099511627776) 1099511627776 t
    · go_enter Tryd.func47, Tryd.ntmps47
      go_wp2_with (first | (go_at_call 108; go_must (refine (near_any _ (-1099511627776) 1099511627776 _ _ _ ?_ ?_).mono ?_; (go_simp); (go_simp); rintro e w' ⟨rfl, rfl⟩)) | (go_at_call 80; refine (within_any _ _ _).mono ?_; rintro e w' ⟨rfl, rfl⟩))
      go_ret
      exact ⟨ret_bool (by simp [goodI, h1, h2]), (Go.Joins.below_alloc3 _ _ _ _)⟩
    · go_enter Tryd.func47, Tryd.ntmps47
      go_wp2_with (first | (go_at_call 108; go_must (refine (near_any _ (-1099511627776) 1099511627776 _ _ _ ?_ ?_).mono ?_; (go_simp); (go_simp); rintro e w' ⟨rfl, rfl⟩)) | (go_at_call 80; refine (within_any _ _ _).mono ?_; rintro e w' ⟨rfl, rfl⟩))
      go_ret
      exact ⟨ret_bool (by simp [goodI, h1, h2]), (Go.Joins.below_alloc3 _ _ _ _)⟩

end Go.Proofs.YtgffodmipbefpaaDoor
