/- What the small functions answer: cmp's, the order of two bools, a number between two others; each leaves the world as it was. -/
import Derived.Test.YtgffodmipbefpaaDoorRows
import Derived.WalkKit
import Derived.WalkSpells
import Derived.WalkLawsBesides
namespace Go.Proofs.YtgffodmipbefpaaDoor
open Go.RowKit
set_option maxRecDepth 100000

/-- -1, 0 or 1 of two numbers. -/
def cmpI (x y : Int) : Int := if x < y then -1 else if y < x then 1 else 0
/-- -1, 0 or 1 of two bools: who has is behind. -/
def cmpB (a b : Bool) : Int := if a == b then 0 else if b then -1 else 1
/-- 0 or 1. -/
def oneI (a : Bool) : Int := if a then 1 else 0

theorem ret_int {k : IntKind} {a b : Int} (h : a = b) : Ending.returned (.int k a) = .returned (.int k b) := by rw [h]
theorem ret_bool {a b : Bool} (h : a = b) : Ending.returned (.bool a) = .returned (.bool b) := by rw [h]

set_option maxHeartbeats 400000 in
theorem isNaN_any (x : Int) (w : World) :
    Calls Tryd.prog 96 #[.int .i64 x] w fun e w' => e = .returned (.bool false) ∧ w' = w := by
  go_enter Tryd.func96, Tryd.ntmps96
  go_wp2
  go_ret
  exact ⟨ret_bool (by simp), rfl⟩

set_option maxHeartbeats 400000 in
theorem cmp_any (x y : Int) (w : World) :
    Calls Tryd.prog 69 #[.int .i64 x, .int .i64 y] w fun e w' => e = .returned (.int .i64 (cmpI x y)) ∧ w' = w := by
  by_cases h1 : x < y
  · go_enter Tryd.func69, Tryd.ntmps69
    go_wp2_with (go_at_call 96; refine (isNaN_any _ _).mono ?_; rintro e w' ⟨rfl, rfl⟩)
    go_ret
    exact ⟨ret_int (by simp [cmpI, h1]), rfl⟩
  · by_cases h2 : y < x
    · go_enter Tryd.func69, Tryd.ntmps69
      go_wp2_with (go_at_call 96; refine (isNaN_any _ _).mono ?_; rintro e w' ⟨rfl, rfl⟩)
      go_ret
      exact ⟨ret_int (by simp [cmpI, h1, h2]), rfl⟩
    · go_enter Tryd.func69, Tryd.ntmps69
      go_wp2_with (go_at_call 96; refine (isNaN_any _ _).mono ?_; rintro e w' ⟨rfl, rfl⟩)
      go_ret
      exact ⟨ret_int (by unfold cmpI; rw [if_neg (by omega), if_neg (by omega)]), rfl⟩

set_option maxHeartbeats 400000 in
theorem has_any (a b : Bool) (w : World) :
    Calls Tryd.prog 70 #[.bool a, .bool b] w fun e w' => e = .returned (.int .i64 (cmpB a b)) ∧ w' = w := by
  cases a <;> cases b <;>
  · go_enter Tryd.func70, Tryd.ntmps70
    go_wp2
    go_ret
    exact ⟨ret_int (by simp [cmpB]), rfl⟩

set_option maxHeartbeats 400000 in
theorem one_any (a : Bool) (w : World) :
    Calls Tryd.prog 77 #[.bool a] w fun e w' => e = .returned (.int .i64 (oneI a)) ∧ w' = w := by
  cases a <;>
  · go_enter Tryd.func77, Tryd.ntmps77
    go_wp2
    go_ret
    exact ⟨ret_int (by simp [oneI]), rfl⟩

/-- A number is from low to high. -/
def inI (low high n : Int) : Bool := decide (low ≤ n) && decide (n ≤ high)

set_option maxHeartbeats 400000 in
theorem in_any (n low high : Int) (w : World) :
    Calls Tryd.prog 50 #[.int .i64 n, .int .i64 low, .int .i64 high] w fun e w' => e = .returned (.bool (inI low high n)) ∧ w' = w := by
  by_cases h1 : low ≤ n
  · go_enter Tryd.func50, Tryd.ntmps50
    go_wp2
    go_ret
    exact ⟨ret_bool (by simp [inI, h1]), rfl⟩
  · go_enter Tryd.func50, Tryd.ntmps50
    go_wp2
    go_ret
    exact ⟨ret_bool (by simp [inI]; omega), rfl⟩

/-- The closure that looks at a number: its two bounds lie in boxes. -/
theorem near_any (n low high : Int) (b1 b2 : Addr) (w : World) (c1 : w.cell? b1 = some (.int .i64 low)) (c2 : w.cell? b2 = some (.int .i64 high)) :
    Calls Tryd.prog 108 #[.int .i64 n, .pointer (some b1), .pointer (some b2)] w fun e w' => e = .returned (.bool (inI low high n)) ∧ w' = w := by
  by_cases h1 : low ≤ n
  · go_enter Tryd.func108, Tryd.ntmps108
    go_wp2
    go_ret
    exact ⟨ret_bool (by simp [inI, h1]), rfl⟩
  · go_enter Tryd.func108, Tryd.ntmps108
    go_wp2
    go_ret
    exact ⟨ret_bool (by simp [inI]; omega), rfl⟩

end Go.Proofs.YtgffodmipbefpaaDoor
