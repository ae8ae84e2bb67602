/- What the small functions answer: cmp's, the order of two bools, a number between two others; each leaves the world as it was. -/
import Derived.Test.YtfldfnphidehlaaDoorPlay
import Derived.WalkKit
import Derived.WalkSpells
import Derived.WalkLawsBesides
namespace Go.Proofs.YtfldfnphidehlaaDoor
open Go.RowKit
set_option maxRecDepth 100000

/-- -1, 0 or 1 of two numbers. -/
def cmpI (x y : Int) : Int := if x < y then -1 else if y < x then 1 else 0
/-- -1, 0 or 1 of two bools: who has is behind. -/
def cmpB (a b : Bool) : Int := if a == b then 0 else if b then -1 else 1
/-- 0 or 1. -/
def oneI (a : Bool) : Int := if a then 1 else 0


set_option maxHeartbeats 400000 in
theorem isNaN_any (x : Int) (w : World) :
    Calls Tryd.prog 49 #[.int .i64 x] w fun e w' => e = .returned (.bool false) ∧ w' = w := by
  go_enter Tryd.func49, Tryd.ntmps49
  go_wp2
  go_ret
  exact ⟨ret_bool (by simp), rfl⟩

set_option maxHeartbeats 400000 in
theorem cmp_any (x y : Int) (w : World) :
    Calls Tryd.prog 34 #[.int .i64 x, .int .i64 y] w fun e w' => e = .returned (.int .i64 (cmpI x y)) ∧ w' = w := by
  by_cases h1 : x < y
  · go_enter Tryd.func34, Tryd.ntmps34
    go_wp2_with (go_at_call 49; refine (isNaN_any _ _).mono ?_; rintro e w' ⟨rfl, rfl⟩)
    go_ret
    exact ⟨ret_int (by simp [cmpI, h1]), rfl⟩
  · by_cases h2 : y < x
    · go_enter Tryd.func34, Tryd.ntmps34
      go_wp2_with (go_at_call 49; refine (isNaN_any _ _).mono ?_; rintro e w' ⟨rfl, rfl⟩)
      go_ret
      exact ⟨ret_int (by simp [cmpI, h1, h2]), rfl⟩
    · go_enter Tryd.func34, Tryd.ntmps34
      go_wp2_with (go_at_call 49; refine (isNaN_any _ _).mono ?_; rintro e w' ⟨rfl, rfl⟩)
      go_ret
      exact ⟨ret_int (by unfold cmpI; rw [if_neg (by omega), if_neg (by omega)]), rfl⟩

set_option maxHeartbeats 400000 in
theorem has_any (a b : Bool) (w : World) :
    Calls Tryd.prog 35 #[.bool a, .bool b] w fun e w' => e = .returned (.int .i64 (cmpB a b)) ∧ w' = w := by
  cases a <;> cases b <;>
  · go_enter Tryd.func35, Tryd.ntmps35
    go_wp2
    go_ret
    exact ⟨ret_int (by simp [cmpB]), rfl⟩

set_option maxHeartbeats 400000 in
theorem one_any (a : Bool) (w : World) :
    Calls Tryd.prog 42 #[.bool a] w fun e w' => e = .returned (.int .i64 (oneI a)) ∧ w' = w := by
  cases a <;>
  · go_enter Tryd.func42, Tryd.ntmps42
    go_wp2
    go_ret
    exact ⟨ret_int (by simp [oneI]), rfl⟩

/-- A number is from low to high. -/
def inI (low high n : Int) : Bool := decide (low ≤ n) && decide (n ≤ high)

end Go.Proofs.YtfldfnphidehlaaDoor
