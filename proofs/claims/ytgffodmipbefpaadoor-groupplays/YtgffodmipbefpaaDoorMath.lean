/- The two ways of putting lists in order are one; and it is an order. -/
import Derived.Test.YtgffodmipbefpaaDoorLoops
namespace Go.Proofs.YtgffodmipbefpaaDoor

theorem cmpI_zero (x y : Int) : cmpI x y = 0 ↔ x = y := by
  unfold cmpI
  by_cases h1 : x < y
  · simp [h1]; omega
  · by_cases h2 : y < x
    · simp [h1, h2]; omega
    · simp [h1, h2]; omega

theorem orI_append (xs ys : List Int) : orI (xs ++ ys) = if orI xs = 0 then orI ys else orI xs := by
  induction xs with
  | nil => rfl
  | cons x xs ih =>
    by_cases h : x = 0
    · simp only [List.cons_append, orI, h, if_true]; exact ih
    · simp [List.cons_append, orI, h]
theorem orI_nest (xs ys : List Int) : orI (orI xs :: ys) = orI (xs ++ ys) := by
  rw [orI_append]; rfl
theorem orI_cons_congr (x : Int) {xs ys : List Int} (h : orI xs = orI ys) : orI (x :: xs) = orI (x :: ys) := by
  simp only [orI, h]

theorem cmpB_one (a b : Bool) : cmpB a b = cmpI (oneI a) (oneI b) := by
  cases a <;> cases b <;> rfl

theorem ord_or : ∀ (xs ys : List Int), ordI xs ys = orI (List.zipWith cmpI xs ys)
  | [], _ => by simp [ordI, orI]
  | _ :: _, [] => by simp [ordI, orI]
  | x :: xs, y :: ys => by
    rw [List.zipWith_cons_cons, orI, ordI, ord_or xs ys]
    unfold cmpI
    by_cases h1 : x < y
    · simp [h1]
    · by_cases h2 : y < x
      · simp [h1, h2]
      · simp [h1, h2]

theorem cmp3 (k1 t1 v1 k2 t2 v2 : Int) : ordI [k1, t1, v1] [k2, t2, v2] = orI [cmpI k1 k2, cmpI t1 t2, cmpI v1 v2] := by
  rw [ord_or]; rfl

theorem cmp9 (k lk lt lv rk rt rv k' lk' lt' lv' rk' rt' rv' : Int) (hl hr hl' hr' : Bool) :
    ordI [k, oneI hl, lk, lt, lv, oneI hr, rk, rt, rv] [k', oneI hl', lk', lt', lv', oneI hr', rk', rt', rv'] = orI [cmpI k k', cmpB hl hl', orI [cmpI lk lk', cmpI lt lt', cmpI lv lv'], cmpB hr hr', orI [cmpI rk rk', cmpI rt rt', cmpI rv rv']] := by
  rw [ord_or]
  show orI [cmpI k k', cmpI (oneI hl) (oneI hl'), cmpI lk lk', cmpI lt lt', cmpI lv lv', cmpI (oneI hr) (oneI hr'), cmpI rk rk', cmpI rt rt', cmpI rv rv'] = _
  rw [← cmpB_one, ← cmpB_one]
  refine orI_cons_congr _ (orI_cons_congr _ ?_)
  rw [orI_nest]
  refine orI_cons_congr _ (orI_cons_congr _ (orI_cons_congr _ (orI_cons_congr _ ?_)))
  exact (orI_nest [cmpI rk rk', cmpI rt rt', cmpI rv rv'] []).symm

/-- It is -1, 0 or 1. -/
theorem cmpI_is (x y : Int) : cmpI x y = -1 ∨ cmpI x y = 0 ∨ cmpI x y = 1 := by
  unfold cmpI
  by_cases h1 : x < y
  · simp [h1]
  · by_cases h2 : y < x
    · simp [h1, h2]
    · simp [h1, h2]
theorem ordI_is : ∀ (xs ys : List Int), ordI xs ys = -1 ∨ ordI xs ys = 0 ∨ ordI xs ys = 1
  | [], _ => by simp [ordI]
  | _ :: _, [] => by simp [ordI]
  | x :: xs, y :: ys => by
    have := ordI_is xs ys
    rw [ordI]
    by_cases h1 : x < y
    · simp [h1]
    · by_cases h2 : y < x
      · simp [h1, h2]
      · simp [h1, h2]; exact this
theorem ordI_neg : ∀ (xs ys : List Int), ordI ys xs = - ordI xs ys
  | [], [] => rfl
  | [], _ :: _ => rfl
  | _ :: _, [] => rfl
  | x :: xs, y :: ys => by
    have := ordI_neg xs ys
    simp only [ordI]
    by_cases h1 : x < y
    · rw [if_pos h1, if_neg (by omega), if_pos h1]; rfl
    · by_cases h2 : y < x
      · rw [if_pos h2, if_neg h1, if_pos h2]
      · rw [if_neg h2, if_neg h1, if_neg h1, if_neg h2]; exact this
theorem ordI_zero : ∀ (xs ys : List Int), xs.length = ys.length → (ordI xs ys = 0 ↔ xs = ys)
  | [], [], _ => by simp [ordI]
  | x :: xs, y :: ys, h => by
    have := ordI_zero xs ys (by simpa using h)
    simp only [ordI]
    by_cases h1 : x < y
    · rw [if_pos h1]; simp; intro h; omega
    · by_cases h2 : y < x
      · rw [if_neg h1, if_pos h2]; simp; intro h; omega
      · rw [if_neg h1, if_neg h2, this]; simp; intro _; omega
theorem ordI_trans : ∀ (xs ys zs : List Int), xs.length = ys.length → ys.length = zs.length → ordI xs ys ≤ 0 → ordI ys zs ≤ 0 → ordI xs zs ≤ 0
  | [], [], [], _, _, _, _ => by simp [ordI]
  | x :: xs, y :: ys, z :: zs, hx, hy, h1, h2 => by
    have ih := ordI_trans xs ys zs (by simpa using hx) (by simpa using hy)
    simp only [ordI] at h1 h2 ⊢
    by_cases a1 : x < z
    · rw [if_pos a1]; omega
    · rw [if_neg a1]
      by_cases a2 : z < x
      · exfalso
        by_cases b1 : x < y
        · rw [if_neg (by omega), if_pos (by omega)] at h2; omega
        · rw [if_neg b1] at h1
          by_cases b2 : y < x
          · rw [if_pos b2] at h1; omega
          · rw [if_neg (by omega), if_pos (by omega)] at h2; omega
      · rw [if_neg a2]
        have e : x = z := by omega
        subst e
        by_cases b1 : x < y
        · rw [if_neg (by omega), if_pos b1] at h2; omega
        · rw [if_neg b1] at h1
          by_cases b2 : y < x
          · rw [if_pos b2] at h1; omega
          · rw [if_neg b2] at h1; rw [if_neg b2, if_neg b1] at h2
            exact ih h1 h2

end Go.Proofs.YtgffodmipbefpaaDoor
