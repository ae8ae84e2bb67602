/- What cmp.Or answers of a list in memory, and what order answers of two: the first number that is not 0; the first two that differ. -/
import Derived.Test.YtgffodmipbefpaaDoorLeaf
import Derived.Deep.QuietTactic
import Derived.BigQuiet
namespace Go.Proofs.YtgffodmipbefpaaDoor
open Go.RowKit
set_option maxRecDepth 100000

/-- The first that is not 0, else 0. -/
def orI : List Int → Int
  | [] => 0
  | z :: zs => if z = 0 then orI zs else z
/-- -1, 0 or 1 of two lists. -/
def ordI : List Int → List Int → Int
  | x :: xs, y :: ys => if x < y then -1 else if y < x then 1 else ordI xs ys
  | _, _ => 0

theorem orI_drop (zs : List Int) (k : Nat) (h : ∀ j, j < k → zs.getD j 0 = 0) : orI zs = orI (zs.drop k) := by
  induction k generalizing zs with
  | zero => rfl
  | succ k ih =>
    cases zs with
    | nil => rfl
    | cons z zs =>
      have h0 : z = 0 := by simpa using h 0 (by omega)
      rw [List.drop_succ_cons, ← ih zs (fun j hj => by simpa using h (j + 1) (by omega))]
      simp [orI, h0]
theorem orI_at (zs : List Int) (k : Nat) (h : ∀ j, j < k → zs.getD j 0 = 0) (hk : zs.getD k 0 ≠ 0) : orI zs = zs.getD k 0 := by
  rw [orI_drop zs k h]
  have hlt : k < zs.length := by
    rcases Nat.lt_or_ge k zs.length with h' | h'
    · exact h'
    · exact absurd (by simp [h']) hk
  rw [List.drop_eq_getElem_cons hlt]
  simp only [List.getD_eq_getElem?_getD, List.getElem?_eq_getElem hlt, Option.getD_some] at hk ⊢
  simp [orI, hk]
theorem orI_end (zs : List Int) (h : ∀ j, j < zs.length → zs.getD j 0 = 0) : orI zs = 0 := by
  rw [orI_drop zs _ h, List.drop_length]; rfl

set_option maxHeartbeats 400000 in
theorem or_core (zs : List Int) (n : Nat) (b c : Nat) (w : World) (hn : n = zs.length) (hl : n ≤ 1000)
    (hc : ∀ j, j < n → w.cell? ⟨b, j, none⟩ = some (.int .i64 (zs.getD j 0))) :
    Calls Tryd.prog 68 #[.slice (some ⟨b, 0, none⟩) n c] w fun e w' => e = .returned (.int .i64 (orI zs)) ∧ w' = w := by
  have HN : Hid (n = zs.length) := hn
  clear hn
  go_enter Tryd.func68, Tryd.ntmps68
  go_wp2
  go_loop [8] (fun i => ∃ k : Nat, k ≤ n ∧ i = .int .i64 k ∧ ∀ j, j < k → zs.getD j 0 = 0) (fun i => n - (intOf i).toNat)
  case atStart => exact ⟨0, Nat.zero_le _, rfl, fun j hj => absurd hj (Nat.not_lt_zero _)⟩
  case round =>
    obtain ⟨k, hk, rfl, hz⟩ := hrel
    have HZ : Hid (∀ j, j < k → zs.getD j 0 = 0) := hz
    clear hz
    by_cases hlt : k < n
    · have hck := hc k hlt
      have h1 : (0 : Int) ≤ (k : Int) := by omega
      have h2 : (k : Int) < (n : Int) := by omega
      clear hc
      generalize hx : zs.getD k 0 = x at hck
      have HX : Hid (zs.getD k 0 = x) := hx
      clear hx
      by_cases hx0 : x = 0
      · subst hx0
        go_wp2
        go_round
        case rel => exact ⟨k + 1, by omega, by go_num, fun j hj => by
          rcases Nat.lt_or_ge j k with h' | h'
          · exact HZ.out j h'
          · have : j = k := by omega
            subst this; exact HX.out⟩
        case measure => simp [intOf]; omega
      · have hx1 : (x != 0) = true := by simp [hx0]
        go_wp2
        go_ret
        exact ⟨ret_int (by rw [orI_at zs k HZ.out (by rw [HX.out]; exact hx0), HX.out]), rfl⟩
    · go_wp2
      go_ret
      exact ⟨ret_int (by rw [orI_end zs (fun j hj => HZ.out j (by have := HN.out; omega))]), rfl⟩

theorem ordI_drop (xs ys : List Int) (k : Nat) (hl : xs.length = ys.length) (h : ∀ j, j < k → xs.getD j 0 = ys.getD j 0) : ordI xs ys = ordI (xs.drop k) (ys.drop k) := by
  induction k generalizing xs ys with
  | zero => rfl
  | succ k ih =>
    cases xs with
    | nil => cases ys with
      | nil => rfl
      | cons y ys => cases hl
    | cons x xs => cases ys with
      | nil => cases hl
      | cons y ys =>
        have h0 : x = y := by simpa using h 0 (by omega)
        rw [List.drop_succ_cons, List.drop_succ_cons, ← ih xs ys (by simpa using hl) (fun j hj => by simpa using h (j + 1) (by omega))]
        subst h0
        simp [ordI]
theorem ordI_at (xs ys : List Int) (k : Nat) (hl : xs.length = ys.length) (hk : k < xs.length) (h : ∀ j, j < k → xs.getD j 0 = ys.getD j 0) :
    (xs.getD k 0 < ys.getD k 0 → ordI xs ys = -1) ∧ (ys.getD k 0 < xs.getD k 0 → ordI xs ys = 1) := by
  have hk2 : k < ys.length := by omega
  rw [ordI_drop xs ys k hl h, List.drop_eq_getElem_cons hk, List.drop_eq_getElem_cons hk2]
  simp only [List.getD_eq_getElem?_getD, List.getElem?_eq_getElem hk, List.getElem?_eq_getElem hk2, Option.getD_some]
  constructor
  · intro h1; simp [ordI, h1]
  · intro h1; simp only [ordI]; rw [if_neg (by omega), if_pos h1]
theorem ordI_end (xs ys : List Int) (hl : xs.length = ys.length) (h : ∀ j, j < xs.length → xs.getD j 0 = ys.getD j 0) : ordI xs ys = 0 := by
  rw [ordI_drop xs ys _ hl h, List.drop_length]; rfl

set_option maxHeartbeats 400000 in
theorem order_core (xs ys : List Int) (n : Nat) (b1 c1 b2 c2 : Nat) (w : World) (hx : n = xs.length) (hy : n = ys.length) (hl : n ≤ 1000)
    (hc1 : ∀ j, j < n → w.cell? ⟨b1, j, none⟩ = some (.int .i64 (xs.getD j 0))) (hc2 : ∀ j, j < n → w.cell? ⟨b2, j, none⟩ = some (.int .i64 (ys.getD j 0))) :
    Calls Tryd.prog 79 #[.slice (some ⟨b1, 0, none⟩) n c1, .slice (some ⟨b2, 0, none⟩) n c2] w fun e w' => e = .returned (.int .i64 (ordI xs ys)) ∧ ∃ m, w' = w.drewN m := by
  have HN : Hid (n = xs.length) := hx
  have HM : Hid (n = ys.length) := hy
  clear hx hy
  go_enter Tryd.func79, Tryd.ntmps79
  go_wp2
  go_loopw [8] (fun i wx => ∃ k m : Nat, k ≤ n ∧ i = .int .i64 k ∧ wx = w.drewN m ∧ ∀ j, j < k → xs.getD j 0 = ys.getD j 0) (fun i _ => n - (intOf i).toNat)
  case atStart => exact ⟨0, 0, Nat.zero_le _, rfl, rfl, fun j hj => absurd hj (Nat.not_lt_zero _)⟩
  case round =>
    obtain ⟨k, m, hk, rfl, rfl, hz⟩ := hrel
    have HZ : Hid (∀ j, j < k → xs.getD j 0 = ys.getD j 0) := hz
    clear hz
    by_cases hlt : k < n
    · have hck1 := hc1 k hlt
      have hck2 := hc2 k hlt
      have h1 : (0 : Int) ≤ (k : Int) := by omega
      have h2 : (k : Int) < (n : Int) := by omega
      clear hc1 hc2
      have HA := ordI_at xs ys k (by rw [← HN.out, ← HM.out]) (by rw [← HN.out]; exact hlt) HZ.out
      generalize hx : xs.getD k 0 = x at hck1 HA
      generalize hy : ys.getD k 0 = y at hck2 HA
      have HX : Hid (xs.getD k 0 = x) := hx
      have HY : Hid (ys.getD k 0 = y) := hy
      have HB : Hid ((x < y → ordI xs ys = -1) ∧ (y < x → ordI xs ys = 1)) := HA
      clear hx hy HA
      by_cases hlt1 : x < y
      · go_wp2
        go_quiet (fail)
        go_wp2
        go_ret
        exact ⟨ret_int (HB.out.1 hlt1).symm, _, World.drewN_drewN _ _ _⟩
      · by_cases hlt2 : y < x
        · go_wp2
          go_quiet (fail)
          go_wp2
          go_quiet (fail)
          go_wp2
          go_ret
          exact ⟨ret_int (HB.out.2 hlt2).symm, _, by rw [World.drewN_drewN, World.drewN_drewN]⟩
        · go_wp2
          go_quiet (fail)
          go_wp2
          go_quiet (fail)
          go_wp2
          go_roundw
          case rel => exact ⟨k + 1, _, by omega, by go_num, rfl, fun j hj => by
            rcases Nat.lt_or_ge j k with h' | h'
            · exact HZ.out j h'
            · have : j = k := by omega
              subst this; rw [HX.out, HY.out]; omega⟩
          case measure => simp [intOf]; omega
    · go_wp2
      go_ret
      exact ⟨ret_int (ordI_end xs ys (by rw [← HN.out, ← HM.out]) (fun j hj => HZ.out j (by have := HN.out; omega))).symm, _, rfl⟩

end Go.Proofs.YtgffodmipbefpaaDoor
