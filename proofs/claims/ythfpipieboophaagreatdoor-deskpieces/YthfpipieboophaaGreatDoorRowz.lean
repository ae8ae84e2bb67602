/- Rowz: several texts in one. -/
import Derived.Test.YthfpipieboophaaGreatDoorProg
import Derived.Below
import Derived.BigQuiet
import Derived.Deep.RegionWith
import Derived.Deep.RegionHeld3
import Derived.Lib.SmallJoins
import Derived.Lib.QuietBelow
import Derived.Deep.LoopGhost
import Derived.Deep.DeepCutAuto
import Derived.Deep.CutBlock
import Derived.Deep.CutRange
import Derived.WalkKit
import Derived.WalkSpells
import Derived.WalkLawsBesides
import Derived.Deep.QuietTactic
import Derived.Maps.OwnSet
import Derived.Maps.Views
import Derived.WideKeyEntry
import Derived.DeepKeys5
/- What the small functions answer: cmp's, the order of two bools, a number between two others; each leaves the world as it was. -/
namespace Go.Proofs.YthfpipieboophaaGreatDoor
open Go.RowKit
set_option maxRecDepth 100000
theorem ret_int {k : IntKind} {a b : Int} (h : a = b) : Ending.returned (.int k a) = .returned (.int k b) := by rw [h]
theorem ret_bool {a b : Bool} (h : a = b) : Ending.returned (.bool a) = .returned (.bool b) := by rw [h]
def cmpI (x y : Int) : Int := if x < y then -1 else if y < x then 1 else 0
def cmpB (a b : Bool) : Int := if a == b then 0 else if b then -1 else 1
def oneI (a : Bool) : Int := if a then 1 else 0
set_option maxHeartbeats 400000 in
theorem isNaN_any (x : Int) (w : World) :
    Calls Tryz.prog 264 #[.int .i64 x] w fun e w' => e = .returned (.bool false) ∧ w' = w := by
  go_enter Tryz.func264, Tryz.ntmps264
  go_wp2
  go_ret
  exact ⟨ret_bool (by simp), rfl⟩
set_option maxHeartbeats 400000 in
theorem cmp_any (x y : Int) (w : World) :
    Calls Tryz.prog 196 #[.int .i64 x, .int .i64 y] w fun e w' => e = .returned (.int .i64 (cmpI x y)) ∧ w' = w := by
  by_cases h1 : x < y
  · go_enter Tryz.func196, Tryz.ntmps196
    go_wp2_with (go_at_call 264; refine (isNaN_any _ _).mono ?_; rintro e w' ⟨rfl, rfl⟩)
    go_ret
    exact ⟨ret_int (by simp [cmpI, h1]), rfl⟩
  · by_cases h2 : y < x
    · go_enter Tryz.func196, Tryz.ntmps196
      go_wp2_with (go_at_call 264; refine (isNaN_any _ _).mono ?_; rintro e w' ⟨rfl, rfl⟩)
      go_ret
      exact ⟨ret_int (by simp [cmpI, h1, h2]), rfl⟩
    · go_enter Tryz.func196, Tryz.ntmps196
      go_wp2_with (go_at_call 264; refine (isNaN_any _ _).mono ?_; rintro e w' ⟨rfl, rfl⟩)
      go_ret
      exact ⟨ret_int (by unfold cmpI; rw [if_neg (by omega), if_neg (by omega)]), rfl⟩
set_option maxHeartbeats 400000 in
theorem has_any (a b : Bool) (w : World) :
    Calls Tryz.prog 197 #[.bool a, .bool b] w fun e w' => e = .returned (.int .i64 (cmpB a b)) ∧ w' = w := by
  cases a <;> cases b <;>
  · go_enter Tryz.func197, Tryz.ntmps197
    go_wp2
    go_ret
    exact ⟨ret_int (by simp [cmpB]), rfl⟩
def inI (low high n : Int) : Bool := decide (low ≤ n) && decide (n ≤ high)
end Go.Proofs.YthfpipieboophaaGreatDoor

/- What cmp.Or answers of a list in memory, and what order answers of two: the first number that is not 0; the first two that differ. -/
namespace Go.Proofs.YthfpipieboophaaGreatDoor
open Go.RowKit
set_option maxRecDepth 100000
def orI : List Int → Int
  | [] => 0
  | z :: zs => if z = 0 then orI zs else z
def ordI : List Int → List Int → Int
  | x :: xs, y :: ys => if x < y then -1 else if y < x then 1 else ordI xs ys
  | _, _ => 0
theorem orI_drop (zs : List Int) (k : Nat) (h : ∀ j, j < k → zs.getD j 0 = 0) : orI zs = orI (zs.drop k) := by
  induction k generalizing zs with
  | zero => rfl
  | succ k ih =>
    cases zs with
    | nil => rfl
    | cons z zs =>
      have h0 : z = 0 := by simpa using h 0 (by omega)
      rw [List.drop_succ_cons, ← ih zs (fun j hj => by simpa using h (j + 1) (by omega))]
      simp [orI, h0]
theorem orI_at (zs : List Int) (k : Nat) (h : ∀ j, j < k → zs.getD j 0 = 0) (hk : zs.getD k 0 ≠ 0) : orI zs = zs.getD k 0 := by
  rw [orI_drop zs k h]
  have hlt : k < zs.length := by
    rcases Nat.lt_or_ge k zs.length with h' | h'
    · exact h'
    · exact absurd (by simp [h']) hk
  rw [List.drop_eq_getElem_cons hlt]
  simp only [List.getD_eq_getElem?_getD, List.getElem?_eq_getElem hlt, Option.getD_some] at hk ⊢
  simp [orI, hk]
theorem orI_end (zs : List Int) (h : ∀ j, j < zs.length → zs.getD j 0 = 0) : orI zs = 0 := by
  rw [orI_drop zs _ h, List.drop_length]; rfl
set_option maxHeartbeats 400000 in
theorem or_core (zs : List Int) (n : Nat) (b c : Nat) (w : World) (hn : n = zs.length) (hl : n ≤ 1000)
    (hc : ∀ j, j < n → w.cell? ⟨b, j, none⟩ = some (.int .i64 (zs.getD j 0))) :
    Calls Tryz.prog 195 #[.slice (some ⟨b, 0, none⟩) n c] w fun e w' => e = .returned (.int .i64 (orI zs)) ∧ w' = w := by
  have HN : Hid (n = zs.length) := hn
  clear hn
  go_enter Tryz.func195, Tryz.ntmps195
  go_wp2
  go_loop [8] (fun i => ∃ k : Nat, k ≤ n ∧ i = .int .i64 k ∧ ∀ j, j < k → zs.getD j 0 = 0) (fun i => n - (intOf i).toNat)
  case atStart => exact ⟨0, Nat.zero_le _, rfl, fun j hj => absurd hj (Nat.not_lt_zero _)⟩
  case round =>
    obtain ⟨k, hk, rfl, hz⟩ := hrel
    have HZ : Hid (∀ j, j < k → zs.getD j 0 = 0) := hz
    clear hz
    by_cases hlt : k < n
    · have hck := hc k hlt
      have h1 : (0 : Int) ≤ (k : Int) := by omega
      have h2 : (k : Int) < (n : Int) := by omega
      clear hc
      generalize hx : zs.getD k 0 = x at hck
      have HX : Hid (zs.getD k 0 = x) := hx
      clear hx
      by_cases hx0 : x = 0
      · subst hx0
        go_wp2
        go_round
        case rel => exact ⟨k + 1, by omega, by go_num, fun j hj => by
          rcases Nat.lt_or_ge j k with h' | h'
          · exact HZ.out j h'
          · have : j = k := by omega
            subst this; exact HX.out⟩
        case measure => simp [intOf]; omega
      · have hx1 : (x != 0) = true := by simp [hx0]
        go_wp2
        go_ret
        exact ⟨ret_int (by rw [orI_at zs k HZ.out (by rw [HX.out]; exact hx0), HX.out]), rfl⟩
    · go_wp2
      go_ret
      exact ⟨ret_int (by rw [orI_end zs (fun j hj => HZ.out j (by have := HN.out; omega))]), rfl⟩
end Go.Proofs.YthfpipieboophaaGreatDoor

/- What Good and its twin of the document answer: the three numbers are from -MaxTime to MaxTime. -/
namespace Go.Proofs.YthfpipieboophaaGreatDoor
open Go.RowKit
set_option maxRecDepth 100000
def rowV (k t v : Int) : Value := .agg #[.int .i64 k, .int .i64 t, .int .i64 v]
def goodI (k t v : Int) : Bool := inI (-1099511627776) 1099511627776 k && (inI (-1099511627776) 1099511627776 t && inI (-1099511627776) 1099511627776 v)
end Go.Proofs.YthfpipieboophaaGreatDoor

/- What Compare answers of two rows, and its twin of the document: by key, time, value. -/
namespace Go.Proofs.YthfpipieboophaaGreatDoor
open Go.RowKit
set_option maxRecDepth 100000
theorem three_cells (w : World) (x y z : Value) (g : Nat) (hg : g = w.heap.size) (e : TypeId) (zs : List Int) (hz : [x, y, z] = zs.map (Value.int .i64)) : ∀ j, j < 3 → (w.alloc (.cells #[x, y, z] e)).cell? ⟨g, j, none⟩ = some (.int .i64 (zs.getD j 0)) := by
  subst hg
  match zs, hz with
  | [a, b, c], hz =>
    simp only [List.map_cons, List.map_nil, List.cons.injEq, and_true] at hz
    obtain ⟨rfl, rfl, rfl⟩ := hz
    intro j hj
    match j, hj with
    | 0, _ => simp
    | 1, _ => simp
    | 2, _ => simp
set_option maxHeartbeats 400000 in
theorem compare_at (k1 t1 v1 k2 t2 v2 : Int) (w : World) :
    Calls Tryz.prog 198 #[.agg #[.int .i64 k1, .int .i64 t1, .int .i64 v1], .agg #[.int .i64 k2, .int .i64 t2, .int .i64 v2]] w fun e w' => e = .returned (.int .i64 (orI [cmpI k1 k2, cmpI t1 t2, cmpI v1 v2])) ∧ w' = (((w.alloc (.cells #[.int .i64 k1, .int .i64 t1, .int .i64 v1] 37)).alloc (.cells #[.int .i64 k2, .int .i64 t2, .int .i64 v2] 37)).alloc (.cells #[.int .i64 (cmpI k1 k2), .int .i64 (cmpI t1 t2), .int .i64 (cmpI v1 v2)] 3)).drew := by
  go_enter Tryz.func198, Tryz.ntmps198
  go_wp2
  go_region_held3 (fun w' => w'.cell? ⟨w.heap.size, 0, none⟩ = some (.int .i64 k1) ∧ w'.cell? ⟨w.heap.size, 1, none⟩ = some (.int .i64 t1) ∧ w'.cell? ⟨w.heap.size, 2, none⟩ = some (.int .i64 v1) ∧ w'.cell? ⟨w.heap.size + 1, 0, none⟩ = some (.int .i64 k2) ∧ w'.cell? ⟨w.heap.size + 1, 1, none⟩ = some (.int .i64 t2) ∧ w'.cell? ⟨w.heap.size + 1, 2, none⟩ = some (.int .i64 v2)) (go_keep)
    (first | (go_at_call 196; refine (cmp_any _ _ _).mono ?_; rintro e w' ⟨rfl, rfl⟩) | (go_at_call 195; refine (or_core [cmpI k1 k2, cmpI t1 t2, cmpI v1 v2] 3 _ _ _ rfl (by omega) ?_).mono ?_; (exact three_cells _ _ _ _ _ (by simp) _ _ rfl); rintro e w' ⟨rfl, rfl⟩))
  all_goals go_wp2
  go_ret
  exact ⟨rfl, rfl⟩
end Go.Proofs.YthfpipieboophaaGreatDoor

/- What CompareOut, Pair and Lone answer. -/
namespace Go.Proofs.YthfpipieboophaaGreatDoor
open Go.RowKit
set_option maxRecDepth 100000
theorem or5 (a b c d e : Int) (g cp : Nat) (w : World)
    (p0 : w.cell? ⟨g, 0, none⟩ = some (.int .i64 a)) (p1 : w.cell? ⟨g, 1, none⟩ = some (.int .i64 b)) (p2 : w.cell? ⟨g, 2, none⟩ = some (.int .i64 c)) (p3 : w.cell? ⟨g, 3, none⟩ = some (.int .i64 d)) (p4 : w.cell? ⟨g, 4, none⟩ = some (.int .i64 e)) :
    Calls Tryz.prog 195 #[.slice (some ⟨g, 0, none⟩) 5 cp] w fun r w' => r = .returned (.int .i64 (orI [a, b, c, d, e])) ∧ w' = w := by
  refine or_core [a, b, c, d, e] 5 g cp w rfl (by omega) ?_
  intro j hj
  match j, hj with
  | 0, _ => exact p0
  | 1, _ => exact p1
  | 2, _ => exact p2
  | 3, _ => exact p3
  | 4, _ => exact p4
set_option linter.unusedSimpArgs false
end Go.Proofs.YthfpipieboophaaGreatDoor

/- The two ways of putting lists in order are one; and it is an order. -/
namespace Go.Proofs.YthfpipieboophaaGreatDoor
theorem orI_append (xs ys : List Int) : orI (xs ++ ys) = if orI xs = 0 then orI ys else orI xs := by
  induction xs with
  | nil => rfl
  | cons x xs ih =>
    by_cases h : x = 0
    · simp only [List.cons_append, orI, h, if_true]; exact ih
    · simp [List.cons_append, orI, h]
theorem orI_nest (xs ys : List Int) : orI (orI xs :: ys) = orI (xs ++ ys) := by
  rw [orI_append]; rfl
theorem orI_cons_congr (x : Int) {xs ys : List Int} (h : orI xs = orI ys) : orI (x :: xs) = orI (x :: ys) := by
  simp only [orI, h]
theorem cmpB_one (a b : Bool) : cmpB a b = cmpI (oneI a) (oneI b) := by
  cases a <;> cases b <;> rfl
theorem ord_or : ∀ (xs ys : List Int), ordI xs ys = orI (List.zipWith cmpI xs ys)
  | [], _ => by simp [ordI, orI]
  | _ :: _, [] => by simp [ordI, orI]
  | x :: xs, y :: ys => by
    rw [List.zipWith_cons_cons, orI, ordI, ord_or xs ys]
    unfold cmpI
    by_cases h1 : x < y
    · simp [h1]
    · by_cases h2 : y < x
      · simp [h1, h2]
      · simp [h1, h2]
theorem cmp9 (k lk lt lv rk rt rv k' lk' lt' lv' rk' rt' rv' : Int) (hl hr hl' hr' : Bool) :
    ordI [k, oneI hl, lk, lt, lv, oneI hr, rk, rt, rv] [k', oneI hl', lk', lt', lv', oneI hr', rk', rt', rv'] = orI [cmpI k k', cmpB hl hl', orI [cmpI lk lk', cmpI lt lt', cmpI lv lv'], cmpB hr hr', orI [cmpI rk rk', cmpI rt rt', cmpI rv rv']] := by
  rw [ord_or]
  show orI [cmpI k k', cmpI (oneI hl) (oneI hl'), cmpI lk lk', cmpI lt lt', cmpI lv lv', cmpI (oneI hr) (oneI hr'), cmpI rk rk', cmpI rt rt', cmpI rv rv'] = _
  rw [← cmpB_one, ← cmpB_one]
  refine orI_cons_congr _ (orI_cons_congr _ ?_)
  rw [orI_nest]
  refine orI_cons_congr _ (orI_cons_congr _ (orI_cons_congr _ (orI_cons_congr _ ?_)))
  exact (orI_nest [cmpI rk rk', cmpI rt rt', cmpI rv rv'] []).symm
theorem ordI_neg : ∀ (xs ys : List Int), ordI ys xs = - ordI xs ys
  | [], [] => rfl
  | [], _ :: _ => rfl
  | _ :: _, [] => rfl
  | x :: xs, y :: ys => by
    have := ordI_neg xs ys
    simp only [ordI]
    by_cases h1 : x < y
    · rw [if_pos h1, if_neg (by omega), if_pos h1]; rfl
    · by_cases h2 : y < x
      · rw [if_pos h2, if_neg h1, if_pos h2]
      · rw [if_neg h2, if_neg h1, if_neg h1, if_neg h2]; exact this
theorem ordI_zero : ∀ (xs ys : List Int), xs.length = ys.length → (ordI xs ys = 0 ↔ xs = ys)
  | [], [], _ => by simp [ordI]
  | x :: xs, y :: ys, h => by
    have := ordI_zero xs ys (by simpa using h)
    simp only [ordI]
    by_cases h1 : x < y
    · rw [if_pos h1]; simp; intro h; omega
    · by_cases h2 : y < x
      · rw [if_neg h1, if_pos h2]; simp; intro h; omega
      · rw [if_neg h1, if_neg h2, this]; simp; intro _; omega
theorem ordI_trans : ∀ (xs ys zs : List Int), xs.length = ys.length → ys.length = zs.length → ordI xs ys ≤ 0 → ordI ys zs ≤ 0 → ordI xs zs ≤ 0
  | [], [], [], _, _, _, _ => by simp [ordI]
  | x :: xs, y :: ys, z :: zs, hx, hy, h1, h2 => by
    have ih := ordI_trans xs ys zs (by simpa using hx) (by simpa using hy)
    simp only [ordI] at h1 h2 ⊢
    by_cases a1 : x < z
    · rw [if_pos a1]; omega
    · rw [if_neg a1]
      by_cases a2 : z < x
      · exfalso
        by_cases b1 : x < y
        · rw [if_neg (by omega), if_pos (by omega)] at h2; omega
        · rw [if_neg b1] at h1
          by_cases b2 : y < x
          · rw [if_pos b2] at h1; omega
          · rw [if_neg (by omega), if_pos (by omega)] at h2; omega
      · rw [if_neg a2]
        have e : x = z := by omega
        subst e
        by_cases b1 : x < y
        · rw [if_neg (by omega), if_pos b1] at h2; omega
        · rw [if_neg b1] at h1
          by_cases b2 : y < x
          · rw [if_pos b2] at h1; omega
          · rw [if_neg b2] at h1; rw [if_neg b2, if_neg b1] at h2
            exact ih h1 h2
end Go.Proofs.YthfpipieboophaaGreatDoor

/- Outs as records; their order; an Out as a map's key. -/
namespace Go.Proofs.YthfpipieboophaaGreatDoor
open Go.RowKit Go.Sort
set_option maxRecDepth 100000
structure O where
  k : Int
  lk : Int
  lt : Int
  lv : Int
  rk : Int
  rt : Int
  rv : Int
  hl : Bool
  hr : Bool
  deriving DecidableEq, Inhabited
def cO (x y : O) : Int := orI [cmpI x.k y.k, cmpB x.hl y.hl, orI [cmpI x.lk y.lk, cmpI x.lt y.lt, cmpI x.lv y.lv], cmpB x.hr y.hr, orI [cmpI x.rk y.rk, cmpI x.rt y.rt, cmpI x.rv y.rv]]
def lO (x : O) : List Int := [x.k, oneI x.hl, x.lk, x.lt, x.lv, oneI x.hr, x.rk, x.rt, x.rv]
theorem cO_ord (x y : O) : cO x y = ordI (lO x) (lO y) := (cmp9 _ _ _ _ _ _ _ _ _ _ _ _ _ _ _ _ _ _).symm
theorem oneI_inj {a b : Bool} : oneI a = oneI b ↔ a = b := by cases a <;> cases b <;> simp [oneI]
theorem cO_neg (x y : O) : cO y x = - cO x y := by rw [cO_ord, cO_ord]; exact ordI_neg _ _
theorem cO_zero (x y : O) : cO x y = 0 ↔ x = y := by
  rw [cO_ord, ordI_zero (lO x) (lO y) rfl]; simp only [lO, List.cons.injEq, oneI_inj, and_true]
  constructor
  · rintro ⟨a, b, c, d, e, f, g, h, i⟩; cases x; cases y; simp_all
  · rintro rfl; simp
theorem cO_trans (a b c : O) (h1 : cO a b ≤ 0) (h2 : cO b c ≤ 0) : cO a c ≤ 0 := by
  rw [cO_ord] at *; exact ordI_trans (lO a) (lO b) (lO c) rfl rfl h1 h2
def encO (x : O) : List Value := [.int .i64 x.k, .int .i64 x.lk, .int .i64 x.lt, .int .i64 x.lv, .int .i64 x.rk, .int .i64 x.rt, .int .i64 x.rv, .bool x.hl, .bool x.hr]
def vO (x : O) : Value := .agg #[.int .i64 x.k, .int .i64 x.lk, .int .i64 x.lt, .int .i64 x.lv, .int .i64 x.rk, .int .i64 x.rt, .int .i64 x.rv, .bool x.hl, .bool x.hr]
theorem vO_inj {x y : O} (h : vO x = vO y) : x = y := by
  cases x; cases y; simp [vO] at h; simp [h]
structure O.wf (x : O) : Prop where
  k : (Lit.int .i64 x.k).wf = true
  lk : (Lit.int .i64 x.lk).wf = true
  lt : (Lit.int .i64 x.lt).wf = true
  lv : (Lit.int .i64 x.lv).wf = true
  rk : (Lit.int .i64 x.rk).wf = true
  rt : (Lit.int .i64 x.rt).wf = true
  rv : (Lit.int .i64 x.rv).wf = true
theorem laidOut : laidOutB Tryz.prog = true := by kernel_rfl
theorem cells23 : Tryz.prog.cellsOf 37 = 3 := by kernel_rfl
theorem cells27 : Tryz.prog.cellsOf 89 = 9 := by kernel_rfl
theorem cells3 : Tryz.prog.cellsOf 3 = 1 := by kernel_rfl
theorem cells4 : Tryz.prog.cellsOf 4 = 1 := by kernel_rfl
theorem law : WideMaps.KeyLaw Tryz.prog 89 := deep_law_laid laidOut (m := 3) (by omega) (of_decide_eq_true (by kernel_rfl)) (by kernel_rfl) (by rw [Tryz.underlying89])
theorem keyed : Maps.Keyed Tryz.prog 89 := Maps.Keyed.of_law law
theorem keyType27 : Tryz.prog.keyType 89 = true := by kernel_rfl
theorem lits_int (d : Nat) (a : Int) (h : (Lit.int .i64 a).wf = true) : Tryz.prog.keyLits (d + 1) 3 [.int .i64 a] = some [.int .i64 a] := by
  simp [Program.keyLits, Tryz.underlying3, h]
theorem lits_bool (d : Nat) (a : Bool) : Tryz.prog.keyLits (d + 1) 4 [.bool a] = some [.bool a] := by
  simp [Program.keyLits, Tryz.underlying4]
theorem lits_row (d : Nat) (a b c : Int) (ha : (Lit.int .i64 a).wf = true) (hb : (Lit.int .i64 b).wf = true) (hc : (Lit.int .i64 c).wf = true) : Tryz.prog.keyLits (d + 2) 37 [.int .i64 a, .int .i64 b, .int .i64 c] = some [.int .i64 a, .int .i64 b, .int .i64 c] := by
  have h1 := lits_int d a ha
  have h2 := lits_int d b hb
  have h3 := lits_int d c hc
  rw [show d + 2 = (d + 1) + 1 from rfl]
  unfold Program.keyLits
  rw [Tryz.underlying37]
  simp [cells23, cells3, h1, h2, h3]
theorem lits_out (d : Nat) (x : O) (h : x.wf) : Tryz.prog.keyLits (d + 3) 89 (encO x) = some [.int .i64 x.k, .int .i64 x.lk, .int .i64 x.lt, .int .i64 x.lv, .int .i64 x.rk, .int .i64 x.rt, .int .i64 x.rv, .bool x.hl, .bool x.hr] := by
  rw [show d + 3 = (d + 2) + 1 from rfl]
  have e1 := lits_int (d + 1) x.k h.k
  have e2 := lits_row d x.lk x.lt x.lv h.lk h.lt h.lv
  have e3 := lits_row d x.rk x.rt x.rv h.rk h.rt h.rv
  have e4 := lits_bool (d + 1) x.hl
  have e5 := lits_bool (d + 1) x.hr
  unfold Program.keyLits
  rw [Tryz.underlying89]
  simp [encO, cells27, cells3, cells4, cells23, e1, e2, e3, e4, e5]
def kL (x : O) : Lit := .string (keyBytes [.int .i64 x.k, .int .i64 x.lk, .int .i64 x.lt, .int .i64 x.lv, .int .i64 x.rk, .int .i64 x.rt, .int .i64 x.rv, .bool x.hl, .bool x.hr])
theorem key_of (x : O) (h : x.wf) : keyOf Tryz.prog 89 (vO x) = some (kL x) := by
  unfold keyOf
  rw [Tryz.underlying89]
  simp only [keyType27, Bool.true_and]
  rw [if_pos (by simp [vO, Value.formed, Tryz.underlying89, cells27])]
  rw [show Tryz.prog.types.size + 1 = (Tryz.prog.types.size - 2) + 3 by have : 2 ≤ Tryz.prog.types.size := of_decide_eq_true (by kernel_rfl); omega]
  rw [show (vO x).cells.toList = encO x from rfl, lits_out _ x h]
  rfl
theorem kL_inj {x y : O} (hx : x.wf) (hy : y.wf) (h : kL x = kL y) : x = y :=
  vO_inj (keyed.inj (key_of x hx) (by rw [h]; exact key_of y hy))
end Go.Proofs.YthfpipieboophaaGreatDoor
