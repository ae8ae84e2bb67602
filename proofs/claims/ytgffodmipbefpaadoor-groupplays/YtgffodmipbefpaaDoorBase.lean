/- Outs as records; their order; an Out as a map's key. -/
import Derived.Test.YtgffodmipbefpaaDoorOut
import Derived.Test.YtgffodmipbefpaaDoorMath
import Derived.Maps.OwnSet
import Derived.Maps.Views
import Derived.WideKeyEntry
import Derived.DeepKeys5
namespace Go.Proofs.YtgffodmipbefpaaDoor
open Go.RowKit Go.Sort
set_option maxRecDepth 100000

structure O where
  k : Int
  lk : Int
  lt : Int
  lv : Int
  rk : Int
  rt : Int
  rv : Int
  hl : Bool
  hr : Bool
  deriving DecidableEq, Inhabited

def cO (x y : O) : Int := orI [cmpI x.k y.k, cmpB x.hl y.hl, orI [cmpI x.lk y.lk, cmpI x.lt y.lt, cmpI x.lv y.lv], cmpB x.hr y.hr, orI [cmpI x.rk y.rk, cmpI x.rt y.rt, cmpI x.rv y.rv]]
def lO (x : O) : List Int := [x.k, oneI x.hl, x.lk, x.lt, x.lv, oneI x.hr, x.rk, x.rt, x.rv]
theorem cO_ord (x y : O) : cO x y = ordI (lO x) (lO y) := (cmp9 _ _ _ _ _ _ _ _ _ _ _ _ _ _ _ _ _ _).symm
theorem oneI_inj {a b : Bool} : oneI a = oneI b ↔ a = b := by cases a <;> cases b <;> simp [oneI]
theorem cO_is (x y : O) : cO x y = -1 ∨ cO x y = 0 ∨ cO x y = 1 := by rw [cO_ord]; exact ordI_is _ _
theorem cO_neg (x y : O) : cO y x = - cO x y := by rw [cO_ord, cO_ord]; exact ordI_neg _ _
theorem cO_zero (x y : O) : cO x y = 0 ↔ x = y := by
  rw [cO_ord, ordI_zero (lO x) (lO y) rfl]; simp only [lO, List.cons.injEq, oneI_inj, and_true]
  constructor
  · rintro ⟨a, b, c, d, e, f, g, h, i⟩; cases x; cases y; simp_all
  · rintro rfl; simp
theorem cO_trans (a b c : O) (h1 : cO a b ≤ 0) (h2 : cO b c ≤ 0) : cO a c ≤ 0 := by
  rw [cO_ord] at *; exact ordI_trans (lO a) (lO b) (lO c) rfl rfl h1 h2

/-- An Out's nine cells. -/
def encO (x : O) : List Value := [.int .i64 x.k, .int .i64 x.lk, .int .i64 x.lt, .int .i64 x.lv, .int .i64 x.rk, .int .i64 x.rt, .int .i64 x.rv, .bool x.hl, .bool x.hr]
def vO (x : O) : Value := .agg #[.int .i64 x.k, .int .i64 x.lk, .int .i64 x.lt, .int .i64 x.lv, .int .i64 x.rk, .int .i64 x.rt, .int .i64 x.rv, .bool x.hl, .bool x.hr]
theorem vO_enc (x : O) : vO x = .agg (encO x).toArray := rfl
theorem vO_inj {x y : O} (h : vO x = vO y) : x = y := by
  cases x; cases y; simp [vO] at h; simp [h]

/-- Its numbers are Go's ints. -/
structure O.wf (x : O) : Prop where
  k : (Lit.int .i64 x.k).wf = true
  lk : (Lit.int .i64 x.lk).wf = true
  lt : (Lit.int .i64 x.lt).wf = true
  lv : (Lit.int .i64 x.lv).wf = true
  rk : (Lit.int .i64 x.rk).wf = true
  rt : (Lit.int .i64 x.rt).wf = true
  rv : (Lit.int .i64 x.rv).wf = true

theorem laidOut : laidOutB Tryd.prog = true := by kernel_rfl
theorem cells23 : Tryd.prog.cellsOf 35 = 3 := by kernel_rfl
theorem cells27 : Tryd.prog.cellsOf 37 = 9 := by kernel_rfl
theorem cells3 : Tryd.prog.cellsOf 3 = 1 := by kernel_rfl
theorem cells4 : Tryd.prog.cellsOf 4 = 1 := by kernel_rfl

theorem law : WideMaps.KeyLaw Tryd.prog 37 := deep_law_laid laidOut (m := 3) (by omega) (of_decide_eq_true (by kernel_rfl)) (by kernel_rfl) (by rw [Tryd.underlying37])
theorem keyed : Maps.Keyed Tryd.prog 37 := Maps.Keyed.of_law law
theorem keyType27 : Tryd.prog.keyType 37 = true := by kernel_rfl

theorem lits_int (d : Nat) (a : Int) (h : (Lit.int .i64 a).wf = true) : Tryd.prog.keyLits (d + 1) 3 [.int .i64 a] = some [.int .i64 a] := by
  simp [Program.keyLits, Tryd.underlying3, h]
theorem lits_bool (d : Nat) (a : Bool) : Tryd.prog.keyLits (d + 1) 4 [.bool a] = some [.bool a] := by
  simp [Program.keyLits, Tryd.underlying4]
theorem lits_row (d : Nat) (a b c : Int) (ha : (Lit.int .i64 a).wf = true) (hb : (Lit.int .i64 b).wf = true) (hc : (Lit.int .i64 c).wf = true) : Tryd.prog.keyLits (d + 2) 35 [.int .i64 a, .int .i64 b, .int .i64 c] = some [.int .i64 a, .int .i64 b, .int .i64 c] := by
  have h1 := lits_int d a ha
  have h2 := lits_int d b hb
  have h3 := lits_int d c hc
  rw [show d + 2 = (d + 1) + 1 from rfl]
  unfold Program.keyLits
  rw [Tryd.underlying35]
  simp [cells23, cells3, h1, h2, h3]
theorem lits_out (d : Nat) (x : O) (h : x.wf) : Tryd.prog.keyLits (d + 3) 37 (encO x) = some [.int .i64 x.k, .int .i64 x.lk, .int .i64 x.lt, .int .i64 x.lv, .int .i64 x.rk, .int .i64 x.rt, .int .i64 x.rv, .bool x.hl, .bool x.hr] := by
  rw [show d + 3 = (d + 2) + 1 from rfl]
  have e1 := lits_int (d + 1) x.k h.k
  have e2 := lits_row d x.lk x.lt x.lv h.lk h.lt h.lv
  have e3 := lits_row d x.rk x.rt x.rv h.rk h.rt h.rv
  have e4 := lits_bool (d + 1) x.hl
  have e5 := lits_bool (d + 1) x.hr
  unfold Program.keyLits
  rw [Tryd.underlying37]
  simp [encO, cells27, cells3, cells4, cells23, e1, e2, e3, e4, e5]

/-- What an Out reads as, as a key. -/
def kL (x : O) : Lit := .string (keyBytes [.int .i64 x.k, .int .i64 x.lk, .int .i64 x.lt, .int .i64 x.lv, .int .i64 x.rk, .int .i64 x.rt, .int .i64 x.rv, .bool x.hl, .bool x.hr])
theorem key_of (x : O) (h : x.wf) : keyOf Tryd.prog 37 (vO x) = some (kL x) := by
  unfold keyOf
  rw [Tryd.underlying37]
  simp only [keyType27, Bool.true_and]
  rw [if_pos (by simp [vO, Value.formed, Tryd.underlying37, cells27])]
  rw [show Tryd.prog.types.size + 1 = (Tryd.prog.types.size - 2) + 3 by have : 2 ≤ Tryd.prog.types.size := of_decide_eq_true (by kernel_rfl); omega]
  rw [show (vO x).cells.toList = encO x from rfl, lits_out _ x h]
  rfl
theorem kL_inj {x y : O} (hx : x.wf) (hy : y.wf) (h : kL x = kL y) : x = y :=
  vO_inj (keyed.inj (key_of x hx) (by rw [h]; exact key_of y hy))

end Go.Proofs.YtgffodmipbefpaaDoor
