/- RowTotal's ground: rows and Outs as records; what lies in the boxes; the order's laws in the walk's own words. -/
import Derived.Test.YtedojilgkdcaoaaTotalw
namespace Go.Proofs.Ytedojilgkdcaoaa
open Go.RowKit Go.Sort

structure R where
  k : Int
  t : Int
  v : Int
structure O where
  k : Int
  lk : Int
  lt : Int
  lv : Int
  rk : Int
  rt : Int
  rv : Int
  hl : Bool
  hr : Bool

def cR (a b : R) : Int := orI [cmpI a.k b.k, cmpI a.t b.t, cmpI a.v b.v]
def cO (x y : O) : Int := orI [cmpI x.k y.k, cmpB x.hl y.hl, orI [cmpI x.lk y.lk, cmpI x.lt y.lt, cmpI x.lv y.lv], cmpB x.hr y.hr, orI [cmpI x.rk y.rk, cmpI x.rt y.rt, cmpI x.rv y.rv]]
def lR (a : R) : List Int := [a.k, a.t, a.v]
def lO (x : O) : List Int := [x.k, oneI x.hl, x.lk, x.lt, x.lv, oneI x.hr, x.rk, x.rt, x.rv]
theorem cR_ord (a b : R) : cR a b = ordI (lR a) (lR b) := (cmp3 _ _ _ _ _ _).symm
theorem cO_ord (x y : O) : cO x y = ordI (lO x) (lO y) := (cmp9 _ _ _ _ _ _ _ _ _ _ _ _ _ _ _ _ _ _).symm

theorem oneI_inj {a b : Bool} : oneI a = oneI b ↔ a = b := by cases a <;> cases b <;> simp [oneI]

theorem cR_is (a b : R) : cR a b = -1 ∨ cR a b = 0 ∨ cR a b = 1 := by rw [cR_ord]; exact ordI_is _ _
theorem cO_is (x y : O) : cO x y = -1 ∨ cO x y = 0 ∨ cO x y = 1 := by rw [cO_ord]; exact ordI_is _ _
theorem cR_neg (a b : R) : cR b a = - cR a b := by rw [cR_ord, cR_ord]; exact ordI_neg _ _
theorem cO_neg (x y : O) : cO y x = - cO x y := by rw [cO_ord, cO_ord]; exact ordI_neg _ _
theorem cR_zero (a b : R) : cR a b = 0 ↔ (a.k = b.k ∧ a.t = b.t ∧ a.v = b.v) := by
  rw [cR_ord, ordI_zero (lR a) (lR b) rfl]; simp [lR]
theorem cO_zero (x y : O) : cO x y = 0 ↔ (x.k = y.k ∧ x.lk = y.lk ∧ x.lt = y.lt ∧ x.lv = y.lv ∧ x.rk = y.rk ∧ x.rt = y.rt ∧ x.rv = y.rv ∧ x.hl = y.hl ∧ x.hr = y.hr) := by
  rw [cO_ord, ordI_zero (lO x) (lO y) rfl]; simp only [lO, List.cons.injEq, oneI_inj, and_true]
  constructor
  · rintro ⟨a, b, c, d, e, f, g, h, i⟩; exact ⟨a, c, d, e, g, h, i, b, f⟩
  · rintro ⟨a, c, d, e, g, h, i, b, f⟩; exact ⟨a, b, c, d, e, f, g, h, i⟩
theorem cR_trans (a b c : R) (h1 : cR a b ≤ 0) (h2 : cR b c ≤ 0) : cR a c ≤ 0 := by
  rw [cR_ord] at *; exact ordI_trans (lR a) (lR b) (lR c) rfl rfl h1 h2
theorem cO_trans (a b c : O) (h1 : cO a b ≤ 0) (h2 : cO b c ≤ 0) : cO a c ≤ 0 := by
  rw [cO_ord] at *; exact ordI_trans (lO a) (lO b) (lO c) rfl rfl h1 h2

theorem compare_r (a b : R) (w : World) : Calls Try.prog 8 #[.agg #[.int .i64 a.k, .int .i64 a.t, .int .i64 a.v], .agg #[.int .i64 b.k, .int .i64 b.t, .int .i64 b.v]] w fun e w' => e = .returned (.int .i64 (cR a b)) ∧ Below w.heap.size w w' := compare_any a.k a.t a.v b.k b.t b.v w
theorem outs_r (x y : O) (w : World) : Calls Try.prog 12 #[.agg #[.int .i64 x.k, .int .i64 x.lk, .int .i64 x.lt, .int .i64 x.lv, .int .i64 x.rk, .int .i64 x.rt, .int .i64 x.rv, .bool x.hl, .bool x.hr], .agg #[.int .i64 y.k, .int .i64 y.lk, .int .i64 y.lt, .int .i64 y.lv, .int .i64 y.rk, .int .i64 y.rt, .int .i64 y.rv, .bool y.hl, .bool y.hr]] w fun e w' => e = .returned (.int .i64 (cO x y)) ∧ Below w.heap.size w w' := outs_any x.k x.lk x.lt x.lv x.rk x.rt x.rv y.k y.lk y.lt y.lv y.rk y.rt y.rv x.hl x.hr y.hl y.hr w

theorem boxes (a b c : R) (x y z : O) (w w1 : World) (hb : Below (w.heap.size + 1 + 1 + 1 + 1 + 1 + 1) ((((((w.alloc (.cells #[.int .i64 a.k, .int .i64 a.t, .int .i64 a.v] 23)).alloc (.cells #[.int .i64 b.k, .int .i64 b.t, .int .i64 b.v] 23)).alloc (.cells #[.int .i64 c.k, .int .i64 c.t, .int .i64 c.v] 23)).alloc (.cells #[.int .i64 x.k, .int .i64 x.lk, .int .i64 x.lt, .int .i64 x.lv, .int .i64 x.rk, .int .i64 x.rt, .int .i64 x.rv, .bool x.hl, .bool x.hr] 27)).alloc (.cells #[.int .i64 y.k, .int .i64 y.lk, .int .i64 y.lt, .int .i64 y.lv, .int .i64 y.rk, .int .i64 y.rt, .int .i64 y.rv, .bool y.hl, .bool y.hr] 27)).alloc (.cells #[.int .i64 z.k, .int .i64 z.lk, .int .i64 z.lt, .int .i64 z.lv, .int .i64 z.rk, .int .i64 z.rt, .int .i64 z.rv, .bool z.hl, .bool z.hr] 27)) w1) :
    w1.cell? ⟨w.heap.size, 0, none⟩ = some (.int .i64 a.k) ∧ w1.cell? ⟨w.heap.size, 1, none⟩ = some (.int .i64 a.t) ∧ w1.cell? ⟨w.heap.size, 2, none⟩ = some (.int .i64 a.v) ∧ w1.cell? ⟨w.heap.size + 1, 0, none⟩ = some (.int .i64 b.k) ∧ w1.cell? ⟨w.heap.size + 1, 1, none⟩ = some (.int .i64 b.t) ∧ w1.cell? ⟨w.heap.size + 1, 2, none⟩ = some (.int .i64 b.v) ∧ w1.cell? ⟨w.heap.size + 1 + 1, 0, none⟩ = some (.int .i64 c.k) ∧ w1.cell? ⟨w.heap.size + 1 + 1, 1, none⟩ = some (.int .i64 c.t) ∧ w1.cell? ⟨w.heap.size + 1 + 1, 2, none⟩ = some (.int .i64 c.v) ∧ w1.cell? ⟨w.heap.size + 1 + 1 + 1, 0, none⟩ = some (.int .i64 x.k) ∧ w1.cell? ⟨w.heap.size + 1 + 1 + 1, 1, none⟩ = some (.int .i64 x.lk) ∧ w1.cell? ⟨w.heap.size + 1 + 1 + 1, 2, none⟩ = some (.int .i64 x.lt) ∧ w1.cell? ⟨w.heap.size + 1 + 1 + 1, 3, none⟩ = some (.int .i64 x.lv) ∧ w1.cell? ⟨w.heap.size + 1 + 1 + 1, 4, none⟩ = some (.int .i64 x.rk) ∧ w1.cell? ⟨w.heap.size + 1 + 1 + 1, 5, none⟩ = some (.int .i64 x.rt) ∧ w1.cell? ⟨w.heap.size + 1 + 1 + 1, 6, none⟩ = some (.int .i64 x.rv) ∧ w1.cell? ⟨w.heap.size + 1 + 1 + 1, 7, none⟩ = some (.bool x.hl) ∧ w1.cell? ⟨w.heap.size + 1 + 1 + 1, 8, none⟩ = some (.bool x.hr) ∧ w1.cell? ⟨w.heap.size + 1 + 1 + 1 + 1, 0, none⟩ = some (.int .i64 y.k) ∧ w1.cell? ⟨w.heap.size + 1 + 1 + 1 + 1, 1, none⟩ = some (.int .i64 y.lk) ∧ w1.cell? ⟨w.heap.size + 1 + 1 + 1 + 1, 2, none⟩ = some (.int .i64 y.lt) ∧ w1.cell? ⟨w.heap.size + 1 + 1 + 1 + 1, 3, none⟩ = some (.int .i64 y.lv) ∧ w1.cell? ⟨w.heap.size + 1 + 1 + 1 + 1, 4, none⟩ = some (.int .i64 y.rk) ∧ w1.cell? ⟨w.heap.size + 1 + 1 + 1 + 1, 5, none⟩ = some (.int .i64 y.rt) ∧ w1.cell? ⟨w.heap.size + 1 + 1 + 1 + 1, 6, none⟩ = some (.int .i64 y.rv) ∧ w1.cell? ⟨w.heap.size + 1 + 1 + 1 + 1, 7, none⟩ = some (.bool y.hl) ∧ w1.cell? ⟨w.heap.size + 1 + 1 + 1 + 1, 8, none⟩ = some (.bool y.hr) ∧ w1.cell? ⟨w.heap.size + 1 + 1 + 1 + 1 + 1, 0, none⟩ = some (.int .i64 z.k) ∧ w1.cell? ⟨w.heap.size + 1 + 1 + 1 + 1 + 1, 1, none⟩ = some (.int .i64 z.lk) ∧ w1.cell? ⟨w.heap.size + 1 + 1 + 1 + 1 + 1, 2, none⟩ = some (.int .i64 z.lt) ∧ w1.cell? ⟨w.heap.size + 1 + 1 + 1 + 1 + 1, 3, none⟩ = some (.int .i64 z.lv) ∧ w1.cell? ⟨w.heap.size + 1 + 1 + 1 + 1 + 1, 4, none⟩ = some (.int .i64 z.rk) ∧ w1.cell? ⟨w.heap.size + 1 + 1 + 1 + 1 + 1, 5, none⟩ = some (.int .i64 z.rt) ∧ w1.cell? ⟨w.heap.size + 1 + 1 + 1 + 1 + 1, 6, none⟩ = some (.int .i64 z.rv) ∧ w1.cell? ⟨w.heap.size + 1 + 1 + 1 + 1 + 1, 7, none⟩ = some (.bool z.hl) ∧ w1.cell? ⟨w.heap.size + 1 + 1 + 1 + 1 + 1, 8, none⟩ = some (.bool z.hr) := by
  have h := fun (B o : Nat) (hB : B < w.heap.size + 1 + 1 + 1 + 1 + 1 + 1) => hb.cell (p := ⟨B, o, none⟩) hB
  simp (disch := omega) only [h]
  simp (disch := first | omega | (simp only [World.size_alloc]; done) | (simp only [World.size_alloc]; omega)) only [World.cell?_alloc_past, World.cell?_alloc_at]
  simp

end Go.Proofs.Ytedojilgkdcaoaa
