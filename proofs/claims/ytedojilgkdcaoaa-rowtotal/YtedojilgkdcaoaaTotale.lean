/- Two rows, two Outs, held against each other by Go's own sign of equality. -/
import Derived.Test.YtedojilgkdcaoaaTotalg
namespace Go.Proofs.Ytedojilgkdcaoaa
open Go.RowKit Go.Sort

def eR (a b : R) : Bool := decide (cR a b = 0)
def eO (x y : O) : Bool := decide (cO x y = 0)

theorem eq_row (a b : R) (w : World) : (binOp .eql 23 (.agg #[.int .i64 a.k, .int .i64 a.t, .int .i64 a.v]) (.agg #[.int .i64 b.k, .int .i64 b.t, .int .i64 b.v])).run Try.prog w = .ok (.bool (eR a b)) w := by
  have e : eR a b = (a.k == b.k && (a.t == b.t && (a.v == b.v))) := by
    unfold eR; rw [Bool.eq_iff_iff]; simp [cR_zero]
  rw [e]
  by_cases hk : a.k = b.k
  · by_cases ht : a.t = b.t
    · by_cases hv : a.v = b.v
      · go_simp
      · go_simp
    · go_simp
  · go_simp

theorem eq_out (x y : O) (w : World) : (binOp .eql 27 (.agg #[.int .i64 x.k, .int .i64 x.lk, .int .i64 x.lt, .int .i64 x.lv, .int .i64 x.rk, .int .i64 x.rt, .int .i64 x.rv, .bool x.hl, .bool x.hr]) (.agg #[.int .i64 y.k, .int .i64 y.lk, .int .i64 y.lt, .int .i64 y.lv, .int .i64 y.rk, .int .i64 y.rt, .int .i64 y.rv, .bool y.hl, .bool y.hr])).run Try.prog w = .ok (.bool (eO x y)) w := by
  have e : eO x y = (x.k == y.k && (x.lk == y.lk && (x.lt == y.lt && (x.lv == y.lv && (x.rk == y.rk && (x.rt == y.rt && (x.rv == y.rv && (x.hl == y.hl && (x.hr == y.hr))))))))) := by
    unfold eO; rw [Bool.eq_iff_iff]; simp [cO_zero]
  rw [e]
  by_cases hk : x.k = y.k
  · by_cases hlk : x.lk = y.lk
    · by_cases hlt : x.lt = y.lt
      · by_cases hlv : x.lv = y.lv
        · by_cases hrk : x.rk = y.rk
          · by_cases hrt : x.rt = y.rt
            · by_cases hrv : x.rv = y.rv
              · by_cases hhl : x.hl = y.hl
                · by_cases hhr : x.hr = y.hr
                  · go_simp
                  · go_simp
                · go_simp
              · go_simp
            · go_simp
          · go_simp
        · go_simp
      · go_simp
    · go_simp
  · go_simp

end Go.Proofs.Ytedojilgkdcaoaa
