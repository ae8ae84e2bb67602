/- What came in, as values: a row, a plan: three numbers; an Out: nine cells. -/
import Derived.Test.YtedojilgkdcaoaaGood
namespace Go.Proofs.Ytedojilgkdcaoaa
open Go.ChangeShapes Go.WideShapes Go.ChangeAt Go.RowKit Go.Joins Go.Deep

theorem own : ownKnob Try.prog.godebug = none := by kernel_rfl
theorem laidOut : laidOutB Try.prog = true := by kernel_rfl
theorem cells23 : Try.prog.cellsOf 23 = 3 := by kernel_rfl
theorem cells31 : Try.prog.cellsOf 31 = 3 := by kernel_rfl
theorem cells27 : Try.prog.cellsOf 27 = 9 := by kernel_rfl
theorem cells3 : Try.prog.cellsOf 3 = 1 := by kernel_rfl
theorem cells4 : Try.prog.cellsOf 4 = 1 := by kernel_rfl

theorem open_row {H : Type} {enc : TypeId × Value → H} {W : World} {base b : Nat} {spare : Nat → Bool} {held : Bool} {r : Reach} {v : Value} {d : DataW H} {p : List MemPlace}
    (hv : Value.okWide Try.prog W r b 23 v) (h : DataW.Trod enc Try.prog W base spare held 23 v d p) :
    ∃ k t x : Int, v = .agg #[.int .i64 k, .int .i64 t, .int .i64 x] := by
  obtain ⟨c0, c1, c2, y0, y1, y2, n, rfl, _, _, h0, h1, h2⟩ := open_agg3 Try.underlying23 (by kernel_rfl) cells23 hv h
  obtain ⟨a0, e0, _, _⟩ := DataW.trod_int Try.underlying3 h0
  obtain ⟨a1, e1, _, _⟩ := DataW.trod_int Try.underlying3 h1
  obtain ⟨a2, e2, _, _⟩ := DataW.trod_int Try.underlying3 h2
  simp at e0 e1 e2
  subst e0 e1 e2
  exact ⟨a0, a1, a2, rfl⟩

theorem open_plan {H : Type} {enc : TypeId × Value → H} {W : World} {base b : Nat} {spare : Nat → Bool} {held : Bool} {r : Reach} {v : Value} {d : DataW H} {p : List MemPlace}
    (hv : Value.okWide Try.prog W r b 31 v) (h : DataW.Trod enc Try.prog W base spare held 31 v d p) :
    ∃ k t x : Int, v = .agg #[.int .i64 k, .int .i64 t, .int .i64 x] := by
  obtain ⟨c0, c1, c2, y0, y1, y2, n, rfl, _, _, h0, h1, h2⟩ := open_agg3 Try.underlying31 (by kernel_rfl) cells31 hv h
  obtain ⟨a0, e0, _, _⟩ := DataW.trod_int Try.underlying3 h0
  obtain ⟨a1, e1, _, _⟩ := DataW.trod_int Try.underlying3 h1
  obtain ⟨a2, e2, _, _⟩ := DataW.trod_int Try.underlying3 h2
  simp at e0 e1 e2
  subst e0 e1 e2
  exact ⟨a0, a1, a2, rfl⟩

theorem list9 {α : Type} {l : List α} (h : l.length = 9) : ∃ a b c d e f g i j, l = [a, b, c, d, e, f, g, i, j] := by
  match l, h with
  | [a, b, c, d, e, f, g, i, j], _ => exact ⟨a, b, c, d, e, f, g, i, j, rfl⟩

theorem open_out {H : Type} {enc : TypeId × Value → H} {W : World} {base b : Nat} {spare : Nat → Bool} {held : Bool} {r : Reach} {v : Value} {d : DataW H} {p : List MemPlace}
    (hv : Value.okWide Try.prog W r b 27 v) (h : DataW.Trod enc Try.prog W base spare held 27 v d p) :
    ∃ (k lk lt lv rk rt rv : Int) (hl hr : Bool), v = .agg #[.int .i64 k, .int .i64 lk, .int .i64 lt, .int .i64 lv, .int .i64 rk, .int .i64 rt, .int .i64 rv, .bool hl, .bool hr] := by
  obtain ⟨cs, rfl, hsz⟩ := okWide_struct Try.underlying27 hv
  obtain ⟨l⟩ := cs
  obtain ⟨c0, c1, c2, c3, c4, c5, c6, c7, c8, rfl⟩ := list9 (l := l) (by simpa using hsz.trans cells27)
  obtain ⟨fuel, hf⟩ := h
  obtain ⟨xs, n, _, _, _, hlen, hfs⟩ := DataW.trod_struct Try.underlying27 hf
  match xs, hlen with
  | [y0, y1, y2, y3, y4], _ =>
    have f0 := hfs 0 _ rfl
    have f1 := hfs 1 _ rfl
    have f2 := hfs 2 _ rfl
    have f3 := hfs 3 _ rfl
    have f4 := hfs 4 _ rfl
    simp [Value.cells, cells3, cells4, cells23] at f0 f1 f2 f3 f4
    obtain ⟨a0, e0, _, _⟩ := DataW.trod_int Try.underlying3 f0
    obtain ⟨z0, z1, z2, m, _, _, g0, g1, g2⟩ := trod_struct3 Try.underlying23 f1
    obtain ⟨z3, z4, z5, m', _, _, g3, g4, g5⟩ := trod_struct3 Try.underlying23 f2
    simp [cells3] at g0 g1 g2 g3 g4 g5
    obtain ⟨a1, e1, _, _⟩ := DataW.trod_int Try.underlying3 g0
    obtain ⟨a2, e2, _, _⟩ := DataW.trod_int Try.underlying3 g1
    obtain ⟨a3, e3, _, _⟩ := DataW.trod_int Try.underlying3 g2
    obtain ⟨a4, e4, _, _⟩ := DataW.trod_int Try.underlying3 g3
    obtain ⟨a5, e5, _, _⟩ := DataW.trod_int Try.underlying3 g4
    obtain ⟨a6, e6, _, _⟩ := DataW.trod_int Try.underlying3 g5
    obtain ⟨a7, e7, _⟩ := DataW.trod_bool Try.underlying4 f3
    obtain ⟨a8, e8, _⟩ := DataW.trod_bool Try.underlying4 f4
    simp at e0 e1 e2 e3 e4 e5 e6 e7 e8
    subst e0 e1 e2 e3 e4 e5 e6 e7 e8
    exact ⟨a0, a1, a2, a3, a4, a5, a6, a7, a8, rfl⟩

theorem places_lt {H : Type} {enc : TypeId × Value → H} {W : World} {base : Nat} {spare : Nat → Bool} {held : Bool} {t : TypeId} {v : Value} {d : DataW H} {p : List MemPlace}
    (h : DataW.Trod enc Try.prog W base spare held t v d p) : ∀ x ∈ p, x.block < W.heap.size := by
  obtain ⟨m, hm⟩ := h; exact DataW.trod_lt m _ _ _ hm

end Go.Proofs.Ytedojilgkdcaoaa
