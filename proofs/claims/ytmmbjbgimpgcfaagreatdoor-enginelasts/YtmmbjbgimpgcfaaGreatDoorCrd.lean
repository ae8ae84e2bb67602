/- What every card of this seat needs: a world in which the listed variables are laid; steps and numbers as they come in; what the proof reads of the variables. -/
import Derived.Test.YtmmbjbgimpgcfaaGreatDoorRows
import Derived.Test.YtmmbjbgimpgcfaaGreatDoorLdx
import Derived.Test.YtmmbjbgimpgcfaaGreatDoorEnf
import Derived.Test.YtmmbjbgimpgcfaaGreatDoorCards
import Derived.Test.YtmmbjbgimpgcfaaGreatDoorTie
import Derived.ProofKit
import Derived.ChangeSame
import Derived.ChangeVars
import Derived.JoinedOf
import Derived.LaidLaws
import Derived.LaidHandle
import Derived.Lay
import Derived.Stop.Joined
import Derived.JoinedCond
import Derived.Deep.DeepHandedRow
import Derived.Carry
import Derived.Deep.Slices
import Derived.SevenTiedAt
import Derived.Lib.LaidU8
import Derived.Shelf.Vars
namespace Go.Proofs.YtmmbjbgimpgcfaaGreatDoor
open Go.ChangeShapes Go.WideShapes Go.ChangeAt Go.RowKit Go.Deep Go.Joins
set_option linter.unusedVariables false
set_option maxRecDepth 100000

theorem own : ownKnob Tryz.prog.godebug = none := by kernel_rfl

abbrev laid7 : List (String × DataW Unit) := [("math/bits.deBruijn32tab", Rows.laid_math_bits_deBruijn32tab), ("math/bits.deBruijn64tab", Rows.laid_math_bits_deBruijn64tab), ("internal/strconv.uint64pow10", Rows.laid_internal_strconv_uint64pow10), ("unicode/utf8.acceptRanges", Rows.laid_unicode_utf8_acceptRanges), ("strconv.ErrRange", Rows.laid_strconv_ErrRange), ("strconv.ErrSyntax", Rows.laid_strconv_ErrSyntax), ("unicode/utf8.first", Rows.laid_unicode_utf8_first)]
abbrev laid8 : List (String × DataW Unit) := [("math/bits.deBruijn32tab", Rows.laid_math_bits_deBruijn32tab), ("math/bits.deBruijn64tab", Rows.laid_math_bits_deBruijn64tab), ("internal/strconv.uint64pow10", Rows.laid_internal_strconv_uint64pow10), ("unicode/utf8.acceptRanges", Rows.laid_unicode_utf8_acceptRanges), ("errors.errorType", Rows.laid_errors_errorType), ("strconv.ErrRange", Rows.laid_strconv_ErrRange), ("strconv.ErrSyntax", Rows.laid_strconv_ErrSyntax), ("unicode/utf8.first", Rows.laid_unicode_utf8_first)]

/-- A world in which errors.errorType is laid. -/
def handleWorld (P : Program) (os : Os) : World :=
  let w0 := World.holding P os ⟨#[], #[], []⟩
  { w0 with heap := w0.heap.modify 0 fun
      | .cells _ t frozen => .cells #[.iface 188 (.agg #[.pointer (some ⟨9, 63, none⟩)])] t frozen
      | o => o }
/-- A world in which all of them are. -/
def laidWorld (P : Program) (os : Os) : World := (handleWorld P os).layVars P laid7
theorem laidMet_over {P : Program} {w0 w' : World} {laid : List (String × DataW Unit)} (hh : w'.heap = (w0.layVars P laid).heap) (hf : w0.layFits P laid [] = true) (hi : w0.layIfaces P laid w' = true) : laidMet P laid w' := by
  have e1 : (laid.filter fun x => (laid.map (·.1)).contains x.1) = laid := List.filter_eq_self.2 fun x hx => List.contains_iff_mem.2 (List.mem_map.2 ⟨x, hx, rfl⟩)
  have e2 : (laid.filter fun x => !(laid.map (·.1)).contains x.1) = [] := List.filter_eq_nil_iff.2 fun x hx => by rw [List.contains_iff_mem.2 (List.mem_map.2 ⟨x, hx, rfl⟩)]; simp
  exact laidMet_layVars (w0 := w0) (laid.map (·.1)) [] (by rw [e1]; exact hh) (by rw [e1]; exact hf) (by rw [e1]; exact hi) (by rw [e2]; exact LaidIn.none)
theorem laidWorld_os (os : Os) : (laidWorld Tryz.prog os).os = os := World.layVars_os _ _ _
theorem laidWorld7 (os : Os) : laidMet Tryz.prog laid7 (laidWorld Tryz.prog os) := laidMet_over (w0 := handleWorld Tryz.prog os) rfl (by kernel_rfl) (by kernel_rfl)
theorem laidWorld_met (os : Os) (args : Array Value) : laidMetH Tryz.prog laid8 ((laidWorld Tryz.prog os).forCall (fun _ _ => 0) ⟨#[], args, []⟩).memory :=
  laidMetH_of_parts ((laidWorld7 os).of_heap (by simp [World.memory, World.forCall, Input.heap])) (by kernel_rfl)

theorem places_lt {H : Type} {enc : TypeId × Value → H} {W : World} {base : Nat} {spare : Nat → Bool} {held : Bool} {t : TypeId} {v : Value} {d : DataW H} {p : List MemPlace}
    (h : DataW.Trod enc Tryz.prog W base spare held t v d p) : ∀ x ∈ p, x.block < W.heap.size := by
  obtain ⟨m, hm⟩ := h; exact DataW.trod_lt m _ _ _ hm

theorem cellsSt : Tryz.prog.cellsOf 28 = 6 := by kernel_rfl
theorem cellsI : Tryz.prog.cellsOf 3 = 1 := by kernel_rfl
theorem list6 {α : Type} {l : List α} (h : l.length = 6) : ∃ a b c d e f, l = [a, b, c, d, e, f] := by
  match l, h with
  | [a, b, c, d, e, f], _ => exact ⟨a, b, c, d, e, f, rfl⟩
theorem open_cells6 {H : Type} {enc : TypeId × Value → H} {W : World} {base fuel : Nat} {spare : Nat → Bool} {held : Bool} {cs : List Value} {y : DataW H × List MemPlace} (hl : cs.length = 6)
    (hf : DataW.trod enc Tryz.prog W base spare held fuel 28 cs = some y) : ∃ q : St, cs = encS q := by
  obtain ⟨c0, c1, c2, c3, c4, c5, rfl⟩ := list6 hl
  obtain ⟨xs, n, _, _, _, hlen, hfs⟩ := DataW.trod_struct Tryz.underlying28 hf
  match xs, hlen with
  | [y0, y1, y2, y3, y4, y5], _ =>
    have f0 := hfs 0 _ rfl
    have f1 := hfs 1 _ rfl
    have f2 := hfs 2 _ rfl
    have f3 := hfs 3 _ rfl
    have f4 := hfs 4 _ rfl
    have f5 := hfs 5 _ rfl
    simp [cellsI] at f0 f1 f2 f3 f4 f5
    obtain ⟨a0, e0, _, w0⟩ := DataW.trod_int Tryz.underlying3 f0
    obtain ⟨a1, e1, _, w1⟩ := DataW.trod_int Tryz.underlying3 f1
    obtain ⟨a2, e2, _, w2⟩ := DataW.trod_int Tryz.underlying3 f2
    obtain ⟨a3, e3, _, w3⟩ := DataW.trod_int Tryz.underlying3 f3
    obtain ⟨a4, e4, _, w4⟩ := DataW.trod_int Tryz.underlying3 f4
    obtain ⟨a5, e5, _, w5⟩ := DataW.trod_int Tryz.underlying3 f5
    simp at e0 e1 e2 e3 e4 e5
    subst e0 e1 e2 e3 e4 e5
    exact ⟨⟨a0, a1, a2, a3, a4, a5⟩, rfl⟩

/-- Steps as they came in. -/
theorem arg_steps {H : Type} {enc : TypeId × Value → H} {W : World} {oa : Option Addr} {n c : Nat} {d : DataW H} {p : List MemPlace}
    (h : DataW.Trod enc Tryz.prog W 0 (fun _ => true) true 22 (.slice oa n c) d p) : (oa = none ∧ n = 0) ∨ ∃ (a : Addr) (Ls : List St), oa = some a ∧ Ls.length = n ∧ ∀ j u, (Ls.flatMap encS)[j]? = some u → W.cell? (a.add j) = some u := by
  obtain ⟨fuel, hf⟩ := h
  have hf' : DataW.trod enc Tryz.prog W 0 (fun _ => true) true fuel 22 [.slice oa n c] = some (d, p) := hf
  rcases open_slice Tryz.underlying22 hf' with ⟨h1, _⟩ | ⟨a, len, cap, m, q, D, Pl, hcs, _, hl, _, hm, _, hall⟩
  · simp at h1
    exact .inl ⟨h1.1, h1.2.1⟩
  · simp only [List.cons.injEq, Value.slice.injEq, and_true] at hcs
    obtain ⟨rfl, rfl, rfl⟩ := hcs
    simp at hm
    subst hm
    rw [cellsSt] at hall
    have hx : ∀ i, i < n → ∃ y : St, W.cells? 0 (a.add (i * 6)) 6 = some (encS y) := fun i hi => by
      obtain ⟨cs, h1, h2⟩ := hall i (by omega)
      obtain ⟨y, rfl⟩ := open_cells6 (World.cells?_some h1).2.1 h2
      exact ⟨y, h1⟩
    obtain ⟨S, hS⟩ := choose_lt (α := St) (p := fun i y => W.cells? 0 (a.add (i * 6)) 6 = some (encS y)) hx
    refine .inr ⟨a, (List.range n).map S, rfl, by simp, fun j u hu => ?_⟩
    have hj : j < (((List.range n).map S).flatMap encS).length := (List.getElem?_eq_some_iff.1 hu).1
    rw [flatS_len, List.length_map, List.length_range] at hj
    have hk : j / 6 < n := by omega
    have hq : ((List.range n).map S)[j / 6]? = some (S (j / 6)) := by simp [hk]
    have h1 := flatS_get ((List.range n).map S) (j / 6) (j % 6) _ hq (by omega)
    rw [show j / 6 * 6 + j % 6 = j by omega, hu] at h1
    have h2 := (World.cells?_some (hS (j / 6) hk)).2.2 (j % 6) (by omega)
    rw [← h1, Addr.add_add, show j / 6 * 6 + j % 6 = j by omega] at h2
    exact h2

/-- Numbers as they came in. -/
theorem arg_ints {H : Type} {enc : TypeId × Value → H} {W : World} {oa : Option Addr} {n c : Nat} {d : DataW H} {p : List MemPlace}
    (h : DataW.Trod enc Tryz.prog W 0 (fun _ => true) true 43 (.slice oa n c) d p) (hn : 0 < n) : ∃ b off, oa = some ⟨b, off, none⟩ ∧ b < W.heap.size ∧ ∀ k, k < n → ∃ a, W.cell? ⟨b, off + k, none⟩ = some (.int .i64 a) := by
  obtain ⟨fuel, hf⟩ := h
  have hf' : DataW.trod enc Tryz.prog W 0 (fun _ => true) true fuel 43 [.slice oa n c] = some (d, p) := hf
  rcases open_slice1 Tryz.underlying43 cellsI hf' with ⟨h1, _⟩ | ⟨a, len, cap, m, q, V, D, Pl, hcs, _, hl, _, hm, _, hall⟩
  · simp at h1; omega
  · simp only [List.cons.injEq, Value.slice.injEq, and_true] at hcs
    obtain ⟨rfl, rfl, rfl⟩ := hcs
    simp at hm
    subst hm
    have hx : ∀ i, i < n → ∃ z, W.cell? (a.add i) = some (.int .i64 z) := fun i hi => by
      obtain ⟨h1, h2⟩ := hall i (by omega)
      obtain ⟨z, e, _, _⟩ := DataW.trod_int Tryz.underlying3 h2
      simp at e
      rw [h1, e]
      exact ⟨z, rfl⟩
    obtain ⟨b, off, spot⟩ := a
    obtain ⟨z0, h0⟩ := hx 0 hn
    have hspot : spot = none := by
      simp [Addr.add] at h0
      simpa using World.cell?_spot h0
    subst hspot
    refine ⟨b, off, rfl, World.block_lt_of_cell? _ _ h0, fun k hk => ?_⟩
    obtain ⟨z, hz⟩ := hx k hk
    refine ⟨z, ?_⟩
    have : (⟨b, off, none⟩ : Addr).add k = ⟨b, off + k, none⟩ := by unfold Addr.add; split <;> simp_all
    rw [this] at hz
    exact hz


theorem errType_is : Tryz.prog.globalNamed "errors.errorType" = some 0 := by kernel_rfl
theorem rtype_is : (Tryz.prog.cutTypes.find? (·.1 == "internal/reflectlite.rtype")).map (·.2) = some 188 := by kernel_rfl
theorem oneRow : ((List.range 315).filter fun t => Tryz.prog.rowNamed t [101, 114, 114, 111, 114]) = [63] := by kernel_rfl
theorem types_size : Tryz.prog.types.size = 315 := by kernel_rfl

/-- What the proof reads of the listed variables. -/
theorem glob_of_laid {W : World} (h : laidMetH Tryz.prog laid8 W) (hs : W.ShapedOpen Tryz.prog) : Glob W := by
  have h' : laidMet Tryz.prog laid7 W ∧ handlesMet Tryz.prog [("errors.errorType", Rows.laid_errors_errorType)] W := h
  refine ⟨?_, ?_, ?_⟩
  · obtain ⟨name, u, ty, e1, e2, e3, e4, e5⟩ := h'.2 _ (List.mem_singleton.2 rfl)
    have en : name = [101, 114, 114, 111, 114] := (Option.some.inj e1).symm
    subst en
    obtain rfl := Option.some.inj (rtype_is.symm.trans e2)
    have hm : ty ∈ (List.range 315).filter fun t => Tryz.prog.rowNamed t [101, 114, 114, 111, 114] := List.mem_filter.2 ⟨List.mem_range.2 (by rw [← types_size]; exact e3), e4⟩
    rw [oneRow] at hm
    obtain rfl := List.mem_singleton.1 hm
    have hh : typeHandle Tryz.prog 63 = .pointer (some ⟨9, 63, none⟩) := by kernel_rfl
    rw [hh] at e5
    have hq := World.var?_cell errType_is e5 0
    unfold errT
    simpa using hq
  · have hm : (("internal/strconv.uint64pow10", Rows.laid_internal_strconv_uint64pow10) : String × DataW Unit) ∈ laid7 := .tail _ (.tail _ (.head _))
    obtain ⟨g, t, cs, fuel, p, h1, h2, h3, h4⟩ := Lib.laidMet.reads h'.1 hm
    have hg : g = 1 := Option.some.inj (h1.symm.trans (show Tryz.prog.globalNamed "internal/strconv.uint64pow10" = some 1 by kernel_rfl))
    subst hg
    have ht : t = 265 := Option.some.inj (h2.symm.trans (show (Tryz.prog.globals[1]?).map (·.type) = some 265 by kernel_rfl))
    subst ht
    have e : Rows.laid_internal_strconv_uint64pow10 = Lib.tabData (H := Unit) .u64 Lib.pow10Tab := by kernel_rfl
    rw [e] at h4
    have := Lib.cells_of_tab Tryz.underlying265 (show Tryz.prog.underlying 223 = some (.int .u64) by kernel_rfl) (by kernel_rfl) (by kernel_rfl) h4
    unfold Lib.TabIs
    rw [h3, ← this]
  · exact cell_of_shapedOpen_int (zero := #[.int .i64 0]) hs (g := 4) (of_decide_eq_true (by kernel_rfl)) (by kernel_rfl) (by kernel_rfl) (by kernel_rfl) (by kernel_rfl) Tryz.underlying3

/-- Steps as they came in: six cells each, at a place of a block. -/
theorem arg_steps6 {H : Type} {enc : TypeId × Value → H} {W : World} {oa : Option Addr} {n c : Nat} {d : DataW H} {p : List MemPlace}
    (h : DataW.Trod enc Tryz.prog W 0 (fun _ => true) true 22 (.slice oa n c) d p) : n = 0 ∨ ∃ (g off : Nat) (T : Nat → List Int), oa = some ⟨g, off, none⟩ ∧ g < W.heap.size ∧ ∀ k, k < n → Cells6 W g (off + k * 6) (T k) := by
  rcases arg_steps h with ⟨_, h0⟩ | ⟨a, Ls, rfl, rfl, hL⟩
  · exact .inl h0
  · cases Ls with
    | nil => exact .inl rfl
    | cons q Ls =>
      obtain ⟨g, off, spot⟩ := a
      have h0 := hL 0 (.int .i64 q.wh) rfl
      have hspot : spot = none := by
        simp [Addr.add] at h0
        simpa using World.cell?_spot h0
      subst hspot
      have had : ∀ k, (⟨g, off, none⟩ : Addr).add k = ⟨g, off + k, none⟩ := fun k => by unfold Addr.add; split <;> simp_all
      refine .inr ⟨g, off, fun k => match (q :: Ls)[k]? with | some s => [s.wh, s.s, s.n, s.k, s.t, s.v] | none => [], rfl, World.block_lt_of_cell? _ _ h0, fun k hk => ?_⟩
      obtain ⟨s, hs⟩ : ∃ s, (q :: Ls)[k]? = some s := ⟨_, List.getElem?_eq_getElem hk⟩
      have key : ∀ j u, j < 6 → (encS s)[j]? = some u → W.cell? ⟨g, off + k * 6 + j, none⟩ = some u := fun j u hj hu => by
        have := hL (k * 6 + j) u ((flatS_get (q :: Ls) k j s hs hj).trans hu)
        rw [had, ← Nat.add_assoc] at this
        exact this
      exact ⟨s.wh, s.s, s.n, s.k, s.t, s.v, by simp only [hs], key 0 _ (by omega) rfl, key 1 _ (by omega) rfl, key 2 _ (by omega) rfl, key 3 _ (by omega) rfl, key 4 _ (by omega) rfl, key 5 _ (by omega) rfl⟩

end Go.Proofs.YtmmbjbgimpgcfaaGreatDoor
