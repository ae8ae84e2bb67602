/- EngineOrder: rows that come in whichever order, of both sides, are told, and come to, the same in the end: proved whole, for every input (of more than sixty steps, or of more than a hundred numbers, the law itself asks nothing); the listed package variables are as the program's text lays them (the proof reads none of them). -/
import Derived.Test.YtpannogknebgaabGreatDoorRows
import Derived.Test.YtpannogknebgaabGreatDoorEnf
import Derived.Test.YtpannogknebgaabGreatDoorCards
import Derived.Test.YtpannogknebgaabGreatDoorTie
import Derived.ProofKit
import Derived.ChangeSame
import Derived.ChangeVars
import Derived.JoinedOf
import Derived.LaidLaws
import Derived.LaidHandle
import Derived.Lay
import Derived.Stop.Joined
import Derived.Carry
import Derived.Deep.Slices
import Derived.SevenTiedAt
namespace Go.Proofs.YtpannogknebgaabGreatDoor
open Go.ChangeShapes Go.WideShapes Go.ChangeAt Go.RowKit Go.Deep Go.Joins
set_option linter.unusedVariables false
set_option maxRecDepth 100000

theorem own : ownKnob Tryz.prog.godebug = none := by kernel_rfl

abbrev laid7 : List (String × DataW Unit) := [("math/bits.deBruijn32tab", Rows.laid_math_bits_deBruijn32tab), ("math/bits.deBruijn64tab", Rows.laid_math_bits_deBruijn64tab), ("internal/strconv.uint64pow10", Rows.laid_internal_strconv_uint64pow10), ("unicode/utf8.acceptRanges", Rows.laid_unicode_utf8_acceptRanges), ("strconv.ErrRange", Rows.laid_strconv_ErrRange), ("strconv.ErrSyntax", Rows.laid_strconv_ErrSyntax), ("unicode/utf8.first", Rows.laid_unicode_utf8_first)]
abbrev laid8 : List (String × DataW Unit) := [("math/bits.deBruijn32tab", Rows.laid_math_bits_deBruijn32tab), ("math/bits.deBruijn64tab", Rows.laid_math_bits_deBruijn64tab), ("internal/strconv.uint64pow10", Rows.laid_internal_strconv_uint64pow10), ("unicode/utf8.acceptRanges", Rows.laid_unicode_utf8_acceptRanges), ("errors.errorType", Rows.laid_errors_errorType), ("strconv.ErrRange", Rows.laid_strconv_ErrRange), ("strconv.ErrSyntax", Rows.laid_strconv_ErrSyntax), ("unicode/utf8.first", Rows.laid_unicode_utf8_first)]

/-- A world in which errors.errorType is laid. -/
def handleWorld (P : Program) (os : Os) : World :=
  let w0 := World.holding P os ⟨#[], #[], []⟩
  { w0 with heap := w0.heap.modify 0 fun
      | .cells _ t frozen => .cells #[.iface 188 (.agg #[.pointer (some ⟨9, 63, none⟩)])] t frozen
      | o => o }
/-- A world in which all of them are. -/
def laidWorld (P : Program) (os : Os) : World := (handleWorld P os).layVars P laid7
theorem laidMet_over {P : Program} {w0 w' : World} {laid : List (String × DataW Unit)} (hh : w'.heap = (w0.layVars P laid).heap) (hf : w0.layFits P laid [] = true) (hi : w0.layIfaces P laid w' = true) : laidMet P laid w' := by
  have e1 : (laid.filter fun x => (laid.map (·.1)).contains x.1) = laid := List.filter_eq_self.2 fun x hx => List.contains_iff_mem.2 (List.mem_map.2 ⟨x, hx, rfl⟩)
  have e2 : (laid.filter fun x => !(laid.map (·.1)).contains x.1) = [] := List.filter_eq_nil_iff.2 fun x hx => by rw [List.contains_iff_mem.2 (List.mem_map.2 ⟨x, hx, rfl⟩)]; simp
  exact laidMet_layVars (w0 := w0) (laid.map (·.1)) [] (by rw [e1]; exact hh) (by rw [e1]; exact hf) (by rw [e1]; exact hi) (by rw [e2]; exact LaidIn.none)
theorem laidWorld_os (os : Os) : (laidWorld Tryz.prog os).os = os := World.layVars_os _ _ _
theorem laidWorld7 (os : Os) : laidMet Tryz.prog laid7 (laidWorld Tryz.prog os) := laidMet_over (w0 := handleWorld Tryz.prog os) rfl (by kernel_rfl) (by kernel_rfl)
theorem laidWorld_met (os : Os) (args : Array Value) : laidMetH Tryz.prog laid8 ((laidWorld Tryz.prog os).forCall (fun _ _ => 0) ⟨#[], args, []⟩).memory :=
  laidMetH_of_parts ((laidWorld7 os).of_heap (by simp [World.memory, World.forCall, Input.heap])) (by kernel_rfl)

theorem places_lt {H : Type} {enc : TypeId × Value → H} {W : World} {base : Nat} {spare : Nat → Bool} {held : Bool} {t : TypeId} {v : Value} {d : DataW H} {p : List MemPlace}
    (h : DataW.Trod enc Tryz.prog W base spare held t v d p) : ∀ x ∈ p, x.block < W.heap.size := by
  obtain ⟨m, hm⟩ := h; exact DataW.trod_lt m _ _ _ hm

theorem cellsSt : Tryz.prog.cellsOf 28 = 6 := by kernel_rfl
theorem cellsI : Tryz.prog.cellsOf 3 = 1 := by kernel_rfl
theorem list6 {α : Type} {l : List α} (h : l.length = 6) : ∃ a b c d e f, l = [a, b, c, d, e, f] := by
  match l, h with
  | [a, b, c, d, e, f], _ => exact ⟨a, b, c, d, e, f, rfl⟩
theorem open_cells6 {H : Type} {enc : TypeId × Value → H} {W : World} {base fuel : Nat} {spare : Nat → Bool} {held : Bool} {cs : List Value} {y : DataW H × List MemPlace} (hl : cs.length = 6)
    (hf : DataW.trod enc Tryz.prog W base spare held fuel 28 cs = some y) : ∃ q : St, cs = encS q := by
  obtain ⟨c0, c1, c2, c3, c4, c5, rfl⟩ := list6 hl
  obtain ⟨xs, n, _, _, _, hlen, hfs⟩ := DataW.trod_struct Tryz.underlying28 hf
  match xs, hlen with
  | [y0, y1, y2, y3, y4, y5], _ =>
    have f0 := hfs 0 _ rfl
    have f1 := hfs 1 _ rfl
    have f2 := hfs 2 _ rfl
    have f3 := hfs 3 _ rfl
    have f4 := hfs 4 _ rfl
    have f5 := hfs 5 _ rfl
    simp [cellsI] at f0 f1 f2 f3 f4 f5
    obtain ⟨a0, e0, _, w0⟩ := DataW.trod_int Tryz.underlying3 f0
    obtain ⟨a1, e1, _, w1⟩ := DataW.trod_int Tryz.underlying3 f1
    obtain ⟨a2, e2, _, w2⟩ := DataW.trod_int Tryz.underlying3 f2
    obtain ⟨a3, e3, _, w3⟩ := DataW.trod_int Tryz.underlying3 f3
    obtain ⟨a4, e4, _, w4⟩ := DataW.trod_int Tryz.underlying3 f4
    obtain ⟨a5, e5, _, w5⟩ := DataW.trod_int Tryz.underlying3 f5
    simp at e0 e1 e2 e3 e4 e5
    subst e0 e1 e2 e3 e4 e5
    exact ⟨⟨a0, a1, a2, a3, a4, a5⟩, rfl⟩

/-- Steps as they came in. -/
theorem arg_steps {H : Type} {enc : TypeId × Value → H} {W : World} {oa : Option Addr} {n c : Nat} {d : DataW H} {p : List MemPlace}
    (h : DataW.Trod enc Tryz.prog W 0 (fun _ => true) true 22 (.slice oa n c) d p) : (oa = none ∧ n = 0) ∨ ∃ (a : Addr) (Ls : List St), oa = some a ∧ Ls.length = n ∧ ∀ j u, (Ls.flatMap encS)[j]? = some u → W.cell? (a.add j) = some u := by
  obtain ⟨fuel, hf⟩ := h
  have hf' : DataW.trod enc Tryz.prog W 0 (fun _ => true) true fuel 22 [.slice oa n c] = some (d, p) := hf
  rcases open_slice Tryz.underlying22 hf' with ⟨h1, _⟩ | ⟨a, len, cap, m, q, D, Pl, hcs, _, hl, _, hm, _, hall⟩
  · simp at h1
    exact .inl ⟨h1.1, h1.2.1⟩
  · simp only [List.cons.injEq, Value.slice.injEq, and_true] at hcs
    obtain ⟨rfl, rfl, rfl⟩ := hcs
    simp at hm
    subst hm
    rw [cellsSt] at hall
    have hx : ∀ i, i < n → ∃ y : St, W.cells? 0 (a.add (i * 6)) 6 = some (encS y) := fun i hi => by
      obtain ⟨cs, h1, h2⟩ := hall i (by omega)
      obtain ⟨y, rfl⟩ := open_cells6 (World.cells?_some h1).2.1 h2
      exact ⟨y, h1⟩
    obtain ⟨S, hS⟩ := choose_lt (α := St) (p := fun i y => W.cells? 0 (a.add (i * 6)) 6 = some (encS y)) hx
    refine .inr ⟨a, (List.range n).map S, rfl, by simp, fun j u hu => ?_⟩
    have hj : j < (((List.range n).map S).flatMap encS).length := (List.getElem?_eq_some_iff.1 hu).1
    rw [flatS_len, List.length_map, List.length_range] at hj
    have hk : j / 6 < n := by omega
    have hq : ((List.range n).map S)[j / 6]? = some (S (j / 6)) := by simp [hk]
    have h1 := flatS_get ((List.range n).map S) (j / 6) (j % 6) _ hq (by omega)
    rw [show j / 6 * 6 + j % 6 = j by omega, hu] at h1
    have h2 := (World.cells?_some (hS (j / 6) hk)).2.2 (j % 6) (by omega)
    rw [← h1, Addr.add_add, show j / 6 * 6 + j % 6 = j by omega] at h2
    exact h2

/-- Numbers as they came in. -/
theorem arg_ints {H : Type} {enc : TypeId × Value → H} {W : World} {oa : Option Addr} {n c : Nat} {d : DataW H} {p : List MemPlace}
    (h : DataW.Trod enc Tryz.prog W 0 (fun _ => true) true 43 (.slice oa n c) d p) (hn : 0 < n) : ∃ b off, oa = some ⟨b, off, none⟩ ∧ b < W.heap.size ∧ ∀ k, k < n → ∃ a, W.cell? ⟨b, off + k, none⟩ = some (.int .i64 a) := by
  obtain ⟨fuel, hf⟩ := h
  have hf' : DataW.trod enc Tryz.prog W 0 (fun _ => true) true fuel 43 [.slice oa n c] = some (d, p) := hf
  rcases open_slice1 Tryz.underlying43 cellsI hf' with ⟨h1, _⟩ | ⟨a, len, cap, m, q, V, D, Pl, hcs, _, hl, _, hm, _, hall⟩
  · simp at h1; omega
  · simp only [List.cons.injEq, Value.slice.injEq, and_true] at hcs
    obtain ⟨rfl, rfl, rfl⟩ := hcs
    simp at hm
    subst hm
    have hx : ∀ i, i < n → ∃ z, W.cell? (a.add i) = some (.int .i64 z) := fun i hi => by
      obtain ⟨h1, h2⟩ := hall i (by omega)
      obtain ⟨z, e, _, _⟩ := DataW.trod_int Tryz.underlying3 h2
      simp at e
      rw [h1, e]
      exact ⟨z, rfl⟩
    obtain ⟨b, off, spot⟩ := a
    obtain ⟨z0, h0⟩ := hx 0 hn
    have hspot : spot = none := by
      simp [Addr.add] at h0
      simpa using World.cell?_spot h0
    subst hspot
    refine ⟨b, off, rfl, World.block_lt_of_cell? _ _ h0, fun k hk => ?_⟩
    obtain ⟨z, hz⟩ := hx k hk
    refine ⟨z, ?_⟩
    have : (⟨b, off, none⟩ : Addr).add k = ⟨b, off + k, none⟩ := by unfold Addr.add; split <;> simp_all
    rw [this] at hz
    exact hz

theorem order_any {H : Type} {enc : TypeId × Value → H} {W : World} {v v' : Value} {d d' : DataW H} {p p' : List MemPlace} {r : Reach} {b0 : Nat} (low high md : Int)
    (hv : Value.okWide Tryz.prog W r b0 22 v) (h : DataW.Trod enc Tryz.prog W 0 (fun _ => true) true 22 v d p)
    (hv' : Value.okWide Tryz.prog W r b0 43 v') (h' : DataW.Trod enc Tryz.prog W 0 (fun _ => true) true 43 v' d' p') :
    Calls Tryz.prog 4 #[.int .i64 low, .int .i64 high, .int .i64 md, v, v'] W fun e w' => e = .returned (.bool true) ∧ Below W.heap.size W w' := by
  obtain ⟨oa, n, c, rfl⟩ := okWide_slice Tryz.underlying22 hv
  obtain ⟨oo, m, co, rfl⟩ := okWide_slice Tryz.underlying43 hv'
  obtain ⟨vOf, gOf, Sh⟩ := engShows
  rcases arg_steps h with ⟨rfl, rfl⟩ | ⟨a, Ls, rfl, rfl, hL⟩
  · exact engineOrder_none engFeeds Sh (met_true engFeeds engApart) low high md c oo m co W (fun hm => arg_ints h' hm)
  · exact engineOrder_some engFeeds Sh (met_true engFeeds engApart) low high md a c Ls oo m co W hL (fun hm => arg_ints h' hm)

theorem engineOrder_lifted (os : Os) (started : os.Started) (H : Type) (enc : TypeId × Value → H) :
    ReturnsInHanded {} Tryz.checked os 4 .any (fun w args => (Rows.engineOrderSpec.pre enc Tryz.prog Tryz.f4 [] false w args ∧ laidMetH Tryz.prog laid8 w) ∧ sizedMet enc Tryz.prog Tryz.f4 (OpenSpec.ofChange Rows.engineOrderSpec) false w args)
      (Rows.engineOrderSpec.post enc Tryz.prog Tryz.f4 false true false false) := by
  refine returnsInHanded_of_change_and (C := Tryz.checked) (X := fun w _ => laidMetH Tryz.prog laid8 w) (fun _ _ _ hh h => h.of_heap hh) own started (by kernel_rfl) Tryz.func4
    (ChangeSpec.witness_shaped (enc := enc) (C := Tryz.checked) (os := os) (X := fun w _ => laidMetH Tryz.prog laid8 w) false (laidWorld Tryz.prog os) #[.int .i64 0, .int .i64 0, .int .i64 0, .slice none 0 0, .slice none 0 0] 8 (laidWorld_os os) (World.shaped_of_ZipB (by kernel_rfl) (by kernel_rfl)) (by kernel_rfl) (by kernel_rfl) (by kernel_rfl) (laidWorld_met os _)) ?_
  intro W base args ds gs before hval0 hW _ _ hL _
  have hval : ∀ (j : Nat) t v, Tryz.f4.params[j]? = some t → args[j]? = some v → Value.okWide Tryz.prog W .any base t v := hval0
  have hW' := hW
  obtain ⟨p, q, hA0, hV0, rfl, hfz, hnd⟩ := hW
  have hA : DataW.TrodAll enc Tryz.prog W 0 (fun _ => true) true Tryz.f4.params.toList args.toList ds p := hA0
  have hV : DataW.TrodVars enc Tryz.prog W (fun _ => true) [] gs q := hV0
  rw [Tryz.params4] at hA hval
  obtain ⟨v0, vs0, d0, ds0, p0, q0, hargs, rfl, rfl, h0, r0⟩ := trodAll_cons hA
  obtain ⟨v1, vs1, d1, ds1, p1, q1, rfl, rfl, rfl, h1, r1⟩ := trodAll_cons r0
  obtain ⟨v2, vs2, d2, ds2, p2, q2, rfl, rfl, rfl, h2, r2⟩ := trodAll_cons r1
  obtain ⟨v3, vs3, d3, ds3, p3, q3, rfl, rfl, rfl, h3, r3⟩ := trodAll_cons r2
  obtain ⟨v4, vs4, d4, ds4, p4, q4, rfl, rfl, rfl, h4, r4⟩ := trodAll_cons r3
  obtain ⟨rfl, rfl, rfl⟩ := trodAll_nil r4
  obtain rfl : args = #[v0, v1, v2, v3, v4] := by cases args; simp_all
  obtain ⟨rfl, rfl⟩ := trodVars_none hV
  obtain ⟨n0, rfl, rfl, rfl, hw0⟩ := open_int Tryz.underlying3 (hval 0 3 v0 rfl rfl) h0
  obtain ⟨n1, rfl, rfl, rfl, hw1⟩ := open_int Tryz.underlying3 (hval 1 3 v1 rfl rfl) h1
  obtain ⟨n2, rfl, rfl, rfl, hw2⟩ := open_int Tryz.underlying3 (hval 2 3 v2 rfl rfl) h2
  refine (order_any n0 n1 n2 (hval 3 22 v3 rfl rfl) h3 (hval 4 43 v4 rfl rfl) h4).mono fun e W' ⟨he, bel⟩ => ?_
  subst he
  exact ⟨_, rfl, _, _, _, [], _, [], hW', trodAll_mk1 (shut_bool Tryz.underlying4 _), (trodAll_cons_mk (shut_int Tryz.underlying3 hw0) (trodAll_cons_mk (shut_int Tryz.underlying3 hw1) (trodAll_cons_mk (shut_int Tryz.underlying3 hw2) (trodAll_cons_mk (Below.trod laidOut (by kernel_rfl) (of_decide_eq_true (by kernel_rfl)) h3 bel (places_lt h3)) (trodAll_cons_mk (Below.trod laidOut (by kernel_rfl) (of_decide_eq_true (by kernel_rfl)) h4 bel (places_lt h4)) trodAll_mk0))))), rfl, bel.frame _, fun h => by cases h⟩

theorem engineOrder_holds : Rows.EngineOrderSaid :=
  OpenClaim.holds_of_wide 4 Tryz.f4 rfl rfl rfl rfl rfl rfl rfl ⟨rfl, rfl, rfl, rfl, rfl⟩ rfl rfl rfl rfl rfl (by kernel_rfl) Tryz.func4 (by kernel_rfl)
    (of_decide_eq_true (by kernel_rfl)) (by unfold Func.isWrapper; first | (rw [if_pos (by decide +kernel)]; kernel_rfl) | (rw [if_neg (by decide +kernel)]; exact ⟨rfl, rfl⟩))
    (fun os started H enc _ => engineOrder_lifted os started H enc)

theorem engineOrder_card : Rows.EngineOrderCardSaid :=
  Claim7.holds_tied_plain_at .later [] [.data, .data, .data, .data, .handle, .sentinel, .sentinel, .pinned] true (true, "6b403cd7c1f1dbd74ccf170d6b33f88e5675e911fd9994507d17b195fc21d6d6") true
    engineOrder_holds (fun _ h => by cases h) (by kernel_rfl) (fun _ h => by cases h) engineOrder_row_tie rfl ⟨rfl, rfl⟩ (by kernel_rfl) rfl
    (fun f fn hf hfn => by
      obtain rfl : f = 4 := Option.some.inj ((show Tryz.prog.funcNamed "estuary/estuarykeep.EngineOrder" = some 4 by kernel_rfl).symm.trans hf) |>.symm
      obtain rfl : fn = Tryz.f4 := (Option.some.inj (Tryz.func4.symm.trans hfn)).symm
      exact ⟨by kernel_rfl, fun j t ht => by
        rw [Tryz.params4] at ht
        have h3 : t = 3 ∨ t = 22 ∨ t = 43 := by
          rcases j with _ | _ | _ | _ | _ | j
          · exact .inl (by simpa using ht.symm)
          · exact .inl (by simpa using ht.symm)
          · exact .inl (by simpa using ht.symm)
          · exact .inr (.inl (by simpa using ht.symm))
          · exact .inr (.inr (by simpa using ht.symm))
          · simp at ht
        rcases h3 with rfl | rfl | rfl
        · exact (show Tryz.prog.wantsStandIn 3 = false by kernel_rfl)
        · exact (show Tryz.prog.wantsStandIn 22 = false by kernel_rfl)
        · exact (show Tryz.prog.wantsStandIn 43 = false by kernel_rfl)⟩)
    (by kernel_rfl)
#print axioms engineOrder_card
end Go.Proofs.YtpannogknebgaabGreatDoor
