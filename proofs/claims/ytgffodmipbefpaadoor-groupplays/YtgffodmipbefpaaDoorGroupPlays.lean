/- GroupPlays: what all of a key come to, whatever comes and goes, what is refused, and the groups of all keys in order, is the document's: proved whole, for every input (of more than a hundred and twenty the law itself asks nothing); errors.errorType is as the program's text lays it. -/
import Derived.Test.YtgffodmipbefpaaDoorRows
import Derived.Test.YtgffodmipbefpaaDoorGpw
import Derived.Test.YtgffodmipbefpaaDoorCards
import Derived.Test.YtgffodmipbefpaaDoorTie
import Derived.ProofKit
import Derived.ChangeSame
import Derived.ChangeVars
import Derived.JoinedOf
import Derived.LaidLaws
import Derived.LaidHandle
import Derived.Stop.Joined
import Derived.Carry
import Derived.Deep.Slices
import Derived.SevenTiedAt
namespace Go.Proofs.YtgffodmipbefpaaDoor
open Go.ChangeShapes Go.WideShapes Go.ChangeAt Go.RowKit Go.Deep Go.Joins
set_option linter.unusedVariables false
set_option maxRecDepth 100000

theorem own : ownKnob Tryd.prog.godebug = none := by kernel_rfl
theorem Tryd.et : Tryd.prog.globalNamed "errors.errorType" = some 0 := by kernel_rfl
theorem Tryd.rt : (Tryd.prog.cutTypes.find? (·.1 == "internal/reflectlite.rtype")).map (·.2) = some 175 := by kernel_rfl
theorem Tryd.oneRow : ((List.range 269).filter fun t => Tryd.prog.rowNamed t [101, 114, 114, 111, 114]) = [32] := by kernel_rfl
theorem Tryd.size : Tryd.prog.types.size = 269 := by kernel_rfl
theorem cells39 : Tryd.prog.cellsOf 39 = 10 := by kernel_rfl

/-- What is laid: the variable's one cell. -/
theorem handle_of_laid {W : World} (h : laidMetH Tryd.prog [("errors.errorType", Rows.laid_errors_errorType)] W) : W.cell? ⟨0, 0, none⟩ = some (.iface 175 (.agg #[.pointer (some ⟨1, 32, none⟩)])) := by
  have h' : laidMet Tryd.prog [] W ∧ handlesMet Tryd.prog [("errors.errorType", Rows.laid_errors_errorType)] W := h
  obtain ⟨name, u, ty, e1, e2, e3, e4, e5⟩ := h'.2 _ (List.mem_singleton.2 rfl)
  have en : name = [101, 114, 114, 111, 114] := (Option.some.inj e1).symm
  subst en
  obtain rfl := Option.some.inj (Tryd.rt.symm.trans e2)
  have hm : ty ∈ (List.range 269).filter fun t => Tryd.prog.rowNamed t [101, 114, 114, 111, 114] := List.mem_filter.2 ⟨List.mem_range.2 (by rw [← Tryd.size]; exact e3), e4⟩
  rw [Tryd.oneRow] at hm
  obtain rfl := List.mem_singleton.1 hm
  have hh : typeHandle Tryd.prog 32 = .pointer (some ⟨1, 32, none⟩) := by kernel_rfl
  rw [hh] at e5
  simpa using World.var?_cell Tryd.et e5 0

/-- A world in which it is laid. -/
def laidWorld (P : Program) (os : Os) : World :=
  let w0 := World.holding P os ⟨#[], #[], []⟩
  { w0 with heap := w0.heap.modify 0 fun
      | .cells _ t frozen => .cells #[.iface 175 (.agg #[.pointer (some ⟨1, 32, none⟩)])] t frozen
      | o => o }
theorem laidWorld_met (os : Os) (args : Array Value) : laidMetH Tryd.prog [("errors.errorType", Rows.laid_errors_errorType)] ((laidWorld Tryd.prog os).forCall (fun _ _ => 0) ⟨#[], args, []⟩).memory :=
  laidMetH_of_parts (laidMet_nil _ _) (by kernel_rfl)

theorem places_lt {H : Type} {enc : TypeId × Value → H} {W : World} {base : Nat} {spare : Nat → Bool} {held : Bool} {t : TypeId} {v : Value} {d : DataW H} {p : List MemPlace}
    (h : DataW.Trod enc Tryd.prog W base spare held t v d p) : ∀ x ∈ p, x.block < W.heap.size := by
  obtain ⟨m, hm⟩ := h; exact DataW.trod_lt m _ _ _ hm

theorem list9 {α : Type} {l : List α} (h : l.length = 9) : ∃ a b c d e f g i j, l = [a, b, c, d, e, f, g, i, j] := by
  match l, h with
  | [a, b, c, d, e, f, g, i, j], _ => exact ⟨a, b, c, d, e, f, g, i, j, rfl⟩
theorem list10 {α : Type} {l : List α} (h : l.length = 10) : ∃ c0 c1 c2 c3 c4 c5 c6 c7 c8 c9, l = [c0, c1, c2, c3, c4, c5, c6, c7, c8, c9] := by
  match l, h with
  | [c0, c1, c2, c3, c4, c5, c6, c7, c8, c9], _ => exact ⟨c0, c1, c2, c3, c4, c5, c6, c7, c8, c9, rfl⟩

theorem open_cells9 {H : Type} {enc : TypeId × Value → H} {W : World} {base fuel : Nat} {spare : Nat → Bool} {held : Bool} {cs : List Value} {y : DataW H × List MemPlace} (hl : cs.length = 9)
    (hf : DataW.trod enc Tryd.prog W base spare held fuel 37 cs = some y) : ∃ x : O, x.wf ∧ cs = encO x := by
  obtain ⟨c0, c1, c2, c3, c4, c5, c6, c7, c8, rfl⟩ := list9 hl
  obtain ⟨xs, n, _, _, _, hlen, hfs⟩ := DataW.trod_struct Tryd.underlying37 hf
  match xs, hlen with
  | [y0, y1, y2, y3, y4], _ =>
    have f0 := hfs 0 _ rfl
    have f1 := hfs 1 _ rfl
    have f2 := hfs 2 _ rfl
    have f3 := hfs 3 _ rfl
    have f4 := hfs 4 _ rfl
    simp [cells3, cells4, cells23] at f0 f1 f2 f3 f4
    obtain ⟨a0, e0, _, w0⟩ := DataW.trod_int Tryd.underlying3 f0
    obtain ⟨z0, z1, z2, m, _, _, g0, g1, g2⟩ := trod_struct3 Tryd.underlying35 f1
    obtain ⟨z3, z4, z5, m', _, _, g3, g4, g5⟩ := trod_struct3 Tryd.underlying35 f2
    simp [cells3] at g0 g1 g2 g3 g4 g5
    obtain ⟨a1, e1, _, w1⟩ := DataW.trod_int Tryd.underlying3 g0
    obtain ⟨a2, e2, _, w2⟩ := DataW.trod_int Tryd.underlying3 g1
    obtain ⟨a3, e3, _, w3⟩ := DataW.trod_int Tryd.underlying3 g2
    obtain ⟨a4, e4, _, w4⟩ := DataW.trod_int Tryd.underlying3 g3
    obtain ⟨a5, e5, _, w5⟩ := DataW.trod_int Tryd.underlying3 g4
    obtain ⟨a6, e6, _, w6⟩ := DataW.trod_int Tryd.underlying3 g5
    obtain ⟨a7, e7, _⟩ := DataW.trod_bool Tryd.underlying4 f3
    obtain ⟨a8, e8, _⟩ := DataW.trod_bool Tryd.underlying4 f4
    simp at e0 e1 e2 e3 e4 e5 e6 e7 e8
    subst e0 e1 e2 e3 e4 e5 e6 e7 e8
    exact ⟨⟨a0, a1, a2, a3, a4, a5, a6, a7, a8⟩, ⟨w0, w1, w2, w3, w4, w5, w6⟩, rfl⟩

theorem open_cells10 {H : Type} {enc : TypeId × Value → H} {W : World} {base fuel : Nat} {spare : Nat → Bool} {held : Bool} {cs : List Value} {y : DataW H × List MemPlace} (hl : cs.length = 10)
    (hf : DataW.trod enc Tryd.prog W base spare held fuel 39 cs = some y) : ∃ (x : O) (gone : Bool), x.wf ∧ cs = encO x ++ [.bool gone] := by
  obtain ⟨c0, c1, c2, c3, c4, c5, c6, c7, c8, c9, rfl⟩ := list10 hl
  obtain ⟨xs, n, _, _, _, hlen, hfs⟩ := DataW.trod_struct Tryd.underlying39 hf
  match xs, hlen with
  | [y0, y1], _ =>
    have f0 := hfs 0 _ rfl
    have f1 := hfs 1 _ rfl
    simp [cells27, cells4] at f0 f1
    obtain ⟨x, hw, he⟩ := open_cells9 rfl f0
    obtain ⟨a9, e9, _⟩ := DataW.trod_bool Tryd.underlying4 f1
    simp at e9
    subst e9
    refine ⟨x, a9, hw, ?_⟩
    rw [← he]; rfl

theorem arg_of {H : Type} {enc : TypeId × Value → H} {W : World} {oa : Option Addr} {n c : Nat} {d : DataW H} {p : List MemPlace} (hn : 0 < n)
    (h : DataW.Trod enc Tryd.prog W 0 (fun _ => true) true 22 (.slice oa n c) d p) : ∃ (S : Nat → O) (G : Nat → Bool) (b off : Nat), oa = some ⟨b, off, none⟩ ∧ b < W.heap.size ∧ ∀ k, k < n → Cells10 W b (off + k * 10) (S k) (G k) ∧ (S k).wf := by
  obtain ⟨fuel, hf⟩ := h
  have hf' : DataW.trod enc Tryd.prog W 0 (fun _ => true) true fuel 22 [.slice oa n c] = some (d, p) := hf
  rcases open_slice Tryd.underlying22 hf' with ⟨h1, _⟩ | ⟨a, len, cap, m, q, D, Pl, hcs, _, hl, _, hm, _, hall⟩
  · simp at h1; omega
  · simp only [List.cons.injEq, Value.slice.injEq, and_true] at hcs
    obtain ⟨rfl, rfl, rfl⟩ := hcs
    simp at hm
    subst hm
    rw [cells39] at hall
    have hx : ∀ i, i < n → ∃ y : O × Bool, y.1.wf ∧ W.cells? 0 (a.add (i * 10)) 10 = some (encO y.1 ++ [.bool y.2]) := fun i hi => by
      obtain ⟨cs, h1, h2⟩ := hall i (by omega)
      have hlen : cs.length = 10 := (World.cells?_some h1).2.1
      obtain ⟨x, g, hw, rfl⟩ := open_cells10 hlen h2
      exact ⟨(x, g), hw, h1⟩
    obtain ⟨S, hS⟩ := choose_lt (α := O × Bool) (p := fun i y => y.1.wf ∧ W.cells? 0 (a.add (i * 10)) 10 = some (encO y.1 ++ [.bool y.2])) hx
    have hcell : ∀ i, i < n → ∀ j, j < 10 → W.cell? ((a.add (i * 10)).add j) = (encO (S i).1 ++ [.bool (S i).2])[j]? := fun i hi j hj => by
      have := (World.cells?_some (hS i hi).2).2.2 j hj
      exact this
    obtain ⟨b, off, spot⟩ := a
    have hspot : spot = none := by
      have h0 := hcell 0 hn 0 (by omega)
      simp [Addr.add, encO] at h0
      simpa using World.cell?_spot h0
    subst hspot
    have hat : ∀ i j, ((⟨b, off, none⟩ : Addr).add (i * 10)).add j = ⟨b, off + i * 10 + j, none⟩ := fun i j => by
      unfold Addr.add; split <;> split <;> simp_all
    simp only [hat] at hcell
    refine ⟨fun i => (S i).1, fun i => (S i).2, b, off, rfl, World.block_lt_of_cell? _ _ ((hcell 0 hn 0 (by omega)).trans rfl), fun k hk => ⟨?_, (hS k hk).1⟩⟩
    exact ⟨hcell k hk 0 (by omega), hcell k hk 1 (by omega), hcell k hk 2 (by omega), hcell k hk 3 (by omega), hcell k hk 4 (by omega), hcell k hk 5 (by omega), hcell k hk 6 (by omega), hcell k hk 7 (by omega), hcell k hk 8 (by omega), hcell k hk 9 (by omega)⟩

theorem plays_group {H : Type} {enc : TypeId × Value → H} {W : World} {v : Value} {d : DataW H} {p : List MemPlace} {r : Reach} {b0 : Nat} (key : Int) (hkw : (gi key).wf = true)
    (hv : Value.okWide Tryd.prog W r b0 22 v) (h : DataW.Trod enc Tryd.prog W 0 (fun _ => true) true 22 v d p) (hg : W.cell? ⟨0, 0, none⟩ = some (.iface 175 (.agg #[.pointer (some ⟨1, 32, none⟩)]))) :
    Calls Tryd.prog 6 #[v, .int .i64 key] W fun e w' => e = .returned (.bool true) ∧ Below W.heap.size W w' := by
  obtain ⟨oa, n, c, rfl⟩ := okWide_slice Tryd.underlying22 hv
  by_cases h120 : 120 < n
  · exact gplays_long oa n c key W h120
  by_cases h0 : n = 0
  · subst h0; exact gplays_none oa c key W
  obtain ⟨S, G, b, off, rfl, hb, hS⟩ := arg_of (by omega) h
  exact gplays_some b off n c S G key W (by omega) hb hkw hg hS

theorem groupPlays_lifted (os : Os) (started : os.Started) (H : Type) (enc : TypeId × Value → H) :
    ReturnsInHanded {} Tryd.checked os 6 .any (fun w args => (Rows.groupPlaysSpec.pre enc Tryd.prog Tryd.f6 [] false w args ∧ laidMetH Tryd.prog [("errors.errorType", Rows.laid_errors_errorType)] w) ∧ sizedMet enc Tryd.prog Tryd.f6 (OpenSpec.ofChange Rows.groupPlaysSpec) false w args)
      (Rows.groupPlaysSpec.post enc Tryd.prog Tryd.f6 false true false false) := by
  refine returnsInHanded_of_change_and (C := Tryd.checked) (X := fun w _ => laidMetH Tryd.prog [("errors.errorType", Rows.laid_errors_errorType)] w) (fun _ _ _ hh h => h.of_heap hh) own started (by kernel_rfl) Tryd.func6
    (ChangeSpec.witness_at (enc := enc) (C := Tryd.checked) (os := os) (X := fun w _ => laidMetH Tryd.prog [("errors.errorType", Rows.laid_errors_errorType)] w) false (laidWorld Tryd.prog os) #[.slice none 0 0, .int .i64 0] 8 rfl (by kernel_rfl) (by kernel_rfl) (by kernel_rfl) (by kernel_rfl) (by kernel_rfl) (laidWorld_met os _)) ?_
  intro W base args ds gs before hval0 hW _ _ hL _
  have hval : ∀ (j : Nat) t v, Tryd.f6.params[j]? = some t → args[j]? = some v → Value.okWide Tryd.prog W .any base t v := hval0
  have hW' := hW
  obtain ⟨p, q, hA0, hV0, rfl, hfz, hnd⟩ := hW
  have hA : DataW.TrodAll enc Tryd.prog W 0 (fun _ => true) true Tryd.f6.params.toList args.toList ds p := hA0
  have hV : DataW.TrodVars enc Tryd.prog W (fun _ => true) [] gs q := hV0
  rw [Tryd.params6] at hA hval
  obtain ⟨v0, vs0, d0, ds0, p0, q0, hargs, rfl, rfl, h0, r0⟩ := trodAll_cons hA
  obtain ⟨v1, vs1, d1, ds1, p1, q1, rfl, rfl, rfl, h1, r1⟩ := trodAll_cons r0
  obtain ⟨rfl, rfl, rfl⟩ := trodAll_nil r1
  obtain rfl : args = #[v0, v1] := by cases args; simp_all
  obtain ⟨rfl, rfl⟩ := trodVars_none hV
  obtain ⟨n, rfl, rfl, rfl, hwn⟩ := open_int Tryd.underlying3 (hval 1 3 v1 rfl rfl) h1
  have hg := handle_of_laid hL
  refine (plays_group n hwn (hval 0 22 v0 rfl rfl) h0 hg).mono fun e W' ⟨he, bel⟩ => ?_
  subst he
  exact ⟨_, rfl, _, _, _, [], _, [], hW', trodAll_mk1 (shut_bool Tryd.underlying4 _), (trodAll_cons_mk (Below.trod laidOut (by kernel_rfl) (of_decide_eq_true (by kernel_rfl)) h0 bel (places_lt h0)) (trodAll_cons_mk (shut_int Tryd.underlying3 hwn) trodAll_mk0)), rfl, bel.frame _, fun h => by cases h⟩

theorem groupPlays_holds : Rows.GroupPlaysSaid :=
  OpenClaim.holds_of_wide 6 Tryd.f6 rfl rfl rfl rfl rfl rfl rfl ⟨rfl, rfl, rfl, rfl, rfl⟩ rfl rfl rfl rfl rfl (by kernel_rfl) Tryd.func6 (by kernel_rfl)
    (of_decide_eq_true (by kernel_rfl)) (by unfold Func.isWrapper; first | (rw [if_pos (by decide +kernel)]; kernel_rfl) | (rw [if_neg (by decide +kernel)]; exact ⟨rfl, rfl⟩))
    (fun os started H enc _ => groupPlays_lifted os started H enc)

theorem groupPlays_card : Rows.GroupPlaysCardSaid :=
  Claim7.holds_tied_plain_at .later [] [.handle] true (true, "33b27d238f2c222683d4785ec18ad7831adb254514afdedca7d3a3ff2b3a40e1") true
    groupPlays_holds (fun _ h => by cases h) (by kernel_rfl) (fun _ h => by cases h) groupPlays_row_tie rfl ⟨rfl, rfl⟩ (by kernel_rfl) rfl
    (fun f fn hf hfn => by
      obtain rfl : f = 6 := Option.some.inj ((show Tryd.prog.funcNamed "estuary/estuarylaw.GroupPlays" = some 6 by kernel_rfl).symm.trans hf) |>.symm
      obtain rfl : fn = Tryd.f6 := (Option.some.inj (Tryd.func6.symm.trans hfn)).symm
      exact ⟨by kernel_rfl, fun j t ht => by
        rw [Tryd.params6] at ht
        have h3 : t = 22 ∨ t = 3 := by
          rcases j with _ | _ | j
          · exact .inl (by simpa using ht.symm)
          · exact .inr (by simpa using ht.symm)
          · simp at ht
        rcases h3 with rfl | rfl
        · exact (show Tryd.prog.wantsStandIn 22 = false by kernel_rfl)
        · exact (show Tryd.prog.wantsStandIn 3 = false by kernel_rfl)⟩)
    (by kernel_rfl)
#print axioms groupPlays_card
end Go.Proofs.YtgffodmipbefpaaDoor
