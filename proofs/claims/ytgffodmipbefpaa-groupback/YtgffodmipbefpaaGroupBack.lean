/- GroupBack: behind what comes, in whichever order, and goes, in whichever other one, groups are what they were, and they hang not on the order: proved whole, for every input (of lists of more than sixty the law itself asks nothing). -/
import Derived.Test.YtgffodmipbefpaaRows
import Derived.Test.YtgffodmipbefpaaGzc
import Derived.ProofKit
import Derived.Deep.Slices
namespace Go.Proofs.Ytgffodmipbefpaa
open Go.ChangeShapes Go.WideShapes Go.ChangeAt Go.RowKit Go.Deep
set_option linter.unusedVariables false
set_option maxRecDepth 100000

theorem list9 {α : Type} {l : List α} (h : l.length = 9) : ∃ a b c d e f g i j, l = [a, b, c, d, e, f, g, i, j] := by
  match l, h with
  | [a, b, c, d, e, f, g, i, j], _ => exact ⟨a, b, c, d, e, f, g, i, j, rfl⟩
theorem own : ownKnob Try.prog.godebug = none := by kernel_rfl
theorem places_lt {H : Type} {enc : TypeId × Value → H} {W : World} {base : Nat} {spare : Nat → Bool} {held : Bool} {t : TypeId} {v : Value} {d : DataW H} {p : List MemPlace}
    (h : DataW.Trod enc Try.prog W base spare held t v d p) : ∀ x ∈ p, x.block < W.heap.size := by
  obtain ⟨m, hm⟩ := h; exact DataW.trod_lt m _ _ _ hm

theorem open_cells9 {H : Type} {enc : TypeId × Value → H} {W : World} {base fuel : Nat} {spare : Nat → Bool} {held : Bool} {cs : List Value} {y : DataW H × List MemPlace} (hl : cs.length = 9)
    (hf : DataW.trod enc Try.prog W base spare held fuel 27 cs = some y) : ∃ x : O, x.wf ∧ cs = encO x := by
  obtain ⟨c0, c1, c2, c3, c4, c5, c6, c7, c8, rfl⟩ := list9 hl
  obtain ⟨xs, n, _, _, _, hlen, hfs⟩ := DataW.trod_struct Try.underlying27 hf
  match xs, hlen with
  | [y0, y1, y2, y3, y4], _ =>
    have f0 := hfs 0 _ rfl
    have f1 := hfs 1 _ rfl
    have f2 := hfs 2 _ rfl
    have f3 := hfs 3 _ rfl
    have f4 := hfs 4 _ rfl
    simp [cells3, cells4, cells23] at f0 f1 f2 f3 f4
    obtain ⟨a0, e0, _, w0⟩ := DataW.trod_int Try.underlying3 f0
    obtain ⟨z0, z1, z2, m, _, _, g0, g1, g2⟩ := trod_struct3 Try.underlying23 f1
    obtain ⟨z3, z4, z5, m', _, _, g3, g4, g5⟩ := trod_struct3 Try.underlying23 f2
    simp [cells3] at g0 g1 g2 g3 g4 g5
    obtain ⟨a1, e1, _, w1⟩ := DataW.trod_int Try.underlying3 g0
    obtain ⟨a2, e2, _, w2⟩ := DataW.trod_int Try.underlying3 g1
    obtain ⟨a3, e3, _, w3⟩ := DataW.trod_int Try.underlying3 g2
    obtain ⟨a4, e4, _, w4⟩ := DataW.trod_int Try.underlying3 g3
    obtain ⟨a5, e5, _, w5⟩ := DataW.trod_int Try.underlying3 g4
    obtain ⟨a6, e6, _, w6⟩ := DataW.trod_int Try.underlying3 g5
    obtain ⟨a7, e7, _⟩ := DataW.trod_bool Try.underlying4 f3
    obtain ⟨a8, e8, _⟩ := DataW.trod_bool Try.underlying4 f4
    simp at e0 e1 e2 e3 e4 e5 e6 e7 e8
    subst e0 e1 e2 e3 e4 e5 e6 e7 e8
    exact ⟨⟨a0, a1, a2, a3, a4, a5, a6, a7, a8⟩, ⟨w0, w1, w2, w3, w4, w5, w6⟩, rfl⟩

theorem arg_of {H : Type} {enc : TypeId × Value → H} {W : World} {oa : Option Addr} {n c : Nat} {d : DataW H} {p : List MemPlace}
    (h : DataW.Trod enc Try.prog W 0 (fun _ => true) true 38 (.slice oa n c) d p) : ∃ S, ArgAt W oa n S := by
  rcases Nat.eq_zero_or_pos n with rfl | hn
  · exact ⟨fun _ => default, fun h => absurd h (Nat.lt_irrefl _)⟩
  obtain ⟨fuel, hf⟩ := h
  have hf' : DataW.trod enc Try.prog W 0 (fun _ => true) true fuel 38 [.slice oa n c] = some (d, p) := hf
  rcases open_slice Try.underlying38 hf' with ⟨h1, _⟩ | ⟨a, len, cap, m, q, D, Pl, hcs, _, hl, _, hm, _, hall⟩
  · simp at h1; omega
  · simp only [List.cons.injEq, Value.slice.injEq, and_true] at hcs
    obtain ⟨rfl, rfl, rfl⟩ := hcs
    simp at hm
    subst hm
    rw [cells27] at hall
    have hx : ∀ i, i < n → ∃ x : O, x.wf ∧ W.cells? 0 (a.add (i * 9)) 9 = some (encO x) := fun i hi => by
      obtain ⟨cs, h1, h2⟩ := hall i (by omega)
      have hlen : cs.length = 9 := (World.cells?_some h1).2.1
      obtain ⟨x, hw, rfl⟩ := open_cells9 hlen h2
      exact ⟨x, hw, h1⟩
    obtain ⟨S, hS⟩ := choose_lt (α := O) (p := fun i x => x.wf ∧ W.cells? 0 (a.add (i * 9)) 9 = some (encO x)) hx
    have hcell : ∀ i, i < n → ∀ j, j < 9 → W.cell? ((a.add (i * 9)).add j) = (encO (S i))[j]? := fun i hi j hj => by
      have := (World.cells?_some (hS i hi).2).2.2 j hj
      exact this
    obtain ⟨b, off, spot⟩ := a
    have hspot : spot = none := by
      have h0 := hcell 0 hn 0 (by omega)
      simp [Addr.add, encO] at h0
      simpa using World.cell?_spot h0
    subst hspot
    have hat : ∀ i j, ((⟨b, off, none⟩ : Addr).add (i * 9)).add j = ⟨b, off + i * 9 + j, none⟩ := fun i j => by
      unfold Addr.add; split <;> split <;> simp_all
    simp only [hat] at hcell
    refine ⟨S, fun _ => ⟨b, off, rfl, World.block_lt_of_cell? _ _ ((hcell 0 hn 0 (by omega)).trans rfl), fun k hk => ⟨?_, (hS k hk).1⟩⟩⟩
    exact ⟨hcell k hk 0 (by omega), hcell k hk 1 (by omega), hcell k hk 2 (by omega), hcell k hk 3 (by omega), hcell k hk 4 (by omega), hcell k hk 5 (by omega), hcell k hk 6 (by omega), hcell k hk 7 (by omega), hcell k hk 8 (by omega)⟩

theorem groupBack_core {H : Type} {enc : TypeId × Value → H} {W : World} {v0 v1 : Value} {d0 d1 : DataW H} {p0 p1 : List MemPlace} {r : Reach} {b0 : Nat} (n : Int)
    (hv0 : Value.okWide Try.prog W r b0 38 v0) (h0 : DataW.Trod enc Try.prog W 0 (fun _ => true) true 38 v0 d0 p0) (hv1 : Value.okWide Try.prog W r b0 38 v1) (h1 : DataW.Trod enc Try.prog W 0 (fun _ => true) true 38 v1 d1 p1) :
    Calls Try.prog 7 #[v0, v1, .int .i64 n] W fun e w' => e = .returned (.bool true) ∧ Below W.heap.size W w' := by
  obtain ⟨oa1, n1, c1, rfl⟩ := okWide_slice Try.underlying38 hv0
  obtain ⟨oa2, n2, c2, rfl⟩ := okWide_slice Try.underlying38 hv1
  by_cases h60 : 60 < n1 ∨ 60 < n2
  · exact gback_long oa1 oa2 n1 c1 n2 c2 n W h60
  · obtain ⟨S1, a1⟩ := arg_of h0
    obtain ⟨S2, a2⟩ := arg_of h1
    exact gback_any oa1 oa2 n1 c1 n2 c2 S1 S2 n W (by omega) (by omega) a1 a2

theorem groupBack_lifted (os : Os) (started : os.Started) (H : Type) (enc : TypeId × Value → H) :
    ReturnsInHanded {} Try.checked os 7 .any (Rows.groupBackSpec.pre6 enc Try.prog Try.f7 Rows.groupBackRow.domain false) (Rows.groupBackSpec.post enc Try.prog Try.f7 false true false false) := by
  refine returnsInHanded_of_change (C := Try.checked) own started (by kernel_rfl) Try.func7
    (ChangeSpec.witness6 (enc := enc) (C := Try.checked) false ⟨#[], #[.slice none 0 0, .slice none 0 0, .int .i64 0], []⟩ 8 (by kernel_rfl) (by kernel_rfl) (by kernel_rfl) (by kernel_rfl)) ?_
  intro W base args ds gs before hval0 hW hcnd _
  have hval : ∀ (j : Nat) t v, Try.f7.params[j]? = some t → args[j]? = some v → Value.okWide Try.prog W .any base t v := hval0
  have hW' := hW
  obtain ⟨p, q, hA0, hV, rfl, hfz, hnd⟩ := hW
  have hA : DataW.TrodAll enc Try.prog W 0 (fun _ => true) true Try.f7.params.toList args.toList ds p := hA0
  rw [Try.params7] at hA hval
  obtain ⟨v0, vs0, d0, ds0, p0, q0, hargs, rfl, rfl, h0, r0⟩ := trodAll_cons hA
  obtain ⟨v1, vs1, d1, ds1, p1, q1, rfl, rfl, rfl, h1, r1⟩ := trodAll_cons r0
  obtain ⟨v2, vs2, d2, ds2, p2, q2, rfl, rfl, rfl, h2, r2⟩ := trodAll_cons r1
  obtain ⟨rfl, rfl, rfl⟩ := trodAll_nil r2
  obtain rfl : args = #[v0, v1, v2] := by cases args; simp_all
  obtain ⟨rfl, rfl⟩ := trodVars_none hV
  obtain ⟨n, rfl, rfl, rfl, hwn⟩ := open_int Try.underlying3 (hval 2 3 v2 rfl rfl) h2
  refine (groupBack_core n (hval 0 38 v0 rfl rfl) h0 (hval 1 38 v1 rfl rfl) h1).mono fun e W' ⟨he, bel⟩ => ?_
  subst he
  exact ⟨_, rfl, _, _, _, [], _, [], hW', trodAll_mk1 (shut_bool Try.underlying4 _), (trodAll_cons_mk (Below.trod laidOut (by kernel_rfl) (of_decide_eq_true (by kernel_rfl)) h0 bel (places_lt h0)) (trodAll_cons_mk (Below.trod laidOut (by kernel_rfl) (of_decide_eq_true (by kernel_rfl)) h1 bel (places_lt h1)) (trodAll_cons_mk (shut_int Try.underlying3 hwn) trodAll_mk0))), rfl, bel.frame _, fun h => by cases h⟩

theorem groupBack_holds : Rows.GroupBackSaid :=
  OpenClaim.holds_of_wide 7 Try.f7 rfl rfl rfl rfl rfl rfl rfl ⟨rfl, rfl, rfl, rfl, rfl⟩ rfl rfl rfl rfl rfl (by kernel_rfl) Try.func7 (by kernel_rfl)
    (of_decide_eq_true (by kernel_rfl)) (by unfold Func.isWrapper; first | (rw [if_pos (by decide +kernel)]; kernel_rfl) | (rw [if_neg (by decide +kernel)]; exact ⟨rfl, rfl⟩))
    (fun os started H enc _ => groupBack_lifted os started H enc)

#print axioms groupBack_holds
end Go.Proofs.Ytgffodmipbefpaa
