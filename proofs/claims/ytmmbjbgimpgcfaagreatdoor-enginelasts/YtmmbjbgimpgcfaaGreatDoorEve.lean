/- EngineView's walk: the view is what it should be behind each step, for every engine that says what an engine says. -/
import Derived.Test.YtmmbjbgimpgcfaaGreatDoorEvd
namespace Go.Proofs.YtmmbjbgimpgcfaaGreatDoor
open Go.RowKit Go.Sort
set_option maxRecDepth 100000

/-- A step's six cells. -/
def Cells6 (W : World) (g o : Nat) (s : List Int) : Prop := ∃ a b c d e f, s = [a, b, c, d, e, f] ∧ W.cell? ⟨g, o, none⟩ = some (.int .i64 a) ∧ W.cell? ⟨g, o + 1, none⟩ = some (.int .i64 b) ∧ W.cell? ⟨g, o + 2, none⟩ = some (.int .i64 c) ∧ W.cell? ⟨g, o + 3, none⟩ = some (.int .i64 d) ∧ W.cell? ⟨g, o + 4, none⟩ = some (.int .i64 e) ∧ W.cell? ⟨g, o + 5, none⟩ = some (.int .i64 f)
theorem Cells6.below {w W : World} {g o : Nat} {s : List Int} (h : Cells6 w g o s) (hb : Below w.heap.size w W) (hg : g < w.heap.size) : Cells6 W g o s := by
  obtain ⟨a, b, c, d, e, f, hs, h1, h2, h3, h4, h5, h6⟩ := h
  have key := fun (j : Nat) => hb.cell (p := ⟨g, j, none⟩) hg
  exact ⟨a, b, c, d, e, f, hs, (key _).trans h1, (key _).trans h2, (key _).trans h3, (key _).trans h4, (key _).trans h5, (key _).trans h6⟩

theorem Full.below {EngAt : Nat → J → List O → (Nat → Prop) → World → Prop} (E : EngFeeds EngAt) {w0 : World} {bt : Nat} {lo hi mode : Int} {n : Nat} {w w' : World} {be bf nF : Nat} {a0 a1 : Int} {va vb : Value} {A B : List Rw} {F L : List O} {x : J} {S : Nat → Prop} (h : Full EngAt w0 bt lo hi mode n w be bf nF a0 a1 va vb A B F L x S) (hb : Below w.heap.size w w') : Full EngAt w0 bt lo hi mode n w' be bf nF a0 a1 va vb A B F L x S :=
  ⟨h.tale.below hb, E.steady _ _ _ S w w' h.eng hb.size (fun k hk => hb.block k (E.foot _ _ _ _ _ h.eng k hk)), h.foot, h.holds, h.lv, h.fv, h.plan, h.ok, h.jok, h.late, h.marks, h.len, h.nf, h.sa, h.sb, h.bt0, h.bf0, h.low.trans (hb.mono h.low.size), h.lowm⟩

set_option maxHeartbeats 8000000 in
theorem engineView_some {EngAt : Nat → J → List O → (Nat → Prop) → World → Prop} (E : EngSays EngAt) (Es : EngSaves EngAt) (hM : ∀ W, Calls Tryz.prog 7 #[] W fun e w' => e = .returned (.bool true) ∧ Below W.heap.size W w')
    (low high md : Int) (g off n c : Nat) (T : Nat → List Int) (w : World) (hG : Glob w) (hg : g < w.heap.size) (hT : ∀ k, k < n → Cells6 w g (off + k * 6) (T k)) :
    Calls Tryz.prog 3 #[.int .i64 low, .int .i64 high, .int .i64 md, .slice (some ⟨g, off, none⟩) n c] w fun e w' => e = .returned (.bool true) ∧ Below w.heap.size w w' := by
  by_cases h80 : 80 < n
  · have i1 : (80 : Int) < (n : Int) := by omega
    clear hT hG
    go_enter Tryz.func3, Tryz.ntmps3
    go_wp2
    go_ret
    exact ⟨rfl, Below.refl _ _⟩
  · have i1 : ¬ (80 : Int) < (n : Int) := by omega
    have i2 : (n : Int) ≤ 80 := by omega
    have HT : Hid (∀ k, k < n → Cells6 w g (off + k * 6) (T k)) := hT
    have HGw : Hid (Glob w) := hG
    have hBg := fun W => tale_begins E.toEngFeeds low high md W
    have hok := plan_ok low high md
    generalize loOf low = lo at *
    generalize hiOf low high = hi at *
    generalize modeOf md = mode at *
    clear hT hok hG
    go_enter Tryz.func3, Tryz.ntmps3
    go_wp2_with (first
      | (go_at_call 7; refine (hM _).mono ?_; rintro e w1 ⟨rfl, hb1⟩; have HB1 : Hid (Below w.heap.size w w1) := hb1; clear hb1)
      | (go_at_call 8; refine (hBg _).mono ?_; rintro e w2 ⟨bt, rfl, h2⟩; have T2 : Hid (Tale EngAt w1 bt lo hi mode 0 w2) := h2; clear h2)
      | fail)
    clear hBg hM
    have HG1 : Hid (Glob w1) := HGw.out.below HB1.out
    go_loopg [10] n (fun gg s10 wr => ∃ i : Nat, i ≤ n ∧ gg = n - i ∧ s10 = .int .i64 i ∧ Hid (Tale EngAt w1 bt lo hi mode i wr))
    case atStart => exact ⟨0, Nat.zero_le _, rfl, rfl, T2⟩
    case round =>
      obtain ⟨i, hile, hgk, rfl, I⟩ := hrel
      have HG : Hid (gk = n - i) := hgk
      clear hgk T2
      have HL : Hid (Below w.heap.size w wr) := by
        obtain ⟨be, bf, nF, a0, a1, va, vb, A, B, F, L, x, S, h⟩ := I.out
        exact HB1.out.trans (h.low.mono HB1.out.size)
      by_cases hlt : i < n
      · obtain ⟨sa, sb, sc, sd, se, sf, hs6, k1, k2, k3, k4, k5, k6⟩ := (HT.out i hlt).below HL.out hg
        have hst := step_any E Es HG1.out I.out (by omega) sa sb sc sd se sf
        have j1 : (0 : Int) ≤ (i : Int) := by omega
        have j2 : (i : Int) < (n : Int) := by omega
        clear hs6
        go_wp2_with fail
        refine hst.mono ?_
        rintro e w3 ⟨rfl, h3⟩
        clear hst k1 k2 k3 k4 k5 k6
        obtain ⟨be, bf, nF, a0, a1, va, vb, A, B, F, L, x, S, h⟩ := h3
        have HF : Hid (Full EngAt w1 bt lo hi mode (i + 1) w3 be bf nF a0 a1 va vb A B F L x S) := h
        have hc3 := h.tale.cells
        have hlv := h.lv
        have hll : L.length ≤ 20000 := by rw [h.lv.length_eq]; exact view_small _ _ _ A B (i + 1) (by omega) h.len
        have hvw := E.view be x L S w3 h.eng (by omega)
        have hle := h.len
        have HV : Hid (∀ (v : Value) (Z : List O) (W : World), Z.Perm L → W.ownsRow w3.heap.size 50 9 v Z.length (Z.flatMap encO) → Below w3.heap.size w3 W → ∃ oa ck, v = .slice oa Z.length ck ∧ W.cell? ⟨bt, 0, none⟩ = some (.pointer (some ⟨be, 0, none⟩)) ∧ W.cell? ⟨bt, 8, none⟩ = some (.map (some bf)) ∧ bt < W.heap.size) := by
          intro v Z W hp hrow hb
          obtain ⟨oa, ck, e⟩ := slice_form62 hrow
          have hcw := (HF.out.tale.below hb).cells
          exact ⟨oa, ck, e, hcw.1, hcw.2.2.2.1, (HF.out.tale.below hb).lt⟩
        have HS : Hid (∀ W, Below w3.heap.size w3 W → Calls Tryz.prog 12 #[.pointer (some ⟨bt, 0, none⟩)] W fun e w' => e = .returned (.map (some W.heap.size)) ∧ ∃ n D X, w'.ownsMap Tryz.prog 50 (plainElem (H := Unit) Tryz.prog 3) W.heap.size n D ∧ Cnt D X ∧ X.Perm (viewOf lo hi mode A B) ∧ Below W.heap.size W w') := fun W hW =>
          should_any w1.heap.size bt (.pointer (some ⟨be, 0, none⟩)) lo hi mode a0 a1 va vb bf nF A B F W (HF.out.tale.below hW) HF.out.sa HF.out.sb (by omega) (by omega)
        have HZw : Hid (∀ Z : List O, Z.Perm L → (∀ o ∈ Z, o.wf) ∧ Z.length ≤ 1000000) := fun Z hp => ⟨fun o ho => view_wf HF.out.sa HF.out.sb o (hlv.subset (hp.subset ho)), by rw [hp.length_eq]; omega⟩
        clear h hll hle
        go_wp2_with fail
        refine hvw.mono ?_
        rintro e w4 ⟨v, Z, rfl, hp4, hr4, hb4⟩
        obtain ⟨oa, ck, rfl, q1, q2, q3⟩ := HV.out v Z w4 hp4 hr4 hb4
        have hsh := HS.out w4 hb4
        have HZ : Hid (Z.Perm L ∧ w4.ownsRow w3.heap.size 50 9 (.slice oa Z.length ck) Z.length (Z.flatMap encO) ∧ Below w3.heap.size w3 w4) := ⟨hp4, hr4, hb4⟩
        clear hvw hp4 hr4 hb4 hc3
        go_wp2_with fail
        refine hsh.mono ?_
        rintro e w5 ⟨rfl, n5, D5, X5, hm5, hc5, hx5, hb5⟩
        have hr5 := right_true w3.heap.size oa ck Z w4.heap.size n5 D5 X5 w5 (kept_below HZ.out.2.1 hb5) (HZw.out Z HZ.out.1).1 hm5 hc5.cn0 ((HZ.out.1.trans hlv).trans hx5.symm) (HZw.out Z HZ.out.1).2
        have HR5 : Hid (w5.ownsRow w3.heap.size 50 9 (.slice oa Z.length ck) Z.length (Z.flatMap encO)) := kept_below HZ.out.2.1 hb5
        have HB5 : Hid (Below w3.heap.size w3 w5) := HZ.out.2.2.trans (hb5.mono HZ.out.2.2.size)
        clear hsh hm5 hc5 hx5 hb5
        go_wp2_with fail
        refine hr5.mono ?_
        rintro e w6 ⟨rfl, hb6⟩
        have HB6 : Hid (Below w3.heap.size w3 w6) := HB5.out.trans (hb6.mono HB5.out.size)
        have hc6 := (HF.out.tale.below HB6.out).cells
        have hl6 : bt < w6.heap.size := (HF.out.tale.below HB6.out).lt
        have hr6 : Calls Tryz.prog 11 #[.slice oa Z.length ck, .map (some bf)] w6 fun e w' => e = .returned (.bool true) ∧ Below w6.heap.size w6 w' := by
          obtain ⟨nn, DD, _, hmm, hcc⟩ := (HF.out.tale.below HB6.out).fold
          exact right_true w3.heap.size oa ck Z bf nn DD F w6 (kept_below HR5.out hb6) (HZw.out Z HZ.out.1).1 hmm hcc ((HZ.out.1.trans hlv).trans HF.out.fv.symm) (HZw.out Z HZ.out.1).2
        clear hr5 hb6
        go_wp2_with fail
        refine hr6.mono ?_
        rintro e w7 ⟨rfl, hb7⟩
        have T7 : Hid (Tale EngAt w1 bt lo hi mode (i + 1) w7) := (show Tale EngAt w1 bt lo hi mode (i + 1) w7 from ⟨be, bf, nF, a0, a1, va, vb, A, B, F, L, x, S, HF.out.below E.toEngFeeds (HB6.out.trans (hb7.mono HB6.out.size))⟩)
        clear hr6 hb7 hc6
        go_wp2
        go_roundg (n - (i + 1))
        case measure => have := HG.out; omega
        case rel => exact ⟨i + 1, by omega, rfl, by first | rfl | (congr 1; omega) | go_num, T7⟩
      · have j2 : ¬ ((i : Int) < (n : Int)) := by omega
        go_wp2
        go_ret
        exact ⟨rfl, HL.out⟩

end Go.Proofs.YtmmbjbgimpgcfaaGreatDoor
