/- EngineDrains' walk. -/
import Derived.Test.YtmmbjbgimpgcfaaGreatDoorDrz
namespace Go.Proofs.YtmmbjbgimpgcfaaGreatDoor
open Go.RowKit Go.Sort Go.Shelf
set_option maxRecDepth 100000

/-- What a tale's engine says of its rows, in whatever world that lies above. -/
theorem drain_facts {w1 w3 : World} {bt : Nat} {lo hi mode : Int} {n be bf nF : Nat} {a0 a1 : Int} {va vb : Value} {A B : List Rw} {F L : List O} {x : J} {S : Nat → Prop} (h : Full EngAt w1 bt lo hi mode n w3 be bf nF a0 a1 va vb A B F L x S) :
    Hid (∀ W, Below w3.heap.size w3 W → W.cell? ⟨bt, 0, none⟩ = some (.pointer (some ⟨be, 0, none⟩)) ∧ W.cell? ⟨bt, 1, none⟩ = some (.int .i64 lo) ∧ W.cell? ⟨bt, 2, none⟩ = some (.int .i64 hi) ∧ bt < W.heap.size) ∧
    Hid (∀ (s : Nat) W, s < 2 → Below w3.heap.size w3 W → Calls Tryz.prog 15 #[.pointer (some ⟨be, 0, none⟩), .int .i64 s] W fun e w' => ∃ oa ck, e = .returned (.slice oa (Rs x s).length ck) ∧ (w'.cell? ⟨bt, 0, none⟩ = some (.pointer (some ⟨be, 0, none⟩)) ∧ bt < w'.heap.size) ∧ Hid (RowsAt w' oa (Rs x s) ∧ Below w3.heap.size w3 w')) ∧
    Hid (∀ (s : Nat) W, s < 2 → Below w3.heap.size w3 W → Calls Tryz.prog 16 #[.pointer (some ⟨be, 0, none⟩), .int .i64 (1 - (s : Int))] W fun e w' => e = .returned (.int .i64 (if s = 0 then x.m1 else x.m0)) ∧ w' = W) ∧
    Hid (∀ (s : Nat) W, s < 2 → Below w3.heap.size w3 W → Calls Tryz.prog 17 #[.pointer (some ⟨be, 0, none⟩), .int .i64 s] W fun e w' => e = .returned (.int .i64 (Rs x s).length) ∧ w' = W) ∧
    Hid (∀ (s : Nat) y, s < 2 → y ∈ Rs x s → (-1099511627776 ≤ y.t ∧ y.t ≤ 1099511627776) ∧ (0 ≤ y.n ∧ y.n ≤ 1000000) ∧ (s = 0 → x.m1 < y.t + hi) ∧ (s = 1 → x.m0 < y.t - lo)) := by
  obtain ⟨bj, bm, v0, v1, f0, f1, om, Sg, hE, hS⟩ := h.eng
  have hT := h.tale
  refine ⟨fun W hW => ?_, fun s W hs hW => ?_, fun s W hs hW => ?_, fun s W hs hW => ?_, fun s y hs hy => ?_⟩
  · have hb := (hT.below hW).blk
    exact ⟨by rw [Go.Joins.cell_of_block hb]; rfl, by rw [Go.Joins.cell_of_block hb]; rfl, by rw [Go.Joins.cell_of_block hb]; rfl, (hT.below hW).lt⟩
  · refine (erows_any s hs (hE.below hW) h.jok.l0 h.jok.l1).mono ?_
    rintro e w' ⟨v, rfl, hr, hb⟩
    obtain ⟨oa, ck, rfl, ha⟩ := rows_at hr
    have hb3 := hW.trans (hb.mono hW.size)
    have hbk := (hT.below hb3).blk
    exact ⟨oa, ck, rfl, ⟨by rw [Go.Joins.cell_of_block hbk]; rfl, (hT.below hb3).lt⟩, ha, hb3⟩
  · have := emark_any (s := 1 - (s : Int)) (h := hE.below hW)
    have e : ofI x.m0 x.m1 (1 - (s : Int)) = if s = 0 then x.m1 else x.m0 := by
      have hs2 : s = 0 ∨ s = 1 := by omega
      rcases hs2 with rfl | rfl <;> rfl
    rw [e] at this
    exact this
  · exact eheld_any s hs (hE.below hW)
  · have hs2 : s = 0 ∨ s = 1 := by omega
    obtain ⟨e1, e2, _⟩ := h.plan
    rcases hs2 with rfl | rfl
    · have hy' : y ∈ x.R0 := hy
      have hm := h.holds.r0.subset hy'
      rw [List.mem_map] at hm
      obtain ⟨l, hl, rfl⟩ := hm
      obtain ⟨hl1, hl2⟩ := List.mem_filter.1 hl
      have hsm := h.sa l hl1
      have hn := h.jok.n0 _ hy'
      simp only [decide_eq_true_eq] at hl2
      exact ⟨hsm.2.1, hn, (fun _ => by show x.m1 < l.t + hi; omega), (fun e => absurd e (by decide))⟩
    · have hy' : y ∈ x.R1 := hy
      have hm := h.holds.r1.subset hy'
      rw [List.mem_map] at hm
      obtain ⟨l, hl, rfl⟩ := hm
      obtain ⟨hl1, hl2⟩ := List.mem_filter.1 hl
      have hsm := h.sb l hl1
      have hn := h.jok.n1 _ hy'
      simp only [decide_eq_true_eq] at hl2
      exact ⟨hsm.2.1, hn, (fun e => absurd e (by decide)), (fun _ => by show x.m0 < l.t - lo; omega)⟩

set_option maxHeartbeats 8000000 in
theorem engineDrains_any (hM : ∀ W, Calls Tryz.prog 7 #[] W fun e w' => e = .returned (.bool true) ∧ Below W.heap.size W w')
    (low high md : Int) (oa : Option Addr) (n c : Nat) (T : Nat → List Int) (w : World) (hG : Glob w) (hT : ∀ k, k < n → ∃ g off, oa = some ⟨g, off, none⟩ ∧ g < w.heap.size ∧ Cells6 w g (off + k * 6) (T k)) :
    Calls Tryz.prog 5 #[.int .i64 low, .int .i64 high, .int .i64 md, .slice oa n c] w fun e w' => e = .returned (.bool true) ∧ Below w.heap.size w w' := by
  by_cases h80 : 80 < n
  · have i1 : (80 : Int) < (n : Int) := by omega
    clear hT hG
    go_enter Tryz.func5, Tryz.ntmps5
    go_wp2
    go_ret
    exact ⟨rfl, Below.refl _ _⟩
  · have i1 : ¬ (80 : Int) < (n : Int) := by omega
    have i2 : (n : Int) ≤ 80 := by omega
    have HT : Hid (∀ k, k < n → ∃ g off, oa = some ⟨g, off, none⟩ ∧ g < w.heap.size ∧ Cells6 w g (off + k * 6) (T k)) := hT
    have HGw : Hid (Glob w) := hG
    have hBg := fun W => tale_begins engFeeds low high md W
    have hok := plan_ok low high md
    have HOk : Hid (planOk (loOf low) (hiOf low high) (modeOf md)) := hok
    generalize loOf low = lo at *
    generalize hiOf low high = hi at *
    generalize modeOf md = mode at *
    clear hT hok hG
    go_enter Tryz.func5, Tryz.ntmps5
    go_wp2_with (first
      | (go_at_call 7; refine (hM _).mono ?_; rintro e w1 ⟨rfl, hb1⟩; have HB1 : Hid (Below w.heap.size w w1) := hb1; clear hb1)
      | (go_at_call 8; refine (hBg _).mono ?_; rintro e w2 ⟨bt, rfl, h2⟩; have T2 : Hid (Tale EngAt w1 bt lo hi mode 0 w2) := h2; clear h2)
      | fail)
    clear hBg hM
    have HG1 : Hid (Glob w1) := HGw.out.below HB1.out
    go_loopg [10] n (fun gg s10 wr => ∃ i : Nat, i ≤ n ∧ gg = n - i ∧ s10 = .int .i64 i ∧ Hid (Tale EngAt w1 bt lo hi mode i wr))
    case atStart => exact ⟨0, Nat.zero_le _, rfl, rfl, T2⟩
    case round =>
      obtain ⟨i, hile, hgk, rfl, I⟩ := hrel
      have HG : Hid (gk = n - i) := hgk
      clear hgk T2
      have HL : Hid (Below w.heap.size w wr) := by
        obtain ⟨be, bf, nF, a0, a1, va, vb, A, B, F, L, x, S, h⟩ := I.out
        exact HB1.out.trans (h.low.mono HB1.out.size)
      by_cases hlt : i < n
      · obtain ⟨g, off, rfl, hg, hC6⟩ := HT.out i hlt
        obtain ⟨sa, sb, sc, sd, se, sf, hs6, k1, k2, k3, k4, k5, k6⟩ := hC6.below HL.out hg
        have hst := step_any engSays engSaves HG1.out I.out (by omega) sa sb sc sd se sf
        have j1 : (0 : Int) ≤ (i : Int) := by omega
        have j2 : (i : Int) < (n : Int) := by omega
        clear hs6 hC6
        go_wp2_with fail
        refine hst.mono ?_
        rintro e w3 ⟨rfl, h3⟩
        clear hst k1 k2 k3 k4 k5 k6
        obtain ⟨be, bf, nF, a0, a1, va, vb, A, B, F, L, x, S, h⟩ := h3
        have HF : Hid (Full EngAt w1 bt lo hi mode (i + 1) w3 be bf nF a0 a1 va vb A B F L x S) := h
        obtain ⟨HC, H15, H16, H17, HR⟩ := drain_facts h
        have HLn : Hid (∀ s : Nat, s < 2 → (Rs x s).length ≤ 300) := fun s hs => by
          have hs2 : s = 0 ∨ s = 1 := by omega
          rcases hs2 with rfl | rfl
          · exact h.jok.l0
          · exact h.jok.l1
        have HTl : Hid (∀ W, Below w3.heap.size w3 W → Tale EngAt w1 bt lo hi mode (i + 1) W) := fun W hW => ⟨be, bf, nF, a0, a1, va, vb, A, B, F, L, x, S, HF.out.below engFeeds hW⟩
        have hc3 := HC.out w3 (Below.refl _ _)
        clear h HF
        go_wp2
        go_loopg [11] 2 (fun gg s11 wz => ∃ s : Nat, s ≤ 2 ∧ gg = 2 - s ∧ s11 = .int .i64 s ∧ Hid (Below w3.heap.size w3 wz))
        case atStart => exact ⟨0, by omega, rfl, rfl, Below.refl _ _⟩
        case round =>
          obtain ⟨s, hs2, hgs, rfl, Jb⟩ := hrel
          have HG2 : Hid (gk = 2 - s) := hgs
          clear hgs hc3
          have hs3 : s = 0 ∨ s = 1 ∨ s = 2 := by omega
          rcases hs3 with hs0 | hs1 | hs2'
          · subst hs0
            have hcz := HC.out _ Jb.out
            have H15s : Hid (Calls Tryz.prog 15 #[.pointer (some ⟨be, 0, none⟩), .int .i64 0] wr fun e w' => ∃ oa ck, e = .returned (.slice oa (Rs x 0).length ck) ∧ (w'.cell? ⟨bt, 0, none⟩ = some (.pointer (some ⟨be, 0, none⟩)) ∧ bt < w'.heap.size) ∧ Hid (RowsAt w' oa (Rs x 0) ∧ Below w3.heap.size w3 w')) := H15.out 0 _ (by omega) Jb.out
            have H16s : Hid (∀ W, Hid (Below w3.heap.size w3 W) → Calls Tryz.prog 16 #[.pointer (some ⟨be, 0, none⟩), .int .i64 1] W fun e w' => e = .returned (.int .i64 x.m1) ∧ w' = W) := fun W hW => H16.out 0 W (by omega) hW.out
            have H17s : Hid (∀ W, Hid (Below w3.heap.size w3 W) → Calls Tryz.prog 17 #[.pointer (some ⟨be, 0, none⟩), .int .i64 0] W fun e w' => e = .returned (.int .i64 (Rs x 0).length) ∧ w' = W) := fun W hW => H17.out 0 W (by omega) hW.out
            have HRs : Hid (∀ y ∈ Rs x 0, (-1099511627776 ≤ y.t ∧ y.t ≤ 1099511627776) ∧ (0 ≤ y.n ∧ y.n ≤ 1000000) ∧ x.m1 < y.t + hi) := fun y hy => ⟨(HR.out 0 y (by omega) hy).1, (HR.out 0 y (by omega) hy).2.1, (HR.out 0 y (by omega) hy).2.2.1 rfl⟩
            have HRl : Hid ((Rs x 0).length ≤ 300) := HLn.out 0 (by omega)
            have hRl : ((Rs x 0).length : Int) ≤ 300 := by have := HRl.out; omega
            clear Jb
            generalize Rs x 0 = R at *
            generalize x.m1 = mo at *
            go_wp2_with (first
              | (go_at_call 15; refine H15s.out.mono ?_; rintro e w4 ⟨oa4, ck4, rfl, hc4, h4⟩; have hB4 : Hid (Below w3.heap.size w3 w4) := h4.out.2)
              | (go_at_call 16; refine (H16s.out _ hB4).mono ?_; rintro e w5 ⟨rfl, hw⟩; have hw := hw.symm; subst hw)
              | fail)
            go_loopg [14] R.length (fun gg s14 wk => ∃ k : Nat, k ≤ R.length ∧ gg = R.length - k ∧ s14 = .int .i64 k ∧ Hid (RowsAt wk oa4 R ∧ Below w3.heap.size w3 wk))
            case atStart => exact ⟨0, Nat.zero_le _, rfl, rfl, h4⟩
            case round =>
              obtain ⟨k, hkR, hgk3, rfl, Kb⟩ := hrel
              have HG3 : Hid (gk = R.length - k) := hgk3
              clear hgk3 h4 hc4 hB4
              by_cases hlk : k < R.length
              · obtain ⟨y, hy⟩ : ∃ y, R[k]? = some y := ⟨_, List.getElem?_eq_getElem hlk⟩
                obtain ⟨gr, rfl, hgr, hy1, hy2⟩ := Kb.out.1 k y hy
                obtain ⟨⟨t1, t2⟩, ⟨n1, n2⟩, hml⟩ := HRs.out y (List.mem_of_getElem? hy)
                have hcz2 := HC.out _ Kb.out.2
                have m1 : (0 : Int) ≤ (k : Int) := by omega
                have m2 : (k : Int) < (R.length : Int) := by omega
                have hp := HOk.out
                obtain ⟨⟨p1, p2⟩, ⟨p3, p4⟩, _⟩ := hp
                have HK2 : Hid (∀ W, Below wr.heap.size wr W → RowsAt W (some ⟨gr, 0, none⟩) R ∧ Below w3.heap.size w3 W) := fun W hW => ⟨Kb.out.1.below hW, Kb.out.2.trans (hW.mono Kb.out.2.size)⟩
                clear Kb hy hcz
                go_wp2
                go_region
                go_wp2
                go_roundg (R.length - (k + 1))
                all_goals first
                  | (have := HG3.out; omega)
                  | exact ⟨k + 1, by omega, rfl, by first | rfl | (congr 1; omega) | go_num, HK2.out _ ((Below.refl _ _).drew)⟩
              · have m2 : ¬ ((k : Int) < (R.length : Int)) := by omega
                have hBk : Hid (Below w3.heap.size w3 wr) := Kb.out.2
                have hck := HC.out _ hBk.out
                clear Kb hcz
                go_wp2_with (first
                  | (go_at_call 17; refine (H17s.out _ hBk).mono ?_; rintro e w6 ⟨rfl, hw⟩; have hw := hw.symm; subst hw)
                  | fail)
                go_roundg (2 - (0 + 1))
                all_goals first
                  | (have := HG2.out; omega)
                  | exact ⟨0 + 1, by omega, rfl, by first | rfl | (congr 1; omega) | go_num, hBk⟩
          · subst hs1
            have hcz := HC.out _ Jb.out
            have H15s : Hid (Calls Tryz.prog 15 #[.pointer (some ⟨be, 0, none⟩), .int .i64 1] wr fun e w' => ∃ oa ck, e = .returned (.slice oa (Rs x 1).length ck) ∧ (w'.cell? ⟨bt, 0, none⟩ = some (.pointer (some ⟨be, 0, none⟩)) ∧ bt < w'.heap.size) ∧ Hid (RowsAt w' oa (Rs x 1) ∧ Below w3.heap.size w3 w')) := H15.out 1 _ (by omega) Jb.out
            have H16s : Hid (∀ W, Hid (Below w3.heap.size w3 W) → Calls Tryz.prog 16 #[.pointer (some ⟨be, 0, none⟩), .int .i64 0] W fun e w' => e = .returned (.int .i64 x.m0) ∧ w' = W) := fun W hW => H16.out 1 W (by omega) hW.out
            have H17s : Hid (∀ W, Hid (Below w3.heap.size w3 W) → Calls Tryz.prog 17 #[.pointer (some ⟨be, 0, none⟩), .int .i64 1] W fun e w' => e = .returned (.int .i64 (Rs x 1).length) ∧ w' = W) := fun W hW => H17.out 1 W (by omega) hW.out
            have HRs : Hid (∀ y ∈ Rs x 1, (-1099511627776 ≤ y.t ∧ y.t ≤ 1099511627776) ∧ (0 ≤ y.n ∧ y.n ≤ 1000000) ∧ x.m0 < y.t - lo) := fun y hy => ⟨(HR.out 1 y (by omega) hy).1, (HR.out 1 y (by omega) hy).2.1, (HR.out 1 y (by omega) hy).2.2.2 rfl⟩
            have HRl : Hid ((Rs x 1).length ≤ 300) := HLn.out 1 (by omega)
            have hRl : ((Rs x 1).length : Int) ≤ 300 := by have := HRl.out; omega
            clear Jb
            generalize Rs x 1 = R at *
            generalize x.m0 = mo at *
            go_wp2_with (first
              | (go_at_call 15; refine H15s.out.mono ?_; rintro e w4 ⟨oa4, ck4, rfl, hc4, h4⟩; have hB4 : Hid (Below w3.heap.size w3 w4) := h4.out.2)
              | (go_at_call 16; refine (H16s.out _ hB4).mono ?_; rintro e w5 ⟨rfl, hw⟩; have hw := hw.symm; subst hw)
              | fail)
            go_loopg [14] R.length (fun gg s14 wk => ∃ k : Nat, k ≤ R.length ∧ gg = R.length - k ∧ s14 = .int .i64 k ∧ Hid (RowsAt wk oa4 R ∧ Below w3.heap.size w3 wk))
            case atStart => exact ⟨0, Nat.zero_le _, rfl, rfl, h4⟩
            case round =>
              obtain ⟨k, hkR, hgk3, rfl, Kb⟩ := hrel
              have HG3 : Hid (gk = R.length - k) := hgk3
              clear hgk3 h4 hc4 hB4
              by_cases hlk : k < R.length
              · obtain ⟨y, hy⟩ : ∃ y, R[k]? = some y := ⟨_, List.getElem?_eq_getElem hlk⟩
                obtain ⟨gr, rfl, hgr, hy1, hy2⟩ := Kb.out.1 k y hy
                obtain ⟨⟨t1, t2⟩, ⟨n1, n2⟩, hml⟩ := HRs.out y (List.mem_of_getElem? hy)
                have hcz2 := HC.out _ Kb.out.2
                have m1 : (0 : Int) ≤ (k : Int) := by omega
                have m2 : (k : Int) < (R.length : Int) := by omega
                have hp := HOk.out
                obtain ⟨⟨p1, p2⟩, ⟨p3, p4⟩, _⟩ := hp
                have HK2 : Hid (∀ W, Below wr.heap.size wr W → RowsAt W (some ⟨gr, 0, none⟩) R ∧ Below w3.heap.size w3 W) := fun W hW => ⟨Kb.out.1.below hW, Kb.out.2.trans (hW.mono Kb.out.2.size)⟩
                clear Kb hy hcz
                go_wp2
                go_region
                go_wp2
                go_region
                go_wp2
                go_roundg (R.length - (k + 1))
                all_goals first
                  | (have := HG3.out; omega)
                  | exact ⟨k + 1, by omega, rfl, by first | rfl | (congr 1; omega) | go_num, HK2.out _ ((Below.refl _ _).drew.drew)⟩
              · have m2 : ¬ ((k : Int) < (R.length : Int)) := by omega
                have hBk : Hid (Below w3.heap.size w3 wr) := Kb.out.2
                have hck := HC.out _ hBk.out
                clear Kb hcz
                go_wp2_with (first
                  | (go_at_call 17; refine (H17s.out _ hBk).mono ?_; rintro e w6 ⟨rfl, hw⟩; have hw := hw.symm; subst hw)
                  | fail)
                go_roundg (2 - (1 + 1))
                all_goals first
                  | (have := HG2.out; omega)
                  | exact ⟨1 + 1, by omega, rfl, by first | rfl | (congr 1; omega) | go_num, hBk⟩
          · subst hs2'
            have hT3 : Hid (Tale EngAt w1 bt lo hi mode (i + 1) wr) := HTl.out _ Jb.out
            clear Jb HC H15 H16 H17 HR HLn HTl
            go_wp2
            go_roundg (n - (i + 1))
            all_goals first
              | (have := HG.out; omega)
              | exact ⟨i + 1, by omega, rfl, by first | rfl | (congr 1; omega) | go_num, hT3⟩
      · have j2 : ¬ ((i : Int) < (n : Int)) := by omega
        obtain ⟨be, bf, nF, a0, a1, va, vb, A, B, F, L, x, S, h⟩ := I.out
        obtain ⟨HC, _, _, _, _⟩ := drain_facts h
        obtain ⟨HVw, HGp, HLw, x1, x2, HM0, HM1, HV2, HH2⟩ := end_facts h (by omega)
        have HLow : Hid (Below w.heap.size w wr) := HL
        clear h I HT HG1 HGw HL
        generalize hwr : wr = w3 at *
        clear hwr
        have hcb : (w3.alloc (.cells #[.map none] 61)).cell? ⟨bt, 0, none⟩ = some (.pointer (some ⟨be, 0, none⟩)) ∧ bt < (w3.alloc (.cells #[.map none] 61)).heap.size := ⟨(HC.out _ (Go.Joins.below_alloc1 _ _)).1, (HC.out _ (Go.Joins.below_alloc1 _ _)).2.2.2⟩
        have HV1 : Hid (Calls Tryz.prog 10 #[.pointer (some ⟨be, 0, none⟩)] (w3.alloc (.cells #[.map none] 61)) fun e w' => ∃ oa ck Z, e = .returned (.slice oa Z.length ck) ∧ Hid (Z.Perm L ∧ (∀ g, oa = some ⟨g, 0, none⟩ → g < w'.heap.size) ∧ Gi w3 w3.heap.size oa Z 0 w')) := by
          refine (HVw.out _ (Go.Joins.below_alloc1 _ _)).mono ?_
          rintro e w' ⟨oa, ck, Z, rfl, hh⟩
          obtain ⟨q1, q2, q3, q4⟩ := hh.out
          have hgn := (group_new w3).below q4
          refine ⟨oa, ck, Z, rfl, q1, fun g e => (q3 g e).2, ⟨_, by simpa using hgn, fun j hj => ?_⟩, q2, (Go.Joins.below_alloc1 w3 _).trans (q4.mono (by simp))⟩
          have hj' : j = w3.heap.size := hj
          refine ⟨by omega, fun e => ?_⟩
          have := (q3 j e).1
          simp at this
          omega
        go_wp2_with (first
          | (go_at_call 10; refine HV1.out.mono ?_; rintro e w4 ⟨oa4, ck4, Z, rfl, h4⟩)
          | fail)
        have hZl : Z.length ≤ 20000 := by rw [h4.out.1.length_eq]; exact HLw.out.2
        have HZw : Hid (∀ o ∈ Z, o.wf) := fun o ho => HLw.out.1 o (h4.out.1.subset ho)
        have HZp : Hid (Z.Perm L) := h4.out.1
        have iz : (Z.length : Int) ≤ 20000 := by omega
        have G4 : Hid (Gi w3 w3.heap.size oa4 Z 0 w4 ∧ ∀ g, oa4 = some ⟨g, 0, none⟩ → g < w4.heap.size) := ⟨h4.out.2.2, h4.out.2.1⟩
        clear h4 HV1 hcb
        go_loopg [18] Z.length (fun gg s18 wk => ∃ k : Nat, k ≤ Z.length ∧ gg = Z.length - k ∧ s18 = .int .i64 k ∧ Hid (Gi w3 w3.heap.size oa4 Z k wk ∧ ∀ g, oa4 = some ⟨g, 0, none⟩ → g < wk.heap.size))
        case atStart => exact ⟨0, Nat.zero_le _, rfl, rfl, G4⟩
        case round =>
          obtain ⟨k, hkR, hgk3, rfl, Kb⟩ := hrel
          have HG3 : Hid (gk = Z.length - k) := hgk3
          clear hgk3 G4
          by_cases hlk : k < Z.length
          · obtain ⟨o, ho⟩ : ∃ o, Z[k]? = some o := ⟨_, List.getElem?_eq_getElem hlk⟩
            obtain ⟨gv, rfl, hgv, hcv⟩ := Kb.out.1.outs k o ho
            have c0 := hcv 0 _ rfl
            have c1 := hcv 1 _ rfl
            have c2 := hcv 2 _ rfl
            have c3 := hcv 3 _ rfl
            have c4 := hcv 4 _ rfl
            have c5 := hcv 5 _ rfl
            have c6 := hcv 6 _ rfl
            have c7 := hcv 7 _ rfl
            have c8 := hcv 8 _ rfl
            rw [Nat.add_zero] at c0
            have m1 : (0 : Int) ≤ (k : Int) := by omega
            have m2 : (k : Int) < (Z.length : Int) := by omega
            have HAp : Hid (Calls Tryz.prog 18 #[.pointer (some ⟨w3.heap.size, 0, none⟩), gvC o false] wr fun e w' => e = .returned .nilIface ∧ Hid (Gi w3 w3.heap.size (some ⟨gv, 0, none⟩) Z (k + 1) w' ∧ ∀ g, some (⟨gv, 0, none⟩ : Addr) = some ⟨g, 0, none⟩ → g < w'.heap.size)) := by
              refine (gi_step Kb.out.1 Kb.out.2 o ho (HZw.out o (List.mem_of_getElem? ho)) (by omega)).mono ?_
              rintro e w' ⟨rfl, q1, q2⟩
              exact ⟨rfl, q1, fun g e => Nat.lt_of_lt_of_le (Kb.out.2 g e) q2⟩
            simp only [gvC] at HAp
            clear Kb hcv ho
            go_wp2_with (first
              | (go_at_call 18; refine HAp.out.mono ?_; rintro e w6 ⟨rfl, h6⟩)
              | fail)
            go_roundg (Z.length - (k + 1))
            all_goals first
              | (have := HG3.out; omega)
              | exact ⟨k + 1, by omega, rfl, by first | rfl | (congr 1; omega) | go_num, h6⟩
          · have m2 : ¬ ((k : Int) < (Z.length : Int)) := by omega
            obtain rfl : k = Z.length := by omega
            have hcz := HC.out _ Kb.out.1.low
            have HB3 : Hid (Below w3.heap.size w3 wr) := Kb.out.1.low
            have HAl : Hid (∀ W, Below wr.heap.size wr W → Calls Tryz.prog 19 #[.pointer (some ⟨w3.heap.size, 0, none⟩)] W fun e w' => ∃ oa ck ks, e = .returned (.slice oa ks.length ck) ∧ w'.cell? ⟨bt, 0, none⟩ = some (.pointer (some ⟨be, 0, none⟩)) ∧ Hid (KeysOf L ks ∧ GrsAt w' oa (ks.map (grOf L)) ∧ Below wr.heap.size wr w')) := by
              intro W hW
              refine (gi_all (Kb.out.1.below Kb.out.2 hW) HZp.out (by omega)).mono ?_
              rintro e w' ⟨oa, ck, ks, rfl, q1, q2, q3⟩
              have hb := hW.trans (q3.mono hW.size)
              exact ⟨oa, ck, ks, rfl, (HC.out _ (HB3.out.trans (hb.mono HB3.out.size))).1, q1, q2, hb⟩
            have HGs : Hid (∀ ks W, Hid (KeysOf L ks ∧ ∃ oa, GrsAt W oa (ks.map (grOf L)) ∧ Below wr.heap.size wr W) → Calls Tryz.prog 14 #[.pointer (some ⟨be, 0, none⟩)] W fun e w' => ∃ oa ck, e = .returned (.slice oa ks.length ck) ∧ w'.cell? ⟨bt, 0, none⟩ = some (.pointer (some ⟨be, 0, none⟩)) ∧ Hid (GrsAt w' oa (ks.map (grOf L)) ∧ Below W.heap.size W w')) := by
              intro ks W hh
              obtain ⟨hK, _, _, hW⟩ := hh.out
              have hb3 := HB3.out.trans (hW.mono HB3.out.size)
              refine (HGp.out W hb3).mono ?_
              rintro e w' ⟨oa, ck, ks', rfl, hh'⟩
              obtain ⟨q1, q2, q3⟩ := hh'.out
              obtain rfl := q1.eq hK (List.Perm.refl _)
              exact ⟨oa, ck, rfl, (HC.out _ (hb3.trans (q3.mono hb3.size))).1, q2, q3⟩
            have hBd : Hid (Below wr.heap.size wr wr.drew) := (Below.refl _ _).drew
            have HKl : Hid (∀ ks, KeysOf L ks → ks.length ≤ 20000) := fun ks hk => Nat.le_trans hk.2.2 HLw.out.2
            clear Kb HGp
            go_wp2
            go_region_held3 (fun W => W.cell? ⟨bt, 0, none⟩ = some (.pointer (some ⟨be, 0, none⟩))) (first | (go_keep; done) | fail) (first
              | (go_at_call 14; refine (HGs.out _ _ h5).mono ?_; rintro e w6 ⟨oa6, ck6, rfl, hc6, h6⟩)
              | (go_at_call 19; refine (HAl.out _ hBd.out).mono ?_; rintro e w5 ⟨oa5, ck5, ks, rfl, hc5, h5r⟩; have h5 : Hid (KeysOf L ks ∧ ∃ oa, GrsAt w5 oa (ks.map (grOf L)) ∧ Below wr.heap.size wr w5) := ⟨h5r.out.1, oa5, h5r.out.2.1, h5r.out.2.2⟩)
              | fail)
            have hkl : ks.length ≤ 20000 := HKl.out ks h5r.out.1
            have ik : (ks.length : Int) ≤ 20000 := by omega
            have HQ : Hid (GrsAt w6 oa5 (ks.map (grOf L)) ∧ GrsAt w6 oa6 (ks.map (grOf L))) := ⟨h5r.out.2.1.below h6.out.2, h6.out.1⟩
            have HB6 : Hid (Below w3.heap.size w3 w6) := by
              have hb := h5r.out.2.2.trans (h6.out.2.mono h5r.out.2.2.size)
              exact HB3.out.trans (hb.mono HB3.out.size)
            have HQl : Hid ((ks.map (grOf L)).length = ks.length) := List.length_map _
            generalize ks.map (grOf L) = Q at HQ HQl
            generalize ks.length = nk at *
            clear h5 h5r h6 HAl HGs hBd HKl HB3 hcz hc5
            go_wp2
            go_loopg [21] nk (fun gg s21 wk => ∃ k : Nat, k ≤ nk ∧ gg = nk - k ∧ s21 = .int .i64 k ∧ Hid (Below w6.heap.size w6 wk))
            case atStart => exact ⟨0, Nat.zero_le _, rfl, rfl, Below.refl _ _⟩
            case round =>
              obtain ⟨k, hkR, hgk4, rfl, Kb⟩ := hrel
              have HG4 : Hid (gk = nk - k) := hgk4
              clear hgk4 hc6
              by_cases hlk : k < nk
              · obtain ⟨q, hq⟩ : ∃ q, Q[k]? = some q := ⟨_, List.getElem?_eq_getElem (by rw [HQl.out]; exact hlk)⟩
                obtain ⟨g5, rfl, hg5, a0, a1, a2, a3, a4, a5⟩ := (HQ.out.1.below Kb.out) k q hq
                obtain ⟨g6, rfl, hg6, b0, b1, b2, b3, b4, b5⟩ := (HQ.out.2.below Kb.out) k q hq
                have m1 : (0 : Int) ≤ (k : Int) := by omega
                have m2 : (k : Int) < (nk : Int) := by omega
                have hnq := neq_grp q
                have HK5 : Hid (Below w6.heap.size w6 wr.drew) := Kb.out.drew
                clear Kb hq HQ HQl
                go_wp2
                go_region
                go_wp2
                go_roundg (nk - (k + 1))
                all_goals first
                  | (have := HG4.out; omega)
                  | exact ⟨k + 1, by omega, rfl, by first | rfl | (congr 1; omega) | go_num, HK5⟩
              · have m2 : ¬ ((k : Int) < (nk : Int)) := by omega
                have HB7 : Hid (Below w3.heap.size w3 wr) := HB6.out.trans (Kb.out.mono HB6.out.size)
                have hc7 := HC.out _ HB7.out
                clear Kb HQ HQl
                have HV3 : Hid (∀ W, Hid (Mv w1 bt be x2 L W) → Calls Tryz.prog 10 #[.pointer (some ⟨be, 0, none⟩)] W fun e w' => ∃ oa ck, e = .returned (.slice oa Z.length ck) ∧ Hid (Mv w1 bt be x2 L w')) := by
                  intro W hW
                  have := HV2.out W hW
                  rw [← HZp.out.length_eq] at this
                  exact this
                have HH20 : Hid (∀ W, Hid (Mv w1 bt be x2 L W) → Calls Tryz.prog 17 #[.pointer (some ⟨be, 0, none⟩), .int .i64 0] W fun e w' => e = .returned (.int .i64 0) ∧ w' = W) := fun W hW => HH2.out 0 W (by omega) hW
                have HH21 : Hid (∀ W, Hid (Mv w1 bt be x2 L W) → Calls Tryz.prog 17 #[.pointer (some ⟨be, 0, none⟩), .int .i64 1] W fun e w' => e = .returned (.int .i64 0) ∧ w' = W) := fun W hW => HH2.out 1 W (by omega) hW
                clear HV2 HH2 HVw HLw HC HZw
                go_wp2_with (first
                  | (go_at_call 20; refine (HM1.out _ h8).mono ?_; rintro e w9 ⟨rfl, h9⟩; have hc9 := h9.out.cell; have hl9 := World.block_lt_of_cell? _ _ hc9)
                  | (go_at_call 20; refine (HM0.out _ HB7.out).mono ?_; rintro e w8 ⟨rfl, h8⟩; have hc8 := h8.out.cell; have hl8 := World.block_lt_of_cell? _ _ hc8)
                  | (go_at_call 10; refine (HV3.out _ h9).mono ?_; rintro e w10 ⟨oa10, ck10, rfl, h10⟩; have hc10 := h10.out.cell; have hl10 := World.block_lt_of_cell? _ _ hc10)
                  | (go_at_call 17; refine (HH20.out _ h10).mono ?_; rintro e w11 ⟨rfl, hw⟩; have hw := hw.symm; subst hw)
                  | (go_at_call 17; refine (HH21.out _ h10).mono ?_; rintro e w11 ⟨rfl, hw⟩; have hw := hw.symm; subst hw)
                  | fail)
                go_ret
                exact ⟨rfl, HB1.out.trans (h10.out.low.mono HB1.out.size)⟩

end Go.Proofs.YtmmbjbgimpgcfaaGreatDoor
