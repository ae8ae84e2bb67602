/- EngineLasts' walk. -/
import Derived.Test.YtmmbjbgimpgcfaaGreatDoorLsz
namespace Go.Proofs.YtmmbjbgimpgcfaaGreatDoor
open Go.RowKit Go.Sort Go.Shelf
set_option maxRecDepth 100000

set_option maxHeartbeats 16000000 in
theorem engineLasts_any (hM : ∀ W, Calls Tryz.prog 7 #[] W fun e w' => e = .returned (.bool true) ∧ Below W.heap.size W w')
    (low high md : Int) (oa : Option Addr) (n c : Nat) (when : Int) (T : Nat → List Int) (w : World) (hG : Glob w) (hT : ∀ k, k < n → ∃ g off, oa = some ⟨g, off, none⟩ ∧ g < w.heap.size ∧ Cells6 w g (off + k * 6) (T k)) :
    Calls Tryz.prog 6 #[.int .i64 low, .int .i64 high, .int .i64 md, .slice oa n c, .int .i64 when] w fun e w' => e = .returned (.bool true) ∧ Below w.heap.size w w' := by
  by_cases h80 : 80 < n
  · have i1 : (80 : Int) < (n : Int) := by omega
    clear hT hG
    go_enter Tryz.func6, Tryz.ntmps6
    go_wp2
    go_ret
    exact ⟨rfl, Below.refl _ _⟩
  · have i1 : ¬ (80 : Int) < (n : Int) := by omega
    have i2 : (n : Int) ≤ 80 := by omega
    have i3 : (0 : Int) ≤ (n : Int) := by omega
    have HT : Hid (∀ k, k < n → ∃ g off, oa = some ⟨g, off, none⟩ ∧ g < w.heap.size ∧ Cells6 w g (off + k * 6) (T k)) := hT
    have HGw : Hid (Glob w) := hG
    have hBg := fun W => ltale_new low high md W
    have hok := plan_ok low high md
    have HOk : Hid (planOk (loOf low) (hiOf low high) (modeOf md)) := hok
    generalize loOf low = lo at *
    generalize hiOf low high = hi at *
    generalize modeOf md = mode at *
    clear hT hok hG
    go_enter Tryz.func6, Tryz.ntmps6
    go_wp2_with (first
      | (go_at_call 7; refine (hM _).mono ?_; rintro e w1 ⟨rfl, hb1⟩; have HB1 : Hid (Below w.heap.size w w1) := hb1; clear hb1)
      | (go_at_call 8; refine (hBg _).mono ?_; rintro e w2b ⟨bb, rfl, h2b⟩; have T2 : Hid (Duo w1 ba bb lo hi mode (sy0 lo hi mode) (sy0 lo hi mode) 0 0 (fun _ => False) w2b) := duo_new T1.out h2b; clear h2b T1)
      | (go_at_call 8; refine (hBg _).mono ?_; rintro e w2 ⟨ba, rfl, h2⟩; have T1 : Hid (∃ P, LTale w1.heap.size ba lo hi mode (sy0 lo hi mode) 0 P w2 ∧ (∀ k, P k → w1.heap.size ≤ k) ∧ Below w1.heap.size w1 w2) := h2; clear h2)
      | (go_at_call 13; refine (pick_int _ _ _ (by omega) (by omega)).mono ?_; rintro e w' ⟨rfl, hw⟩; have hw := hw.symm; subst hw)
      | fail)
    clear hBg hM
    generalize (IntKind.u64.wrap when).tmod _ = m
    have HG1 : Hid (Glob w1) := HGw.out.below HB1.out
    go_loopg [13] n (fun gg s13 wr => ∃ i : Nat, i ≤ n ∧ gg = n - i ∧ s13 = .int .i64 i ∧ Hid (∃ s, SyOk lo hi mode i s ∧ Duo w1 ba bb lo hi mode s s i i (fun _ => False) wr))
    case atStart => exact ⟨0, Nat.zero_le _, rfl, rfl, _, sy0_ok HOk.out, T2.out⟩
    case round =>
      obtain ⟨i, hile, hgk, rfl, I⟩ := hrel
      have HG : Hid (gk = n - i) := hgk
      clear hgk T2
      obtain ⟨s, hso, hD⟩ := I.out
      have HSo : Hid (SyOk lo hi mode i s) := hso
      have HD : Hid (Duo w1 ba bb lo hi mode s s i i (fun _ => False) wr) := hD
      clear hso hD I
      by_cases hlt : i < n
      · obtain ⟨g, off, rfl, hg, hC⟩ := HT.out i hlt
        have hC6 : Hid (Cells6 w g (off + i * 6) (T i)) := hC
        have j1 : (0 : Int) ≤ (i : Int) := by omega
        have j2 : (i : Int) < (n : Int) := by omega
        clear hC
        by_cases hm : m ≤ (i : Int)
        · have hst := HD.out.saveB HG1.out HSo.out (by omega) 0 0 0 0 0
          go_wp2_with fail
          refine hst.mono ?_
          rintro e w3 ⟨rfl, h3⟩
          have D3 : Hid (Duo w1 ba bb lo hi mode s s i i (fun _ => False) w3) := h3
          clear hst h3 HD
          have HL3 : Hid (Below w.heap.size w w3) := HB1.out.trans (D3.out.low.mono HB1.out.size)
          obtain ⟨qa, qb, qc, qd, qe, qf, hs6, k1, k2, k3, k4, k5, k6⟩ := hC6.out.below HL3.out hg
          clear hs6 hC6
          by_cases hq : qa = 2
          · subst hq
            have HE : Hid (∀ W, Below w3.heap.size w3 W → ∃ s, SyOk lo hi mode (i + 1) s ∧ Duo w1 ba bb lo hi mode s s (i + 1) (i + 1) (fun _ => False) W) := fun W hW => ⟨s, HSo.out.more (by omega), (D3.out.below hW).more (by omega) (by omega)⟩
            have hBx : Hid (Below w3.heap.size w3 (w3.alloc (Obj.cells #[.int .i64 2, .int .i64 qb, .int .i64 qc, .int .i64 qd, .int .i64 qe, .int .i64 qf] 28))) := Go.Joins.below_alloc1 _ _
            clear D3
            go_wp2
            go_roundg (n - (i + 1))
            case measure => have := HG.out; omega
            case rel => exact ⟨i + 1, by omega, rfl, by first | rfl | (congr 1; omega) | go_num, HE.out _ hBx.out⟩
          · have hq2 : (qa == 2) = false := by simp [hq]
            have hstA := (D3.out.beside (Go.Joins.below_alloc1 w3 (Obj.cells #[.int .i64 qa, .int .i64 qb, .int .i64 qc, .int .i64 qd, .int .i64 qe, .int .i64 qf] 28)) (by simp)).stepA HG1.out HSo.out (by omega) ⟨qa, qb, qc, qd, qe, qf⟩ hq
            have hbx : (w3.alloc (Obj.cells #[.int .i64 qa, .int .i64 qb, .int .i64 qc, .int .i64 qd, .int .i64 qe, .int .i64 qf] 28)).heap[w3.heap.size]? = some (Obj.cells #[.int .i64 qa, .int .i64 qb, .int .i64 qc, .int .i64 qd, .int .i64 qe, .int .i64 qf] 28) := heap_alloc_new w3 _
            have HBX : Hid ((w3.alloc (Obj.cells #[.int .i64 qa, .int .i64 qb, .int .i64 qc, .int .i64 qd, .int .i64 qe, .int .i64 qf] 28)).heap[w3.heap.size]? = some (Obj.cells #[.int .i64 qa, .int .i64 qb, .int .i64 qc, .int .i64 qd, .int .i64 qe, .int .i64 qf] 28)) := hbx
            have HQ : Hid (qa ≠ 2) := hq
            clear hbx D3 hq
            go_wp2_with fail
            refine hstA.mono ?_
            rintro e w4 ⟨rfl, h4, hk4⟩
            have D4 : Hid (Duo w1 ba bb lo hi mode (s.next ⟨qa, qb, qc, qd, qe, qf⟩) s (i + 1) i (fun k => k = w3.heap.size) w4) := h4
            have hb4 := (hk4 _ rfl).trans HBX.out
            have hl4 : w3.heap.size < w4.heap.size := h4.kk _ rfl
            have x0 : w4.cell? ⟨w3.heap.size, 0, none⟩ = some (.int .i64 qa) := by rw [Go.Joins.cell_of_block hb4]; rfl
            have x1 : w4.cell? ⟨w3.heap.size, 1, none⟩ = some (.int .i64 qb) := by rw [Go.Joins.cell_of_block hb4]; rfl
            have x2 : w4.cell? ⟨w3.heap.size, 2, none⟩ = some (.int .i64 qc) := by rw [Go.Joins.cell_of_block hb4]; rfl
            have x3 : w4.cell? ⟨w3.heap.size, 3, none⟩ = some (.int .i64 qd) := by rw [Go.Joins.cell_of_block hb4]; rfl
            have x4 : w4.cell? ⟨w3.heap.size, 4, none⟩ = some (.int .i64 qe) := by rw [Go.Joins.cell_of_block hb4]; rfl
            have x5 : w4.cell? ⟨w3.heap.size, 5, none⟩ = some (.int .i64 qf) := by rw [Go.Joins.cell_of_block hb4]; rfl
            have hstB := h4.stepB HG1.out HSo.out (by omega) ⟨qa, qb, qc, qd, qe, qf⟩ HQ.out
            clear hstA h4 hk4 hb4 HBX k1 k2 k3 k4 k5 k6 hq2
            go_wp2_with fail
            refine hstB.mono ?_
            rintro e w5 ⟨rfl, h5, hk5⟩
            have HS5 : Hid (SyOk lo hi mode (i + 1) (s.next ⟨qa, qb, qc, qd, qe, qf⟩)) := HSo.out.next (by omega) ⟨qa, qb, qc, qd, qe, qf⟩
            have D5 : Hid (Duo w1 ba bb lo hi mode (s.next ⟨qa, qb, qc, qd, qe, qf⟩) (s.next ⟨qa, qb, qc, qd, qe, qf⟩) (i + 1) (i + 1) (fun _ => False) w5) := h5.alone
            clear hstB h5 hk5 x0 x1 x2 x3 x4 x5 D4 HSo HQ hl4
            generalize s.next ⟨qa, qb, qc, qd, qe, qf⟩ = s5 at HS5 D5
            obtain ⟨be1, be2, oa1, ob1, oa2, ob2, ca1, cb1, ca2, cb2, txt, ev, c0, HC, H1, H2, H3, H4, H5⟩ := duo_facts D5.out HS5.out (by omega) HG1.out
            have HE : Hid (∀ W, Below w5.heap.size w5 W → ∃ s, SyOk lo hi mode (i + 1) s ∧ Duo w1 ba bb lo hi mode s s (i + 1) (i + 1) (fun _ => False) W) := fun W hW => ⟨s5, HS5.out, D5.out.below hW⟩
            generalize s5.A.length = la at *
            generalize s5.B.length = lb at *
            generalize s5.x.late = lt at *
            clear HS5 D5
            have hc5 := HC.out w5 (Below.refl _ _)
            have hs1 := H1.out w5 (Below.refl _ _)
            simp only [CellsT] at hc5
            go_wp2_with fail
            refine hs1.mono ?_
            rintro e w6 ⟨rfl, hb6⟩
            have B6 : Hid (Below w5.heap.size w5 w6) := hb6
            have hc6 := HC.out w6 hb6
            have hs2 := H2.out w6 hb6
            simp only [CellsT] at hc6
            clear hs1 hb6 hc5
            go_wp2_with fail
            refine hs2.mono ?_
            rintro e w7 ⟨rfl, hb7⟩
            have B7 : Hid (Below w5.heap.size w5 w7) := B6.out.trans (hb7.mono B6.out.size)
            have hc7 := HC.out w7 B7.out
            simp only [CellsT] at hc7
            clear hs2 hb7 hc6 B6
            go_wp2
            have HBd : Hid (Below w5.heap.size w5 w7.drew) := B7.out.drew
            go_region_held3 (fun W => (W.cell? ⟨ba, 0, none⟩ = some (.pointer (some ⟨be1, 0, none⟩)) ∧ W.cell? ⟨ba, 4, none⟩ = some (.slice oa1 la ca1) ∧ W.cell? ⟨ba, 5, none⟩ = some (.slice ob1 lb cb1) ∧ ba < W.heap.size) ∧ (W.cell? ⟨bb, 0, none⟩ = some (.pointer (some ⟨be2, 0, none⟩)) ∧ W.cell? ⟨bb, 4, none⟩ = some (.slice oa2 la ca2) ∧ W.cell? ⟨bb, 5, none⟩ = some (.slice ob2 lb cb2) ∧ bb < W.heap.size)) (first | exact hc7 | exact hc8 | exact hc9 | fail) (first
              | (go_at_call 22; refine (H3.out _ B8.out).mono ?_; rintro e w9 ⟨rfl, hb9⟩; have B9 : Hid (Below w5.heap.size w5 w9) := B8.out.trans (hb9.mono B8.out.size); have hc9 := HC.out w9 B9.out; simp only [CellsT] at hc9; clear hb9)
              | (go_at_call 22; refine (H3.out _ HBd.out).mono ?_; rintro e w8 ⟨rfl, hb8⟩; have B8 : Hid (Below w5.heap.size w5 w8) := HBd.out.trans (hb8.mono HBd.out.size); have hc8 := HC.out w8 B8.out; simp only [CellsT] at hc8; clear hb8)
              | (go_at_call 23; refine (H4.out _ B9.out).mono ?_; rintro e w' ⟨rfl, hw⟩; have hw := hw.symm; subst hw)
              | (go_at_call 23; refine (H5.out _ B9.out).mono ?_; rintro e w' ⟨rfl, hw⟩; have hw := hw.symm; subst hw)
              | fail)
            have HE9 : Hid (∃ s, SyOk lo hi mode (i + 1) s ∧ Duo w1 ba bb lo hi mode s s (i + 1) (i + 1) (fun _ => False) w9) := HE.out w9 B9.out
            clear hc7 hc8 hc9 H1 H2 H3 H4 H5 HC HE HBd B7 B8 B9
            go_wp2
            go_roundg (n - (i + 1))
            case measure => have := HG.out; omega
            case rel => exact ⟨i + 1, by omega, rfl, by first | rfl | (congr 1; omega) | go_num, HE9⟩
        · have hm2 : ¬ (m ≤ (i : Int)) := hm
          have HD2 := HD
          clear HD
          generalize wr = w3 at HD2 ⊢
          have HD := HD2
          clear HD2
          have D3 : Hid (Duo w1 ba bb lo hi mode s s i i (fun _ => False) w3) := HD
          clear HD
          have HL3 : Hid (Below w.heap.size w w3) := HB1.out.trans (D3.out.low.mono HB1.out.size)
          obtain ⟨qa, qb, qc, qd, qe, qf, hs6, k1, k2, k3, k4, k5, k6⟩ := hC6.out.below HL3.out hg
          clear hs6 hC6
          by_cases hq : qa = 2
          · subst hq
            have HE : Hid (∀ W, Below w3.heap.size w3 W → ∃ s, SyOk lo hi mode (i + 1) s ∧ Duo w1 ba bb lo hi mode s s (i + 1) (i + 1) (fun _ => False) W) := fun W hW => ⟨s, HSo.out.more (by omega), (D3.out.below hW).more (by omega) (by omega)⟩
            have hBx : Hid (Below w3.heap.size w3 (w3.alloc (Obj.cells #[.int .i64 2, .int .i64 qb, .int .i64 qc, .int .i64 qd, .int .i64 qe, .int .i64 qf] 28))) := Go.Joins.below_alloc1 _ _
            clear D3
            go_wp2
            go_roundg (n - (i + 1))
            case measure => have := HG.out; omega
            case rel => exact ⟨i + 1, by omega, rfl, by first | rfl | (congr 1; omega) | go_num, HE.out _ hBx.out⟩
          · have hq2 : (qa == 2) = false := by simp [hq]
            have hstA := (D3.out.beside (Go.Joins.below_alloc1 w3 (Obj.cells #[.int .i64 qa, .int .i64 qb, .int .i64 qc, .int .i64 qd, .int .i64 qe, .int .i64 qf] 28)) (by simp)).stepA HG1.out HSo.out (by omega) ⟨qa, qb, qc, qd, qe, qf⟩ hq
            have hbx : (w3.alloc (Obj.cells #[.int .i64 qa, .int .i64 qb, .int .i64 qc, .int .i64 qd, .int .i64 qe, .int .i64 qf] 28)).heap[w3.heap.size]? = some (Obj.cells #[.int .i64 qa, .int .i64 qb, .int .i64 qc, .int .i64 qd, .int .i64 qe, .int .i64 qf] 28) := heap_alloc_new w3 _
            have HBX : Hid ((w3.alloc (Obj.cells #[.int .i64 qa, .int .i64 qb, .int .i64 qc, .int .i64 qd, .int .i64 qe, .int .i64 qf] 28)).heap[w3.heap.size]? = some (Obj.cells #[.int .i64 qa, .int .i64 qb, .int .i64 qc, .int .i64 qd, .int .i64 qe, .int .i64 qf] 28)) := hbx
            have HQ : Hid (qa ≠ 2) := hq
            clear hbx D3 hq
            go_wp2_with fail
            refine hstA.mono ?_
            rintro e w4 ⟨rfl, h4, hk4⟩
            have D4 : Hid (Duo w1 ba bb lo hi mode (s.next ⟨qa, qb, qc, qd, qe, qf⟩) s (i + 1) i (fun k => k = w3.heap.size) w4) := h4
            have hb4 := (hk4 _ rfl).trans HBX.out
            have hl4 : w3.heap.size < w4.heap.size := h4.kk _ rfl
            have x0 : w4.cell? ⟨w3.heap.size, 0, none⟩ = some (.int .i64 qa) := by rw [Go.Joins.cell_of_block hb4]; rfl
            have x1 : w4.cell? ⟨w3.heap.size, 1, none⟩ = some (.int .i64 qb) := by rw [Go.Joins.cell_of_block hb4]; rfl
            have x2 : w4.cell? ⟨w3.heap.size, 2, none⟩ = some (.int .i64 qc) := by rw [Go.Joins.cell_of_block hb4]; rfl
            have x3 : w4.cell? ⟨w3.heap.size, 3, none⟩ = some (.int .i64 qd) := by rw [Go.Joins.cell_of_block hb4]; rfl
            have x4 : w4.cell? ⟨w3.heap.size, 4, none⟩ = some (.int .i64 qe) := by rw [Go.Joins.cell_of_block hb4]; rfl
            have x5 : w4.cell? ⟨w3.heap.size, 5, none⟩ = some (.int .i64 qf) := by rw [Go.Joins.cell_of_block hb4]; rfl
            have hstB := h4.stepB HG1.out HSo.out (by omega) ⟨qa, qb, qc, qd, qe, qf⟩ HQ.out
            clear hstA h4 hk4 hb4 HBX k1 k2 k3 k4 k5 k6 hq2
            go_wp2_with fail
            refine hstB.mono ?_
            rintro e w5 ⟨rfl, h5, hk5⟩
            have HS5 : Hid (SyOk lo hi mode (i + 1) (s.next ⟨qa, qb, qc, qd, qe, qf⟩)) := HSo.out.next (by omega) ⟨qa, qb, qc, qd, qe, qf⟩
            have D5 : Hid (Duo w1 ba bb lo hi mode (s.next ⟨qa, qb, qc, qd, qe, qf⟩) (s.next ⟨qa, qb, qc, qd, qe, qf⟩) (i + 1) (i + 1) (fun _ => False) w5) := h5.alone
            clear hstB h5 hk5 x0 x1 x2 x3 x4 x5 D4 HSo HQ hl4
            generalize s.next ⟨qa, qb, qc, qd, qe, qf⟩ = s5 at HS5 D5
            obtain ⟨be1, be2, oa1, ob1, oa2, ob2, ca1, cb1, ca2, cb2, txt, ev, c0, HC, H1, H2, H3, H4, H5⟩ := duo_facts D5.out HS5.out (by omega) HG1.out
            have HE : Hid (∀ W, Below w5.heap.size w5 W → ∃ s, SyOk lo hi mode (i + 1) s ∧ Duo w1 ba bb lo hi mode s s (i + 1) (i + 1) (fun _ => False) W) := fun W hW => ⟨s5, HS5.out, D5.out.below hW⟩
            generalize s5.A.length = la at *
            generalize s5.B.length = lb at *
            generalize s5.x.late = lt at *
            clear HS5 D5
            have hc5 := HC.out w5 (Below.refl _ _)
            have hs1 := H1.out w5 (Below.refl _ _)
            simp only [CellsT] at hc5
            go_wp2_with fail
            refine hs1.mono ?_
            rintro e w6 ⟨rfl, hb6⟩
            have B6 : Hid (Below w5.heap.size w5 w6) := hb6
            have hc6 := HC.out w6 hb6
            have hs2 := H2.out w6 hb6
            simp only [CellsT] at hc6
            clear hs1 hb6 hc5
            go_wp2_with fail
            refine hs2.mono ?_
            rintro e w7 ⟨rfl, hb7⟩
            have B7 : Hid (Below w5.heap.size w5 w7) := B6.out.trans (hb7.mono B6.out.size)
            have hc7 := HC.out w7 B7.out
            simp only [CellsT] at hc7
            clear hs2 hb7 hc6 B6
            go_wp2
            have HBd : Hid (Below w5.heap.size w5 w7.drew) := B7.out.drew
            go_region_held3 (fun W => (W.cell? ⟨ba, 0, none⟩ = some (.pointer (some ⟨be1, 0, none⟩)) ∧ W.cell? ⟨ba, 4, none⟩ = some (.slice oa1 la ca1) ∧ W.cell? ⟨ba, 5, none⟩ = some (.slice ob1 lb cb1) ∧ ba < W.heap.size) ∧ (W.cell? ⟨bb, 0, none⟩ = some (.pointer (some ⟨be2, 0, none⟩)) ∧ W.cell? ⟨bb, 4, none⟩ = some (.slice oa2 la ca2) ∧ W.cell? ⟨bb, 5, none⟩ = some (.slice ob2 lb cb2) ∧ bb < W.heap.size)) (first | exact hc7 | exact hc8 | exact hc9 | fail) (first
              | (go_at_call 22; refine (H3.out _ B8.out).mono ?_; rintro e w9 ⟨rfl, hb9⟩; have B9 : Hid (Below w5.heap.size w5 w9) := B8.out.trans (hb9.mono B8.out.size); have hc9 := HC.out w9 B9.out; simp only [CellsT] at hc9; clear hb9)
              | (go_at_call 22; refine (H3.out _ HBd.out).mono ?_; rintro e w8 ⟨rfl, hb8⟩; have B8 : Hid (Below w5.heap.size w5 w8) := HBd.out.trans (hb8.mono HBd.out.size); have hc8 := HC.out w8 B8.out; simp only [CellsT] at hc8; clear hb8)
              | (go_at_call 23; refine (H4.out _ B9.out).mono ?_; rintro e w' ⟨rfl, hw⟩; have hw := hw.symm; subst hw)
              | (go_at_call 23; refine (H5.out _ B9.out).mono ?_; rintro e w' ⟨rfl, hw⟩; have hw := hw.symm; subst hw)
              | fail)
            have HE9 : Hid (∃ s, SyOk lo hi mode (i + 1) s ∧ Duo w1 ba bb lo hi mode s s (i + 1) (i + 1) (fun _ => False) w9) := HE.out w9 B9.out
            clear hc7 hc8 hc9 H1 H2 H3 H4 H5 HC HE HBd B7 B8 B9
            go_wp2
            go_roundg (n - (i + 1))
            case measure => have := HG.out; omega
            case rel => exact ⟨i + 1, by omega, rfl, by first | rfl | (congr 1; omega) | go_num, HE9⟩
      · have j2 : ¬ ((i : Int) < (n : Int)) := by omega
        have HX : Hid (Below w.heap.size w wr) := HB1.out.trans (HD.out.low.mono HB1.out.size)
        go_wp2
        go_ret
        exact ⟨rfl, HX.out⟩

end Go.Proofs.YtmmbjbgimpgcfaaGreatDoor
