/- EngineOrder's walk where no step is told (a nil slice). -/
import Derived.Test.YtmmbjbgimpgcfaaGreatDoorEvi
namespace Go.Proofs.YtmmbjbgimpgcfaaGreatDoor
open Go.RowKit Go.Sort
set_option maxRecDepth 100000

set_option maxHeartbeats 8000000 in
theorem engineOrder_none {EngAt : Nat → J → List O → (Nat → Prop) → World → Prop} (E : EngFeeds EngAt) {vOf : List O → List O} {gOf : List O → List GrQ} (Sh : EngShows EngAt vOf gOf) (hM : ∀ W, Calls Tryz.prog 7 #[] W fun e w' => e = .returned (.bool true) ∧ Below W.heap.size W w')
    (low high md : Int) (c : Nat) (oo : Option Addr) (m co : Nat) (w : World) 
    (hO : 0 < m → ∃ g2 o2, oo = some ⟨g2, o2, none⟩ ∧ g2 < w.heap.size ∧ ∀ k, k < m → ∃ a, w.cell? ⟨g2, o2 + k, none⟩ = some (.int .i64 a)) :
    Calls Tryz.prog 4 #[.int .i64 low, .int .i64 high, .int .i64 md, .slice none 0 c, .slice oo m co] w fun e w' => e = .returned (.bool true) ∧ Below w.heap.size w w' := by
  · by_cases h100 : 100 < m
    · have i2 : (100 : Int) < (m : Int) := by omega
      clear hO
      go_enter Tryz.func4, Tryz.ntmps4
      go_wp2
      go_ret
      exact ⟨rfl, Below.refl _ _⟩
    · skip
      have i2 : ¬ (100 : Int) < (m : Int) := by omega
      have i4 : (m : Int) ≤ 100 := by omega
      obtain ⟨i0, hi0, hz0, hz1, hz2⟩ := info_parts infoSt
      have HO : Hid (0 < m → ∃ g2 o2, oo = some ⟨g2, o2, none⟩ ∧ g2 < w.heap.size ∧ ∀ k, k < m → ∃ a, w.cell? ⟨g2, o2 + k, none⟩ = some (.int .i64 a)) := hO
      have hBg := fun base W (hb : base ≤ W.heap.size) => otale_begins E low high md base W hb
      generalize loOf low = lo at *
      generalize hiOf low high = hi at *
      generalize modeOf md = mode at *
      clear hO
      go_enter Tryz.func4, Tryz.ntmps4
      go_wp2_with fail
      refine (hM _).mono ?_
      rintro e w1 ⟨rfl, hb1⟩
      have HB1 : Hid (Below w.heap.size w w1) := hb1
      clear hb1
      go_wp2_with fail
      refine (hBg w1.heap.size w1 (Nat.le_refl _)).mono ?_
      rintro e w2 ⟨ba, Pa, rfl, h1, h2, h3⟩
      have A2 : Hid (After EngAt w1.heap.size ba lo hi mode [] Pa w2 ∧ (∀ k, Pa k → w1.heap.size ≤ k) ∧ Below w1.heap.size w1 w2) := ⟨h1, h2, h3⟩
      clear h1 h2 h3
      go_wp2_with fail
      refine (hBg w1.heap.size w2 A2.out.2.2.size).mono ?_
      rintro e w3 ⟨bb, Pb, rfl, h1, h2, h3⟩
      have hw3 : Below w1.heap.size w1 w3 := A2.out.2.2.trans (h3.mono A2.out.2.2.size)
      have A3 : Hid ((∃ Pa Pb : Nat → Prop, After EngAt w1.heap.size ba lo hi mode [] Pa w3 ∧ After EngAt w1.heap.size bb lo hi mode [] Pb w3 ∧ (∀ k, Pa k → ¬ Pb k) ∧ (∀ k, Pa k ∨ Pb k → w1.heap.size ≤ k ∧ k < w3.heap.size)) ∧ Below w1.heap.size w1 w3) := by
        have hla := OTale.lt A2.out.1
        refine ⟨⟨Pa, Pb, OTale.steady E A2.out.1 h3.size (fun k hk => h3.block k (hla k hk)), h1, fun k hk hb => ?_, fun k hk => ?_⟩, hw3⟩
        · have := hla k hk; have := h2 k hb; omega
        · rcases hk with hk | hk
          · have := hla k hk; have := h3.size; exact ⟨A2.out.2.1 k hk, by omega⟩
          · have := h2 k hk; have := A2.out.2.2.size; exact ⟨by omega, OTale.lt h1 k hk⟩
      have hl3 := hw3.size
      have T4 : Hid (Two EngAt w1 ba bb lo hi mode [] [] (.slice (some ⟨w3.heap.size, 0, none⟩) 0 0) [] (w3.alloc (.cells #[] 28))) := by
        obtain ⟨⟨Pa, Pb, g1, g2, g3, g4⟩, g5⟩ := A3.out
        have hb4 : Below w3.heap.size w3 (w3.alloc (.cells #[] 28)) := Go.Joins.below_alloc1 w3 (.cells #[] 28)
        refine ⟨⟨Pa, Pb, OTale.steady E g1 hb4.size (fun k hk => hb4.block k (g4 k (Or.inl hk)).2), OTale.steady E g2 hb4.size (fun k hk => hb4.block k (g4 k (Or.inr hk)).2), g3, fun k hk => ⟨(g4 k hk).1, fun e => ?_⟩⟩, ⟨rfl, .inr ⟨w3.heap.size, 0, #[], rfl, hl3, heap_alloc_new _ _, Nat.le_refl _, Nat.zero_le _, rfl, rfl⟩⟩, g5.trans (hb4.mono g5.size)⟩
        have := (g4 k hk).2
        simp [Value.ownBlock] at e
        omega
      clear h1 h2 h3 hw3 A2 hBg hM A3
      go_wp2
      revert T4
      generalize w3.alloc (.cells #[] 28) = wr
      intro T4
      obtain ⟨⟨Pa, Pb, ⟨be1, bf1, nF1, va1, vb1, F1, L1, x1, S1, h1⟩, ⟨be2, bf2, nF2, va2, vb2, F2, L2, x2, S2, h2⟩, h3, h4⟩, h5, h6⟩ := T4.out
      have hc1 := h1.tale.cells
      have hc2 := h2.tale.cells
      have hl1 := h1.tale.lt
      have hl2 := h2.tale.lt
      have hRp : ([] : List St).Perm [] := List.Perm.refl _
      have hLL : L2.Perm L1 := h2.lv.trans ((view_perm (rowsOf_perm hRp) (rowsOf_perm hRp)).trans h1.lv.symm)
      have hlen : L1.length ≤ 20000 := by
        rw [h1.lv.length_eq]
        exact view_small _ _ _ _ _ 0 (by omega) (rowsOf_len [])
      have hlow := h6
      obtain ⟨Z, hZ⟩ : ∃ Z, Z = vOf L1 := ⟨_, rfl⟩
      obtain ⟨G, hG⟩ : ∃ G, G = gOf L1 := ⟨_, rfl⟩
      have hZl : (Z.length : Int) ≤ 20000 := by have := Sh.vlen L1; rw [← hZ] at this; omega
      have hGl : (G.length : Int) ≤ 20000 := by have := Sh.glen L1; rw [← hG] at this; omega
      have V1 : Hid (∀ W, Below wr.heap.size wr W → Calls Tryz.prog 10 #[.pointer (some ⟨be1, 0, none⟩)] W fun e w' => ∃ oa c, e = .returned (.slice oa Z.length c) ∧ w'.ownsRow W.heap.size 50 9 (.slice oa Z.length c) Z.length (Z.flatMap encO) ∧ Below W.heap.size W w') := fun W hW => by
        rw [hZ]; exact Sh.view be1 x1 L1 S1 W (E.steady _ _ _ S1 wr W h1.eng hW.size (fun k hk => hW.block k (h1.foot k hk).1)) (by omega)
      have V2 : Hid (∀ W, Below wr.heap.size wr W → Calls Tryz.prog 10 #[.pointer (some ⟨be2, 0, none⟩)] W fun e w' => ∃ oa c, e = .returned (.slice oa Z.length c) ∧ w'.ownsRow W.heap.size 50 9 (.slice oa Z.length c) Z.length (Z.flatMap encO) ∧ Below W.heap.size W w') := fun W hW => by
        rw [hZ, ← Sh.vperm hLL]; exact Sh.view be2 x2 L2 S2 W (E.steady _ _ _ S2 wr W h2.eng hW.size (fun k hk => hW.block k (h2.foot k hk).1)) (by rw [hLL.length_eq]; omega)
      have U1 : Hid (∀ W, Below wr.heap.size wr W → Calls Tryz.prog 14 #[.pointer (some ⟨be1, 0, none⟩)] W fun e w' => ∃ oa c, e = .returned (.slice oa G.length c) ∧ w'.ownsRow W.heap.size 52 6 (.slice oa G.length c) G.length (G.flatMap encGQ) ∧ Below W.heap.size W w') := fun W hW => by
        rw [hG]; exact Sh.groups be1 x1 L1 S1 W (E.steady _ _ _ S1 wr W h1.eng hW.size (fun k hk => hW.block k (h1.foot k hk).1)) (by omega)
      have U2 : Hid (∀ W, Below wr.heap.size wr W → Calls Tryz.prog 14 #[.pointer (some ⟨be2, 0, none⟩)] W fun e w' => ∃ oa c, e = .returned (.slice oa G.length c) ∧ w'.ownsRow W.heap.size 52 6 (.slice oa G.length c) G.length (G.flatMap encGQ) ∧ Below W.heap.size W w') := fun W hW => by
        rw [hG, ← Sh.gperm hLL]; exact Sh.groups be2 x2 L2 S2 W (E.steady _ _ _ S2 wr W h2.eng hW.size (fun k hk => hW.block k (h2.foot k hk).1)) (by rw [hLL.length_eq]; omega)
      have HLow : Hid (Below w.heap.size w wr) := HB1.out.trans (hlow.mono HB1.out.size)
      have HZw : Hid (∀ o ∈ Z, o.wf) := fun o ho => view_wf h1.sa h1.sb o (h1.lv.subset (Sh.vsub L1 o (by rw [← hZ]; exact ho)))
      clear h1 h2 h3 h4 h5 h6 hZ hG hLL hRp hlow hlen
      obtain ⟨hc1, _⟩ := hc1
      obtain ⟨hc2, _⟩ := hc2
      refine wp_loop_rounds 1 ?_
      rw [rounds_succ]
      go_wp2
      refine wp_loop_rounds 1 ?_
      rw [rounds_succ]
      go_wp2
      go_region_held3 (fun W => W.cell? ⟨ba, 0, none⟩ = some (.pointer (some ⟨be1, 0, none⟩)) ∧ W.cell? ⟨bb, 0, none⟩ = some (.pointer (some ⟨be2, 0, none⟩))) (first | (go_keep; done) | fail) (first
        | (go_at_call 10; refine (V2.out _ B5.out.1).mono ?_; rintro e w6 ⟨oa6, ck6, rfl, hr6, hb6⟩; have B6 : Hid (Below wr.heap.size wr w6 ∧ w6.ownsRow wr.heap.size 50 9 (.slice oa5 Z.length ck5) Z.length (Z.flatMap encO) ∧ w6.ownsRow wr.heap.size 50 9 (.slice oa6 Z.length ck6) Z.length (Z.flatMap encO)) := next_rows B5.out.1 B5.out.2 hr6 hb6; have d3 := (B6.out.1.cell (p := ⟨ba, 0, none⟩) hl1).trans hc1; have d4 := (B6.out.1.cell (p := ⟨bb, 0, none⟩) hl2).trans hc2; clear hr6 hb6)
        | (go_at_call 10; refine (V1.out _ (Below.refl _ _).drew).mono ?_; rintro e w5 ⟨oa5, ck5, rfl, hr5, hb5⟩; have B5 : Hid (Below wr.heap.size wr w5 ∧ w5.ownsRow wr.heap.size 50 9 (.slice oa5 Z.length ck5) Z.length (Z.flatMap encO)) := ⟨(Below.refl _ _).drew.trans hb5, hr5⟩; have d1 := (B5.out.1.cell (p := ⟨ba, 0, none⟩) hl1).trans hc1; have d2 := (B5.out.1.cell (p := ⟨bb, 0, none⟩) hl2).trans hc2; clear hr5 hb5)
        | fail)
      clear V1 V2 B5 d1 d2
      go_wp2
      go_region_held3 (fun W => W.cell? ⟨ba, 0, none⟩ = some (.pointer (some ⟨be1, 0, none⟩)) ∧ W.cell? ⟨bb, 0, none⟩ = some (.pointer (some ⟨be2, 0, none⟩))) (first | (go_keep; done) | fail) (first
        | (go_at_call 14; refine (U2.out _ B7.out.1).mono ?_; rintro e w8 ⟨oa8, ck8, rfl, hr8, hb8⟩; have B8 : Hid (Below wr.heap.size wr w8 ∧ (w8.ownsRow wr.heap.size 50 9 (.slice oa5 Z.length ck5) Z.length (Z.flatMap encO) ∧ w8.ownsRow wr.heap.size 50 9 (.slice oa6 Z.length ck6) Z.length (Z.flatMap encO)) ∧ w8.ownsRow wr.heap.size 52 6 (.slice oa7 G.length ck7) G.length (G.flatMap encGQ) ∧ w8.ownsRow wr.heap.size 52 6 (.slice oa8 G.length ck8) G.length (G.flatMap encGQ)) := ⟨(next_rows B7.out.1 B7.out.2.2 hr8 hb8).1, ⟨kept_below B7.out.2.1.1 hb8, kept_below B7.out.2.1.2 hb8⟩, (next_rows B7.out.1 B7.out.2.2 hr8 hb8).2⟩; have d7 := (B8.out.1.cell (p := ⟨ba, 0, none⟩) hl1).trans hc1; have d8 := (B8.out.1.cell (p := ⟨bb, 0, none⟩) hl2).trans hc2; clear hr8 hb8)
        | (go_at_call 14; refine (U1.out _ B6.out.1.drew).mono ?_; rintro e w7 ⟨oa7, ck7, rfl, hr7, hb7⟩; have hbd : Below w6.heap.size w6 w7 := (Below.refl _ _).drew.trans hb7; have B7 : Hid (Below wr.heap.size wr w7 ∧ (w7.ownsRow wr.heap.size 50 9 (.slice oa5 Z.length ck5) Z.length (Z.flatMap encO) ∧ w7.ownsRow wr.heap.size 50 9 (.slice oa6 Z.length ck6) Z.length (Z.flatMap encO)) ∧ w7.ownsRow wr.heap.size 52 6 (.slice oa7 G.length ck7) G.length (G.flatMap encGQ)) := ⟨B6.out.1.trans (hbd.mono B6.out.1.size), ⟨kept_below B6.out.2.1 hbd, kept_below B6.out.2.2 hbd⟩, hr7.mono B6.out.1.size⟩; have d5 := (B7.out.1.cell (p := ⟨ba, 0, none⟩) hl1).trans hc1; have d6 := (B7.out.1.cell (p := ⟨bb, 0, none⟩) hl2).trans hc2; clear hr7 hb7 hbd)
        | fail)
      clear U1 U2 B6 B7 d3 d4 d5 d6 d7 d8 hc1 hc2
      go_wp2
      go_loopg [21] Z.length (fun gg s21 wz => ∃ j : Nat, j ≤ Z.length ∧ gg = Z.length - j ∧ s21 = .int .i64 j ∧ Hid (Below w8.heap.size w8 wz))
      case atStart => exact ⟨0, Nat.zero_le _, rfl, rfl, Below.refl _ _⟩
      case round =>
        obtain ⟨j, hjle, hgk, rfl, I8⟩ := hrel
        have HG8 : Hid (gk = Z.length - j) := hgk
        clear hgk
        by_cases hltz : j < Z.length
        · obtain ⟨z, hz⟩ : ∃ z, Z[j]? = some z := ⟨_, List.getElem?_eq_getElem hltz⟩
          obtain ⟨ga, ca, eqa⟩ := Go.Joins.ownsRow_form B8.out.2.1.1 (by omega)
          obtain ⟨gb, cb, eqb⟩ := Go.Joins.ownsRow_form B8.out.2.1.2 (by omega)
          cases eqa
          cases eqb
          have hca := ks_cells (kept_below B8.out.2.1.1 I8.out) j z hz
          have hcb := ks_cells (kept_below B8.out.2.1.2 I8.out) j z hz
          have hnq := neq_out50 z
          simp only [vO] at hnq
          have l1 : (0 : Int) ≤ (j : Int) := by omega
          have l2 : (j : Int) < (Z.length : Int) := by omega
          clear hz
          go_wp2
          go_region
          all_goals (try go_wp2)
          all_goals go_roundg (Z.length - (j + 1))
          all_goals first
            | exact ⟨j + 1, by omega, rfl, by first | rfl | (congr 1; omega) | go_num, I8.out.drew⟩
            | (have := HG8.out; omega)
        · have l2 : ¬ ((j : Int) < (Z.length : Int)) := by omega
          have HX : Hid (∀ W, Below w8.heap.size w8 W → Below w.heap.size w W) := fun W hW => by
            have h1 := HLow.out
            have h2 := B8.out.1
            exact h1.trans ((h2.trans (hW.mono h2.size)).mono h1.size)
          clear HG8
          go_wp2
          go_loopg [22] G.length (fun gg s22 wz => ∃ k : Nat, k ≤ G.length ∧ gg = G.length - k ∧ s22 = .int .i64 k ∧ Hid (Below w8.heap.size w8 wz))
          case atStart => exact ⟨0, Nat.zero_le _, rfl, rfl, I8⟩
          case round =>
            clear I8
            obtain ⟨k, hkle, hgk, rfl, I9⟩ := hrel
            have HG9 : Hid (gk = G.length - k) := hgk
            clear hgk
            by_cases hltg : k < G.length
            · obtain ⟨q, hq⟩ : ∃ q, G[k]? = some q := ⟨_, List.getElem?_eq_getElem hltg⟩
              obtain ⟨ga, ca, eqa⟩ := Go.Joins.ownsRow_form B8.out.2.2.1 (by omega)
              obtain ⟨gb, cb, eqb⟩ := Go.Joins.ownsRow_form B8.out.2.2.2 (by omega)
              cases eqa
              cases eqb
              have hca := gr_cells (kept_below B8.out.2.2.1 I9.out) k q hq
              have hcb := gr_cells (kept_below B8.out.2.2.2 I9.out) k q hq
              have hnq := neq_grp q
              have l3 : (0 : Int) ≤ (k : Int) := by omega
              have l4 : (k : Int) < (G.length : Int) := by omega
              clear hq
              go_wp2
              go_region
              all_goals (try go_wp2)
              all_goals go_roundg (G.length - (k + 1))
              all_goals first
                | exact ⟨k + 1, by omega, rfl, by first | rfl | (congr 1; omega) | go_num, I9.out.drew⟩
                | (have := HG9.out; omega)
            · have l4 : ¬ ((k : Int) < (G.length : Int)) := by omega
              clear HG9
              go_wp2
              go_ret
              exact ⟨rfl, HX.out _ I9.out⟩

end Go.Proofs.YtmmbjbgimpgcfaaGreatDoor
