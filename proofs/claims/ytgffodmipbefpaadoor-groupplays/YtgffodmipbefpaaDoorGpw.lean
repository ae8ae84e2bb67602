/- The walk of GroupPlays. -/
import Derived.Test.YtgffodmipbefpaaDoorGpf
namespace Go.Proofs.YtgffodmipbefpaaDoor
open Go.RowKit Go.Maps Go.Sort Go.Shelf
set_option maxRecDepth 100000

theorem gplays_long (oa : Option Addr) (n c : Nat) (key : Int) (w : World) (hn : 120 < n) : Calls Tryd.prog 6 #[.slice oa n c, .int .i64 key] w fun e w' => e = .returned (.bool true) ∧ Below w.heap.size w w' := by
  go_enter Tryd.func6, Tryd.ntmps6
  go_wp2
  go_ret
  exact ⟨rfl, Below.refl _ _⟩

theorem gplays_none (oa : Option Addr) (c : Nat) (key : Int) (w : World) : Calls Tryd.prog 6 #[.slice oa 0 c, .int .i64 key] w fun e w' => e = .returned (.bool true) ∧ Below w.heap.size w w' := by
  go_enter Tryd.func6, Tryd.ntmps6
  go_wp2
  refine wp_loop_rounds 1 ?_
  rw [rounds_succ]
  go_wp2
  go_ret
  exact ⟨rfl, Go.Joins.below_alloc2 _ _ _⟩

set_option maxHeartbeats 40000000 in
theorem gplays_some (bb off n c : Nat) (S0 : Nat → O) (G0 : Nat → Bool) (key : Int) (w : World) (h120 : n ≤ 120) (hbb : bb < w.heap.size) (hkw : (gi key).wf = true) (hg : w.cell? ⟨0, 0, none⟩ = some (.iface 175 (.agg #[.pointer (some ⟨1, 32, none⟩)])))
    (hS : ∀ k, k < n → Cells10 w bb (off + k * 10) (S0 k) (G0 k) ∧ (S0 k).wf) :
    Calls Tryd.prog 6 #[.slice (some ⟨bb, off, none⟩) n c, .int .i64 key] w fun e w' => e = .returned (.bool true) ∧ Below w.heap.size w w' := by
  obtain ⟨i0, hi0, hz0, hz1, hz2⟩ := info_parts infoO
  have hzw : 0 < w.heap.size := by omega
  have HS : Hid (∀ k, k < n → Cells10 w bb (off + k * 10) (S0 k) (G0 k) ∧ (S0 k).wf) := hS
  clear hS
  go_enter Tryd.func6, Tryd.ntmps6
  go_wp2
  go_loopg [7] n (fun g i wr => ∃ (k : Nat) (S : Nat → Prop) (L : List O) (v : Value) (A : List O), k ≤ n ∧ g = n - k ∧ i = .int .i64 k ∧ Hid (Ply w k S L v A wr ∧ L.Perm A ∧ A.length ≤ k))
  case atStart => exact ⟨0, _, [], .slice none 0 0, [], Nat.zero_le _, rfl, rfl, ⟨ply_new w, List.Perm.refl _, Nat.le_refl _⟩⟩
  case round =>
    obtain ⟨k, S, L, v, A, hk, hgk, rfl, I⟩ := hrel
    have HG : Hid (gk = n - k) := hgk
    clear hgk
    by_cases hlt : k < n
    · have h1 : (0 : Int) ≤ (k : Int) := by omega
      have h2 : (k : Int) < (n : Int) := by omega
      have HX : Hid (S0 k).wf := (HS.out k hlt).2
      have hcs := (HS.out k hlt).1.below I.out.1.below hbb
      unfold Cells10 at hcs
      obtain ⟨oa, cc, rfl⟩ := ply_form I.out.1
      generalize S0 k = x at *
      have HP : Hid (L.Perm A) := I.out.2.1
      have HA : Hid (A.length ≤ k) := I.out.2.2
      have hAl : A.length ≤ 120 := by have := I.out.2.2; omega
      have hbbr : bb < wr.heap.size := by have := I.out.1.below.size; omega
      cases hgone : G0 k
      · rw [hgone] at hcs
        have I1 : Hid (St w wr.heap.size k S L (.slice oa A.length cc) A x false (wr.alloc (boxC x false))) := I.out.1.begin x false
        have hb1 := box10 I1.out.box
        have hap := gapplyL_put w.heap.size 0 k S L (wr.alloc (boxC x false)) I1.out.ply.grp x HX.out (by omega)
        have HAP : Hid (Calls Tryd.prog 30 #[.pointer (some ⟨w.heap.size, 0, none⟩), gvC x false] (wr.alloc (boxC x false)) fun e W' => e = .returned .nilIface ∧ ∃ S', St w wr.heap.size (k + 1) S' (x :: L) (.slice oa A.length cc) A x false W') :=
          hap.mono fun _ _ ⟨e1, e2, e3⟩ => ⟨e1, _, I1.out.turn e2 e3⟩
        have HP2 : Hid ((x :: L).Perm (A ++ [x])) := (HP.out.cons x).trans (List.perm_append_singleton x A).symm
        clear hap I
        simp only [gvC, boxC] at HAP
        simp only [boxC] at hb1
        go_wp2_with (first
          | (go_at_call 30; refine Calls.mono (Hid.out HAP) ?_; rintro e w2 ⟨rfl, S2, hS2⟩; have I2 : Hid (St w wr.heap.size (k + 1) S2 (x :: L) (.slice oa A.length cc) A x false w2) := hS2; clear hS2)
          | (go_at_call 7; refine (bare_same 0 w _ hg hzw I2.out.ply.below).mono ?_; rintro e w3 ⟨rfl, hb3⟩; have I3 : Hid (St w wr.heap.size (k + 1) S2 (x :: L) (.slice oa A.length cc) A x false w3) := I2.out.by_below hb3; clear hb3; have hb4 := box10 I3.out.box; have hal4 := I3.out.ply.all.cell; have hsz4 : w.heap.size + 1 < w3.heap.size := I3.out.ply.all.lt; have hcb4 := I3.out.lt)
          | (at_builtin; refine wpList_append_own_at _ rfl _ _ 27 rfl w.heap.size 37 i0 zO 9 64 Tryd.underlying27 hi0 hz0 hz1 hz2 rfl (by decide) _ _ _ rfl (I3.out.ply.all.row.alloc _) ⟨w3.heap.size, 0, none⟩ 1 1 (encO x) rfl rfl (World.news_of_block (World.alloc_heap_new w3 _)) (enc_one x) (by unfold maxLen; omega) (by omega) (by simp; omega) ?_; intro v5 w5 hown5 hg5 _ hloc5; obtain ⟨g5, q5, rfl⟩ := Go.Joins.ownsRow_form hown5 (by omega); have P5 : Hid (Ply w (k + 1) S2 (x :: L) (.slice (some ⟨g5, 0, none⟩) (A.length + 1) q5) (A ++ [x]) (w5.setCell ⟨w.heap.size + 1, 0, none⟩ (.slice (some ⟨g5, 0, none⟩) (A.length + 1) q5))) := (I3.out.ply.append hown5 hg5 hloc5).1; have B5 := (I3.out.ply.append hown5 hg5 hloc5).2; have c5 : w5.cell? ⟨w.heap.size + 1, 0, none⟩ = some (.slice oa A.length cc) ∧ w5.frozen? ⟨w.heap.size + 1, 0, none⟩ = false := ⟨by rw [Go.Joins.cell_of_block B5]; rfl, Go.Joins.unfrozen_of_block B5 0⟩; clear hown5 hg5 hloc5 B5)
          | fail)
        obtain ⟨a1, a2, a3, a4, a5, a6, hans⟩ := ans_form key (absG (A ++ [x]) key)
        obtain ⟨ae, hae⟩ : ∃ ae, ansE (absG (A ++ [x]) key) = ae := ⟨_, rfl⟩
        have HAN : Hid (ansG key (absG (A ++ [x]) key) = .agg #[.int .i64 a1, .int .i64 a2, .int .i64 a3, .int .i64 a4, .int .i64 a5, .bool a6]) := hans
        have HAE : Hid (ansE (absG (A ++ [x]) key) = ae) := hae
        clear hans hae
        go_wp2_with (first
          | (go_at_call 32; refine (p_group P5.out key (by simp; omega) _ ae HAN.out HAE.out).mono ?_; rintro e w7 ⟨rfl, hb7⟩; have P7 : Hid (Ply w (k + 1) S2 (x :: L) (.slice (some ⟨g5, 0, none⟩) (A.length + 1) q5) (A ++ [x]) w7) := P5.out.by_below hb7; clear hb7)
          | (go_at_call 33; refine (p_of (P7.out.by_below (Go.Joins.below_alloc1 _ _)) HP2.out key hkw _ ae HAN.out HAE.out).mono ?_; rintro e w8 ⟨rfl, hb8⟩; have P8 : Hid (Ply w (k + 1) S2 (x :: L) (.slice (some ⟨g5, 0, none⟩) (A.length + 1) q5) (A ++ [x]) w8) := (P7.out.by_below (Go.Joins.below_alloc1 _ _)).by_below hb8; have C13 : Hid (w8.heap[w7.heap.size]? = some (.cells #[.int .i64 a1, .int .i64 a2, .int .i64 a3, .int .i64 a4, .int .i64 a5, .bool a6] 88)) := (hb8.block _ (by simp)).trans (World.alloc_heap_new w7 _); clear hb8)
          | fail)
        have P9 : Hid (Ply w (k + 1) S2 (x :: L) (.slice (some ⟨g5, 0, none⟩) (A.length + 1) q5) (A ++ [x]) (w8.alloc (.cells #[.int .i64 a1, .int .i64 a2, .int .i64 a3, .int .i64 a4, .int .i64 a5, .bool a6] 88)) ∧ (w8.alloc (.cells #[.int .i64 a1, .int .i64 a2, .int .i64 a3, .int .i64 a4, .int .i64 a5, .bool a6] 88)).heap[w7.heap.size]? = some (.cells #[.int .i64 a1, .int .i64 a2, .int .i64 a3, .int .i64 a4, .int .i64 a5, .bool a6] 88) ∧ (w8.alloc (.cells #[.int .i64 a1, .int .i64 a2, .int .i64 a3, .int .i64 a4, .int .i64 a5, .bool a6] 88)).heap[w8.heap.size]? = some (.cells #[.int .i64 a1, .int .i64 a2, .int .i64 a3, .int .i64 a4, .int .i64 a5, .bool a6] 88)) :=
          ⟨P8.out.by_below (Go.Joins.below_alloc1 _ _), (Below.heap_alloc _ _ _ (Array.getElem?_eq_some_iff.1 C13.out).1).trans C13.out, World.alloc_heap_new w8 _⟩
        clear P8 C13 P7
        revert P9
        generalize w8.alloc (.cells #[.int .i64 a1, .int .i64 a2, .int .i64 a3, .int .i64 a4, .int .i64 a5, .bool a6] 88) = W9
        generalize w8.heap.size = p15
        generalize w7.heap.size = p13
        intro P9
        have HC9 : Hid (∀ W', Below W9.heap.size W9 W' → W'.cell? ⟨p13, 0, none⟩ = some (.int .i64 a1) ∧ W'.cell? ⟨p13, 1, none⟩ = some (.int .i64 a2) ∧ W'.cell? ⟨p13, 2, none⟩ = some (.int .i64 a3) ∧ W'.cell? ⟨p13, 3, none⟩ = some (.int .i64 a4) ∧ W'.cell? ⟨p13, 4, none⟩ = some (.int .i64 a5) ∧ W'.cell? ⟨p13, 5, none⟩ = some (.bool a6) ∧ W'.cell? ⟨p15, 0, none⟩ = some (.int .i64 a1) ∧ W'.cell? ⟨p15, 1, none⟩ = some (.int .i64 a2) ∧ W'.cell? ⟨p15, 2, none⟩ = some (.int .i64 a3) ∧ W'.cell? ⟨p15, 3, none⟩ = some (.int .i64 a4) ∧ W'.cell? ⟨p15, 4, none⟩ = some (.int .i64 a5) ∧ W'.cell? ⟨p15, 5, none⟩ = some (.bool a6) ∧ W'.cell? ⟨w.heap.size + 1, 0, none⟩ = some (.slice (some ⟨g5, 0, none⟩) (A.length + 1) q5)) := fun W' hb => by
          have q1 := gl_cells ((hb.block _ (Array.getElem?_eq_some_iff.1 P9.out.2.1).1).trans P9.out.2.1)
          have q2 := gl_cells ((hb.block _ (Array.getElem?_eq_some_iff.1 P9.out.2.2).1).trans P9.out.2.2)
          exact ⟨q1.1, q1.2.1, q1.2.2.1, q1.2.2.2.1, q1.2.2.2.2.1, q1.2.2.2.2.2.1, q2.1, q2.2.1, q2.2.2.1, q2.2.2.2.1, q2.2.2.2.2.1, q2.2.2.2.2.2.1, (P9.out.1.by_below hb).all.cell.1⟩
        have hnq := neq_group a1 a2 a3 a4 a5 a6
        have hc9 := HC9.out W9 (Below.refl _ _)
        go_region_held3 (fun w' => w'.cell? ⟨p13, 0, none⟩ = some (.int .i64 a1) ∧ w'.cell? ⟨p13, 1, none⟩ = some (.int .i64 a2) ∧ w'.cell? ⟨p13, 2, none⟩ = some (.int .i64 a3) ∧ w'.cell? ⟨p13, 3, none⟩ = some (.int .i64 a4) ∧ w'.cell? ⟨p13, 4, none⟩ = some (.int .i64 a5) ∧ w'.cell? ⟨p13, 5, none⟩ = some (.bool a6) ∧ w'.cell? ⟨p15, 0, none⟩ = some (.int .i64 a1) ∧ w'.cell? ⟨p15, 1, none⟩ = some (.int .i64 a2) ∧ w'.cell? ⟨p15, 2, none⟩ = some (.int .i64 a3) ∧ w'.cell? ⟨p15, 3, none⟩ = some (.int .i64 a4) ∧ w'.cell? ⟨p15, 4, none⟩ = some (.int .i64 a5) ∧ w'.cell? ⟨p15, 5, none⟩ = some (.bool a6) ∧ w'.cell? ⟨w.heap.size + 1, 0, none⟩ = some (.slice (some ⟨g5, 0, none⟩) (A.length + 1) q5))
          (first | (go_keep; done) | (exact HC9.out _ Q13.out) | (exact HC9.out _ Q12.out.2) | (exact HC9.out _ Q11.out.2) | (exact HC9.out _ Q10.out) | fail)
          (first
            | (go_at_call 34; refine (same_groups v11 v12 (absG (A ++ [x])) Z _ _ _ R12.out R13.out ?_).mono ?_; (have := Z11.out.2.2; omega); rintro e w13 ⟨rfl, hb13⟩; have Q13 : Hid (Below W9.heap.size W9 w13) := Q12.out.2.trans (hb13.mono Q12.out.2.size); clear hb13)
            | (go_at_call 36; refine (p_groups Q11.out.1 (by simp; omega) Z11.out R11.out).mono ?_; rintro e w12 ⟨v12, b12, rfl, hP12, hb12, hr12, hr13⟩; have Q12 : Hid (Ply w (k + 1) S2 (x :: L) (.slice (some ⟨g5, 0, none⟩) (A.length + 1) q5) (A ++ [x]) w12 ∧ Below W9.heap.size W9 w12) := ⟨hP12, Q11.out.2.trans (hb12.mono Q11.out.2.size)⟩; have R12 : Hid (w12.ownsRow b11 88 6 v11 Z.length (Z.flatMap (gE (absG (A ++ [x]))))) := hr12; have R13 : Hid (w12.ownsRow b12 88 6 v12 Z.length (Z.flatMap (gE (absG (A ++ [x]))))) := hr13; clear hP12 hb12 hr12 hr13)
            | (go_at_call 35; refine (p_all (P9.out.1.by_below Q10.out) HP2.out (by omega)).mono ?_; rintro e w11 ⟨v11, Z, b11, rfl, hP11, hb11, hz11, hr11⟩; have Q11 : Hid (Ply w (k + 1) S2 (x :: L) (.slice (some ⟨g5, 0, none⟩) (A.length + 1) q5) (A ++ [x]) w11 ∧ Below W9.heap.size W9 w11) := ⟨hP11, Q10.out.trans (hb11.mono Q10.out.size)⟩; have Z11 : Hid (Z.Pairwise (fun x y => x < y) ∧ (∀ k, k ∈ Z ↔ (absG (A ++ [x]) k).isSome = true) ∧ Z.length ≤ k + 1) := hz11; have R11 : Hid (w11.ownsRow b11 88 6 v11 Z.length (Z.flatMap (gE (absG (A ++ [x]))))) := hr11; clear hP11 hb11 hz11 hr11)
            | (go_at_call 7; refine (bare_same ae w _ hg hzw ?_).mono ?_; (exact P9.out.1.drew.below); rintro e w10 ⟨rfl, hb10⟩; have Q10 : Hid (Below W9.heap.size W9 w10) := ((Below.refl _ W9).drew).trans hb10; clear hb10)
            | fail)
        all_goals (try go_wp2)
        all_goals go_roundg (n - (k + 1))
        all_goals first
          | exact ⟨k + 1, _, _, _, _, by omega, rfl, by go_num, ⟨(P9.out.1.by_below Q13.out), HP2.out, (by have := HA.out; simp; omega)⟩⟩
          | (have := HG.out; omega)
      · rw [hgone] at hcs
        have I1 : Hid (St w wr.heap.size k S L (.slice oa A.length cc) A x true (wr.alloc (boxC x true)).drew) := (I.out.1.begin x true).drew
        have hb1 := box10 (I.out.1.begin x true).box
        simp only [boxC] at hb1
        have HI1 : Hid (St w wr.heap.size k S L (.slice oa A.length cc) A x true (wr.alloc (.cells #[.int .i64 x.k, .int .i64 x.lk, .int .i64 x.lt, .int .i64 x.lv, .int .i64 x.rk, .int .i64 x.rt, .int .i64 x.rv, .bool x.hl, .bool x.hr, .bool true] 39)).drew) := I1.out
        clear I I1
        go_wp2
        go_region
        go_wp2
        clear hb1 hcs hbbr
        revert HI1
        generalize wr.heap.size = cb
        intro HI1
        go_loopg [10, 11, 12] A.length (fun g v10 v11 v12 wi => ∃ (j : Nat), j ≤ A.length ∧ g = A.length - j ∧ v12 = .int .i64 j ∧ v10 = .bool (someB (A.take j) x) ∧ v11 = .bool (rightB (A.take j) x) ∧ Hid (St w cb k S L (.slice oa A.length cc) A x true wi))
        case atStart => exact ⟨0, Nat.zero_le _, rfl, rfl, rfl, by simp [rightB], HI1.out⟩
        case round =>
          obtain ⟨j, hj, hgj, rfl, hv10, hv11, J⟩ := hrel
          have HGj : Hid (gk = A.length - j) := hgj
          clear hgj HI1
          have hal := J.out.ply.all.cell
          have hbx := box10 J.out.box
          have hcbl := J.out.lt
          have hbal := J.out.ply.all.lt
          by_cases hjl : j < A.length
          · obtain ⟨y, hy⟩ : ∃ y, A[j]? = some y := ⟨_, List.getElem?_eq_getElem hjl⟩
            obtain ⟨gs, cq, hoa⟩ := Go.Joins.ownsRow_form J.out.ply.all.row (by omega)
            obtain ⟨rfl, _, rfl⟩ : oa = some ⟨gs, 0, none⟩ ∧ A.length = A.length ∧ cc = cq := by injection hoa with e1 e2 e3; exact ⟨e1, rfl, e3⟩
            have hcy := gos_cells J.out.ply.all.row j y hy
            have i1 : (0 : Int) ≤ (j : Int) := by omega
            have i2 : (j : Int) < (A.length : Int) := by omega
            have i3 : (A.length : Int) ≤ 120 := by omega
            have HS1 : Hid (someB (A.take (j + 1)) x = (someB (A.take j) x || y.k == x.k)) := someB_step hy
            have HR1 : Hid (rightB (A.take (j + 1)) x = (rightB (A.take j) x || (y.k == x.k && (y.hr && y.rv == x.rv)))) := rightB_step hy
            subst hv10
            subst hv11
            clear hy hoa
            generalize someB (A.take j) x = sb at *
            generalize rightB (A.take j) x = rb at *
            by_cases hky : y.k = x.k
            · have hkb : (y.k == x.k) = true := by simpa using hky
              have HKY : Hid (y.k == x.k) := hkb
              clear hky
              obtain ⟨yk, ylk, ylt, ylv, yrk, yrt, yrv, yhl, yhr⟩ := y
              simp only at hcy hkb HS1 HR1 HKY
              cases rb
              · cases yhr
                · go_wp2
                  go_region
                  all_goals (try go_wp2)
                  all_goals go_region
                  all_goals (try go_wp2)
                  all_goals go_roundg (A.length - (j + 1))
                  all_goals first
                    | exact ⟨j + 1, by omega, rfl, by go_num, by rw [HS1.out, HKY.out]; simp, by rw [HR1.out]; simp [HKY.out], J.out.drew.drew⟩
                    | (have := HGj.out; omega)
                · by_cases hrv : yrv = x.rv
                  · have hrb : (yrv == x.rv) = true := by simpa using hrv
                    have HRV : Hid (yrv == x.rv) := hrb
                    clear hrv
                    go_wp2
                    go_region
                    all_goals (try go_wp2)
                    all_goals go_region
                    all_goals (try go_wp2)
                    all_goals go_roundg (A.length - (j + 1))
                    all_goals first
                      | exact ⟨j + 1, by omega, rfl, by go_num, by rw [HS1.out, HKY.out]; simp, by rw [HR1.out]; simp [HKY.out, HRV.out], J.out.drew.drew⟩
                      | (have := HGj.out; omega)
                  · have hrb : (yrv == x.rv) = false := by simpa using hrv
                    have HRV : Hid ((yrv == x.rv) = false) := hrb
                    clear hrv
                    go_wp2
                    go_region
                    all_goals (try go_wp2)
                    all_goals go_region
                    all_goals (try go_wp2)
                    all_goals go_roundg (A.length - (j + 1))
                    all_goals first
                      | exact ⟨j + 1, by omega, rfl, by go_num, by rw [HS1.out, HKY.out]; simp, by rw [HR1.out]; simp [HKY.out, HRV.out], J.out.drew.drew⟩
                      | (have := HGj.out; omega)
              · go_wp2
                go_region
                all_goals (try go_wp2)
                all_goals go_region
                all_goals (try go_wp2)
                all_goals go_roundg (A.length - (j + 1))
                all_goals first
                  | exact ⟨j + 1, by omega, rfl, by go_num, by rw [HS1.out, HKY.out]; simp, by rw [HR1.out]; simp [HKY.out], J.out.drew.drew⟩
                  | (have := HGj.out; omega)
            · have hkb : (y.k == x.k) = false := by simpa using hky
              have HKY : Hid ((y.k == x.k) = false) := hkb
              clear hky
              go_wp2
              go_region
              all_goals (try go_wp2)
              all_goals go_roundg (A.length - (j + 1))
              all_goals first
                | exact ⟨j + 1, by omega, rfl, by go_num, by rw [HS1.out, HKY.out]; simp, by rw [HR1.out, HKY.out]; simp, J.out.drew⟩
                | (have := HGj.out; omega)
          · have e1 : j = A.length := by omega
            have hge : ¬ ((j : Int) < (A.length : Int)) := by omega
            rw [e1, List.take_length] at hv10 hv11
            clear HGj hjl
            have hsb0 := hv10
            subst hv10
            subst hv11
            clear hsb0
            cases hsb : someB A x
            · cases hrb : rightB A x
              · have hno : noG (absG L) x := no_of HP.out (.inl hsb)
                have HAP : Hid (Calls Tryd.prog 30 #[.pointer (some ⟨w.heap.size, 0, none⟩), gvC x true] wr fun e W' => e = .returned (errV 8) ∧ St w cb k S L (.slice oa A.length cc) A x true W') :=
                  (gapply_none w.heap.size 0 k S (absG L) wr J.out.ply.grp x HX.out hno).mono fun _ _ ⟨e1, e2⟩ => ⟨by rw [e1]; simp [errV], J.out.by_below e2⟩
                clear hno hsb hrb
                simp only [gvC] at HAP
                go_wp2_with (first
                  | (go_at_call 30; refine Calls.mono (Hid.out HAP) ?_; rintro e w2 ⟨rfl, hS2⟩; have I2 : Hid (St w cb k S L (.slice oa A.length cc) A x true w2) := hS2; clear hS2)
                  | (go_at_call 7; refine (bare_same 8 w _ hg hzw I2.out.ply.below).mono ?_; rintro e w3 ⟨rfl, hb3⟩; have P5 : Hid (Ply w (k + 1) S L (.slice oa A.length cc) A w3) := (I2.out.ply.by_below hb3).mono (by omega); clear hb3; have hal4 := P5.out.all.cell; have hsz4 : w.heap.size + 1 < w3.heap.size := P5.out.all.lt)
                  | fail)
                obtain ⟨a1, a2, a3, a4, a5, a6, hans⟩ := ans_form key (absG (A) key)
                obtain ⟨ae, hae⟩ : ∃ ae, ansE (absG (A) key) = ae := ⟨_, rfl⟩
                have HAN : Hid (ansG key (absG (A) key) = .agg #[.int .i64 a1, .int .i64 a2, .int .i64 a3, .int .i64 a4, .int .i64 a5, .bool a6]) := hans
                have HAE : Hid (ansE (absG (A) key) = ae) := hae
                clear hans hae
                go_wp2_with (first
                  | (go_at_call 32; refine (p_group P5.out key (by omega) _ ae HAN.out HAE.out).mono ?_; rintro e w7 ⟨rfl, hb7⟩; have P7 : Hid (Ply w (k + 1) S (L) (.slice oa A.length cc) (A) w7) := P5.out.by_below hb7; clear hb7)
                  | (go_at_call 33; refine (p_of (P7.out.by_below (Go.Joins.below_alloc1 _ _)) HP.out key hkw _ ae HAN.out HAE.out).mono ?_; rintro e w8 ⟨rfl, hb8⟩; have P8 : Hid (Ply w (k + 1) S (L) (.slice oa A.length cc) (A) w8) := (P7.out.by_below (Go.Joins.below_alloc1 _ _)).by_below hb8; have C13 : Hid (w8.heap[w7.heap.size]? = some (.cells #[.int .i64 a1, .int .i64 a2, .int .i64 a3, .int .i64 a4, .int .i64 a5, .bool a6] 88)) := (hb8.block _ (by simp)).trans (World.alloc_heap_new w7 _); clear hb8)
                  | fail)
                have P9 : Hid (Ply w (k + 1) S (L) (.slice oa A.length cc) (A) (w8.alloc (.cells #[.int .i64 a1, .int .i64 a2, .int .i64 a3, .int .i64 a4, .int .i64 a5, .bool a6] 88)) ∧ (w8.alloc (.cells #[.int .i64 a1, .int .i64 a2, .int .i64 a3, .int .i64 a4, .int .i64 a5, .bool a6] 88)).heap[w7.heap.size]? = some (.cells #[.int .i64 a1, .int .i64 a2, .int .i64 a3, .int .i64 a4, .int .i64 a5, .bool a6] 88) ∧ (w8.alloc (.cells #[.int .i64 a1, .int .i64 a2, .int .i64 a3, .int .i64 a4, .int .i64 a5, .bool a6] 88)).heap[w8.heap.size]? = some (.cells #[.int .i64 a1, .int .i64 a2, .int .i64 a3, .int .i64 a4, .int .i64 a5, .bool a6] 88)) :=
                  ⟨P8.out.by_below (Go.Joins.below_alloc1 _ _), (Below.heap_alloc _ _ _ (Array.getElem?_eq_some_iff.1 C13.out).1).trans C13.out, World.alloc_heap_new w8 _⟩
                clear P8 C13 P7
                revert P9
                generalize w8.alloc (.cells #[.int .i64 a1, .int .i64 a2, .int .i64 a3, .int .i64 a4, .int .i64 a5, .bool a6] 88) = W9
                generalize w8.heap.size = p15
                generalize w7.heap.size = p13
                intro P9
                have HC9 : Hid (∀ W', Below W9.heap.size W9 W' → W'.cell? ⟨p13, 0, none⟩ = some (.int .i64 a1) ∧ W'.cell? ⟨p13, 1, none⟩ = some (.int .i64 a2) ∧ W'.cell? ⟨p13, 2, none⟩ = some (.int .i64 a3) ∧ W'.cell? ⟨p13, 3, none⟩ = some (.int .i64 a4) ∧ W'.cell? ⟨p13, 4, none⟩ = some (.int .i64 a5) ∧ W'.cell? ⟨p13, 5, none⟩ = some (.bool a6) ∧ W'.cell? ⟨p15, 0, none⟩ = some (.int .i64 a1) ∧ W'.cell? ⟨p15, 1, none⟩ = some (.int .i64 a2) ∧ W'.cell? ⟨p15, 2, none⟩ = some (.int .i64 a3) ∧ W'.cell? ⟨p15, 3, none⟩ = some (.int .i64 a4) ∧ W'.cell? ⟨p15, 4, none⟩ = some (.int .i64 a5) ∧ W'.cell? ⟨p15, 5, none⟩ = some (.bool a6) ∧ W'.cell? ⟨w.heap.size + 1, 0, none⟩ = some (.slice oa A.length cc)) := fun W' hb => by
                  have q1 := gl_cells ((hb.block _ (Array.getElem?_eq_some_iff.1 P9.out.2.1).1).trans P9.out.2.1)
                  have q2 := gl_cells ((hb.block _ (Array.getElem?_eq_some_iff.1 P9.out.2.2).1).trans P9.out.2.2)
                  exact ⟨q1.1, q1.2.1, q1.2.2.1, q1.2.2.2.1, q1.2.2.2.2.1, q1.2.2.2.2.2.1, q2.1, q2.2.1, q2.2.2.1, q2.2.2.2.1, q2.2.2.2.2.1, q2.2.2.2.2.2.1, (P9.out.1.by_below hb).all.cell.1⟩
                have hnq := neq_group a1 a2 a3 a4 a5 a6
                have hc9 := HC9.out W9 (Below.refl _ _)
                go_region_held3 (fun w' => w'.cell? ⟨p13, 0, none⟩ = some (.int .i64 a1) ∧ w'.cell? ⟨p13, 1, none⟩ = some (.int .i64 a2) ∧ w'.cell? ⟨p13, 2, none⟩ = some (.int .i64 a3) ∧ w'.cell? ⟨p13, 3, none⟩ = some (.int .i64 a4) ∧ w'.cell? ⟨p13, 4, none⟩ = some (.int .i64 a5) ∧ w'.cell? ⟨p13, 5, none⟩ = some (.bool a6) ∧ w'.cell? ⟨p15, 0, none⟩ = some (.int .i64 a1) ∧ w'.cell? ⟨p15, 1, none⟩ = some (.int .i64 a2) ∧ w'.cell? ⟨p15, 2, none⟩ = some (.int .i64 a3) ∧ w'.cell? ⟨p15, 3, none⟩ = some (.int .i64 a4) ∧ w'.cell? ⟨p15, 4, none⟩ = some (.int .i64 a5) ∧ w'.cell? ⟨p15, 5, none⟩ = some (.bool a6) ∧ w'.cell? ⟨w.heap.size + 1, 0, none⟩ = some (.slice oa A.length cc))
                  (first | (go_keep; done) | (exact HC9.out _ Q13.out) | (exact HC9.out _ Q12.out.2) | (exact HC9.out _ Q11.out.2) | (exact HC9.out _ Q10.out) | fail)
                  (first
                    | (go_at_call 34; refine (same_groups v11 v12 (absG (A)) Z _ _ _ R12.out R13.out ?_).mono ?_; (have := Z11.out.2.2; omega); rintro e w13 ⟨rfl, hb13⟩; have Q13 : Hid (Below W9.heap.size W9 w13) := Q12.out.2.trans (hb13.mono Q12.out.2.size); clear hb13)
                    | (go_at_call 36; refine (p_groups Q11.out.1 (by omega) Z11.out R11.out).mono ?_; rintro e w12 ⟨v12, b12, rfl, hP12, hb12, hr12, hr13⟩; have Q12 : Hid (Ply w (k + 1) S (L) (.slice oa A.length cc) (A) w12 ∧ Below W9.heap.size W9 w12) := ⟨hP12, Q11.out.2.trans (hb12.mono Q11.out.2.size)⟩; have R12 : Hid (w12.ownsRow b11 88 6 v11 Z.length (Z.flatMap (gE (absG (A))))) := hr12; have R13 : Hid (w12.ownsRow b12 88 6 v12 Z.length (Z.flatMap (gE (absG (A))))) := hr13; clear hP12 hb12 hr12 hr13)
                    | (go_at_call 35; refine (p_all (P9.out.1.by_below Q10.out) HP.out (by omega)).mono ?_; rintro e w11 ⟨v11, Z, b11, rfl, hP11, hb11, hz11, hr11⟩; have Q11 : Hid (Ply w (k + 1) S (L) (.slice oa A.length cc) (A) w11 ∧ Below W9.heap.size W9 w11) := ⟨hP11, Q10.out.trans (hb11.mono Q10.out.size)⟩; have Z11 : Hid (Z.Pairwise (fun x y => x < y) ∧ (∀ k, k ∈ Z ↔ (absG (A) k).isSome = true) ∧ Z.length ≤ k + 1) := hz11; have R11 : Hid (w11.ownsRow b11 88 6 v11 Z.length (Z.flatMap (gE (absG (A))))) := hr11; clear hP11 hb11 hz11 hr11)
                    | (go_at_call 7; refine (bare_same ae w _ hg hzw ?_).mono ?_; (exact P9.out.1.drew.below); rintro e w10 ⟨rfl, hb10⟩; have Q10 : Hid (Below W9.heap.size W9 w10) := ((Below.refl _ W9).drew).trans hb10; clear hb10)
                    | fail)
                all_goals (try go_wp2)
                all_goals go_roundg (n - (k + 1))
                all_goals first
                  | exact ⟨k + 1, _, _, _, _, by omega, rfl, by go_num, ⟨(P9.out.1.by_below Q13.out), HP.out, (by have := HA.out; omega)⟩⟩
                  | (have := HG.out; omega)
              · have hno : noG (absG L) x := no_of HP.out (.inl hsb)
                have HAP : Hid (Calls Tryd.prog 30 #[.pointer (some ⟨w.heap.size, 0, none⟩), gvC x true] wr fun e W' => e = .returned (errV 8) ∧ St w cb k S L (.slice oa A.length cc) A x true W') :=
                  (gapply_none w.heap.size 0 k S (absG L) wr J.out.ply.grp x HX.out hno).mono fun _ _ ⟨e1, e2⟩ => ⟨by rw [e1]; simp [errV], J.out.by_below e2⟩
                clear hno hsb hrb
                simp only [gvC] at HAP
                go_wp2_with (first
                  | (go_at_call 30; refine Calls.mono (Hid.out HAP) ?_; rintro e w2 ⟨rfl, hS2⟩; have I2 : Hid (St w cb k S L (.slice oa A.length cc) A x true w2) := hS2; clear hS2)
                  | (go_at_call 7; refine (bare_same 8 w _ hg hzw I2.out.ply.below).mono ?_; rintro e w3 ⟨rfl, hb3⟩; have P5 : Hid (Ply w (k + 1) S L (.slice oa A.length cc) A w3) := (I2.out.ply.by_below hb3).mono (by omega); clear hb3; have hal4 := P5.out.all.cell; have hsz4 : w.heap.size + 1 < w3.heap.size := P5.out.all.lt)
                  | fail)
                obtain ⟨a1, a2, a3, a4, a5, a6, hans⟩ := ans_form key (absG (A) key)
                obtain ⟨ae, hae⟩ : ∃ ae, ansE (absG (A) key) = ae := ⟨_, rfl⟩
                have HAN : Hid (ansG key (absG (A) key) = .agg #[.int .i64 a1, .int .i64 a2, .int .i64 a3, .int .i64 a4, .int .i64 a5, .bool a6]) := hans
                have HAE : Hid (ansE (absG (A) key) = ae) := hae
                clear hans hae
                go_wp2_with (first
                  | (go_at_call 32; refine (p_group P5.out key (by omega) _ ae HAN.out HAE.out).mono ?_; rintro e w7 ⟨rfl, hb7⟩; have P7 : Hid (Ply w (k + 1) S (L) (.slice oa A.length cc) (A) w7) := P5.out.by_below hb7; clear hb7)
                  | (go_at_call 33; refine (p_of (P7.out.by_below (Go.Joins.below_alloc1 _ _)) HP.out key hkw _ ae HAN.out HAE.out).mono ?_; rintro e w8 ⟨rfl, hb8⟩; have P8 : Hid (Ply w (k + 1) S (L) (.slice oa A.length cc) (A) w8) := (P7.out.by_below (Go.Joins.below_alloc1 _ _)).by_below hb8; have C13 : Hid (w8.heap[w7.heap.size]? = some (.cells #[.int .i64 a1, .int .i64 a2, .int .i64 a3, .int .i64 a4, .int .i64 a5, .bool a6] 88)) := (hb8.block _ (by simp)).trans (World.alloc_heap_new w7 _); clear hb8)
                  | fail)
                have P9 : Hid (Ply w (k + 1) S (L) (.slice oa A.length cc) (A) (w8.alloc (.cells #[.int .i64 a1, .int .i64 a2, .int .i64 a3, .int .i64 a4, .int .i64 a5, .bool a6] 88)) ∧ (w8.alloc (.cells #[.int .i64 a1, .int .i64 a2, .int .i64 a3, .int .i64 a4, .int .i64 a5, .bool a6] 88)).heap[w7.heap.size]? = some (.cells #[.int .i64 a1, .int .i64 a2, .int .i64 a3, .int .i64 a4, .int .i64 a5, .bool a6] 88) ∧ (w8.alloc (.cells #[.int .i64 a1, .int .i64 a2, .int .i64 a3, .int .i64 a4, .int .i64 a5, .bool a6] 88)).heap[w8.heap.size]? = some (.cells #[.int .i64 a1, .int .i64 a2, .int .i64 a3, .int .i64 a4, .int .i64 a5, .bool a6] 88)) :=
                  ⟨P8.out.by_below (Go.Joins.below_alloc1 _ _), (Below.heap_alloc _ _ _ (Array.getElem?_eq_some_iff.1 C13.out).1).trans C13.out, World.alloc_heap_new w8 _⟩
                clear P8 C13 P7
                revert P9
                generalize w8.alloc (.cells #[.int .i64 a1, .int .i64 a2, .int .i64 a3, .int .i64 a4, .int .i64 a5, .bool a6] 88) = W9
                generalize w8.heap.size = p15
                generalize w7.heap.size = p13
                intro P9
                have HC9 : Hid (∀ W', Below W9.heap.size W9 W' → W'.cell? ⟨p13, 0, none⟩ = some (.int .i64 a1) ∧ W'.cell? ⟨p13, 1, none⟩ = some (.int .i64 a2) ∧ W'.cell? ⟨p13, 2, none⟩ = some (.int .i64 a3) ∧ W'.cell? ⟨p13, 3, none⟩ = some (.int .i64 a4) ∧ W'.cell? ⟨p13, 4, none⟩ = some (.int .i64 a5) ∧ W'.cell? ⟨p13, 5, none⟩ = some (.bool a6) ∧ W'.cell? ⟨p15, 0, none⟩ = some (.int .i64 a1) ∧ W'.cell? ⟨p15, 1, none⟩ = some (.int .i64 a2) ∧ W'.cell? ⟨p15, 2, none⟩ = some (.int .i64 a3) ∧ W'.cell? ⟨p15, 3, none⟩ = some (.int .i64 a4) ∧ W'.cell? ⟨p15, 4, none⟩ = some (.int .i64 a5) ∧ W'.cell? ⟨p15, 5, none⟩ = some (.bool a6) ∧ W'.cell? ⟨w.heap.size + 1, 0, none⟩ = some (.slice oa A.length cc)) := fun W' hb => by
                  have q1 := gl_cells ((hb.block _ (Array.getElem?_eq_some_iff.1 P9.out.2.1).1).trans P9.out.2.1)
                  have q2 := gl_cells ((hb.block _ (Array.getElem?_eq_some_iff.1 P9.out.2.2).1).trans P9.out.2.2)
                  exact ⟨q1.1, q1.2.1, q1.2.2.1, q1.2.2.2.1, q1.2.2.2.2.1, q1.2.2.2.2.2.1, q2.1, q2.2.1, q2.2.2.1, q2.2.2.2.1, q2.2.2.2.2.1, q2.2.2.2.2.2.1, (P9.out.1.by_below hb).all.cell.1⟩
                have hnq := neq_group a1 a2 a3 a4 a5 a6
                have hc9 := HC9.out W9 (Below.refl _ _)
                go_region_held3 (fun w' => w'.cell? ⟨p13, 0, none⟩ = some (.int .i64 a1) ∧ w'.cell? ⟨p13, 1, none⟩ = some (.int .i64 a2) ∧ w'.cell? ⟨p13, 2, none⟩ = some (.int .i64 a3) ∧ w'.cell? ⟨p13, 3, none⟩ = some (.int .i64 a4) ∧ w'.cell? ⟨p13, 4, none⟩ = some (.int .i64 a5) ∧ w'.cell? ⟨p13, 5, none⟩ = some (.bool a6) ∧ w'.cell? ⟨p15, 0, none⟩ = some (.int .i64 a1) ∧ w'.cell? ⟨p15, 1, none⟩ = some (.int .i64 a2) ∧ w'.cell? ⟨p15, 2, none⟩ = some (.int .i64 a3) ∧ w'.cell? ⟨p15, 3, none⟩ = some (.int .i64 a4) ∧ w'.cell? ⟨p15, 4, none⟩ = some (.int .i64 a5) ∧ w'.cell? ⟨p15, 5, none⟩ = some (.bool a6) ∧ w'.cell? ⟨w.heap.size + 1, 0, none⟩ = some (.slice oa A.length cc))
                  (first | (go_keep; done) | (exact HC9.out _ Q13.out) | (exact HC9.out _ Q12.out.2) | (exact HC9.out _ Q11.out.2) | (exact HC9.out _ Q10.out) | fail)
                  (first
                    | (go_at_call 34; refine (same_groups v11 v12 (absG (A)) Z _ _ _ R12.out R13.out ?_).mono ?_; (have := Z11.out.2.2; omega); rintro e w13 ⟨rfl, hb13⟩; have Q13 : Hid (Below W9.heap.size W9 w13) := Q12.out.2.trans (hb13.mono Q12.out.2.size); clear hb13)
                    | (go_at_call 36; refine (p_groups Q11.out.1 (by omega) Z11.out R11.out).mono ?_; rintro e w12 ⟨v12, b12, rfl, hP12, hb12, hr12, hr13⟩; have Q12 : Hid (Ply w (k + 1) S (L) (.slice oa A.length cc) (A) w12 ∧ Below W9.heap.size W9 w12) := ⟨hP12, Q11.out.2.trans (hb12.mono Q11.out.2.size)⟩; have R12 : Hid (w12.ownsRow b11 88 6 v11 Z.length (Z.flatMap (gE (absG (A))))) := hr12; have R13 : Hid (w12.ownsRow b12 88 6 v12 Z.length (Z.flatMap (gE (absG (A))))) := hr13; clear hP12 hb12 hr12 hr13)
                    | (go_at_call 35; refine (p_all (P9.out.1.by_below Q10.out) HP.out (by omega)).mono ?_; rintro e w11 ⟨v11, Z, b11, rfl, hP11, hb11, hz11, hr11⟩; have Q11 : Hid (Ply w (k + 1) S (L) (.slice oa A.length cc) (A) w11 ∧ Below W9.heap.size W9 w11) := ⟨hP11, Q10.out.trans (hb11.mono Q10.out.size)⟩; have Z11 : Hid (Z.Pairwise (fun x y => x < y) ∧ (∀ k, k ∈ Z ↔ (absG (A) k).isSome = true) ∧ Z.length ≤ k + 1) := hz11; have R11 : Hid (w11.ownsRow b11 88 6 v11 Z.length (Z.flatMap (gE (absG (A))))) := hr11; clear hP11 hb11 hz11 hr11)
                    | (go_at_call 7; refine (bare_same ae w _ hg hzw ?_).mono ?_; (exact P9.out.1.drew.below); rintro e w10 ⟨rfl, hb10⟩; have Q10 : Hid (Below W9.heap.size W9 w10) := ((Below.refl _ W9).drew).trans hb10; clear hb10)
                    | fail)
                all_goals (try go_wp2)
                all_goals go_roundg (n - (k + 1))
                all_goals first
                  | exact ⟨k + 1, _, _, _, _, by omega, rfl, by go_num, ⟨(P9.out.1.by_below Q13.out), HP.out, (by have := HA.out; omega)⟩⟩
                  | (have := HG.out; omega)
            · cases hrb : rightB A x
              · have hno : noG (absG L) x := no_of HP.out (.inr hrb)
                have HAP : Hid (Calls Tryd.prog 30 #[.pointer (some ⟨w.heap.size, 0, none⟩), gvC x true] wr fun e W' => e = .returned (errV 8) ∧ St w cb k S L (.slice oa A.length cc) A x true W') :=
                  (gapply_none w.heap.size 0 k S (absG L) wr J.out.ply.grp x HX.out hno).mono fun _ _ ⟨e1, e2⟩ => ⟨by rw [e1]; simp [errV], J.out.by_below e2⟩
                clear hno hsb hrb
                simp only [gvC] at HAP
                go_wp2_with (first
                  | (go_at_call 30; refine Calls.mono (Hid.out HAP) ?_; rintro e w2 ⟨rfl, hS2⟩; have I2 : Hid (St w cb k S L (.slice oa A.length cc) A x true w2) := hS2; clear hS2)
                  | (go_at_call 7; refine (bare_same 8 w _ hg hzw I2.out.ply.below).mono ?_; rintro e w3 ⟨rfl, hb3⟩; have P5 : Hid (Ply w (k + 1) S L (.slice oa A.length cc) A w3) := (I2.out.ply.by_below hb3).mono (by omega); clear hb3; have hal4 := P5.out.all.cell; have hsz4 : w.heap.size + 1 < w3.heap.size := P5.out.all.lt)
                  | fail)
                obtain ⟨a1, a2, a3, a4, a5, a6, hans⟩ := ans_form key (absG (A) key)
                obtain ⟨ae, hae⟩ : ∃ ae, ansE (absG (A) key) = ae := ⟨_, rfl⟩
                have HAN : Hid (ansG key (absG (A) key) = .agg #[.int .i64 a1, .int .i64 a2, .int .i64 a3, .int .i64 a4, .int .i64 a5, .bool a6]) := hans
                have HAE : Hid (ansE (absG (A) key) = ae) := hae
                clear hans hae
                go_wp2_with (first
                  | (go_at_call 32; refine (p_group P5.out key (by omega) _ ae HAN.out HAE.out).mono ?_; rintro e w7 ⟨rfl, hb7⟩; have P7 : Hid (Ply w (k + 1) S (L) (.slice oa A.length cc) (A) w7) := P5.out.by_below hb7; clear hb7)
                  | (go_at_call 33; refine (p_of (P7.out.by_below (Go.Joins.below_alloc1 _ _)) HP.out key hkw _ ae HAN.out HAE.out).mono ?_; rintro e w8 ⟨rfl, hb8⟩; have P8 : Hid (Ply w (k + 1) S (L) (.slice oa A.length cc) (A) w8) := (P7.out.by_below (Go.Joins.below_alloc1 _ _)).by_below hb8; have C13 : Hid (w8.heap[w7.heap.size]? = some (.cells #[.int .i64 a1, .int .i64 a2, .int .i64 a3, .int .i64 a4, .int .i64 a5, .bool a6] 88)) := (hb8.block _ (by simp)).trans (World.alloc_heap_new w7 _); clear hb8)
                  | fail)
                have P9 : Hid (Ply w (k + 1) S (L) (.slice oa A.length cc) (A) (w8.alloc (.cells #[.int .i64 a1, .int .i64 a2, .int .i64 a3, .int .i64 a4, .int .i64 a5, .bool a6] 88)) ∧ (w8.alloc (.cells #[.int .i64 a1, .int .i64 a2, .int .i64 a3, .int .i64 a4, .int .i64 a5, .bool a6] 88)).heap[w7.heap.size]? = some (.cells #[.int .i64 a1, .int .i64 a2, .int .i64 a3, .int .i64 a4, .int .i64 a5, .bool a6] 88) ∧ (w8.alloc (.cells #[.int .i64 a1, .int .i64 a2, .int .i64 a3, .int .i64 a4, .int .i64 a5, .bool a6] 88)).heap[w8.heap.size]? = some (.cells #[.int .i64 a1, .int .i64 a2, .int .i64 a3, .int .i64 a4, .int .i64 a5, .bool a6] 88)) :=
                  ⟨P8.out.by_below (Go.Joins.below_alloc1 _ _), (Below.heap_alloc _ _ _ (Array.getElem?_eq_some_iff.1 C13.out).1).trans C13.out, World.alloc_heap_new w8 _⟩
                clear P8 C13 P7
                revert P9
                generalize w8.alloc (.cells #[.int .i64 a1, .int .i64 a2, .int .i64 a3, .int .i64 a4, .int .i64 a5, .bool a6] 88) = W9
                generalize w8.heap.size = p15
                generalize w7.heap.size = p13
                intro P9
                have HC9 : Hid (∀ W', Below W9.heap.size W9 W' → W'.cell? ⟨p13, 0, none⟩ = some (.int .i64 a1) ∧ W'.cell? ⟨p13, 1, none⟩ = some (.int .i64 a2) ∧ W'.cell? ⟨p13, 2, none⟩ = some (.int .i64 a3) ∧ W'.cell? ⟨p13, 3, none⟩ = some (.int .i64 a4) ∧ W'.cell? ⟨p13, 4, none⟩ = some (.int .i64 a5) ∧ W'.cell? ⟨p13, 5, none⟩ = some (.bool a6) ∧ W'.cell? ⟨p15, 0, none⟩ = some (.int .i64 a1) ∧ W'.cell? ⟨p15, 1, none⟩ = some (.int .i64 a2) ∧ W'.cell? ⟨p15, 2, none⟩ = some (.int .i64 a3) ∧ W'.cell? ⟨p15, 3, none⟩ = some (.int .i64 a4) ∧ W'.cell? ⟨p15, 4, none⟩ = some (.int .i64 a5) ∧ W'.cell? ⟨p15, 5, none⟩ = some (.bool a6) ∧ W'.cell? ⟨w.heap.size + 1, 0, none⟩ = some (.slice oa A.length cc)) := fun W' hb => by
                  have q1 := gl_cells ((hb.block _ (Array.getElem?_eq_some_iff.1 P9.out.2.1).1).trans P9.out.2.1)
                  have q2 := gl_cells ((hb.block _ (Array.getElem?_eq_some_iff.1 P9.out.2.2).1).trans P9.out.2.2)
                  exact ⟨q1.1, q1.2.1, q1.2.2.1, q1.2.2.2.1, q1.2.2.2.2.1, q1.2.2.2.2.2.1, q2.1, q2.2.1, q2.2.2.1, q2.2.2.2.1, q2.2.2.2.2.1, q2.2.2.2.2.2.1, (P9.out.1.by_below hb).all.cell.1⟩
                have hnq := neq_group a1 a2 a3 a4 a5 a6
                have hc9 := HC9.out W9 (Below.refl _ _)
                go_region_held3 (fun w' => w'.cell? ⟨p13, 0, none⟩ = some (.int .i64 a1) ∧ w'.cell? ⟨p13, 1, none⟩ = some (.int .i64 a2) ∧ w'.cell? ⟨p13, 2, none⟩ = some (.int .i64 a3) ∧ w'.cell? ⟨p13, 3, none⟩ = some (.int .i64 a4) ∧ w'.cell? ⟨p13, 4, none⟩ = some (.int .i64 a5) ∧ w'.cell? ⟨p13, 5, none⟩ = some (.bool a6) ∧ w'.cell? ⟨p15, 0, none⟩ = some (.int .i64 a1) ∧ w'.cell? ⟨p15, 1, none⟩ = some (.int .i64 a2) ∧ w'.cell? ⟨p15, 2, none⟩ = some (.int .i64 a3) ∧ w'.cell? ⟨p15, 3, none⟩ = some (.int .i64 a4) ∧ w'.cell? ⟨p15, 4, none⟩ = some (.int .i64 a5) ∧ w'.cell? ⟨p15, 5, none⟩ = some (.bool a6) ∧ w'.cell? ⟨w.heap.size + 1, 0, none⟩ = some (.slice oa A.length cc))
                  (first | (go_keep; done) | (exact HC9.out _ Q13.out) | (exact HC9.out _ Q12.out.2) | (exact HC9.out _ Q11.out.2) | (exact HC9.out _ Q10.out) | fail)
                  (first
                    | (go_at_call 34; refine (same_groups v11 v12 (absG (A)) Z _ _ _ R12.out R13.out ?_).mono ?_; (have := Z11.out.2.2; omega); rintro e w13 ⟨rfl, hb13⟩; have Q13 : Hid (Below W9.heap.size W9 w13) := Q12.out.2.trans (hb13.mono Q12.out.2.size); clear hb13)
                    | (go_at_call 36; refine (p_groups Q11.out.1 (by omega) Z11.out R11.out).mono ?_; rintro e w12 ⟨v12, b12, rfl, hP12, hb12, hr12, hr13⟩; have Q12 : Hid (Ply w (k + 1) S (L) (.slice oa A.length cc) (A) w12 ∧ Below W9.heap.size W9 w12) := ⟨hP12, Q11.out.2.trans (hb12.mono Q11.out.2.size)⟩; have R12 : Hid (w12.ownsRow b11 88 6 v11 Z.length (Z.flatMap (gE (absG (A))))) := hr12; have R13 : Hid (w12.ownsRow b12 88 6 v12 Z.length (Z.flatMap (gE (absG (A))))) := hr13; clear hP12 hb12 hr12 hr13)
                    | (go_at_call 35; refine (p_all (P9.out.1.by_below Q10.out) HP.out (by omega)).mono ?_; rintro e w11 ⟨v11, Z, b11, rfl, hP11, hb11, hz11, hr11⟩; have Q11 : Hid (Ply w (k + 1) S (L) (.slice oa A.length cc) (A) w11 ∧ Below W9.heap.size W9 w11) := ⟨hP11, Q10.out.trans (hb11.mono Q10.out.size)⟩; have Z11 : Hid (Z.Pairwise (fun x y => x < y) ∧ (∀ k, k ∈ Z ↔ (absG (A) k).isSome = true) ∧ Z.length ≤ k + 1) := hz11; have R11 : Hid (w11.ownsRow b11 88 6 v11 Z.length (Z.flatMap (gE (absG (A))))) := hr11; clear hP11 hb11 hz11 hr11)
                    | (go_at_call 7; refine (bare_same ae w _ hg hzw ?_).mono ?_; (exact P9.out.1.drew.below); rintro e w10 ⟨rfl, hb10⟩; have Q10 : Hid (Below W9.heap.size W9 w10) := ((Below.refl _ W9).drew).trans hb10; clear hb10)
                    | fail)
                all_goals (try go_wp2)
                all_goals go_roundg (n - (k + 1))
                all_goals first
                  | exact ⟨k + 1, _, _, _, _, by omega, rfl, by go_num, ⟨(P9.out.1.by_below Q13.out), HP.out, (by have := HA.out; omega)⟩⟩
                  | (have := HG.out; omega)
              · obtain ⟨τ, hτ, hyes⟩ := yes_of HP.out hsb hrb
                clear hsb hrb
                by_cases hmem : x ∈ A
                · have hmL : x ∈ L := HP.out.mem_iff.2 hmem
                  have HAP : Hid (Calls Tryd.prog 30 #[.pointer (some ⟨w.heap.size, 0, none⟩), gvC x true] wr fun e W' => e = .returned .nilIface ∧ ∃ S', St w cb (k + 1) S' (L.erase x) (.slice oa A.length cc) A x true W') :=
                    (gapplyL_take w.heap.size 0 k S L wr J.out.ply.grp x HX.out hmL (by omega)).mono fun _ _ ⟨e1, e2, e3⟩ => ⟨e1, _, J.out.turn e2 e3⟩
                  have HDR : Hid (∀ W S', St w cb (k + 1) S' (L.erase x) (.slice oa A.length cc) A x true W → Calls Tryd.prog 31 #[.pointer (some ⟨w.heap.size + 1, 0, none⟩), vO x] W fun e W' => e = .returned (.bool true) ∧ ∃ oa5 c5, Ply w (k + 1) S' (L.erase x) (.slice oa5 (A.erase x).length c5) (A.erase x) W') := fun W S' hW => by
                    refine (drop_some w.heap.size (w.heap.size + 1) _ A W hW.ply.all x (by omega) hW.ply.below.size hmem).mono ?_
                    rintro e W' ⟨h1, v5, d1, d2, d3, d4, d5, d6, g5, d7, d8⟩
                    have hP := hW.ply.list d1 (fun j hj hne _ => d2 j hj hne) d3 d4 d5 d6 (.inr ⟨g5, d7, d8⟩)
                    obtain ⟨oa5, c5, rfl⟩ := ply_form hP
                    exact ⟨h1, oa5, c5, hP⟩
                  have HPe : Hid ((L.erase x).Perm (A.erase x)) := HP.out.erase x
                  have HLe : Hid ((A.erase x).length ≤ A.length) := List.length_erase_le
                  have hLe : (A.erase x).length ≤ 120 := Nat.le_trans HLe.out hAl
                  clear hmem hmL hτ hyes
                  simp only [gvC] at HAP
                  simp only [vO] at HDR
                  go_wp2_with (first
                    | (go_at_call 30; refine Calls.mono (Hid.out HAP) ?_; rintro e w2 ⟨rfl, S2, hS2⟩; have I2 : Hid (St w cb (k + 1) S2 (L.erase x) (.slice oa A.length cc) A x true w2) := hS2; clear hS2)
                    | (go_at_call 7; refine (bare_same 0 w _ hg hzw I2.out.ply.below).mono ?_; rintro e w3 ⟨rfl, hb3⟩; have I3 : Hid (St w cb (k + 1) S2 (L.erase x) (.slice oa A.length cc) A x true w3) := I2.out.by_below hb3; clear hb3; have hb4 := box10 I3.out.box)
                    | (go_at_call 31; refine Calls.mono (HDR.out _ _ I3.out) ?_; rintro e w5 ⟨rfl, oa5, c5, hP5⟩; have P5 : Hid (Ply w (k + 1) S2 (L.erase x) (.slice oa5 (A.erase x).length c5) (A.erase x) w5) := hP5; clear hP5; have hal4 := P5.out.all.cell; have hsz4 : w.heap.size + 1 < w5.heap.size := P5.out.all.lt)
                    | fail)
                  obtain ⟨a1, a2, a3, a4, a5, a6, hans⟩ := ans_form key (absG (A.erase x) key)
                  obtain ⟨ae, hae⟩ : ∃ ae, ansE (absG (A.erase x) key) = ae := ⟨_, rfl⟩
                  have HAN : Hid (ansG key (absG (A.erase x) key) = .agg #[.int .i64 a1, .int .i64 a2, .int .i64 a3, .int .i64 a4, .int .i64 a5, .bool a6]) := hans
                  have HAE : Hid (ansE (absG (A.erase x) key) = ae) := hae
                  clear hans hae
                  go_wp2_with (first
                    | (go_at_call 32; refine (p_group P5.out key (by omega) _ ae HAN.out HAE.out).mono ?_; rintro e w7 ⟨rfl, hb7⟩; have P7 : Hid (Ply w (k + 1) S2 (L.erase x) (.slice oa5 (A.erase x).length c5) (A.erase x) w7) := P5.out.by_below hb7; clear hb7)
                    | (go_at_call 33; refine (p_of (P7.out.by_below (Go.Joins.below_alloc1 _ _)) HPe.out key hkw _ ae HAN.out HAE.out).mono ?_; rintro e w8 ⟨rfl, hb8⟩; have P8 : Hid (Ply w (k + 1) S2 (L.erase x) (.slice oa5 (A.erase x).length c5) (A.erase x) w8) := (P7.out.by_below (Go.Joins.below_alloc1 _ _)).by_below hb8; have C13 : Hid (w8.heap[w7.heap.size]? = some (.cells #[.int .i64 a1, .int .i64 a2, .int .i64 a3, .int .i64 a4, .int .i64 a5, .bool a6] 88)) := (hb8.block _ (by simp)).trans (World.alloc_heap_new w7 _); clear hb8)
                    | fail)
                  have P9 : Hid (Ply w (k + 1) S2 (L.erase x) (.slice oa5 (A.erase x).length c5) (A.erase x) (w8.alloc (.cells #[.int .i64 a1, .int .i64 a2, .int .i64 a3, .int .i64 a4, .int .i64 a5, .bool a6] 88)) ∧ (w8.alloc (.cells #[.int .i64 a1, .int .i64 a2, .int .i64 a3, .int .i64 a4, .int .i64 a5, .bool a6] 88)).heap[w7.heap.size]? = some (.cells #[.int .i64 a1, .int .i64 a2, .int .i64 a3, .int .i64 a4, .int .i64 a5, .bool a6] 88) ∧ (w8.alloc (.cells #[.int .i64 a1, .int .i64 a2, .int .i64 a3, .int .i64 a4, .int .i64 a5, .bool a6] 88)).heap[w8.heap.size]? = some (.cells #[.int .i64 a1, .int .i64 a2, .int .i64 a3, .int .i64 a4, .int .i64 a5, .bool a6] 88)) :=
                    ⟨P8.out.by_below (Go.Joins.below_alloc1 _ _), (Below.heap_alloc _ _ _ (Array.getElem?_eq_some_iff.1 C13.out).1).trans C13.out, World.alloc_heap_new w8 _⟩
                  clear P8 C13 P7
                  revert P9
                  generalize w8.alloc (.cells #[.int .i64 a1, .int .i64 a2, .int .i64 a3, .int .i64 a4, .int .i64 a5, .bool a6] 88) = W9
                  generalize w8.heap.size = p15
                  generalize w7.heap.size = p13
                  intro P9
                  have HC9 : Hid (∀ W', Below W9.heap.size W9 W' → W'.cell? ⟨p13, 0, none⟩ = some (.int .i64 a1) ∧ W'.cell? ⟨p13, 1, none⟩ = some (.int .i64 a2) ∧ W'.cell? ⟨p13, 2, none⟩ = some (.int .i64 a3) ∧ W'.cell? ⟨p13, 3, none⟩ = some (.int .i64 a4) ∧ W'.cell? ⟨p13, 4, none⟩ = some (.int .i64 a5) ∧ W'.cell? ⟨p13, 5, none⟩ = some (.bool a6) ∧ W'.cell? ⟨p15, 0, none⟩ = some (.int .i64 a1) ∧ W'.cell? ⟨p15, 1, none⟩ = some (.int .i64 a2) ∧ W'.cell? ⟨p15, 2, none⟩ = some (.int .i64 a3) ∧ W'.cell? ⟨p15, 3, none⟩ = some (.int .i64 a4) ∧ W'.cell? ⟨p15, 4, none⟩ = some (.int .i64 a5) ∧ W'.cell? ⟨p15, 5, none⟩ = some (.bool a6) ∧ W'.cell? ⟨w.heap.size + 1, 0, none⟩ = some (.slice oa5 (A.erase x).length c5)) := fun W' hb => by
                    have q1 := gl_cells ((hb.block _ (Array.getElem?_eq_some_iff.1 P9.out.2.1).1).trans P9.out.2.1)
                    have q2 := gl_cells ((hb.block _ (Array.getElem?_eq_some_iff.1 P9.out.2.2).1).trans P9.out.2.2)
                    exact ⟨q1.1, q1.2.1, q1.2.2.1, q1.2.2.2.1, q1.2.2.2.2.1, q1.2.2.2.2.2.1, q2.1, q2.2.1, q2.2.2.1, q2.2.2.2.1, q2.2.2.2.2.1, q2.2.2.2.2.2.1, (P9.out.1.by_below hb).all.cell.1⟩
                  have hnq := neq_group a1 a2 a3 a4 a5 a6
                  have hc9 := HC9.out W9 (Below.refl _ _)
                  go_region_held3 (fun w' => w'.cell? ⟨p13, 0, none⟩ = some (.int .i64 a1) ∧ w'.cell? ⟨p13, 1, none⟩ = some (.int .i64 a2) ∧ w'.cell? ⟨p13, 2, none⟩ = some (.int .i64 a3) ∧ w'.cell? ⟨p13, 3, none⟩ = some (.int .i64 a4) ∧ w'.cell? ⟨p13, 4, none⟩ = some (.int .i64 a5) ∧ w'.cell? ⟨p13, 5, none⟩ = some (.bool a6) ∧ w'.cell? ⟨p15, 0, none⟩ = some (.int .i64 a1) ∧ w'.cell? ⟨p15, 1, none⟩ = some (.int .i64 a2) ∧ w'.cell? ⟨p15, 2, none⟩ = some (.int .i64 a3) ∧ w'.cell? ⟨p15, 3, none⟩ = some (.int .i64 a4) ∧ w'.cell? ⟨p15, 4, none⟩ = some (.int .i64 a5) ∧ w'.cell? ⟨p15, 5, none⟩ = some (.bool a6) ∧ w'.cell? ⟨w.heap.size + 1, 0, none⟩ = some (.slice oa5 (A.erase x).length c5))
                    (first | (go_keep; done) | (exact HC9.out _ Q13.out) | (exact HC9.out _ Q12.out.2) | (exact HC9.out _ Q11.out.2) | (exact HC9.out _ Q10.out) | fail)
                    (first
                      | (go_at_call 34; refine (same_groups v11 v12 (absG (A.erase x)) Z _ _ _ R12.out R13.out ?_).mono ?_; (have := Z11.out.2.2; omega); rintro e w13 ⟨rfl, hb13⟩; have Q13 : Hid (Below W9.heap.size W9 w13) := Q12.out.2.trans (hb13.mono Q12.out.2.size); clear hb13)
                      | (go_at_call 36; refine (p_groups Q11.out.1 (by omega) Z11.out R11.out).mono ?_; rintro e w12 ⟨v12, b12, rfl, hP12, hb12, hr12, hr13⟩; have Q12 : Hid (Ply w (k + 1) S2 (L.erase x) (.slice oa5 (A.erase x).length c5) (A.erase x) w12 ∧ Below W9.heap.size W9 w12) := ⟨hP12, Q11.out.2.trans (hb12.mono Q11.out.2.size)⟩; have R12 : Hid (w12.ownsRow b11 88 6 v11 Z.length (Z.flatMap (gE (absG (A.erase x))))) := hr12; have R13 : Hid (w12.ownsRow b12 88 6 v12 Z.length (Z.flatMap (gE (absG (A.erase x))))) := hr13; clear hP12 hb12 hr12 hr13)
                      | (go_at_call 35; refine (p_all (P9.out.1.by_below Q10.out) HPe.out (by omega)).mono ?_; rintro e w11 ⟨v11, Z, b11, rfl, hP11, hb11, hz11, hr11⟩; have Q11 : Hid (Ply w (k + 1) S2 (L.erase x) (.slice oa5 (A.erase x).length c5) (A.erase x) w11 ∧ Below W9.heap.size W9 w11) := ⟨hP11, Q10.out.trans (hb11.mono Q10.out.size)⟩; have Z11 : Hid (Z.Pairwise (fun x y => x < y) ∧ (∀ k, k ∈ Z ↔ (absG (A.erase x) k).isSome = true) ∧ Z.length ≤ k + 1) := hz11; have R11 : Hid (w11.ownsRow b11 88 6 v11 Z.length (Z.flatMap (gE (absG (A.erase x))))) := hr11; clear hP11 hb11 hz11 hr11)
                      | (go_at_call 7; refine (bare_same ae w _ hg hzw ?_).mono ?_; (exact P9.out.1.drew.below); rintro e w10 ⟨rfl, hb10⟩; have Q10 : Hid (Below W9.heap.size W9 w10) := ((Below.refl _ W9).drew).trans hb10; clear hb10)
                      | fail)
                  all_goals (try go_wp2)
                  all_goals go_roundg (n - (k + 1))
                  all_goals first
                    | exact ⟨k + 1, _, _, _, _, by omega, rfl, by go_num, ⟨(P9.out.1.by_below Q13.out), HPe.out, (by have := HA.out; have := HLe.out; omega)⟩⟩
                    | (have := HG.out; omega)
                · have HAP : Hid (Calls Tryd.prog 30 #[.pointer (some ⟨w.heap.size, 0, none⟩), gvC x true] wr fun e W' => e = .returned .nilIface ∧ (AllAt W' w.heap.size (w.heap.size + 1) (.slice oa A.length cc) A ∧ W'.heap[cb]? = some (boxC x true) ∧ Below w.heap.size w W')) :=
                    (gapply_take w.heap.size 0 k S (absG L) wr J.out.ply.grp x HX.out τ hτ hyes (by omega)).mono fun _ _ ⟨e1, _, e3⟩ => ⟨e1, ⟨(e3.block _ J.out.ply.all.lt J.out.ply.sa).trans J.out.ply.all.blk, row_turn J.out.ply.all.row e3 J.out.ply.sv⟩, (e3.block _ J.out.lt J.out.cs).trans J.out.box, J.out.ply.below.trans (e3.below J.out.ply.below.size J.out.ply.base)⟩
                  have HDR : Hid (∀ W, AllAt W w.heap.size (w.heap.size + 1) (.slice oa A.length cc) A → Calls Tryd.prog 31 #[.pointer (some ⟨w.heap.size + 1, 0, none⟩), vO x] W fun e W' => e = .returned (.bool false) ∧ Below W.heap.size W W') := fun W hW =>
                    drop_none w.heap.size (w.heap.size + 1) _ A W hW x (by omega) hmem
                  clear hmem hτ hyes
                  simp only [gvC] at HAP
                  simp only [vO] at HDR
                  go_wp2_with (first
                    | (go_at_call 30; refine Calls.mono (Hid.out HAP) ?_; rintro e w2 ⟨rfl, hS2⟩; have I2 : Hid (AllAt w2 w.heap.size (w.heap.size + 1) (.slice oa A.length cc) A ∧ w2.heap[cb]? = some (boxC x true) ∧ Below w.heap.size w w2) := hS2; clear hS2)
                    | (go_at_call 7; refine (bare_same 0 w _ hg hzw I2.out.2.2).mono ?_; rintro e w3 ⟨rfl, hb3⟩; have I3 : Hid (AllAt w3 w.heap.size (w.heap.size + 1) (.slice oa A.length cc) A ∧ w3.heap[cb]? = some (boxC x true) ∧ Below w.heap.size w w3) := ⟨I2.out.1.below hb3, (hb3.block _ (Array.getElem?_eq_some_iff.1 I2.out.2.1).1).trans I2.out.2.1, I2.out.2.2.trans (hb3.mono I2.out.2.2.size)⟩; clear hb3; have hb4 := box10 I3.out.2.1)
                    | (go_at_call 31; refine Calls.mono (HDR.out _ I3.out.1) ?_; rintro e w5 ⟨rfl, hb5⟩; have P5 : Hid (Below w.heap.size w w5) := I3.out.2.2.trans (hb5.mono I3.out.2.2.size); clear hb5)
                    | fail)
                  go_ret
                  exact ⟨rfl, P5.out⟩
    · have h2 : ¬ ((k : Int) < (n : Int)) := by omega
      go_wp2
      go_ret
      exact ⟨rfl, I.out.1.below⟩

end Go.Proofs.YtgffodmipbefpaaDoor
