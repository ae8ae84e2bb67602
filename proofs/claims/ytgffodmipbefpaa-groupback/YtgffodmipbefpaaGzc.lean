/- The walk of GroupBack. -/
import Derived.Test.YtgffodmipbefpaaGzb
import Derived.BigQuiet
namespace Go.Proofs.Ytgffodmipbefpaa
open Go.Shelf Go.RowKit Go.Lib Go.Sort
set_option maxRecDepth 100000

theorem gE_len (G : Int → Option Tl) (k : Int) : (gE G k).length = 6 := rfl
theorem gflat_get (G : Int → Option Tl) (ks : List Int) (k j : Nat) (x : Int) (hx : ks[k]? = some x) (hj : j < 6) : (ks.flatMap (gE G))[k * 6 + j]? = (gE G x)[j]? := by
  induction ks generalizing k with
  | nil => simp at hx
  | cons a r ih =>
    rw [List.flatMap_cons]
    cases k with
    | zero =>
      simp at hx; subst hx
      rw [List.getElem?_append_left (by rw [gE_len]; omega)]; simp
    | succ k =>
      simp at hx
      rw [List.getElem?_append_right (by rw [gE_len]; omega), gE_len, show (k + 1) * 6 + j - 6 = k * 6 + j by omega]
      exact ih k hx
theorem gs_cells {W : World} {base gs n ck : Nat} {G : Int → Option Tl} {ks : List Int} (h : W.ownsRow base 57 6 (.slice (some ⟨gs, 0, none⟩) n ck) n (ks.flatMap (gE G))) (k : Nat) (x : Int) (hx : ks[k]? = some x) :
    ∀ τ, τ = (G x).getD τ0 → W.cell? ⟨gs, k * 6, none⟩ = some (.int .i64 x) ∧ W.cell? ⟨gs, k * 6 + 1, none⟩ = some (.int .i64 τ.c) ∧ W.cell? ⟨gs, k * 6 + 2, none⟩ = some (.int .i64 τ.s) ∧ W.cell? ⟨gs, k * 6 + 3, none⟩ = some (.int .i64 (lo τ.R)) ∧ W.cell? ⟨gs, k * 6 + 4, none⟩ = some (.int .i64 (hi τ.R)) ∧ W.cell? ⟨gs, k * 6 + 5, none⟩ = some (.bool (some? τ.R)) := by
  rintro τ rfl
  have key := fun (j : Nat) (v : Value) (hj : j < 6) (hv : (gE G x)[j]? = some v) => h.cells (g := gs) rfl (k * 6 + j) v ((gflat_get G ks k j x hx hj).trans hv)
  simp only [gadd_at] at key
  exact ⟨key 0 _ (by omega) rfl, key 1 _ (by omega) rfl, key 2 _ (by omega) rfl, key 3 _ (by omega) rfl, key 4 _ (by omega) rfl, key 5 _ (by omega) rfl⟩
theorem gflat_same {G G' : Int → Option Tl} (e : Geq G G') (ks : List Int) : ks.flatMap (gE G) = ks.flatMap (gE G') := by
  have : gE G = gE G' := funext fun k => geq_enc e k
  rw [this]

theorem neq_group (a b c d f : Int) (g : Bool) (w : World) : (binOp .neq 57 (.agg #[.int .i64 a, .int .i64 b, .int .i64 c, .int .i64 d, .int .i64 f, .bool g]) (.agg #[.int .i64 a, .int .i64 b, .int .i64 c, .int .i64 d, .int .i64 f, .bool g])).run Try.prog w = .ok (.bool false) w := by
  go_simp

theorem gback_long (oa1 oa2 : Option Addr) (n1 c1 n2 c2 : Nat) (turn : Int) (w : World) (h : 60 < n1 ∨ 60 < n2) :
    Calls Try.prog 7 #[.slice oa1 n1 c1, .slice oa2 n2 c2, .int .i64 turn] w fun e w' => e = .returned (.bool true) ∧ Below w.heap.size w w' := by
  by_cases h1 : 60 < n1
  · go_enter Try.func7, Try.ntmps7
    go_wp2
    go_ret
    exact ⟨rfl, Below.refl _ _⟩
  · have h2 : 60 < n2 := by omega
    go_enter Try.func7, Try.ntmps7
    go_wp2
    go_ret
    exact ⟨rfl, Below.refl _ _⟩

set_option maxHeartbeats 8000000 in
theorem gback_any (oa1 oa2 : Option Addr) (n1 c1 n2 c2 : Nat) (S1 S2 : Nat → O) (turn : Int) (w : World) (h1 : n1 ≤ 60) (h2 : n2 ≤ 60) (ha1 : ArgAt w oa1 n1 S1) (ha2 : ArgAt w oa2 n2 S2) :
    Calls Try.prog 7 #[.slice oa1 n1 c1, .slice oa2 n2 c2, .int .i64 turn] w fun e w' => e = .returned (.bool true) ∧ Below w.heap.size w w' := by
  have HA1 : Hid (ArgAt w oa1 n1 S1) := ha1
  have HA2 : Hid (ArgAt w oa2 n2 S2) := ha2
  clear ha1 ha2
  have h1' : (n1 : Int) ≤ 60 := by omega
  have h2' : (n2 : Int) ≤ 60 := by omega
  go_enter Try.func7, Try.ntmps7
  go_wp2_with (first
    | (go_at_call 25; refine (summed_any _).mono ?_; rintro e w1 ⟨rfl, hb1⟩)
    | fail)
  have HD0 : Hid (∃ Sa Sb, GDuo w w1.heap.size (w1.heap.size + 1) 0 0 Sa Sb [] [] ((w1.alloc (.cells #[.map none] 53)).alloc (.cells #[.map none] 53))) := by
    have hz := hb1.size
    have m1 : GMine w w1.heap.size 0 (fun j => j = w1.heap.size) [] (w1.alloc (.cells #[.map none] 53)) := ⟨group_new w1, hb1.trans ((Go.Joins.below_alloc1 _ _).mono hz), fun j e => by omega⟩
    have m2 := group_new (w1.alloc (.cells #[.map none] 53))
    simp only [World.size_alloc] at m2
    have m1' := m1.by_below (Go.Joins.below_alloc1 _ (.cells #[.map none] 53))
    exact ⟨_, _, m1', ⟨m2, m1'.below, fun j e => by omega⟩, fun j e1 e2 => by omega⟩
  have hz1 := hb1.size
  clear hb1
  revert HD0
  generalize w1.heap.size = ba at *
  intro HD0
  go_loopg [9] n1 (fun g i wr => ∃ (k : Nat) (Sa Sb : Nat → Prop) (La Lb : List O), k ≤ n1 ∧ g = n1 - k ∧ i = .int .i64 k ∧ GDuo w ba (ba + 1) k k Sa Sb La Lb wr ∧ La.Perm ((List.range k).map S1) ∧ Lb.Perm ((List.range k).map fun j => S1 ((j + pickN turn n1) % n1)))
  case atStart =>
    obtain ⟨Sa, Sb, hD0⟩ := HD0.out
    exact ⟨0, Sa, Sb, [], [], Nat.zero_le _, rfl, rfl, hD0, List.Perm.refl _, List.Perm.refl _⟩
  case round =>
    obtain ⟨k, Sa, Sb, La, Lb, hk, hgk, rfl, hD, hpa, hpb⟩ := hrel
    have HG : Hid (gk = n1 - k) := hgk
    have HD : Hid (GDuo w ba (ba + 1) k k Sa Sb La Lb wr) := hD
    have HPA : Hid (La.Perm ((List.range k).map S1)) := hpa
    have HPB : Hid (Lb.Perm ((List.range k).map fun j => S1 ((j + pickN turn n1) % n1))) := hpb
    have hla : La.length = k := by rw [hpa.length_eq]; simp
    have hlb : Lb.length = k := by rw [hpb.length_eq]; simp
    have HLA : Hid (La.length = k ∧ Lb.length = k) := ⟨hla, hlb⟩
    clear hgk hD hpa hpb hla hlb
    by_cases hlt : k < n1
    · obtain ⟨g1, o1, rfl, hg1, hc1⟩ := HA1.out (by omega)
      have hp := (pickN_lt turn n1 (by omega)).1
      have hx := (hc1 k hlt).1.below HD.out.a.below hg1
      have HW : Hid (S1 k).wf := (hc1 k hlt).2
      have i1 : (0 : Int) ≤ (k : Int) := by omega
      have i2 : (k : Int) < (n1 : Int) := by omega
      generalize hS : S1 k = x at *
      have HS : Hid (S1 k = x) := hS
      have HC : Hid (∀ k, k < n1 → Cells9 w g1 (o1 + k * 9) (S1 k) ∧ (S1 k).wf) := hc1
      clear hS hc1
      unfold Cells9 at hx
      go_wp2_with fail
      refine (gapplyL_put ba 0 k Sa La wr HD.out.a.grp x HW.out (by omega)).mono ?_
      rintro e w2 ⟨rfl, hg2, ht2⟩
      have HD2 : Hid (GDuo w ba (ba + 1) (k + 1) k (More Sa wr w2) Sb (x :: La) Lb w2) := HD.out.stepA hg2 ht2
      clear hg2 ht2 hx
      have hpk := fun W => pick_any turn n1 W (by omega) h1
      generalize hP : pickN turn n1 = p at *
      have hq := mod_at hp hlt
      have hql : (k + p) % n1 < n1 := Nat.mod_lt _ (by omega)
      have hqi : ((k : Int) + (p : Int)).tmod (n1 : Int) = (((k + p) % n1 : Nat) : Int) := by
        rw [Int.tmod_eq_emod_of_nonneg (by omega), Int.natCast_emod, Int.natCast_add]
      have hy := (HC.out _ hql).1.below HD2.out.a.below hg1
      have HWy : Hid (S1 ((k + p) % n1)).wf := (HC.out _ hql).2
      generalize hQ : (k + p) % n1 = q at *
      generalize hS2 : S1 q = y at *
      have HQ : Hid ((k + p) % n1 = q ∧ S1 q = y) := ⟨hQ, hS2⟩
      have p1 : (0 : Int) ≤ (p : Int) := by omega
      have p2 : (p : Int) < 60 := by omega
      have q1 : (0 : Int) ≤ (q : Int) := by omega
      have q2 : (q : Int) < (n1 : Int) := by omega
      have n0 : (n1 : Int) ≠ 0 := by omega
      clear hQ hS2 hq
      unfold Cells9 at hy
      go_wp2_with (first | (go_at_call 22; refine (hpk _).mono ?_; rintro e w' ⟨rfl, rfl⟩) | fail)
      refine (gapplyL_put (ba + 1) 0 k Sb Lb _ HD2.out.b.grp y HWy.out (by omega)).mono ?_
      rintro e w3 ⟨rfl, hg3, ht3⟩
      have HD3 : Hid (∃ Sa' Sb', GDuo w ba (ba + 1) (k + 1) (k + 1) Sa' Sb' (x :: La) (y :: Lb) w3) := ⟨_, _, HD2.out.stepB hg3 ht3⟩
      clear hg3 ht3 hy
      go_wp2
      go_roundg (n1 - (k + 1))
      case measure => have := HG.out; omega
      case rel =>
        obtain ⟨Sa', Sb', hD3⟩ := HD3.out
        refine ⟨k + 1, Sa', Sb', x :: La, y :: Lb, by omega, rfl, by go_num, hD3, ?_, ?_⟩
        · rw [List.range_succ, List.map_append]
          exact (List.perm_append_singleton x La).symm.trans (HPA.out.append (by rw [List.map_singleton, HS.out]))
        · rw [List.range_succ, List.map_append]
          exact (List.perm_append_singleton y Lb).symm.trans (HPB.out.append (by rw [List.map_singleton, HQ.out.1, HQ.out.2]))
    · have e1 : k = n1 := by omega
      subst e1
      have hge : ¬ ((k : Int) < (k : Int)) := by omega
      have HT : Hid (Lb.Perm ((List.range k).map S1)) := by
        rcases Nat.eq_zero_or_pos k with rfl | hpos
        · exact HPB.out
        · exact HPB.out.trans (rot_perm k _ S1 (pickN_lt turn k hpos).1)
      have HLa : Hid (La.length = k) := HLA.out.1
      clear HPB HLA HG hlt HA1
      generalize hT : (List.range k).map S1 = T at *
      have HTl : Hid (T.length = k) := by show T.length = k; rw [← hT]; simp
      clear hT
      go_wp2
      go_loopg [10] n2 (fun g i wr => ∃ (j : Nat) (Sb : Nat → Prop) (Lb : List O), j ≤ n2 ∧ g = n2 - j ∧ i = .int .i64 j ∧ GDuo w ba (ba + 1) k (k + j) Sa Sb La Lb wr ∧ Lb.Perm ((List.range j).map S2 ++ T))
      case atStart => exact ⟨0, Sb, Lb, Nat.zero_le _, rfl, rfl, HD.out, HT.out⟩
      case round =>
        obtain ⟨j, Sb2, Lb2, hj, hgj, rfl, hD2, hp2⟩ := hrel
        have HG2 : Hid (gk = n2 - j) := hgj
        have HD2 : Hid (GDuo w ba (ba + 1) k (k + j) Sa Sb2 La Lb2 wr) := hD2
        have HP2 : Hid (Lb2.Perm ((List.range j).map S2 ++ T)) := hp2
        have HL2 : Hid (Lb2.length = j + k) := by have := HTl.out; show Lb2.length = j + k; rw [hp2.length_eq]; simp [this]
        clear hgj hD2 hp2
        by_cases hlt : j < n2
        · obtain ⟨g2, o2, rfl, hg2, hc2⟩ := HA2.out (by omega)
          have hx := (hc2 j hlt).1.below HD2.out.a.below hg2
          have HW : Hid (S2 j).wf := (hc2 j hlt).2
          have i1 : (0 : Int) ≤ (j : Int) := by omega
          have i2 : (j : Int) < (n2 : Int) := by omega
          generalize hS : S2 j = x at *
          have HS : Hid (S2 j = x) := hS
          clear hS hc2
          unfold Cells9 at hx
          go_wp2_with fail
          refine (gapplyL_put (ba + 1) 0 (k + j) Sb2 Lb2 wr HD2.out.b.grp x HW.out (by omega)).mono ?_
          rintro e w3 ⟨rfl, hg3, ht3⟩
          have HD3 : Hid (GDuo w ba (ba + 1) k (k + j + 1) Sa (More Sb2 wr w3) La (x :: Lb2) w3) := HD2.out.stepB hg3 ht3
          clear hg3 ht3 hx
          go_wp2
          go_roundg (n2 - (j + 1))
          case measure => have := HG2.out; omega
          case rel =>
            refine ⟨j + 1, _, x :: Lb2, by omega, rfl, by go_num, HD3.out, ?_⟩
            rw [List.range_succ, List.map_append, List.map_singleton, HS.out, List.append_assoc]
            exact (HP2.out.cons x).trans List.perm_middle.symm
        · have e2 : j = n2 := by omega
          subst e2
          have hge2 : ¬ ((j : Int) < (j : Int)) := by omega
          have HT2 : Hid (Lb2.Perm (((List.range j).map fun i => S2 ((i + pickN turn j) % j)) ++ T)) := by
            rcases Nat.eq_zero_or_pos j with rfl | hpos
            · exact HP2.out
            · exact HP2.out.trans ((rot_perm j _ S2 (pickN_lt turn j hpos).1).symm.append_right T)
          clear HP2 HG2 hlt HD
          go_wp2
          go_loopg [11] j (fun g i wr => ∃ (q : Nat) (Sb : Nat → Prop) (Lb : List O), q ≤ j ∧ g = j - q ∧ i = .int .i64 q ∧ GDuo w ba (ba + 1) k (k + j + q) Sa Sb La Lb wr ∧ Lb.Perm ((((List.range j).drop q).map fun i => S2 ((i + pickN turn j) % j)) ++ T))
          case atStart => exact ⟨0, Sb2, Lb2, Nat.zero_le _, rfl, rfl, HD2.out, HT2.out⟩
          case round =>
            obtain ⟨q, Sb3, Lb3, hq, hgq, rfl, hD3, hp3⟩ := hrel
            have HG3 : Hid (gk = j - q) := hgq
            have HD3 : Hid (GDuo w ba (ba + 1) k (k + j + q) Sa Sb3 La Lb3 wr) := hD3
            have HP3 : Hid (Lb3.Perm ((((List.range j).drop q).map fun i => S2 ((i + pickN turn j) % j)) ++ T)) := hp3
            have HL3 : Hid (Lb3.length = (j - q) + k) := by have := HTl.out; show Lb3.length = (j - q) + k; rw [hp3.length_eq]; simp [this]
            clear hgq hD3 hp3
            by_cases hlt : q < j
            · obtain ⟨g2, o2, rfl, hg2, hc2⟩ := HA2.out (by omega)
              have hp := (pickN_lt turn j (by omega)).1
              have hpk := fun W => pick_any turn j W (by omega) h2
              have HDr : Hid ((List.range j).drop q = q :: (List.range j).drop (q + 1)) := by
                show (List.range j).drop q = q :: (List.range j).drop (q + 1)
                rw [List.drop_eq_getElem_cons (by simpa using hlt)]; simp
              generalize hP : pickN turn j = p at *
              have hql : (q + p) % j < j := Nat.mod_lt _ (by omega)
              have hqi : ((q : Int) + (p : Int)).tmod (j : Int) = (((q + p) % j : Nat) : Int) := by
                rw [Int.tmod_eq_emod_of_nonneg (by omega), Int.natCast_emod, Int.natCast_add]
              have hy := (hc2 _ hql).1.below HD3.out.a.below hg2
              have HWy : Hid (S2 ((q + p) % j)).wf := (hc2 _ hql).2
              have HP4 : Hid (Lb3.Perm (S2 ((q + p) % j) :: ((((List.range j).drop (q + 1)).map fun i => S2 ((i + p) % j)) ++ T))) := by
                have := HP3.out
                rw [HDr.out, List.map_cons, List.cons_append] at this
                exact this
              clear HP3 HDr hc2
              generalize (q + p) % j = r at *
              generalize S2 r = y at *
              have p1 : (0 : Int) ≤ (p : Int) := by omega
              have p2 : (p : Int) < 60 := by omega
              have i1 : (0 : Int) ≤ (q : Int) := by omega
              have i2 : (q : Int) < (j : Int) := by omega
              have q1 : (0 : Int) ≤ (r : Int) := by omega
              have q2 : (r : Int) < (j : Int) := by omega
              have n0 : (j : Int) ≠ 0 := by omega
              unfold Cells9 at hy
              go_wp2_with (first | (go_at_call 22; refine (hpk _).mono ?_; rintro e w' ⟨rfl, rfl⟩) | fail)
              refine (gapplyL_take (ba + 1) 0 (k + j + q) Sb3 Lb3 _ HD3.out.b.grp y HWy.out (HP4.out.mem_iff.2 (by simp)) (by omega)).mono ?_
              rintro e w4 ⟨rfl, hg4, ht4⟩
              have HD4 : Hid (∃ Sb', GDuo w ba (ba + 1) k (k + j + q + 1) Sa Sb' La (Lb3.erase y) w4) := ⟨_, HD3.out.stepB hg4 ht4⟩
              clear hg4 ht4 hy
              go_wp2
              go_roundg (j - (q + 1))
              case measure => have := HG3.out; omega
              case rel =>
                obtain ⟨Sb', hD4⟩ := HD4.out
                refine ⟨q + 1, Sb', Lb3.erase y, by omega, rfl, by go_num, hD4, ?_⟩
                have := HP4.out.erase y
                rwa [List.erase_cons_head] at this
            · have e3 : q = j := by omega
              subst e3
              have hge3 : ¬ ((q : Int) < (q : Int)) := by omega
              have HT3 : Hid (La.Perm Lb3) := by
                have := HP3.out
                rw [List.drop_eq_nil_of_le (by simp)] at this
                exact HPA.out.trans this.symm
              clear HP3 HG3 hlt HD2 HT2 HA2 HT
              go_wp2_with fail
              refine (gall_any ba 0 k Sa _ wr HD3.out.a.grp (by omega)).mono ?_
              rintro e w4 ⟨v1, Z1, rfl, ho1, hm1, hl1, hr1, hb4⟩
              have HD4 : Hid (GDuo w ba (ba + 1) k (k + q + q) Sa Sb3 La Lb3 w4) := HD3.out.by_below hb4
              have HR1 : Hid (w4.ownsRow wr.heap.size 57 6 v1 Z1.length (Z1.flatMap (gE (absG La)))) := hr1
              have HO1 : Hid (Z1.Pairwise (fun x y => x < y) ∧ ∀ k, k ∈ Z1 ↔ (absG La k).isSome = true) := ⟨ho1, hm1⟩
              clear ho1 hm1 hr1 hb4
              go_wp2_with fail
              refine (gall_any (ba + 1) 0 (k + q + q) Sb3 _ w4 HD4.out.b.grp (by omega)).mono ?_
              rintro e w5 ⟨v2, Z2, rfl, ho2, hm2, hl2, hr2, hb5⟩
              have HD5 : Hid (Below w.heap.size w w5) := (HD4.out.by_below hb5).a.below
              have hr1' := gkept_below HR1.out hb5
              have hge' := abs_perm HT3.out
              obtain rfl : Z1 = Z2 := keys_eq hge' HO1.out.1 ho2 HO1.out.2 hm2
              rw [← gflat_same hge'] at hr2
              have hzl : (Z1.length : Int) ≤ 60 := by omega
              clear ho2 hm2 hb5 HR1 HO1 HD4 HT3 hge' hl1 hl2
              by_cases hz0 : Z1.length = 0
              · rw [hz0] at hr1' hr2
                rcases Go.Joins.ownsRow_forms hr1' with ⟨rfl, _⟩ | ⟨ga, ca, rfl⟩ <;> rcases Go.Joins.ownsRow_forms hr2 with ⟨rfl, _⟩ | ⟨gb, cb, rfl⟩
                all_goals
                  clear hr1' hr2
                  go_wp2
                  refine wp_loop_rounds 1 ?_
                  rw [rounds_succ]
                  go_wp2
                  go_ret
                  exact ⟨rfl, HD5.out⟩
              · obtain ⟨ga, ca, rfl⟩ := Go.Joins.ownsRow_form hr1' (by omega)
                obtain ⟨gb, cb, rfl⟩ := Go.Joins.ownsRow_form hr2 (by omega)
                have HRa : Hid (w5.ownsRow wr.heap.size 57 6 (.slice (some ⟨ga, 0, none⟩) Z1.length ca) Z1.length (Z1.flatMap (gE (absG La)))) := hr1'
                have HRb : Hid (w5.ownsRow w4.heap.size 57 6 (.slice (some ⟨gb, 0, none⟩) Z1.length cb) Z1.length (Z1.flatMap (gE (absG La)))) := hr2
                clear hr1' hr2
                go_wp2
                have hzw : w.heap.size ≤ w5.heap.size := HD5.out.size
                clear HD3
                go_loopg [14] Z1.length (fun g i wr => ∃ i' : Nat, i' ≤ Z1.length ∧ g = Z1.length - i' ∧ i = .int .i64 i' ∧ Below w5.heap.size w5 wr)
                case atStart => exact ⟨0, Nat.zero_le _, rfl, rfl, Below.refl _ _⟩
                case round =>
                  obtain ⟨i', hi', hgi, rfl, hBr⟩ := hrel
                  have HGi : Hid (gk = Z1.length - i') := hgi
                  have HBr : Hid (Below w5.heap.size w5 wr) := hBr
                  clear hgi
                  by_cases hlt : i' < Z1.length
                  · obtain ⟨z, hz⟩ : ∃ z, Z1[i']? = some z := ⟨_, List.getElem?_eq_getElem hlt⟩
                    obtain ⟨τz, hτz⟩ : ∃ τz, τz = (absG La z).getD τ0 := ⟨_, rfl⟩
                    have hca := gs_cells (gkept_below HRa.out hBr) i' z hz τz hτz
                    have hcb := gs_cells (gkept_below HRb.out hBr) i' z hz τz hτz
                    have hnq := neq_group z τz.c τz.s (lo τz.R) (hi τz.R) (some? τz.R)
                    have i1 : (0 : Int) ≤ (i' : Int) := by omega
                    have i2 : (i' : Int) < (Z1.length : Int) := by omega
                    clear hBr hz hτz
                    go_wp2
                    go_region
                    all_goals (try go_wp2)
                    all_goals go_roundg (Z1.length - (i' + 1))
                    all_goals first
                      | exact ⟨i' + 1, by omega, rfl, by go_num, HBr.out.drew⟩
                      | (have := HGi.out; omega)
                  · have e4 : i' = Z1.length := by omega
                    have hge4 : ¬ ((i' : Int) < (Z1.length : Int)) := by omega
                    clear hBr
                    go_wp2
                    go_ret
                    exact ⟨rfl, HD5.out.trans (HBr.out.mono hzw)⟩

end Go.Proofs.Ytgffodmipbefpaa
