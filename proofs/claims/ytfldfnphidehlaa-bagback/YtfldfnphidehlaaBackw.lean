/- The walk of BagBack. -/
import Derived.Test.YtfldfnphidehlaaBackm
import Derived.BigQuiet
namespace Go.Proofs.Ytfldfnphidehlaa
open Go.Shelf Go.RowKit Go.Lib Go.Sort

theorem back_long (oa1 oa2 : Option Addr) (n1 c1 n2 c2 : Nat) (turn : Int) (w : World) (h : 60 < n1 ∨ 60 < n2) :
    Calls Try.prog 6 #[.slice oa1 n1 c1, .slice oa2 n2 c2, .int .i64 turn] w fun e w' => e = .returned (.bool true) ∧ Below w.heap.size w w' := by
  by_cases h1 : 60 < n1
  · go_enter Try.func6, Try.ntmps6
    go_wp2
    go_ret
    exact ⟨rfl, Below.refl _ _⟩
  · have h2 : 60 < n2 := by omega
    go_enter Try.func6, Try.ntmps6
    go_wp2
    go_ret
    exact ⟨rfl, Below.refl _ _⟩

theorem neq_out (x : O) (w : World) : (binOp .neq 27 (vO x) (vO x)).run Try.prog w = .ok (.bool false) w := by
  unfold vO; go_simp

set_option maxRecDepth 100000 in
set_option maxHeartbeats 8000000 in
theorem back_any (oa1 oa2 : Option Addr) (n1 c1 n2 c2 : Nat) (S1 S2 : Nat → O) (turn : Int) (w : World) (h1 : n1 ≤ 60) (h2 : n2 ≤ 60) (ha1 : ArgAt w oa1 n1 S1) (ha2 : ArgAt w oa2 n2 S2) :
    Calls Try.prog 6 #[.slice oa1 n1 c1, .slice oa2 n2 c2, .int .i64 turn] w fun e w' => e = .returned (.bool true) ∧ Below w.heap.size w w' := by
  have HA1 : Hid (ArgAt w oa1 n1 S1) := ha1
  have HA2 : Hid (ArgAt w oa2 n2 S2) := ha2
  clear ha1 ha2
  have h1' : (n1 : Int) ≤ 60 := by omega
  have h2' : (n2 : Int) ≤ 60 := by omega
  go_enter Try.func6, Try.ntmps6
  go_wp2_with (first
    | (go_at_call 19; refine (counted_any _).mono ?_; rintro e w1 ⟨rfl, hb1⟩)
    | fail)
  have HD0 : Hid (Duo w w1.heap.size (w1.heap.size + 1) none none 0 0 [] [] ((w1.alloc (.cells #[.map none, .int .i64 0] 41)).alloc (.cells #[.map none, .int .i64 0] 41))) := by
    have hz := hb1.size
    have m1 : Mine w w1.heap.size none 0 [] (w1.alloc (.cells #[.map none, .int .i64 0] 41)) := ⟨bag_new w1, hb1.trans ((Go.Joins.below_alloc1 _ _).mono hz), hz, fun k e => by cases e⟩
    have m2 := bag_new (w1.alloc (.cells #[.map none, .int .i64 0] 41))
    simp only [World.size_alloc] at m2
    have m1' := m1.by_below (Go.Joins.below_alloc1 _ (.cells #[.map none, .int .i64 0] 41))
    exact ⟨m1', ⟨m2, m1'.below, by omega, fun k e => by cases e⟩, by omega, fun k e => by cases e⟩
  have hz1 := hb1.size
  clear hb1
  revert HD0
  generalize w1.heap.size = ba at *
  intro HD0
  go_loopg [9] n1 (fun g i wr => ∃ (k : Nat) (oma omb : Option Nat) (La Lb : List O), k ≤ n1 ∧ g = n1 - k ∧ i = .int .i64 k ∧ Duo w ba (ba + 1) oma omb k k La Lb wr ∧ La.Perm ((List.range k).map S1) ∧ Lb.Perm ((List.range k).map fun j => S1 ((j + pickN turn n1) % n1)))
  case atStart => exact ⟨0, none, none, [], [], Nat.zero_le _, rfl, rfl, HD0.out, List.Perm.refl _, List.Perm.refl _⟩
  case round =>
    obtain ⟨k, oma, omb, La, Lb, hk, hgk, rfl, hD, hpa, hpb⟩ := hrel
    have HG : Hid (gk = n1 - k) := hgk
    have HD : Hid (Duo w ba (ba + 1) oma omb k k La Lb wr) := hD
    have HPA : Hid (La.Perm ((List.range k).map S1)) := hpa
    have HPB : Hid (Lb.Perm ((List.range k).map fun j => S1 ((j + pickN turn n1) % n1))) := hpb
    have hla : La.length = k := by rw [hpa.length_eq]; simp
    have hlb : Lb.length = k := by rw [hpb.length_eq]; simp
    have HLA : Hid (La.length = k ∧ Lb.length = k) := ⟨hla, hlb⟩
    clear hgk hD hpa hpb hla hlb
    by_cases hlt : k < n1
    · obtain ⟨g1, o1, rfl, hg1, hc1⟩ := HA1.out (by omega)
      have hp := (pickN_lt turn n1 (by omega)).1
      have hx := (hc1 k hlt).1.below HD.out.a.below hg1
      have HW : Hid (S1 k).wf := (hc1 k hlt).2
      have i1 : (0 : Int) ≤ (k : Int) := by omega
      have i2 : (k : Int) < (n1 : Int) := by omega
      generalize hS : S1 k = x at *
      have HS : Hid (S1 k = x) := hS
      have HC : Hid (∀ k, k < n1 → Cells9 w g1 (o1 + k * 9) (S1 k) ∧ (S1 k).wf) := hc1
      clear hS hc1
      unfold Cells9 at hx
      go_wp2_with fail
      refine (apply_put ba k oma La wr HD.out.a.bag x HW.out (by omega) (by have := HLA.out.1; omega)).mono ?_
      rintro e w2 ⟨rfl, oma2, hbag2, hk2, hm2⟩
      have HD2 : Hid (Duo w ba (ba + 1) oma2 omb (k + 1) k (x :: La) Lb w2) := HD.out.stepA hbag2 hk2 hm2
      clear hbag2 hk2 hm2 hx
      have hpk := fun W => pick_any turn n1 W (by omega) h1
      generalize hP : pickN turn n1 = p at *
      have hq := mod_at hp hlt
      have hql : (k + p) % n1 < n1 := Nat.mod_lt _ (by omega)
      have hqi : ((k : Int) + (p : Int)).tmod (n1 : Int) = (((k + p) % n1 : Nat) : Int) := by
        rw [Int.tmod_eq_emod_of_nonneg (by omega), Int.natCast_emod, Int.natCast_add]
      have hy := (HC.out _ hql).1.below HD2.out.a.below hg1
      have HWy : Hid (S1 ((k + p) % n1)).wf := (HC.out _ hql).2
      generalize hQ : (k + p) % n1 = q at *
      generalize hS2 : S1 q = y at *
      have HQ : Hid ((k + p) % n1 = q ∧ S1 q = y) := ⟨hQ, hS2⟩
      have p1 : (0 : Int) ≤ (p : Int) := by omega
      have p2 : (p : Int) < 60 := by omega
      have q1 : (0 : Int) ≤ (q : Int) := by omega
      have q2 : (q : Int) < (n1 : Int) := by omega
      have n0 : (n1 : Int) ≠ 0 := by omega
      clear hQ hS2 hq
      unfold Cells9 at hy
      go_wp2_with (first | (go_at_call 21; refine (hpk _).mono ?_; rintro e w' ⟨rfl, rfl⟩) | fail)
      refine (apply_put (ba + 1) k omb Lb _ HD2.out.b.bag y HWy.out (by omega) (by have := HLA.out.2; omega)).mono ?_
      rintro e w3 ⟨rfl, omb3, hbag3, hk3, hm3⟩
      have HD3 : Hid (Duo w ba (ba + 1) oma2 omb3 (k + 1) (k + 1) (x :: La) (y :: Lb) w3) := HD2.out.stepB hbag3 hk3 hm3
      clear hbag3 hk3 hm3 hy
      go_wp2
      go_roundg (n1 - (k + 1))
      case measure => have := HG.out; omega
      case rel =>
        refine ⟨k + 1, oma2, omb3, x :: La, y :: Lb, by omega, rfl, by go_num, HD3.out, ?_, ?_⟩
        · rw [List.range_succ, List.map_append]
          exact (List.perm_append_singleton x La).symm.trans (HPA.out.append (by rw [List.map_singleton, HS.out]))
        · rw [List.range_succ, List.map_append]
          exact (List.perm_append_singleton y Lb).symm.trans (HPB.out.append (by rw [List.map_singleton, HQ.out.1, HQ.out.2]))
    · have e1 : k = n1 := by omega
      subst e1
      have hge : ¬ ((k : Int) < (k : Int)) := by omega
      have HT : Hid (Lb.Perm ((List.range k).map S1)) := by
        rcases Nat.eq_zero_or_pos k with rfl | hpos
        · exact HPB.out
        · exact HPB.out.trans (rot_perm k _ S1 (pickN_lt turn k hpos).1)
      have HLa : Hid (La.length = k) := HLA.out.1
      clear HPB HLA HG hlt HA1
      generalize hT : (List.range k).map S1 = T at *
      have HTl : Hid (T.length = k) := by show T.length = k; rw [← hT]; simp
      clear hT
      go_wp2
      go_loopg [10] n2 (fun g i wr => ∃ (j : Nat) (omb : Option Nat) (Lb : List O), j ≤ n2 ∧ g = n2 - j ∧ i = .int .i64 j ∧ Duo w ba (ba + 1) oma omb k (k + j) La Lb wr ∧ Lb.Perm ((List.range j).map S2 ++ T))
      case atStart => exact ⟨0, omb, Lb, Nat.zero_le _, rfl, rfl, HD.out, HT.out⟩
      case round =>
        obtain ⟨j, omb2, Lb2, hj, hgj, rfl, hD2, hp2⟩ := hrel
        have HG2 : Hid (gk = n2 - j) := hgj
        have HD2 : Hid (Duo w ba (ba + 1) oma omb2 k (k + j) La Lb2 wr) := hD2
        have HP2 : Hid (Lb2.Perm ((List.range j).map S2 ++ T)) := hp2
        have HL2 : Hid (Lb2.length = j + k) := by have := HTl.out; show Lb2.length = j + k; rw [hp2.length_eq]; simp [this]
        clear hgj hD2 hp2
        by_cases hlt : j < n2
        · obtain ⟨g2, o2, rfl, hg2, hc2⟩ := HA2.out (by omega)
          have hx := (hc2 j hlt).1.below HD2.out.a.below hg2
          have HW : Hid (S2 j).wf := (hc2 j hlt).2
          have i1 : (0 : Int) ≤ (j : Int) := by omega
          have i2 : (j : Int) < (n2 : Int) := by omega
          generalize hS : S2 j = x at *
          have HS : Hid (S2 j = x) := hS
          clear hS hc2
          unfold Cells9 at hx
          go_wp2_with fail
          refine (apply_put (ba + 1) (k + j) omb2 Lb2 wr HD2.out.b.bag x HW.out (by omega) (by have := HL2.out; omega)).mono ?_
          rintro e w3 ⟨rfl, omb3, hbag3, hk3, hm3⟩
          have HD3 : Hid (Duo w ba (ba + 1) oma omb3 k (k + j + 1) La (x :: Lb2) w3) := HD2.out.stepB hbag3 hk3 hm3
          clear hbag3 hk3 hm3 hx
          go_wp2
          go_roundg (n2 - (j + 1))
          case measure => have := HG2.out; omega
          case rel =>
            refine ⟨j + 1, omb3, x :: Lb2, by omega, rfl, by go_num, HD3.out, ?_⟩
            rw [List.range_succ, List.map_append, List.map_singleton, HS.out, List.append_assoc]
            exact (HP2.out.cons x).trans List.perm_middle.symm
        · have e2 : j = n2 := by omega
          subst e2
          have hge2 : ¬ ((j : Int) < (j : Int)) := by omega
          have HT2 : Hid (Lb2.Perm (((List.range j).map fun i => S2 ((i + pickN turn j) % j)) ++ T)) := by
            rcases Nat.eq_zero_or_pos j with rfl | hpos
            · exact HP2.out
            · exact HP2.out.trans ((rot_perm j _ S2 (pickN_lt turn j hpos).1).symm.append_right T)
          clear HP2 HG2 hlt HD
          go_wp2
          go_loopg [11] j (fun g i wr => ∃ (q : Nat) (Lb : List O), q ≤ j ∧ g = j - q ∧ i = .int .i64 q ∧ Duo w ba (ba + 1) oma omb2 k (k + j + q) La Lb wr ∧ Lb.Perm ((((List.range j).drop q).map fun i => S2 ((i + pickN turn j) % j)) ++ T))
          case atStart => exact ⟨0, Lb2, Nat.zero_le _, rfl, rfl, HD2.out, HT2.out⟩
          case round =>
            obtain ⟨q, Lb3, hq, hgq, rfl, hD3, hp3⟩ := hrel
            have HG3 : Hid (gk = j - q) := hgq
            have HD3 : Hid (Duo w ba (ba + 1) oma omb2 k (k + j + q) La Lb3 wr) := hD3
            have HP3 : Hid (Lb3.Perm ((((List.range j).drop q).map fun i => S2 ((i + pickN turn j) % j)) ++ T)) := hp3
            have HL3 : Hid (Lb3.length = (j - q) + k) := by have := HTl.out; show Lb3.length = (j - q) + k; rw [hp3.length_eq]; simp [this]
            clear hgq hD3 hp3
            by_cases hlt : q < j
            · obtain ⟨g2, o2, rfl, hg2, hc2⟩ := HA2.out (by omega)
              have hp := (pickN_lt turn j (by omega)).1
              have hpk := fun W => pick_any turn j W (by omega) h2
              have HDr : Hid ((List.range j).drop q = q :: (List.range j).drop (q + 1)) := by
                show (List.range j).drop q = q :: (List.range j).drop (q + 1)
                rw [List.drop_eq_getElem_cons (by simpa using hlt)]; simp
              generalize hP : pickN turn j = p at *
              have hql : (q + p) % j < j := Nat.mod_lt _ (by omega)
              have hqi : ((q : Int) + (p : Int)).tmod (j : Int) = (((q + p) % j : Nat) : Int) := by
                rw [Int.tmod_eq_emod_of_nonneg (by omega), Int.natCast_emod, Int.natCast_add]
              have hy := (hc2 _ hql).1.below HD3.out.a.below hg2
              have HWy : Hid (S2 ((q + p) % j)).wf := (hc2 _ hql).2
              have HP4 : Hid (Lb3.Perm (S2 ((q + p) % j) :: ((((List.range j).drop (q + 1)).map fun i => S2 ((i + p) % j)) ++ T))) := by
                have := HP3.out
                rw [HDr.out, List.map_cons, List.cons_append] at this
                exact this
              clear HP3 HDr hc2
              generalize (q + p) % j = r at *
              generalize S2 r = y at *
              have p1 : (0 : Int) ≤ (p : Int) := by omega
              have p2 : (p : Int) < 60 := by omega
              have i1 : (0 : Int) ≤ (q : Int) := by omega
              have i2 : (q : Int) < (j : Int) := by omega
              have q1 : (0 : Int) ≤ (r : Int) := by omega
              have q2 : (r : Int) < (j : Int) := by omega
              have n0 : (j : Int) ≠ 0 := by omega
              unfold Cells9 at hy
              go_wp2_with (first | (go_at_call 21; refine (hpk _).mono ?_; rintro e w' ⟨rfl, rfl⟩) | fail)
              refine (apply_take (ba + 1) (k + j + q) omb2 Lb3 _ HD3.out.b.bag y HWy.out (HP4.out.mem_iff.2 (by simp)) (by omega) (by have := HL3.out; omega)).mono ?_
              rintro e w4 ⟨rfl, hbag4, hk4⟩
              have HD4 : Hid (Duo w ba (ba + 1) oma omb2 k (k + j + q + 1) La (Lb3.erase y) w4) := HD3.out.stepB hbag4 hk4 (.inl rfl)
              clear hbag4 hk4 hy
              go_wp2
              go_roundg (j - (q + 1))
              case measure => have := HG3.out; omega
              case rel =>
                refine ⟨q + 1, Lb3.erase y, by omega, rfl, by go_num, HD4.out, ?_⟩
                have := HP4.out.erase y
                rwa [List.erase_cons_head] at this
            · have e3 : q = j := by omega
              subst e3
              have hge3 : ¬ ((q : Int) < (q : Int)) := by omega
              have HT3 : Hid (La.Perm Lb3) := by
                have := HP3.out
                rw [List.drop_eq_nil_of_le (by simp)] at this
                exact HPA.out.trans this.symm
              clear HP3 HG3 hlt HD2 HT2 HA2 HT
              go_wp2_with fail
              refine (bag_all ba k oma La wr HD3.out.a.bag (by omega) (by have := HLa.out; omega)).mono ?_
              rintro e w4 ⟨v1, Z1, rfl, hp1, ho1, hr1, hb4⟩
              have hD4 := HD3.out.by_below hb4
              have HD4 : Hid (Duo w ba (ba + 1) oma omb2 k (k + q + q) La Lb3 w4) := hD4
              have HR1 : Hid (w4.ownsRow wr.heap.size 27 9 v1 Z1.length (Z1.flatMap encO)) := hr1
              have HO1 : Hid (Z1.Perm La ∧ InOrder Z1) := ⟨hp1, ho1⟩
              clear hp1 ho1 hr1 hb4 hD4
              go_wp2_with fail
              refine (bag_all (ba + 1) (k + q + q) omb2 Lb3 w4 HD4.out.b.bag (by omega) (by have := HL3.out; omega)).mono ?_
              rintro e w5 ⟨v2, Z2, rfl, hp2, ho2, hr2, hb5⟩
              have HD5 : Hid (Duo w ba (ba + 1) oma omb2 k (k + q + q) La Lb3 w5) := HD4.out.by_below hb5
              have hr1' := kept_below HR1.out hb5
              obtain rfl : Z1 = Z2 := order_eq (HO1.out.1.trans (HT3.out.trans hp2.symm)) HO1.out.2 ho2
              have HZ : Hid (Z1.length = La.length) := HO1.out.1.length_eq
              clear hp2 ho2 hb5 HR1 HO1 HD4 HT3
              have hsz : Calls Try.prog 23 #[.pointer (some ⟨ba, 0, none⟩)] w5 fun e w' => e = .returned (.int .i64 Z1.length) ∧ w' = w5 :=
                (size_any ba k oma La w5 HD5.out.a.bag).mono fun e w' ⟨h, hw⟩ => ⟨by rw [h, HZ.out], hw⟩
              have HV : Hid (Calls Try.prog 23 #[.pointer (some ⟨ba, 0, none⟩)] w5 fun e w' => e = .returned (.int .i64 Z1.length) ∧ w' = w5) := hsz
              clear hsz
              have hzl : (Z1.length : Int) ≤ 60 := by have := HZ.out; have := HLa.out; omega
              by_cases hz0 : Z1.length = 0
              · rw [hz0] at hr1' hr2 HV
                rcases Go.Joins.ownsRow_forms hr1' with ⟨rfl, _⟩ | ⟨ga, ca, rfl⟩ <;> rcases Go.Joins.ownsRow_forms hr2 with ⟨rfl, _⟩ | ⟨gb, cb, rfl⟩
                all_goals
                  clear hr1' hr2
                  go_wp2_with (go_at_call 23; refine Calls.mono (Hid.out HV) ?_; rintro e w6 ⟨rfl, rfl⟩)
                  refine wp_loop_rounds 1 ?_
                  rw [rounds_succ]
                  go_wp2
                  go_ret
                  exact ⟨rfl, HD5.out.a.below⟩
              · obtain ⟨ga, ca, rfl⟩ := Go.Joins.ownsRow_form hr1' (by omega)
                obtain ⟨gb, cb, rfl⟩ := Go.Joins.ownsRow_form hr2 (by omega)
                have HRa : Hid (w5.ownsRow wr.heap.size 27 9 (.slice (some ⟨ga, 0, none⟩) Z1.length ca) Z1.length (Z1.flatMap encO)) := hr1'
                have HRb : Hid (w5.ownsRow w4.heap.size 27 9 (.slice (some ⟨gb, 0, none⟩) Z1.length cb) Z1.length (Z1.flatMap encO)) := hr2
                clear hr1' hr2
                go_wp2_with (go_at_call 23; refine Calls.mono (Hid.out HV) ?_; rintro e w6 ⟨rfl, rfl⟩)
                have HBw : Hid (Below w.heap.size w w6) := HD5.out.a.below
                have hzw : w.heap.size ≤ w6.heap.size := HBw.out.size
                clear HD5 HD3
                go_loopg [14] Z1.length (fun g i wr => ∃ i' : Nat, i' ≤ Z1.length ∧ g = Z1.length - i' ∧ i = .int .i64 i' ∧ Below w6.heap.size w6 wr)
                case atStart => exact ⟨0, Nat.zero_le _, rfl, rfl, Below.refl _ _⟩
                case round =>
                  obtain ⟨i', hi', hgi, rfl, hBr⟩ := hrel
                  have HGi : Hid (gk = Z1.length - i') := hgi
                  have HBr : Hid (Below w6.heap.size w6 wr) := hBr
                  clear hgi
                  by_cases hlt : i' < Z1.length
                  · obtain ⟨z, hz⟩ : ∃ z, Z1[i']? = some z := ⟨_, List.getElem?_eq_getElem hlt⟩
                    have hca := ks_cells (kept_below HRa.out hBr) i' z hz
                    have hcb := ks_cells (kept_below HRb.out hBr) i' z hz
                    have hnq := neq_out z
                    simp only [vO] at hnq
                    have i1 : (0 : Int) ≤ (i' : Int) := by omega
                    have i2 : (i' : Int) < (Z1.length : Int) := by omega
                    clear hBr hz
                    go_wp2
                    go_region
                    all_goals (try go_wp2)
                    all_goals go_roundg (Z1.length - (i' + 1))
                    all_goals first
                      | exact ⟨i' + 1, by omega, rfl, by go_num, HBr.out.drew⟩
                      | (have := HGi.out; omega)
                  · have e4 : i' = Z1.length := by omega
                    have hge4 : ¬ ((i' : Int) < (Z1.length : Int)) := by omega
                    clear hBr
                    go_wp2
                    go_ret
                    exact ⟨rfl, HBw.out.trans (HBr.out.mono hzw)⟩

end Go.Proofs.Ytfldfnphidehlaa
