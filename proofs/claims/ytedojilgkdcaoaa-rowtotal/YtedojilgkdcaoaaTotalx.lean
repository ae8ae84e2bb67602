/- The walk of RowTotal. -/
import Derived.Test.YtedojilgkdcaoaaTotale
namespace Go.Proofs.Ytedojilgkdcaoaa
open Go.RowKit Go.Sort

theorem below6 (w : World) (o1 o2 o3 o4 o5 o6 : Obj) : Below w.heap.size w ((((((w.alloc o1).alloc o2).alloc o3).alloc o4).alloc o5).alloc o6) := by
  refine ((((((Below.refl _ _).alloc ?_ _).alloc ?_ _).alloc ?_ _).alloc ?_ _).alloc ?_ _).alloc ?_ _ <;> simp <;> omega

set_option maxHeartbeats 4000000 in
theorem rowTotal_any (a b c : R) (x y z : O) (w : World) :
    Calls Try.prog 5 #[.agg #[.int .i64 a.k, .int .i64 a.t, .int .i64 a.v], .agg #[.int .i64 b.k, .int .i64 b.t, .int .i64 b.v], .agg #[.int .i64 c.k, .int .i64 c.t, .int .i64 c.v], .agg #[.int .i64 x.k, .int .i64 x.lk, .int .i64 x.lt, .int .i64 x.lv, .int .i64 x.rk, .int .i64 x.rt, .int .i64 x.rv, .bool x.hl, .bool x.hr], .agg #[.int .i64 y.k, .int .i64 y.lk, .int .i64 y.lt, .int .i64 y.lv, .int .i64 y.rk, .int .i64 y.rt, .int .i64 y.rv, .bool y.hl, .bool y.hr], .agg #[.int .i64 z.k, .int .i64 z.lk, .int .i64 z.lt, .int .i64 z.lv, .int .i64 z.rk, .int .i64 z.rt, .int .i64 z.rv, .bool z.hl, .bool z.hr]] w fun e w' => e = .returned (.bool true) ∧ Below w.heap.size w w' := by
  go_enter Try.func5, Try.ntmps5
  go_wp2_with (go_at_call 17; refine (ordered_any _).mono ?_; rintro e w1 ⟨rfl, hb1⟩)
  have hz1 : w.heap.size + 1 + 1 + 1 + 1 + 1 + 1 ≤ w1.heap.size := by have := hb1.size; simpa using this
  replace hb1 := hb1.mono (B' := w.heap.size + 1 + 1 + 1 + 1 + 1 + 1) (by simp)
  have hk := fun d os => boxes a b c x y z w (grow (redrawn w1 d) os) (hb1.trans ((below_regrown w1 d os).mono hz1))
  refine wp_region_quiet_below (by kernel_rfl) (by kernel_rfl) ?_
  repeat (quiet_step (first | (go_at_call_of 8 c.k; go_at_call_of 8 b.k; exact Calls.regrown_of (compare_r b c _)) | (go_at_call_of 8 b.k; exact Calls.regrown_of (compare_r a b _)) | (go_at_call 8; exact Calls.regrown_of (compare_r a c _))))
  refine wpQuiet_nil ?_
  intro _ hw'
  obtain ⟨⟨dq, osq⟩, hw''⟩ := hw'
  subst hw''
  clear hk
  have hb2 := hb1.trans ((below_regrown w1 dq osq).mono hz1)
  have hz2 : w.heap.size + 1 + 1 + 1 + 1 + 1 + 1 ≤ (grow (redrawn w1 dq) osq).heap.size := Nat.le_trans hz1 (below_regrown w1 dq osq).size
  revert hb2 hz2
  generalize grow (redrawn w1 dq) osq = w2
  intro hb2 hz2
  clear hb1 hz1
  go_wp2
  have hk := fun d os => boxes a b c x y z w (grow (redrawn w2 d) os) (hb2.trans ((below_regrown w2 d os).mono hz2))
  refine wp_region_quiet_below (by kernel_rfl) (by kernel_rfl) ?_
  repeat (quiet_step (first | (go_at_call_of 12 z.k; go_at_call_of 12 y.k; exact Calls.regrown_of (outs_r y z _)) | (go_at_call_of 12 y.k; exact Calls.regrown_of (outs_r x y _)) | (go_at_call 12; exact Calls.regrown_of (outs_r x z _))))
  refine wpQuiet_nil ?_
  intro _ hw'
  obtain ⟨⟨dq, osq⟩, hw''⟩ := hw'
  subst hw''
  clear hk
  have hb3 := hb2.trans ((below_regrown w2 dq osq).mono hz2)
  have hz3 : w.heap.size + 1 + 1 + 1 + 1 + 1 + 1 ≤ (grow (redrawn w2 dq) osq).heap.size := Nat.le_trans hz2 (below_regrown w2 dq osq).size
  revert hb3 hz3
  generalize grow (redrawn w2 dq) osq = w3
  intro hb3 hz3
  clear hb2 hz2
  have hc := boxes a b c x y z w w3 hb3
  have bR := cR_is b a
  have bR1 : -1 ≤ cR b a := by omega
  have bR2 : cR b a ≤ 1 := by omega
  have hn : (cR a b == -cR b a) = true := by rw [cR_neg a b]; simp
  have h0 : ((cR a b == 0) == eR a b) = true := by unfold eR; simp [Bool.beq_eq_decide_eq]
  have bO := cO_is y x
  have bO1 : -1 ≤ cO y x := by omega
  have bO2 : cO y x ≤ 1 := by omega
  have gn : (cO x y == -cO y x) = true := by rw [cO_neg x y]; simp
  have g0 : ((cO x y == 0) == eO x y) = true := by unfold eO; simp [Bool.beq_eq_decide_eq]
  clear bR bO
  have qR := eq_row a b
  have qO := eq_out x y
  have hR : 0 < cR a b ∨ (cR a b ≤ 0 ∧ 0 < cR b c) ∨ (cR a b ≤ 0 ∧ cR b c ≤ 0 ∧ cR a c ≤ 0) := by
    by_cases u1 : 0 < cR a b
    · exact .inl u1
    · by_cases u2 : 0 < cR b c
      · exact .inr (.inl ⟨by omega, u2⟩)
      · exact .inr (.inr ⟨by omega, by omega, cR_trans a b c (by omega) (by omega)⟩)
  have hO : 0 < cO x y ∨ (cO x y ≤ 0 ∧ 0 < cO y z) ∨ (cO x y ≤ 0 ∧ cO y z ≤ 0 ∧ cO x z ≤ 0) := by
    by_cases u1 : 0 < cO x y
    · exact .inl u1
    · by_cases u2 : 0 < cO y z
      · exact .inr (.inl ⟨by omega, u2⟩)
      · exact .inr (.inr ⟨by omega, by omega, cO_trans x y z (by omega) (by omega)⟩)
  rcases hR with u1 | ⟨u1, u2⟩ | ⟨u1, u2, u3⟩
  · rcases hO with y1 | ⟨y1, y2⟩ | ⟨y1, y2, y3⟩
    · go_wp2_with (first | (go_at_call 8; refine (compare_r b a _).mono ?_; rintro e w4 ⟨rfl, hb4⟩; (have hz4 := hb4.size); replace hb4 := hb3.trans (hb4.mono hz3); have hz5 : w.heap.size + 1 + 1 + 1 + 1 + 1 + 1 ≤ w4.heap.size := Nat.le_trans hz3 hz4; clear hc hz4; have hc := boxes a b c x y z w w4 hb4) | (go_at_call 12; refine (outs_r y x _).mono ?_; rintro e w5 ⟨rfl, hb5⟩; replace hb5 := hb4.trans (hb5.mono hz5); clear hc; have hc := boxes a b c x y z w w5 hb5))
      go_ret
      exact ⟨rfl, (below6 _ _ _ _ _ _ _).trans (hb5.mono (by omega))⟩
    · go_wp2_with (first | (go_at_call 8; refine (compare_r b a _).mono ?_; rintro e w4 ⟨rfl, hb4⟩; (have hz4 := hb4.size); replace hb4 := hb3.trans (hb4.mono hz3); have hz5 : w.heap.size + 1 + 1 + 1 + 1 + 1 + 1 ≤ w4.heap.size := Nat.le_trans hz3 hz4; clear hc hz4; have hc := boxes a b c x y z w w4 hb4) | (go_at_call 12; refine (outs_r y x _).mono ?_; rintro e w5 ⟨rfl, hb5⟩; replace hb5 := hb4.trans (hb5.mono hz5); clear hc; have hc := boxes a b c x y z w w5 hb5))
      go_ret
      exact ⟨rfl, (below6 _ _ _ _ _ _ _).trans (hb5.mono (by omega))⟩
    · go_wp2_with (first | (go_at_call 8; refine (compare_r b a _).mono ?_; rintro e w4 ⟨rfl, hb4⟩; (have hz4 := hb4.size); replace hb4 := hb3.trans (hb4.mono hz3); have hz5 : w.heap.size + 1 + 1 + 1 + 1 + 1 + 1 ≤ w4.heap.size := Nat.le_trans hz3 hz4; clear hc hz4; have hc := boxes a b c x y z w w4 hb4) | (go_at_call 12; refine (outs_r y x _).mono ?_; rintro e w5 ⟨rfl, hb5⟩; replace hb5 := hb4.trans (hb5.mono hz5); clear hc; have hc := boxes a b c x y z w w5 hb5))
      go_ret
      exact ⟨rfl, (below6 _ _ _ _ _ _ _).trans (hb5.mono (by omega))⟩
  · rcases hO with y1 | ⟨y1, y2⟩ | ⟨y1, y2, y3⟩
    · go_wp2_with (first | (go_at_call 8; refine (compare_r b a _).mono ?_; rintro e w4 ⟨rfl, hb4⟩; (have hz4 := hb4.size); replace hb4 := hb3.trans (hb4.mono hz3); have hz5 : w.heap.size + 1 + 1 + 1 + 1 + 1 + 1 ≤ w4.heap.size := Nat.le_trans hz3 hz4; clear hc hz4; have hc := boxes a b c x y z w w4 hb4) | (go_at_call 12; refine (outs_r y x _).mono ?_; rintro e w5 ⟨rfl, hb5⟩; replace hb5 := hb4.trans (hb5.mono hz5); clear hc; have hc := boxes a b c x y z w w5 hb5))
      go_ret
      exact ⟨rfl, (below6 _ _ _ _ _ _ _).trans (hb5.mono (by omega))⟩
    · go_wp2_with (first | (go_at_call 8; refine (compare_r b a _).mono ?_; rintro e w4 ⟨rfl, hb4⟩; (have hz4 := hb4.size); replace hb4 := hb3.trans (hb4.mono hz3); have hz5 : w.heap.size + 1 + 1 + 1 + 1 + 1 + 1 ≤ w4.heap.size := Nat.le_trans hz3 hz4; clear hc hz4; have hc := boxes a b c x y z w w4 hb4) | (go_at_call 12; refine (outs_r y x _).mono ?_; rintro e w5 ⟨rfl, hb5⟩; replace hb5 := hb4.trans (hb5.mono hz5); clear hc; have hc := boxes a b c x y z w w5 hb5))
      go_ret
      exact ⟨rfl, (below6 _ _ _ _ _ _ _).trans (hb5.mono (by omega))⟩
    · go_wp2_with (first | (go_at_call 8; refine (compare_r b a _).mono ?_; rintro e w4 ⟨rfl, hb4⟩; (have hz4 := hb4.size); replace hb4 := hb3.trans (hb4.mono hz3); have hz5 : w.heap.size + 1 + 1 + 1 + 1 + 1 + 1 ≤ w4.heap.size := Nat.le_trans hz3 hz4; clear hc hz4; have hc := boxes a b c x y z w w4 hb4) | (go_at_call 12; refine (outs_r y x _).mono ?_; rintro e w5 ⟨rfl, hb5⟩; replace hb5 := hb4.trans (hb5.mono hz5); clear hc; have hc := boxes a b c x y z w w5 hb5))
      go_ret
      exact ⟨rfl, (below6 _ _ _ _ _ _ _).trans (hb5.mono (by omega))⟩
  · rcases hO with y1 | ⟨y1, y2⟩ | ⟨y1, y2, y3⟩
    · go_wp2_with (first | (go_at_call 8; refine (compare_r b a _).mono ?_; rintro e w4 ⟨rfl, hb4⟩; (have hz4 := hb4.size); replace hb4 := hb3.trans (hb4.mono hz3); have hz5 : w.heap.size + 1 + 1 + 1 + 1 + 1 + 1 ≤ w4.heap.size := Nat.le_trans hz3 hz4; clear hc hz4; have hc := boxes a b c x y z w w4 hb4) | (go_at_call 12; refine (outs_r y x _).mono ?_; rintro e w5 ⟨rfl, hb5⟩; replace hb5 := hb4.trans (hb5.mono hz5); clear hc; have hc := boxes a b c x y z w w5 hb5))
      go_ret
      exact ⟨rfl, (below6 _ _ _ _ _ _ _).trans (hb5.mono (by omega))⟩
    · go_wp2_with (first | (go_at_call 8; refine (compare_r b a _).mono ?_; rintro e w4 ⟨rfl, hb4⟩; (have hz4 := hb4.size); replace hb4 := hb3.trans (hb4.mono hz3); have hz5 : w.heap.size + 1 + 1 + 1 + 1 + 1 + 1 ≤ w4.heap.size := Nat.le_trans hz3 hz4; clear hc hz4; have hc := boxes a b c x y z w w4 hb4) | (go_at_call 12; refine (outs_r y x _).mono ?_; rintro e w5 ⟨rfl, hb5⟩; replace hb5 := hb4.trans (hb5.mono hz5); clear hc; have hc := boxes a b c x y z w w5 hb5))
      go_ret
      exact ⟨rfl, (below6 _ _ _ _ _ _ _).trans (hb5.mono (by omega))⟩
    · go_wp2_with (first | (go_at_call 8; refine (compare_r b a _).mono ?_; rintro e w4 ⟨rfl, hb4⟩; (have hz4 := hb4.size); replace hb4 := hb3.trans (hb4.mono hz3); have hz5 : w.heap.size + 1 + 1 + 1 + 1 + 1 + 1 ≤ w4.heap.size := Nat.le_trans hz3 hz4; clear hc hz4; have hc := boxes a b c x y z w w4 hb4) | (go_at_call 12; refine (outs_r y x _).mono ?_; rintro e w5 ⟨rfl, hb5⟩; replace hb5 := hb4.trans (hb5.mono hz5); clear hc; have hc := boxes a b c x y z w w5 hb5))
      go_ret
      exact ⟨rfl, (below6 _ _ _ _ _ _ _).trans (hb5.mono (by omega))⟩

end Go.Proofs.Ytedojilgkdcaoaa
