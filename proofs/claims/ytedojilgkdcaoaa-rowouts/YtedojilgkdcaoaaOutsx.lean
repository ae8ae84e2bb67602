/- The walk of RowOuts. -/
import Derived.Test.YtedojilgkdcaoaaOutsg
namespace Go.Proofs.Ytedojilgkdcaoaa
open Go.RowKit Go.Sort

set_option maxHeartbeats 4000000 in
theorem rowOuts_any (a b : O) (p l r : R) (s : Int) (w : World) :
    Calls Try.prog 4 #[.agg #[.int .i64 a.k, .int .i64 a.lk, .int .i64 a.lt, .int .i64 a.lv, .int .i64 a.rk, .int .i64 a.rt, .int .i64 a.rv, .bool a.hl, .bool a.hr], .agg #[.int .i64 b.k, .int .i64 b.lk, .int .i64 b.lt, .int .i64 b.lv, .int .i64 b.rk, .int .i64 b.rt, .int .i64 b.rv, .bool b.hl, .bool b.hr], .agg #[.int .i64 p.k, .int .i64 p.t, .int .i64 p.v], .agg #[.int .i64 l.k, .int .i64 l.t, .int .i64 l.v], .agg #[.int .i64 r.k, .int .i64 r.t, .int .i64 r.v], .int .i64 s] w fun e w' => e = .returned (.bool true) ∧ Below w.heap.size w w' := by
  have qN := neq_lone s l.k l.t l.v
  go_enter Try.func4, Try.ntmps4
  go_wp2
  have HB : Hid (∀ w1, Below (w.heap.size + 1 + 1 + 1 + 1 + 1) (((((w.alloc (.cells #[.int .i64 a.k, .int .i64 a.lk, .int .i64 a.lt, .int .i64 a.lv, .int .i64 a.rk, .int .i64 a.rt, .int .i64 a.rv, .bool a.hl, .bool a.hr] 27)).alloc (.cells #[.int .i64 b.k, .int .i64 b.lk, .int .i64 b.lt, .int .i64 b.lv, .int .i64 b.rk, .int .i64 b.rt, .int .i64 b.rv, .bool b.hl, .bool b.hr] 27)).alloc (.cells #[.int .i64 p.k, .int .i64 p.t, .int .i64 p.v] 31)).alloc (.cells #[.int .i64 l.k, .int .i64 l.t, .int .i64 l.v] 23)).alloc (.cells #[.int .i64 r.k, .int .i64 r.t, .int .i64 r.v] 23)) w1 → (w1.cell? ⟨w.heap.size, 0, none⟩ = some (.int .i64 a.k) ∧ w1.cell? ⟨w.heap.size, 1, none⟩ = some (.int .i64 a.lk) ∧ w1.cell? ⟨w.heap.size, 2, none⟩ = some (.int .i64 a.lt) ∧ w1.cell? ⟨w.heap.size, 3, none⟩ = some (.int .i64 a.lv) ∧ w1.cell? ⟨w.heap.size, 4, none⟩ = some (.int .i64 a.rk) ∧ w1.cell? ⟨w.heap.size, 5, none⟩ = some (.int .i64 a.rt) ∧ w1.cell? ⟨w.heap.size, 6, none⟩ = some (.int .i64 a.rv) ∧ w1.cell? ⟨w.heap.size, 7, none⟩ = some (.bool a.hl) ∧ w1.cell? ⟨w.heap.size, 8, none⟩ = some (.bool a.hr) ∧ w1.cell? ⟨w.heap.size + 1, 0, none⟩ = some (.int .i64 b.k) ∧ w1.cell? ⟨w.heap.size + 1, 1, none⟩ = some (.int .i64 b.lk) ∧ w1.cell? ⟨w.heap.size + 1, 2, none⟩ = some (.int .i64 b.lt) ∧ w1.cell? ⟨w.heap.size + 1, 3, none⟩ = some (.int .i64 b.lv) ∧ w1.cell? ⟨w.heap.size + 1, 4, none⟩ = some (.int .i64 b.rk) ∧ w1.cell? ⟨w.heap.size + 1, 5, none⟩ = some (.int .i64 b.rt) ∧ w1.cell? ⟨w.heap.size + 1, 6, none⟩ = some (.int .i64 b.rv) ∧ w1.cell? ⟨w.heap.size + 1, 7, none⟩ = some (.bool b.hl) ∧ w1.cell? ⟨w.heap.size + 1, 8, none⟩ = some (.bool b.hr) ∧ w1.cell? ⟨w.heap.size + 1 + 1, 0, none⟩ = some (.int .i64 p.k) ∧ w1.cell? ⟨w.heap.size + 1 + 1, 1, none⟩ = some (.int .i64 p.t) ∧ w1.cell? ⟨w.heap.size + 1 + 1, 2, none⟩ = some (.int .i64 p.v) ∧ w1.cell? ⟨w.heap.size + 1 + 1 + 1, 0, none⟩ = some (.int .i64 l.k) ∧ w1.cell? ⟨w.heap.size + 1 + 1 + 1, 1, none⟩ = some (.int .i64 l.t) ∧ w1.cell? ⟨w.heap.size + 1 + 1 + 1, 2, none⟩ = some (.int .i64 l.v) ∧ w1.cell? ⟨w.heap.size + 1 + 1 + 1 + 1, 0, none⟩ = some (.int .i64 r.k) ∧ w1.cell? ⟨w.heap.size + 1 + 1 + 1 + 1, 1, none⟩ = some (.int .i64 r.t) ∧ w1.cell? ⟨w.heap.size + 1 + 1 + 1 + 1, 2, none⟩ = some (.int .i64 r.v)) ∧ Below w.heap.size w w1) := fun w1 h => ⟨boxes5 a b p l r w w1 h, (below5 _ _ _ _ _ _).trans (h.mono (by omega))⟩
  have hz0 : w.heap.size + 1 + 1 + 1 + 1 + 1 ≤ ((((((w.alloc (.cells #[.int .i64 a.k, .int .i64 a.lk, .int .i64 a.lt, .int .i64 a.lv, .int .i64 a.rk, .int .i64 a.rt, .int .i64 a.rv, .bool a.hl, .bool a.hr] 27)).alloc (.cells #[.int .i64 b.k, .int .i64 b.lk, .int .i64 b.lt, .int .i64 b.lv, .int .i64 b.rk, .int .i64 b.rt, .int .i64 b.rv, .bool b.hl, .bool b.hr] 27)).alloc (.cells #[.int .i64 p.k, .int .i64 p.t, .int .i64 p.v] 31)).alloc (.cells #[.int .i64 l.k, .int .i64 l.t, .int .i64 l.v] 23)).alloc (.cells #[.int .i64 r.k, .int .i64 r.t, .int .i64 r.v] 23))).heap.size := by simp
  revert HB hz0
  generalize (((((w.alloc (.cells #[.int .i64 a.k, .int .i64 a.lk, .int .i64 a.lt, .int .i64 a.lv, .int .i64 a.rk, .int .i64 a.rt, .int .i64 a.rv, .bool a.hl, .bool a.hr] 27)).alloc (.cells #[.int .i64 b.k, .int .i64 b.lk, .int .i64 b.lt, .int .i64 b.lv, .int .i64 b.rk, .int .i64 b.rt, .int .i64 b.rv, .bool b.hl, .bool b.hr] 27)).alloc (.cells #[.int .i64 p.k, .int .i64 p.t, .int .i64 p.v] 31)).alloc (.cells #[.int .i64 l.k, .int .i64 l.t, .int .i64 l.v] 23)).alloc (.cells #[.int .i64 r.k, .int .i64 r.t, .int .i64 r.v] 23)) = w0
  intro HB hz0
  have hk := fun d os => (HB.out (grow (redrawn w0 d) os) ((below_regrown w0 d os).mono hz0)).1
  refine wp_region_quiet_below (by kernel_rfl) (by kernel_rfl) ?_
  repeat (quiet_step (first | (go_at_call 12; exact Calls.regrown_of (outs_r a b _)) | (go_at_call 13; exact Calls.regrown_of (refOuts_any a b _)) | (go_at_call 14; exact Calls.regrown_of (lone_r s l _)) | (go_at_call 15; exact Calls.regrown_of (refLone_r s l _))))
  refine wpQuiet_nil ?_
  intro _ hw'
  obtain ⟨⟨dq, osq⟩, hw''⟩ := hw'
  subst hw''
  clear hk
  have hb1 := (below_regrown w0 dq osq).mono hz0
  revert hb1
  generalize grow (redrawn w0 dq) osq = w1
  intro hb1
  have hc := (HB.out w1 hb1).1
  have hz1 := Nat.le_trans hz0 hb1.size
  clear qN
  cases h1 : goodI l.k l.t l.v
  · go_wp2_with (go_at_call 7; refine (good_r l _).mono ?_; rintro e w2 ⟨rfl, hb2⟩)
    go_ret
    exact ⟨rfl, (HB.out w2 (hb1.trans (hb2.mono hz1))).2⟩
  · cases h2 : goodI r.k r.t r.v
    · go_wp2_with (first | (go_at_call_of 7 l.k; refine (good_r l _).mono ?_; rintro e w2 ⟨rfl, hb2⟩; replace hb2 := hb1.trans (hb2.mono hz1); clear hc; have hc := (HB.out w2 hb2).1; have hz2 := Nat.le_trans hz0 hb2.size) | (go_at_call 7; refine (good_r r _).mono ?_; rintro e w3 ⟨rfl, hb3⟩; replace hb3 := hb2.trans (hb3.mono hz2); clear hc))
      go_ret
      exact ⟨rfl, (HB.out w3 hb3).2⟩
    · obtain ⟨d1, d2⟩ := goodI_bd h1
      obtain ⟨d3, d4⟩ := goodI_bd h2
      go_wp2_with (first | (go_at_call_of 7 l.k; refine (good_r l _).mono ?_; rintro e w2 ⟨rfl, hb2⟩; replace hb2 := hb1.trans (hb2.mono hz1); clear hc; have hc := (HB.out w2 hb2).1; have hz2 := Nat.le_trans hz0 hb2.size) | (go_at_call 7; refine (good_r r _).mono ?_; rintro e w3 ⟨rfl, hb3⟩; replace hb3 := hb2.trans (hb3.mono hz2); clear hc; have hc := (HB.out w3 hb3).1; have hz3 := Nat.le_trans hz0 hb3.size))
      clear hc
      have hk := fun d os => (HB.out (grow (redrawn w3 d) os) (hb3.trans ((below_regrown w3 d os).mono hz3))).1
      by_cases u1 : l.k = r.k
      · have g1 : (l.k == r.k) = true := by simp [u1]
        have U1 : Hid (l.k = r.k) := u1
        clear u1
        by_cases u2 : p.k ≤ r.t - l.t
        · by_cases u3 : r.t - l.t ≤ p.t
          · have hm : meetsI p.k p.t l.k l.t l.v r.k r.t r.v = true := by unfold meetsI; rw [h1, h2, decide_eq_true U1.out]; simp [inI, u2, u3]
            have HM : Hid (meetsI p.k p.t l.k l.t l.v r.k r.t r.v = true) := hm
            clear hm h1 h2
            refine wp_region_quiet_below (by kernel_rfl) (by kernel_rfl) ?_
            repeat (quiet_step ((go_at_call 16; exact Calls.regrown_of (meets_r p l r true HM.out _))))
            refine wpQuiet_nil ?_
            intro _ hw'
            obtain ⟨⟨dq, osq⟩, hw''⟩ := hw'
            subst hw''
            clear hk
            go_wp2
            go_ret
            exact ⟨rfl, (HB.out _ (hb3.trans ((below_regrown w3 dq osq).mono hz3))).2⟩
          · have g3 : decide (r.t - l.t ≤ p.t) = false := decide_eq_false u3
            have hm : meetsI p.k p.t l.k l.t l.v r.k r.t r.v = false := by unfold meetsI; rw [h1, h2, decide_eq_true U1.out]; simp [inI]; omega
            have HM : Hid (meetsI p.k p.t l.k l.t l.v r.k r.t r.v = false) := hm
            clear hm h1 h2
            refine wp_region_quiet_below (by kernel_rfl) (by kernel_rfl) ?_
            repeat (quiet_step ((go_at_call 16; exact Calls.regrown_of (meets_r p l r false HM.out _))))
            refine wpQuiet_nil ?_
            intro _ hw'
            obtain ⟨⟨dq, osq⟩, hw''⟩ := hw'
            subst hw''
            clear hk
            go_wp2
            go_ret
            exact ⟨rfl, (HB.out _ (hb3.trans ((below_regrown w3 dq osq).mono hz3))).2⟩
        · have g2 : decide (p.k ≤ r.t - l.t) = false := decide_eq_false u2
          have hm : meetsI p.k p.t l.k l.t l.v r.k r.t r.v = false := by unfold meetsI; rw [h1, h2, decide_eq_true U1.out]; simp [inI]; omega
          have HM : Hid (meetsI p.k p.t l.k l.t l.v r.k r.t r.v = false) := hm
          clear hm h1 h2
          refine wp_region_quiet_below (by kernel_rfl) (by kernel_rfl) ?_
          repeat (quiet_step ((go_at_call 16; exact Calls.regrown_of (meets_r p l r false HM.out _))))
          refine wpQuiet_nil ?_
          intro _ hw'
          obtain ⟨⟨dq, osq⟩, hw''⟩ := hw'
          subst hw''
          clear hk
          go_wp2
          go_ret
          exact ⟨rfl, (HB.out _ (hb3.trans ((below_regrown w3 dq osq).mono hz3))).2⟩
      · have g1 : (l.k == r.k) = false := by simp [u1]
        have hm : meetsI p.k p.t l.k l.t l.v r.k r.t r.v = false := by unfold meetsI; rw [h1, h2]; simp [u1]
        have HM : Hid (meetsI p.k p.t l.k l.t l.v r.k r.t r.v = false) := hm
        clear hm h1 h2
        refine wp_region_quiet_below (by kernel_rfl) (by kernel_rfl) ?_
        repeat (quiet_step ((go_at_call 16; exact Calls.regrown_of (meets_r p l r false HM.out _))))
        refine wpQuiet_nil ?_
        intro _ hw'
        obtain ⟨⟨dq, osq⟩, hw''⟩ := hw'
        subst hw''
        clear hk
        go_wp2
        go_ret
        exact ⟨rfl, (HB.out _ (hb3.trans ((below_regrown w3 dq osq).mono hz3))).2⟩

end Go.Proofs.Ytedojilgkdcaoaa
