/- What Meets answers of two rows: both may be, one key, and the distance of their times is between the plan's bounds. -/
import Derived.Test.YtedojilgkdcaoaaGood
import Derived.Deep.RegionWith
namespace Go.Proofs.Ytedojilgkdcaoaa
open Go.RowKit

theorem bcell {W w1 : World} (hb : Below W.heap.size W w1) : (∀ b o, b < W.heap.size → w1.cell? ⟨b, o, none⟩ = W.cell? ⟨b, o, none⟩) ∧ (∀ b o, b < W.heap.size → w1.frozen? ⟨b, o, none⟩ = W.frozen? ⟨b, o, none⟩) :=
  ⟨fun b o h => hb.cell (p := ⟨b, o, none⟩) h, fun b o h => hb.frozen (p := ⟨b, o, none⟩) h⟩

theorem goodI_bd {k t v : Int} (h : goodI k t v = true) : -1099511627776 ≤ t ∧ t ≤ 1099511627776 := by
  simp [goodI, inI] at h; omega

def meetsI (lo hi lk lt lv rk rt rv : Int) : Bool := goodI lk lt lv && (goodI rk rt rv && (decide (lk = rk) && inI lo hi (rt - lt)))

set_option maxHeartbeats 400000 in
theorem meets_any (lo hi md lk lt lv rk rt rv : Int) (w : World) :
    Calls Try.prog 16 #[.agg #[.int .i64 lo, .int .i64 hi, .int .i64 md], .agg #[.int .i64 lk, .int .i64 lt, .int .i64 lv], .agg #[.int .i64 rk, .int .i64 rt, .int .i64 rv]] w fun e w' => e = .returned (.bool (meetsI lo hi lk lt lv rk rt rv)) ∧ Below w.heap.size w w' := by
  cases h1 : goodI lk lt lv
  · go_enter Try.func16, Try.ntmps16
    go_wp2_with (go_at_call 6; refine (good_any _ _ _ _).mono ?_; rintro e w1 ⟨rfl, hb1⟩)
    go_ret
    exact ⟨ret_bool (by simp [meetsI, h1]), (Go.Joins.below_alloc3 _ _ _ _).trans (hb1.mono (by simp; omega))⟩
  · cases h2 : goodI rk rt rv
    · go_enter Try.func16, Try.ntmps16
      go_wp2_with (first | (go_at_call_of 6 lk; refine (good_any _ _ _ _).mono ?_; rintro e w1 ⟨rfl, hb1⟩; have hs1 := hb1.size; simp only [World.size_alloc] at hs1; obtain ⟨hc1, hf1⟩ := bcell hb1; have z0 : w.heap.size < w1.heap.size := (by omega); have z1 : w.heap.size + 1 < w1.heap.size := (by omega); have z2 : w.heap.size + 1 + 1 < w1.heap.size := (by omega)) | (go_at_call_of 6 rk; refine (good_any _ _ _ _).mono ?_; rintro e w2 ⟨rfl, hb2⟩; have hs2 := hb2.size; obtain ⟨hc2, hf2⟩ := bcell hb2; have y0 : w.heap.size < w2.heap.size := (by omega); have y1 : w.heap.size + 1 < w2.heap.size := (by omega); have y2 : w.heap.size + 1 + 1 < w2.heap.size := (by omega)))
      go_ret
      exact ⟨ret_bool (by simp [meetsI, h2]), (Go.Joins.below_alloc3 _ _ _ _).trans ((hb1.mono (by simp; omega)).trans (hb2.mono (by omega)))⟩
    · by_cases h3 : lk = rk
      · have hx : -9223372036854775808 ≤ rt - lt ∧ rt - lt ≤ 9223372036854775807 := by have := goodI_bd h1; have := goodI_bd h2; omega
        obtain ⟨hx1, hx2⟩ := hx
        have h3' : (lk != rk) = false := by simp [h3]
        have H3 : Hid (lk = rk) := h3
        clear h3
        go_enter Try.func16, Try.ntmps16
        go_wp2_with (first | (go_at_call_of 6 lk; refine (good_any _ _ _ _).mono ?_; rintro e w1 ⟨rfl, hb1⟩; have hs1 := hb1.size; simp only [World.size_alloc] at hs1; obtain ⟨hc1, hf1⟩ := bcell hb1; have z0 : w.heap.size < w1.heap.size := (by omega); have z1 : w.heap.size + 1 < w1.heap.size := (by omega); have z2 : w.heap.size + 1 + 1 < w1.heap.size := (by omega)) | (go_at_call_of 6 rk; refine (good_any _ _ _ _).mono ?_; rintro e w2 ⟨rfl, hb2⟩; have hs2 := hb2.size; obtain ⟨hc2, hf2⟩ := bcell hb2; have y0 : w.heap.size < w2.heap.size := (by omega); have y1 : w.heap.size + 1 < w2.heap.size := (by omega); have y2 : w.heap.size + 1 + 1 < w2.heap.size := (by omega)) | (go_at_call 18; refine (within_any _ _ _).mono ?_; rintro e w3 ⟨rfl, rfl⟩) | (go_at_call 27; refine (near_any _ lo hi _ _ _ ?_ ?_).mono ?_; (go_simp); (go_simp); rintro e w4 ⟨rfl, rfl⟩))
        go_ret
        exact ⟨ret_bool (by unfold meetsI; rw [h1, h2, decide_eq_true H3.out]; rfl), (Go.Joins.below_alloc3 _ _ _ _).trans ((hb1.mono (by simp; omega)).trans ((hb2.mono (by omega)).trans ((Go.Joins.below_alloc2 _ _ _).mono (by omega))))⟩
      · have h3' : (lk != rk) = true := by simp [h3]
        go_enter Try.func16, Try.ntmps16
        go_wp2_with (first | (go_at_call_of 6 lk; refine (good_any _ _ _ _).mono ?_; rintro e w1 ⟨rfl, hb1⟩; have hs1 := hb1.size; simp only [World.size_alloc] at hs1; obtain ⟨hc1, hf1⟩ := bcell hb1; have z0 : w.heap.size < w1.heap.size := (by omega); have z1 : w.heap.size + 1 < w1.heap.size := (by omega); have z2 : w.heap.size + 1 + 1 < w1.heap.size := (by omega)) | (go_at_call_of 6 rk; refine (good_any _ _ _ _).mono ?_; rintro e w2 ⟨rfl, hb2⟩; have hs2 := hb2.size; obtain ⟨hc2, hf2⟩ := bcell hb2; have y0 : w.heap.size < w2.heap.size := (by omega); have y1 : w.heap.size + 1 < w2.heap.size := (by omega); have y2 : w.heap.size + 1 + 1 < w2.heap.size := (by omega)))
        go_ret
        exact ⟨ret_bool (by simp [meetsI, h3]), (Go.Joins.below_alloc3 _ _ _ _).trans ((hb1.mono (by simp; omega)).trans (hb2.mono (by omega)))⟩

end Go.Proofs.Ytedojilgkdcaoaa
