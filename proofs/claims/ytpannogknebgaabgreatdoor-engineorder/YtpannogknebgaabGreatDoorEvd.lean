/- Behind each step a tale is as it should be: whatever the step. -/
import Derived.Test.YtpannogknebgaabGreatDoorEvc
namespace Go.Proofs.YtpannogknebgaabGreatDoor
open Go.RowKit Go.Sort
set_option maxRecDepth 100000

theorem view_wf {lo hi mode : Int} {A B : List Rw} (hA : ∀ r ∈ A, r.small) (hB : ∀ r ∈ B, r.small) : ∀ o ∈ viewOf lo hi mode A B, o.wf := by
  intro o ho
  unfold viewOf allOf at ho
  rw [List.mem_append, List.mem_append] at ho
  rcases ho with ho | ho | ho
  · rw [List.mem_flatMap] at ho
    obtain ⟨a, ha, ho⟩ := ho
    rw [List.mem_map] at ho
    obtain ⟨b, hb, rfl⟩ := ho
    exact pairRw_wf (hA a ha) (hB b (List.mem_filter.1 hb).1)
  · split at ho
    · rw [List.mem_map] at ho
      obtain ⟨a, ha, rfl⟩ := ho
      exact leftRw_wf (hA a (List.mem_filter.1 ha).1)
    · cases ho
  · split at ho
    · rw [List.mem_map] at ho
      obtain ⟨a, ha, rfl⟩ := ho
      exact rightRw_wf (hB a (List.mem_filter.1 ha).1)
    · cases ho

/-- The engine is saved, and loaded. -/
theorem saved_again {EngAt : Nat → J → List O → (Nat → Prop) → World → Prop} (E : EngSays EngAt) (Es : EngSaves EngAt) {w0 : World} {bt : Nat} {lo hi mode : Int} {n : Nat} {w : World} {be bf nF : Nat} {a0 a1 : Int} {va vb : Value} {A B : List Rw} {F L : List O} {x : J} {S : Nat → Prop} (h : Full EngAt w0 bt lo hi mode n w be bf nF a0 a1 va vb A B F L x S) (hn : n ≤ 100) (xs xn xk xt xv : Int) :
    Calls Tryz.prog 9 #[.pointer (some ⟨bt, 0, none⟩), .agg #[.int .i64 2, .int .i64 xs, .int .i64 xn, .int .i64 xk, .int .i64 xt, .int .i64 xv]] w fun e w' => e = .returned (.bool true) ∧ Tale EngAt w0 bt lo hi mode (n + 1) w' := by
  obtain ⟨hT, hE, hS, hH, hL, hFv, ⟨rfl, rfl, rfl⟩, hok, hJ, hlate, hmk, hlen, hnF, hsa, hsb, hbt, hbf, hlow⟩ := h
  have hws := hlow.size
  have hfo := E.foot _ _ _ _ _ hE
  have hLl : L.length ≤ 1000000 := by rw [hL.length_eq]; exact Nat.le_trans (view_small _ _ _ A B n hn hlen) (by omega)
  obtain ⟨Eng, txt, hEst, hE2, _, hsv | ⟨hsv, hld⟩⟩ := Es.saved be x L S w hE hJ (fun o ho => view_wf hsa hsb o (hL.subset ho)) hLl
  · refine (does2_limit Eng S txt w0.heap.size bt be bf nF _ _ _ a0 a1 va vb A B F xs xn xk xt xv w (fun W => E.tell 4 W (Or.inl rfl)) hT hEst hE2 hfo (fun W hW _ => hsv S W hW)).mono ?_
    rintro e w' ⟨rfl, hb⟩
    exact ⟨rfl, be, bf, nF, a0, a1, va, vb, A, B, F, L, x, S, hT.below hb, E.steady _ _ _ S w w' hE hb.size (fun k hk => hb.block k (hfo k hk)), hS, hH, hL, hFv, ⟨rfl, rfl, rfl⟩, hok, hJ, by omega, by omega, by omega, by omega, hsa, hsb, hbt, hbf, hlow.trans (hb.mono hws)⟩
  · refine (does2_ok Eng (fun be' S' W => ∃ L' : List O, L'.Perm L ∧ EngAt be' x L' S' W) S txt w0.heap.size bt be bf nF _ _ _ a0 a1 va vb A B F xs xn xk xt xv w hT hEst ?_ hE2 hfo (fun W hW _ => hsv S W hW) hld).mono ?_
    · rintro b S' W W' ⟨L', hp, he⟩ hsz hk
      exact ⟨L', hp, E.steady _ _ _ S' W W' he hsz hk⟩
    · rintro e w' ⟨rfl, be', S', h1, ⟨L', hp, he⟩, h3, h4⟩
      have a1 := hT.lt
      have a2 := hT.ltf
      refine ⟨rfl, be', bf, nF, _, _, va, vb, A, B, F, L', x, S', h1, he, fun k hk => ?_, hH, hp.trans hL, hFv, ⟨rfl, rfl, rfl⟩, hok, hJ, by omega, by omega, by omega, by omega, hsa, hsb, hbt, hbf, hlow.trans (h4.below hws (fun k hk => by omega))⟩
      have := (h3 k hk).1
      exact ⟨by omega, by omega, by omega, fun e => by have := (hT.r0.lt k e).2; omega, fun e => by have := (hT.r1.lt k e).2; omega⟩

/-- Whatever the step. -/
theorem step_any {EngAt : Nat → J → List O → (Nat → Prop) → World → Prop} (E : EngSays EngAt) (Es : EngSaves EngAt) {w0 : World} {bt : Nat} {lo hi mode : Int} {n : Nat} {w : World} (h : Tale EngAt w0 bt lo hi mode n w) (hn : n ≤ 100) (wh xs xn xk xt xv : Int) :
    Calls Tryz.prog 9 #[.pointer (some ⟨bt, 0, none⟩), .agg #[.int .i64 wh, .int .i64 xs, .int .i64 xn, .int .i64 xk, .int .i64 xt, .int .i64 xv]] w fun e w' => e = .returned (.bool true) ∧ Tale EngAt w0 bt lo hi mode (n + 1) w' := by
  obtain ⟨be, bf, nF, a0, a1, va, vb, A, B, F, L, x, S, h⟩ := h
  have hp := (pickN_lt xs 2 (by omega)).1
  have hp2 : pickN xs 2 = 0 ∨ pickN xs 2 = 1 := by omega
  by_cases h0 : wh = 0
  · subst h0
    rcases hp2 with hp2 | hp2
    · exact row0 E h hn xs xn xk xt xv hp2
    · exact row1 E h hn xs xn xk xt xv hp2
  · by_cases h1 : wh = 1
    · subst h1
      rcases hp2 with hp2 | hp2
      · exact mark0 E h hn xs xn xk xt xv hp2
      · exact mark1 E h hn xs xn xk xt xv hp2
    · by_cases h2 : wh = 2
      · subst h2
        exact saved_again E Es h hn xs xn xk xt xv
      · have hws := h.low.size
        have hfo := E.foot _ _ _ _ _ h.eng
        have hl := h.late
        have hm := h.marks
        have hle := h.len
        have hnf := h.nf
        refine (does_none w0.heap.size bt be bf nF _ _ _ a0 a1 va vb A B F wh xs xn xk xt xv w h0 h1 h2 h.tale).mono ?_
        rintro e w' ⟨rfl, hb⟩
        exact ⟨rfl, be, bf, nF, a0, a1, va, vb, A, B, F, L, x, S, h.tale.below hb, E.steady _ _ _ S w w' h.eng hb.size (fun k hk => hb.block k (hfo k hk)), h.foot, h.holds, h.lv, h.fv, h.plan, h.ok, h.jok, by omega, by omega, by omega, by omega, h.sa, h.sb, h.bt0, h.bf0, h.low.trans (hb.mono hws)⟩

/-- A new tale. -/
theorem tale_begins {EngAt : Nat → J → List O → (Nat → Prop) → World → Prop} (E : EngFeeds EngAt) (low high md : Int) (w : World) :
    Calls Tryz.prog 8 #[.int .i64 low, .int .i64 high, .int .i64 md] w fun e w' => ∃ bt, e = .returned (.pointer (some ⟨bt, 0, none⟩)) ∧ Tale EngAt w bt (loOf low) (hiOf low high) (modeOf md) 0 w' := by
  have hok := plan_ok low high md
  refine (tale_new (fun be lo hi mode S W => EngAt be ⟨lo, hi, mode, -1099511627777, -1099511627777, 0, [], []⟩ [] S W) low high md w (fun be lo hi mode => E.steady _ _ _) (fun lo hi mode W h => E.new lo hi mode W h)).mono ?_
  rintro e w' ⟨bt, be, bf, S, rfl, h1, h2, h3, h4, h5, h6⟩
  have hH : Holds ⟨loOf low, hiOf low high, modeOf md, -1099511627777, -1099511627777, 0, [], []⟩ [] [] := Holds.new _ _ _ _ _ _
  refine ⟨bt, rfl, be, bf, 0, -300, -300, .slice none 0 0, .slice none 0 0, [], [], [], [], _, S, h1, h2, fun k hk => ⟨(h3 k hk).1, (h3 k hk).2.2.1, (h3 k hk).2.2.2, by simp [Value.ownBlock], by simp [Value.ownBlock]⟩, hH, ?_, ?_, ⟨rfl, rfl, rfl⟩, hok, ?_, ?_, ?_, ?_, ?_, ?_, ?_, h4, h5, h6⟩
  · unfold viewOf allOf; simp
  · unfold viewOf allOf; simp
  · exact jok_of hH hok (by simp) (by simp) (by simp) (by simp) (by simp)
  · simp
  · simp
  · simp
  · simp
  · simp
  · simp

end Go.Proofs.YtpannogknebgaabGreatDoor
