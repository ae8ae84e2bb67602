/- Behind each step a tale is as it should be: whatever the step. -/
import Derived.Test.YtmmbjbgimpgcfaaGreatDoorEvc
namespace Go.Proofs.YtmmbjbgimpgcfaaGreatDoor
open Go.RowKit Go.Sort
set_option maxRecDepth 100000

theorem view_wf {lo hi mode : Int} {A B : List Rw} (hA : ∀ r ∈ A, r.small) (hB : ∀ r ∈ B, r.small) : ∀ o ∈ viewOf lo hi mode A B, o.wf := by
  intro o ho
  unfold viewOf allOf at ho
  rw [List.mem_append, List.mem_append] at ho
  rcases ho with ho | ho | ho
  · rw [List.mem_flatMap] at ho
    obtain ⟨a, ha, ho⟩ := ho
    rw [List.mem_map] at ho
    obtain ⟨b, hb, rfl⟩ := ho
    exact pairRw_wf (hA a ha) (hB b (List.mem_filter.1 hb).1)
  · split at ho
    · rw [List.mem_map] at ho
      obtain ⟨a, ha, rfl⟩ := ho
      exact leftRw_wf (hA a (List.mem_filter.1 ha).1)
    · cases ho
  · split at ho
    · rw [List.mem_map] at ho
      obtain ⟨a, ha, rfl⟩ := ho
      exact rightRw_wf (hB a (List.mem_filter.1 ha).1)
    · cases ho

set_option maxHeartbeats 4000000 in
theorem does2_okB (Eng : (Nat → Prop) → World → Prop) (Eng' : Nat → (Nat → Prop) → World → Prop) (S : Nat → Prop) (txt : ByteArray) (base bt be bf nF : Nat) (lo hi mode a0 a1 : Int) (va vb : Value) (A B : List Rw) (F : List O) (xs xn xk xt xv : Int) (w : World)
    (hT : TaleAt w base bt (.pointer (some ⟨be, 0, none⟩)) lo hi mode a0 a1 va vb bf nF A B F)
    (hst : Steady Eng) (hst' : ∀ b, Steady (Eng' b)) (hE : Eng S w) (hS : ∀ k, S k → k < w.heap.size)
    (hSv : ∀ W, Eng S W → Below w.heap.size w W → Calls Tryz.prog 21 #[.pointer (some ⟨be, 0, none⟩)] W fun e w' => e = .returned (.tuple #[.string txt, .nilIface]) ∧ Below W.heap.size W w')
    (hLd : ∀ W, Below w.heap.size w W → Calls Tryz.prog 29 #[.string txt] W fun e w' => ∃ be' S', e = .returned (.tuple #[.pointer (some ⟨be', 0, none⟩), .nilIface]) ∧ Eng' be' S' w' ∧ (∀ k, S' k → W.heap.size ≤ k ∧ k < w'.heap.size) ∧ Below W.heap.size W w') :
    Calls Tryz.prog 9 #[.pointer (some ⟨bt, 0, none⟩), .agg #[.int .i64 2, .int .i64 xs, .int .i64 xn, .int .i64 xk, .int .i64 xt, .int .i64 xv]] w fun e w' => e = .returned (.bool true) ∧ ∃ be' S', TaleAt w' base bt (.pointer (some ⟨be', 0, none⟩)) lo hi mode a0 a1 va vb bf nF A B F ∧ Eng' be' S' w' ∧
      (∀ k, S' k → w.heap.size ≤ k ∧ k < w'.heap.size) ∧ Turned (fun k => k = bt) w w' := by
  have p2 := pickN_lt xs 2 (by omega)
  have K : Hid ((IntKind.u64.wrap xs).tmod 2 = ((pickN xs 2 : Nat) : Int)) := p2.2.symm
  have hbl : Below w.heap.size w (w.alloc (stepB 2 xs xn xk xt xv)) := Go.Joins.below_alloc1 _ _
  have HT : Hid (TaleAt w base bt (.pointer (some ⟨be, 0, none⟩)) lo hi mode a0 a1 va vb bf nF A B F) := hT
  have HSv : Hid (Calls Tryz.prog 21 #[.pointer (some ⟨be, 0, none⟩)] (w.alloc (stepB 2 xs xn xk xt xv)) fun e w' => e = .returned (.tuple #[.string txt, .nilIface]) ∧ Below w.heap.size w w') :=
    (hSv _ (hst S w _ hE hbl.size (fun k hk => hbl.block k (hS k hk))) hbl).mono (by rintro e w' ⟨rfl, hb⟩; exact ⟨rfl, hbl.trans (hb.mono hbl.size)⟩)
  have HLd : Hid (∀ W, Below w.heap.size w W → Calls Tryz.prog 29 #[.string txt] W fun e w' => ∃ be', e = .returned (.tuple #[.pointer (some ⟨be', 0, none⟩), .nilIface]) ∧ (w'.cell? ⟨bt, 0, none⟩ = some (.pointer (some ⟨be, 0, none⟩)) ∧ w'.frozen? ⟨bt, 0, none⟩ = false) ∧ Hid (∃ S', TaleAt (w'.setCell ⟨bt, 0, none⟩ (.pointer (some ⟨be', 0, none⟩))) base bt (.pointer (some ⟨be', 0, none⟩)) lo hi mode a0 a1 va vb bf nF A B F ∧ Eng' be' S' (w'.setCell ⟨bt, 0, none⟩ (.pointer (some ⟨be', 0, none⟩))) ∧
      (∀ k, S' k → w.heap.size ≤ k ∧ k < (w'.setCell ⟨bt, 0, none⟩ (.pointer (some ⟨be', 0, none⟩))).heap.size) ∧ Turned (fun k => k = bt) w (w'.setCell ⟨bt, 0, none⟩ (.pointer (some ⟨be', 0, none⟩))))) := by
    intro W hW
    refine (hLd W hW).mono ?_
    rintro e w2 ⟨be', S', rfl, h1, h2, h3⟩
    have hb2 : Below w.heap.size w w2 := hW.trans (h3.mono hW.size)
    have hT2 := hT.below hb2
    have hlt := hT.lt
    have hws := hW.size
    refine ⟨be', rfl, ⟨by rw [Go.Joins.cell_of_block hT2.blk]; rfl, Go.Joins.unfrozen_of_block hT2.blk _⟩, S', hT2.other _, hst' be' S' w2 _ h1 (by simp) (fun k hk => Below.heap_setCell _ _ _ _ (by have := (h2 k hk).1; show k ≠ bt; omega)), fun k hk => ⟨by have := (h2 k hk).1; omega, by simp; exact (h2 k hk).2⟩, ?_⟩
    exact (Turned.of_below (S := fun k => k = bt) hb2).trans (turned_cell (b := bt)) (fun k _ e => e)
  have hce : (w.alloc (stepB 2 xs xn xk xt xv)).cell? ⟨bt, 0, none⟩ = some (.pointer (some ⟨be, 0, none⟩)) := by rw [Go.Joins.cell_of_block (hT.below hbl).blk]; rfl
  have hlt := hT.lt
  clear hT hSv hLd hS hst hst' hE hbl p2
  go_enter Tryz.func9, Tryz.ntmps9
  go_wp2_with (first
    | (go_at_call 13; refine (pick_int _ _ _ (by omega) (by omega)).mono ?_; rintro e w' ⟨rfl, rfl⟩; rw [K.out])
    | (go_at_call 21; refine (HSv.out).mono ?_; rintro e w1 ⟨rfl, hb1⟩; have HB1 : Hid (Below w.heap.size w w1) := hb1; clear hb1)
    | (go_at_call 29; refine (HLd.out _ HB1.out).mono ?_; rintro e w2 ⟨be', rfl, hc2, h2⟩)
    | fail)
  go_ret
  exact ⟨rfl, be', h2.out⟩

set_option maxHeartbeats 4000000 in
theorem does2_limitB (Eng : (Nat → Prop) → World → Prop) (S : Nat → Prop) (txt : ByteArray) (base bt be bf nF : Nat) (lo hi mode a0 a1 : Int) (va vb : Value) (A B : List Rw) (F : List O) (xs xn xk xt xv : Int) (w : World)
    (hTl : ∀ W, W.heap[0]? = w.heap[0]? → Calls Tryz.prog 22 #[.iface 70 (.int .i64 4)] W fun e w' => e = .returned (.int .i64 4) ∧ Below W.heap.size W w')
    (hT : TaleAt w base bt (.pointer (some ⟨be, 0, none⟩)) lo hi mode a0 a1 va vb bf nF A B F)
    (hst : Steady Eng) (hE : Eng S w) (hS : ∀ k, S k → k < w.heap.size)
    (hSv : ∀ W, Eng S W → Below w.heap.size w W → Calls Tryz.prog 21 #[.pointer (some ⟨be, 0, none⟩)] W fun e w' => e = .returned (.tuple #[.string txt, .iface 70 (.int .i64 4)]) ∧ Below W.heap.size W w') :
    Calls Tryz.prog 9 #[.pointer (some ⟨bt, 0, none⟩), .agg #[.int .i64 2, .int .i64 xs, .int .i64 xn, .int .i64 xk, .int .i64 xt, .int .i64 xv]] w fun e w' => e = .returned (.bool true) ∧ Below w.heap.size w w' := by
  have p2 := pickN_lt xs 2 (by omega)
  have K : Hid ((IntKind.u64.wrap xs).tmod 2 = ((pickN xs 2 : Nat) : Int)) := p2.2.symm
  have hbl : Below w.heap.size w (w.alloc (stepB 2 xs xn xk xt xv)) := Go.Joins.below_alloc1 _ _
  have HSv : Hid (Calls Tryz.prog 21 #[.pointer (some ⟨be, 0, none⟩)] (w.alloc (stepB 2 xs xn xk xt xv)) fun e w' => e = .returned (.tuple #[.string txt, .iface 70 (.int .i64 4)]) ∧ Below w.heap.size w w') :=
    (hSv _ (hst S w _ hE hbl.size (fun k hk => hbl.block k (hS k hk))) hbl).mono (by rintro e w' ⟨rfl, hb⟩; exact ⟨rfl, hbl.trans (hb.mono hbl.size)⟩)
  have hce : (w.alloc (stepB 2 xs xn xk xt xv)).cell? ⟨bt, 0, none⟩ = some (.pointer (some ⟨be, 0, none⟩)) := by rw [Go.Joins.cell_of_block (hT.below hbl).blk]; rfl
  have hlt := hT.lt
  have hq := ne_err55 4
  clear hT hSv hS hst hE hbl p2
  go_enter Tryz.func9, Tryz.ntmps9
  go_wp2_with (first
    | (go_at_call 13; refine (pick_int _ _ _ (by omega) (by omega)).mono ?_; rintro e w' ⟨rfl, rfl⟩; rw [K.out])
    | (go_at_call 21; refine (HSv.out).mono ?_; rintro e w1 ⟨rfl, hb1⟩; have HB1 : Hid (Below w.heap.size w w1) := hb1; clear hb1)
    | (go_at_call 22; refine (hTl _ (HB1.out.block 0 (Nat.lt_of_le_of_lt (Nat.zero_le _) hlt))).mono ?_; rintro e w2 ⟨rfl, hb2⟩; have HB2 : Hid (Below w.heap.size w w2) := HB1.out.trans (hb2.mono HB1.out.size); clear hb2)
    | fail)
  go_ret
  exact ⟨rfl, HB2.out⟩

theorem small_good {r : Rw} (h : r.small) : goodI r.k r.t r.v = true := by
  unfold Rw.small at h
  unfold goodI inI
  simp
  omega
theorem mem_viewOf {lo hi mode : Int} {A B : List Rw} (hA : ∀ r ∈ A, r.small) (hB : ∀ r ∈ B, r.small) : ∀ o ∈ viewOf lo hi mode A B, TellO o := by
  intro o ho
  unfold viewOf allOf at ho
  rw [List.mem_append, List.mem_append] at ho
  rcases ho with ho | ho | ho
  · rw [List.mem_flatMap] at ho
    obtain ⟨a, ha, ho⟩ := ho
    rw [List.mem_map] at ho
    obtain ⟨b, hb, rfl⟩ := ho
    obtain ⟨hb1, hb2⟩ := List.mem_filter.1 hb
    have hk : a.k = b.k := by
      unfold mB at hb2
      simp at hb2
      omega
    have := TellO.pair a.k a.t a.v b.t b.v (small_good (hA a ha)) (by rw [hk]; exact small_good (hB b hb1))
    unfold pairRw
    rw [← hk]
    exact this
  · split at ho
    · rw [List.mem_map] at ho
      obtain ⟨a, ha, rfl⟩ := ho
      exact TellO.left _ _ _ (small_good (hA a (List.mem_filter.1 ha).1))
    · cases ho
  · split at ho
    · rw [List.mem_map] at ho
      obtain ⟨a, ha, rfl⟩ := ho
      exact TellO.right _ _ _ (small_good (hB a (List.mem_filter.1 ha).1))
    · cases ho
theorem Holds.good0 {x : J} {A B : List Rw} (h : Holds x A B) (hA : ∀ r ∈ A, r.small) : ∀ y ∈ x.R0, goodI y.k y.t y.v = true := by
  intro y hy
  have := h.r0.subset hy
  rw [List.mem_map] at this
  obtain ⟨l, hl, rfl⟩ := this
  exact small_good (hA l (List.mem_filter.1 hl).1)
theorem Holds.good1 {x : J} {A B : List Rw} (h : Holds x A B) (hB : ∀ r ∈ B, r.small) : ∀ y ∈ x.R1, goodI y.k y.t y.v = true := by
  intro y hy
  have := h.r1.subset hy
  rw [List.mem_map] at this
  obtain ⟨l, hl, rfl⟩ := this
  exact small_good (hB l (List.mem_filter.1 hl).1)

/-- The engine is saved, and loaded. -/
theorem saved_again {EngAt : Nat → J → List O → (Nat → Prop) → World → Prop} (E : EngSays EngAt) (Es : EngSaves EngAt) {w0 : World} (hG : Glob w0) {bt : Nat} {lo hi mode : Int} {n : Nat} {w : World} {be bf nF : Nat} {a0 a1 : Int} {va vb : Value} {A B : List Rw} {F L : List O} {x : J} {S : Nat → Prop} (h : Full EngAt w0 bt lo hi mode n w be bf nF a0 a1 va vb A B F L x S) (hn : n ≤ 100) (xs xn xk xt xv : Int) :
    Calls Tryz.prog 9 #[.pointer (some ⟨bt, 0, none⟩), .agg #[.int .i64 2, .int .i64 xs, .int .i64 xn, .int .i64 xk, .int .i64 xt, .int .i64 xv]] w fun e w' => e = .returned (.bool true) ∧ Tale EngAt w0 bt lo hi mode (n + 1) w' := by
  obtain ⟨hT, hE, hS, hH, hL, hFv, ⟨rfl, rfl, rfl⟩, hok, hJ, hlate, hmk, hlen, hnF, hsa, hsb, hbt, hbf, hlow, hlm⟩ := h
  have hGw : Glob w := hG.below hlow
  have hws := hlow.size
  have hfo := E.foot _ _ _ _ _ hE
  have hLl : L.length ≤ 1000000 := by rw [hL.length_eq]; exact Nat.le_trans (view_small _ _ _ A B n hn hlen) (by omega)
  obtain ⟨Eng, txt, hEst, hE2, _, hsv | ⟨hsv, hld⟩⟩ := Es.saved be x L S w hE hJ hok ⟨hlm.1.1, by omega⟩ ⟨hlm.1.2, by omega⟩ (hH.good0 hsa) (hH.good1 hsb) (fun o ho => mem_viewOf hsa hsb o (hL.subset ho)) hLl
  · refine (does2_limitB Eng S txt w0.heap.size bt be bf nF _ _ _ a0 a1 va vb A B F xs xn xk xt xv w (fun W h0 => E.tell 4 W ((World.cell?_of_block (w := w) (a := ⟨0, 0, none⟩) h0).trans hGw.err) (Or.inl rfl)) hT hEst hE2 hfo (fun W hW hb => hsv S W hW (hGw.below hb))).mono ?_
    rintro e w' ⟨rfl, hb⟩
    exact ⟨rfl, be, bf, nF, a0, a1, va, vb, A, B, F, L, x, S, hT.below hb, E.steady _ _ _ S w w' hE hb.size (fun k hk => hb.block k (hfo k hk)), hS, hH, hL, hFv, ⟨rfl, rfl, rfl⟩, hok, hJ, by omega, by omega, by omega, by omega, hsa, hsb, hbt, hbf, hlow.trans (hb.mono hws), hlm⟩
  · refine (does2_okB Eng (fun be' S' W => ∃ L' : List O, L'.Perm L ∧ EngAt be' x L' S' W) S txt w0.heap.size bt be bf nF _ _ _ a0 a1 va vb A B F xs xn xk xt xv w hT hEst ?_ hE2 hfo (fun W hW hb => hsv S W hW (hGw.below hb)) (fun W hb => hld W (hGw.below hb))).mono ?_
    · rintro b S' W W' ⟨L', hp, he⟩ hsz hk
      exact ⟨L', hp, E.steady _ _ _ S' W W' he hsz hk⟩
    · rintro e w' ⟨rfl, be', S', h1, ⟨L', hp, he⟩, h3, h4⟩
      have a1 := hT.lt
      have a2 := hT.ltf
      refine ⟨rfl, be', bf, nF, _, _, va, vb, A, B, F, L', x, S', h1, he, fun k hk => ?_, hH, hp.trans hL, hFv, ⟨rfl, rfl, rfl⟩, hok, hJ, by omega, by omega, by omega, by omega, hsa, hsb, hbt, hbf, hlow.trans (h4.below hws (fun k hk => by omega)), hlm⟩
      have := (h3 k hk).1
      exact ⟨by omega, by omega, by omega, fun e => by have := (hT.r0.lt k e).2; omega, fun e => by have := (hT.r1.lt k e).2; omega⟩

/-- Whatever the step. -/
theorem step_any {EngAt : Nat → J → List O → (Nat → Prop) → World → Prop} (E : EngSays EngAt) (Es : EngSaves EngAt) {w0 : World} (hG : Glob w0) {bt : Nat} {lo hi mode : Int} {n : Nat} {w : World} (h : Tale EngAt w0 bt lo hi mode n w) (hn : n ≤ 100) (wh xs xn xk xt xv : Int) :
    Calls Tryz.prog 9 #[.pointer (some ⟨bt, 0, none⟩), .agg #[.int .i64 wh, .int .i64 xs, .int .i64 xn, .int .i64 xk, .int .i64 xt, .int .i64 xv]] w fun e w' => e = .returned (.bool true) ∧ Tale EngAt w0 bt lo hi mode (n + 1) w' := by
  obtain ⟨be, bf, nF, a0, a1, va, vb, A, B, F, L, x, S, h⟩ := h
  have hp := (pickN_lt xs 2 (by omega)).1
  have hp2 : pickN xs 2 = 0 ∨ pickN xs 2 = 1 := by omega
  by_cases h0 : wh = 0
  · subst h0
    rcases hp2 with hp2 | hp2
    · exact row0 E hG.err h hn xs xn xk xt xv hp2
    · exact row1 E hG.err h hn xs xn xk xt xv hp2
  · by_cases h1 : wh = 1
    · subst h1
      rcases hp2 with hp2 | hp2
      · exact mark0 E h hn xs xn xk xt xv hp2
      · exact mark1 E h hn xs xn xk xt xv hp2
    · by_cases h2 : wh = 2
      · subst h2
        exact saved_again E Es hG h hn xs xn xk xt xv
      · have hws := h.low.size
        have hfo := E.foot _ _ _ _ _ h.eng
        have hl := h.late
        have hm := h.marks
        have hle := h.len
        have hnf := h.nf
        refine (does_none w0.heap.size bt be bf nF _ _ _ a0 a1 va vb A B F wh xs xn xk xt xv w h0 h1 h2 h.tale).mono ?_
        rintro e w' ⟨rfl, hb⟩
        exact ⟨rfl, be, bf, nF, a0, a1, va, vb, A, B, F, L, x, S, h.tale.below hb, E.steady _ _ _ S w w' h.eng hb.size (fun k hk => hb.block k (hfo k hk)), h.foot, h.holds, h.lv, h.fv, h.plan, h.ok, h.jok, by omega, by omega, by omega, by omega, h.sa, h.sb, h.bt0, h.bf0, h.low.trans (hb.mono hws), h.lowm⟩

/-- A new tale. -/
theorem tale_begins {EngAt : Nat → J → List O → (Nat → Prop) → World → Prop} (E : EngFeeds EngAt) (low high md : Int) (w : World) :
    Calls Tryz.prog 8 #[.int .i64 low, .int .i64 high, .int .i64 md] w fun e w' => ∃ bt, e = .returned (.pointer (some ⟨bt, 0, none⟩)) ∧ Tale EngAt w bt (loOf low) (hiOf low high) (modeOf md) 0 w' := by
  have hok := plan_ok low high md
  refine (tale_new (fun be lo hi mode S W => EngAt be ⟨lo, hi, mode, -1099511627777, -1099511627777, 0, [], []⟩ [] S W) low high md w (fun be lo hi mode => E.steady _ _ _) (fun lo hi mode W h => E.new lo hi mode W h)).mono ?_
  rintro e w' ⟨bt, be, bf, S, rfl, h1, h2, h3, h4, h5, h6⟩
  have hH : Holds ⟨loOf low, hiOf low high, modeOf md, -1099511627777, -1099511627777, 0, [], []⟩ [] [] := Holds.new _ _ _ _ _ _
  refine ⟨bt, rfl, be, bf, 0, -300, -300, .slice none 0 0, .slice none 0 0, [], [], [], [], _, S, h1, h2, fun k hk => ⟨(h3 k hk).1, (h3 k hk).2.2.1, (h3 k hk).2.2.2, by simp [Value.ownBlock], by simp [Value.ownBlock]⟩, hH, ?_, ?_, ⟨rfl, rfl, rfl⟩, hok, ?_, ?_, ?_, ?_, ?_, ?_, ?_, h4, h5, h6, ⟨Int.le_refl _, Int.le_refl _⟩, by simp⟩
  · unfold viewOf allOf; simp
  · unfold viewOf allOf; simp
  · exact jok_of hH hok (by simp) (by simp) (by simp) (by simp) (by simp)
  · simp
  · simp
  · simp
  · simp
  · simp
  · simp

end Go.Proofs.YtmmbjbgimpgcfaaGreatDoor
