/- Behind each step a tale is as it should be. -/
import Derived.Test.YtmmbjbgimpgcfaaGreatDoorEvb
namespace Go.Proofs.YtmmbjbgimpgcfaaGreatDoor
open Go.RowKit Go.Sort
set_option maxRecDepth 100000

theorem jok_of {x : J} {A B : List Rw} (h : Holds x A B) (p : planOk x.lo x.hi x.mode) (hl0 : x.R0.length ≤ 300) (hl1 : x.R1.length ≤ 300) (hA : A.length ≤ 1000000) (hB : B.length ≤ 1000000) (hlate : 0 ≤ x.late ∧ x.late ≤ 1000000) : JOk x := by
  unfold planOk at p
  exact ⟨by omega, by omega, by omega, by omega, h.s0, h.s1, hl0, hl1, fun y hy => by have := h.yet0 y hy; omega, fun y hy => by have := h.yet1 y hy; omega, hlate⟩

/-- A tale of known parts. -/
structure Full (EngAt : Nat → J → List O → (Nat → Prop) → World → Prop) (w0 : World) (bt : Nat) (lo hi mode : Int) (n : Nat) (w : World) (be bf nF : Nat) (a0 a1 : Int) (va vb : Value) (A B : List Rw) (F L : List O) (x : J) (S : Nat → Prop) : Prop where
  tale : TaleAt w w0.heap.size bt (.pointer (some ⟨be, 0, none⟩)) lo hi mode a0 a1 va vb bf nF A B F
  eng : EngAt be x L S w
  foot : ∀ k, S k → w0.heap.size ≤ k ∧ k ≠ bt ∧ k ≠ bf ∧ va.ownBlock ≠ some k ∧ vb.ownBlock ≠ some k
  holds : Holds x A B
  lv : L.Perm (viewOf lo hi mode A B)
  fv : F.Perm (viewOf lo hi mode A B)
  plan : x.lo = lo ∧ x.hi = hi ∧ x.mode = mode
  ok : planOk lo hi mode
  jok : JOk x
  late : x.late ≤ n
  marks : x.m0 ≤ a0 ∧ x.m1 ≤ a1 ∧ -300 ≤ a0 ∧ a0 ≤ -300 + 60 * (n : Int) ∧ -300 ≤ a1 ∧ a1 ≤ -300 + 60 * (n : Int)
  len : A.length + B.length ≤ n
  nf : nF ≤ 700 * n
  sa : ∀ r ∈ A, r.small
  sb : ∀ r ∈ B, r.small
  bt0 : w0.heap.size ≤ bt
  bf0 : w0.heap.size ≤ bf
  low : Below w0.heap.size w0 w
  lowm : (-1099511627777 ≤ x.m0 ∧ -1099511627777 ≤ x.m1) ∧ (∀ r ∈ A, r.t ≤ 100) ∧ ∀ r ∈ B, r.t ≤ 100

/-- There is a tale. -/
def Tale (EngAt : Nat → J → List O → (Nat → Prop) → World → Prop) (w0 : World) (bt : Nat) (lo hi mode : Int) (n : Nat) (w : World) : Prop :=
  ∃ (be bf nF : Nat) (a0 a1 : Int) (va vb : Value) (A B : List Rw) (F L : List O) (x : J) (S : Nat → Prop), Full EngAt w0 bt lo hi mode n w be bf nF a0 a1 va vb A B F L x S

/-- A row of a side comes. -/
theorem row0 {EngAt : Nat → J → List O → (Nat → Prop) → World → Prop} (E : EngSays EngAt) {w0 : World} (hG : w0.cell? ⟨0, 0, none⟩ = some errT) {bt : Nat} {lo hi mode : Int} {n : Nat} {w : World} {be bf nF : Nat} {a0 a1 : Int} {va vb : Value} {A B : List Rw} {F L : List O} {x : J} {S : Nat → Prop} (h : Full EngAt w0 bt lo hi mode n w be bf nF a0 a1 va vb A B F L x S) (hn : n ≤ 100) (xs xn xk xt xv : Int) (hs : pickN xs 2 = 0) :
    Calls Tryz.prog 9 #[.pointer (some ⟨bt, 0, none⟩), .agg #[.int .i64 0, .int .i64 xs, .int .i64 xn, .int .i64 xk, .int .i64 xt, .int .i64 xv]] w fun e w' => e = .returned (.bool true) ∧ Tale EngAt w0 bt lo hi mode (n + 1) w' := by
  obtain ⟨hT, hE, hS, hH, hL, hFv, ⟨rfl, rfl, rfl⟩, hok, hJ, hlate, hmk, hlen, hnF, hsa, hsb, hbt, hbf, hlow, hlm⟩ := h
  have hz0 : 0 < w0.heap.size := World.block_lt_of_cell? _ _ hG
  have hGw : w.cell? ⟨0, 0, none⟩ = some errT := (hlow.cell (p := ⟨0, 0, none⟩) hz0).trans hG
  have hS0 : ¬ S 0 := fun e => by have := (hS 0 e).1; omega
  have q1 := (pickN_lt xk 4 (by omega)).1
  have q2 := (pickN_lt xt 200 (by omega)).1
  have q3 := (pickN_lt xv 50 (by omega)).1
  obtain ⟨r, hr⟩ : ∃ r : Rw, r = ⟨pickN xk 4, (pickN xt 200 : Int) - 100, pickN xv 50⟩ := ⟨_, rfl⟩
  have hrs : r.small := by rw [hr]; unfold Rw.small; simp only; omega
  have hrt : -100 ≤ r.t ∧ r.t ≤ 99 := by rw [hr]; simp only; omega
  have hg : goodI r.k r.t r.v = true := by
    obtain ⟨g1, g2, g3⟩ := hrs
    simp only [goodI, inI, Bool.and_eq_true, decide_eq_true_eq]
    omega
  have hws := hlow.size
  have hS2 : ∀ k, S k → k < w.heap.size ∧ k ≠ bt ∧ k ≠ bf ∧ va.ownBlock ≠ some k ∧ vb.ownBlock ≠ some k := fun k hk => ⟨E.foot _ _ _ _ _ hE k hk, (hS k hk).2⟩
  by_cases hl : x.m0 < r.t
  · by_cases hro : x.m1 < r.t + x.hi → x.R0.length < 300
    · have hvL := hH.view0 r hl hL
      have hvF := hH.view0 r hl hFv
      have hLl : L.length ≤ 20000 := by rw [hL.length_eq]; exact view_small _ _ _ A B n hn hlen
      have hFl : F.length ≤ 20000 := by rw [hFv.length_eq]; exact view_small _ _ _ A B n hn hlen
      have hm0 : ∀ y ∈ metR r.k (r.t + x.lo) (r.t + x.hi) x.R1, y.rw.small := fun y hy => hsb _ (hH.yet1 y (met_mem hy)).2.2.2
      have hcw := chgs_wf x.mode 0 r _ hrs hm0
      have hcl := chgsA_len x.mode 0 r.k r.t r.v (metR r.k (r.t + x.lo) (r.t + x.hi) x.R1)
      have hml := met_len r.k (r.t + x.lo) (r.t + x.hi) x.R1
      have hrl := hH.len1
      have hH' := hH.fed0 r hl (by omega)
      refine (does0_0 (EngAt be x L) (EngAt be (x.fed0 r.k r.t r.v) (appC L (cF0 x r))) S (cF0 x r) r w0.heap.size bt be bf nF _ _ _ a0 a1 va vb A B F xs xn xk xt xv w hT hws hs hr (E.steady _ _ _) (E.steady _ _ _) hE hS2 (fun W hW _ => E.feed0 be x L S W r hW hJ hg hl hro hvL.1 hcw (by omega)) hvF.1 hcw (by omega) (by omega) (by show (chgs _ _ _ _ _ _).length ≤ _; omega) (by omega)).mono ?_
      rintro e w' ⟨rfl, v', S', h1, h2, h3, h4, h5⟩
      refine ⟨rfl, be, bf, _, a0, a1, v', vb, _, _, _, _, _, S', h1, h2, fun k hk => ⟨?_, (h3 k hk).2.2⟩, hH', hvL.2, hvF.2, ⟨rfl, rfl, rfl⟩, hok, ?_, by show x.late ≤ _; omega, ⟨hmk.1, hmk.2.1, by omega⟩, by rw [List.length_append]; simp; omega, by show nF + (chgs _ _ _ _ _ _).length ≤ _; omega, (fun q hq => by rcases List.mem_append.1 hq with g | g; (exact hsa q g); (simp at g; rw [g]; exact hrs)), hsb, hbt, hbf, ?_, hlm.1, (fun q hq => by rcases List.mem_append.1 hq with g | g; (exact hlm.2.1 q g); (simp at g; rw [g]; omega)), hlm.2.2⟩
      · rcases (h3 k hk).1 with g | g
        · exact (hS k g).1
        · omega
      · refine jok_of hH' hok ?_ ?_ (by first | (rw [List.length_append]; simp; omega) | omega) (by first | (rw [List.length_append]; simp; omega) | omega) hJ.late
        · show (if x.m1 < r.t + x.hi then insR x.R0 _ _ else x.R0).length ≤ 300
          split
          · rw [insR_len]; have := hro (by assumption); omega
          · exact hJ.l0
        · show (incR x.R1 _ _).length ≤ 300
          rw [inc_is_map hH.s1, List.length_map]; exact hJ.l1
      · refine hlow.trans (h4.below hws (fun k hk => ?_))
        rcases hk with hk | hk | hk | hk
        · exact (hS k hk).1
        · omega
        · omega
        · exact (hT.r0.lt k hk).1
    · have hro2 : x.m1 < r.t + x.hi ∧ 300 ≤ x.R0.length := by
        by_cases g1 : x.m1 < r.t + x.hi
        · refine ⟨g1, ?_⟩
          by_cases g2 : x.R0.length < 300
          · exact absurd (fun _ => g2) hro
          · omega
        · exact absurd (fun g => absurd g g1) hro
      refine (does0_err0 (EngAt be x L) (EngAt be x L) S 12 r w0.heap.size bt be bf nF _ _ _ a0 a1 va vb A B F xs xn xk xt xv w (Or.inr rfl) hS0 (fun W h0 => E.tell 12 W ((World.cell?_of_block (w := w) (a := ⟨0, 0, none⟩) h0).trans hGw) (Or.inr (Or.inr rfl))) hT hs hr (E.steady _ _ _) (E.steady _ _ _) hE hS2 (fun W hW _ h0 => E.full be x L S W r 0 ((World.cell?_of_block (w := w) (a := ⟨0, 0, none⟩) h0).trans hGw) hW hJ hg (Or.inl ⟨rfl, hl, hro2.1, hro2.2⟩))).mono ?_
      rintro e w' ⟨rfl, S', h1, h2, h3, h4⟩
      refine ⟨rfl, be, bf, nF, a0, a1, va, vb, A, B, F, L, x, S', h1, h2, fun k hk => ⟨?_, (h3 k hk).2.2⟩, hH, hL, hFv, ⟨rfl, rfl, rfl⟩, hok, hJ, by omega, by omega, by omega, by omega, hsa, hsb, hbt, hbf, hlow.trans (h4.below hws (fun k hk => (hS k hk).1)), hlm⟩
      rcases (h3 k hk).1 with g | g
      · exact (hS k g).1
      · omega
  · have hml : moreI x.late ≤ x.late + 1 := by unfold moreI; split <;> omega
    have hml0 : x.late ≤ moreI x.late := by unfold moreI; split <;> omega
    have hjl := hJ.late
    refine (does0_err0 (EngAt be x L) (EngAt be { x with late := moreI x.late } L) S 10 r w0.heap.size bt be bf nF _ _ _ a0 a1 va vb A B F xs xn xk xt xv w (Or.inl rfl) hS0 (fun W h0 => E.tell 10 W ((World.cell?_of_block (w := w) (a := ⟨0, 0, none⟩) h0).trans hGw) (Or.inr (Or.inl rfl))) hT hs hr (E.steady _ _ _) (E.steady _ _ _) hE hS2 (fun W hW _ h0 => E.late be x L S W r 0 ((World.cell?_of_block (w := w) (a := ⟨0, 0, none⟩) h0).trans hGw) hW hJ hg (Or.inl ⟨rfl, by omega⟩))).mono ?_
    rintro e w' ⟨rfl, S', h1, h2, h3, h4⟩
    refine ⟨rfl, be, bf, nF, a0, a1, va, vb, A, B, F, L, _, S', h1, h2, fun k hk => ⟨?_, (h3 k hk).2.2⟩, ⟨hH.r0, hH.r1, hH.s0, hH.s1⟩, hL, hFv, ⟨rfl, rfl, rfl⟩, hok, ⟨hJ.lo1, hJ.lo2, hJ.hi1, hJ.hi2, hJ.s0, hJ.s1, hJ.l0, hJ.l1, hJ.n0, hJ.n1, ⟨by show 0 ≤ moreI x.late; omega, by show moreI x.late ≤ _; omega⟩⟩, by show moreI x.late ≤ _; omega, ⟨hmk.1, hmk.2.1, by omega⟩, by omega, by omega, hsa, hsb, hbt, hbf, hlow.trans (h4.below hws (fun k hk => (hS k hk).1)), hlm⟩
    rcases (h3 k hk).1 with g | g
    · exact (hS k g).1
    · omega

/-- A side's mark goes on. -/
theorem mark0 {EngAt : Nat → J → List O → (Nat → Prop) → World → Prop} (E : EngSays EngAt) {w0 : World} {bt : Nat} {lo hi mode : Int} {n : Nat} {w : World} {be bf nF : Nat} {a0 a1 : Int} {va vb : Value} {A B : List Rw} {F L : List O} {x : J} {S : Nat → Prop} (h : Full EngAt w0 bt lo hi mode n w be bf nF a0 a1 va vb A B F L x S) (hn : n ≤ 100) (xs xn xk xt xv : Int) (hs : pickN xs 2 = 0) :
    Calls Tryz.prog 9 #[.pointer (some ⟨bt, 0, none⟩), .agg #[.int .i64 1, .int .i64 xs, .int .i64 xn, .int .i64 xk, .int .i64 xt, .int .i64 xv]] w fun e w' => e = .returned (.bool true) ∧ Tale EngAt w0 bt lo hi mode (n + 1) w' := by
  obtain ⟨hT, hE, hS, hH, hL, hFv, ⟨rfl, rfl, rfl⟩, hok, hJ, hlate, hmk, hlen, hnF, hsa, hsb, hbt, hbf, hlow, hlm⟩ := h
  have q1 := (pickN_lt xn 60 (by omega)).1
  obtain ⟨p, hp⟩ : ∃ p : Int, p = (pickN xn 60 : Nat) := ⟨_, rfl⟩
  have hp0 : 0 ≤ p ∧ p < 60 := by omega
  have hws := hlow.size
  have hS2 : ∀ k, S k → k < w.heap.size ∧ k ≠ bt ∧ k ≠ bf ∧ va.ownBlock ≠ some k ∧ vb.ownBlock ≠ some k := fun k hk => ⟨E.foot _ _ _ _ _ hE k hk, (hS k hk).2⟩
  have hH' := hH.moved0 (a0 + p) (by omega)
  have hj := hJ.late
  refine (does1_0 (EngAt be x L) (EngAt be { x with m0 := a0 + p, R1 := keepR (fun y => decide (y.t ≤ a0 + p + x.lo)) x.R1 } L) S p w0.heap.size bt be bf nF _ _ _ a0 a1 va vb A B F xs xn xk xt xv w hT hs hp (by omega) (E.steady _ _ _) (E.steady _ _ _) hE hS2 (fun W hW _ => E.move0 be x L S W (a0 + p) hW hJ (by omega) (by omega))).mono ?_
  rintro e w' ⟨rfl, S', h1, h2, h3, h4⟩
  refine ⟨rfl, be, bf, nF, a0 + p, a1, va, vb, A, B, F, L, _, S', h1, h2, fun k hk => ⟨?_, (h3 k hk).2.2⟩, hH', hL, hFv, ⟨rfl, rfl, rfl⟩, hok, ?_, by show x.late ≤ _; omega, ⟨Int.le_refl _, hmk.2.1, by omega⟩, by omega, by omega, hsa, hsb, hbt, hbf, ?_, ⟨⟨by show -1099511627777 ≤ a0 + p; omega, hlm.1.2⟩, hlm.2⟩⟩
  · rcases (h3 k hk).1 with g | g
    · exact (hS k g).1
    · omega
  · refine jok_of hH' hok ?_ ?_ (by omega) (by omega) hJ.late
    · exact hJ.l0
    · exact Nat.le_trans (List.length_filter_le _ _) hJ.l1
  · refine hlow.trans (h4.below hws (fun k hk => ?_))
    rcases hk with hk | hk
    · exact (hS k hk).1
    · omega

/-- A row of a side comes. -/
theorem row1 {EngAt : Nat → J → List O → (Nat → Prop) → World → Prop} (E : EngSays EngAt) {w0 : World} (hG : w0.cell? ⟨0, 0, none⟩ = some errT) {bt : Nat} {lo hi mode : Int} {n : Nat} {w : World} {be bf nF : Nat} {a0 a1 : Int} {va vb : Value} {A B : List Rw} {F L : List O} {x : J} {S : Nat → Prop} (h : Full EngAt w0 bt lo hi mode n w be bf nF a0 a1 va vb A B F L x S) (hn : n ≤ 100) (xs xn xk xt xv : Int) (hs : pickN xs 2 = 1) :
    Calls Tryz.prog 9 #[.pointer (some ⟨bt, 0, none⟩), .agg #[.int .i64 0, .int .i64 xs, .int .i64 xn, .int .i64 xk, .int .i64 xt, .int .i64 xv]] w fun e w' => e = .returned (.bool true) ∧ Tale EngAt w0 bt lo hi mode (n + 1) w' := by
  obtain ⟨hT, hE, hS, hH, hL, hFv, ⟨rfl, rfl, rfl⟩, hok, hJ, hlate, hmk, hlen, hnF, hsa, hsb, hbt, hbf, hlow, hlm⟩ := h
  have hz0 : 0 < w0.heap.size := World.block_lt_of_cell? _ _ hG
  have hGw : w.cell? ⟨0, 0, none⟩ = some errT := (hlow.cell (p := ⟨0, 0, none⟩) hz0).trans hG
  have hS0 : ¬ S 0 := fun e => by have := (hS 0 e).1; omega
  have q1 := (pickN_lt xk 4 (by omega)).1
  have q2 := (pickN_lt xt 200 (by omega)).1
  have q3 := (pickN_lt xv 50 (by omega)).1
  obtain ⟨r, hr⟩ : ∃ r : Rw, r = ⟨pickN xk 4, (pickN xt 200 : Int) - 100, pickN xv 50⟩ := ⟨_, rfl⟩
  have hrs : r.small := by rw [hr]; unfold Rw.small; simp only; omega
  have hrt : -100 ≤ r.t ∧ r.t ≤ 99 := by rw [hr]; simp only; omega
  have hg : goodI r.k r.t r.v = true := by
    obtain ⟨g1, g2, g3⟩ := hrs
    simp only [goodI, inI, Bool.and_eq_true, decide_eq_true_eq]
    omega
  have hws := hlow.size
  have hS2 : ∀ k, S k → k < w.heap.size ∧ k ≠ bt ∧ k ≠ bf ∧ va.ownBlock ≠ some k ∧ vb.ownBlock ≠ some k := fun k hk => ⟨E.foot _ _ _ _ _ hE k hk, (hS k hk).2⟩
  by_cases hl : x.m1 < r.t
  · by_cases hro : x.m0 < r.t + -x.lo → x.R1.length < 300
    · have hvL := hH.view1 r hl hL
      have hvF := hH.view1 r hl hFv
      have hLl : L.length ≤ 20000 := by rw [hL.length_eq]; exact view_small _ _ _ A B n hn hlen
      have hFl : F.length ≤ 20000 := by rw [hFv.length_eq]; exact view_small _ _ _ A B n hn hlen
      have hm0 : ∀ y ∈ metR r.k (r.t + -x.hi) (r.t + -x.lo) x.R0, y.rw.small := fun y hy => hsa _ (hH.yet0 y (met_mem hy)).2.2.2
      have hcw := chgs_wf x.mode 1 r _ hrs hm0
      have hcl := chgsA_len x.mode 1 r.k r.t r.v (metR r.k (r.t + -x.hi) (r.t + -x.lo) x.R0)
      have hml := met_len r.k (r.t + -x.hi) (r.t + -x.lo) x.R0
      have hrl := hH.len0
      have hH' := hH.fed1 r hl (by omega)
      refine (does0_1 (EngAt be x L) (EngAt be (x.fed1 r.k r.t r.v) (appC L (cF1 x r))) S (cF1 x r) r w0.heap.size bt be bf nF _ _ _ a0 a1 va vb A B F xs xn xk xt xv w hT hws hs hr (E.steady _ _ _) (E.steady _ _ _) hE hS2 (fun W hW _ => E.feed1 be x L S W r hW hJ hg hl hro hvL.1 hcw (by omega)) hvF.1 hcw (by omega) (by omega) (by show (chgs _ _ _ _ _ _).length ≤ _; omega) (by omega)).mono ?_
      rintro e w' ⟨rfl, v', S', h1, h2, h3, h4, h5⟩
      refine ⟨rfl, be, bf, _, a0, a1, va, v', _, _, _, _, _, S', h1, h2, fun k hk => ⟨?_, (h3 k hk).2.2⟩, hH', hvL.2, hvF.2, ⟨rfl, rfl, rfl⟩, hok, ?_, by show x.late ≤ _; omega, ⟨hmk.1, hmk.2.1, by omega⟩, by rw [List.length_append]; simp; omega, by show nF + (chgs _ _ _ _ _ _).length ≤ _; omega, hsa, (fun q hq => by rcases List.mem_append.1 hq with g | g; (exact hsb q g); (simp at g; rw [g]; exact hrs)), hbt, hbf, ?_, hlm.1, hlm.2.1, (fun q hq => by rcases List.mem_append.1 hq with g | g; (exact hlm.2.2 q g); (simp at g; rw [g]; omega))⟩
      · rcases (h3 k hk).1 with g | g
        · exact (hS k g).1
        · omega
      · refine jok_of hH' hok ?_ ?_ (by first | (rw [List.length_append]; simp; omega) | omega) (by first | (rw [List.length_append]; simp; omega) | omega) hJ.late
        · show (incR x.R0 _ _).length ≤ 300
          rw [inc_is_map hH.s0, List.length_map]; exact hJ.l0
        · show (if x.m0 < r.t + -x.lo then insR x.R1 _ _ else x.R1).length ≤ 300
          split
          · rw [insR_len]; have := hro (by assumption); omega
          · exact hJ.l1
      · refine hlow.trans (h4.below hws (fun k hk => ?_))
        rcases hk with hk | hk | hk | hk
        · exact (hS k hk).1
        · omega
        · omega
        · exact (hT.r1.lt k hk).1
    · have hro2 : x.m0 < r.t + -x.lo ∧ 300 ≤ x.R1.length := by
        by_cases g1 : x.m0 < r.t + -x.lo
        · refine ⟨g1, ?_⟩
          by_cases g2 : x.R1.length < 300
          · exact absurd (fun _ => g2) hro
          · omega
        · exact absurd (fun g => absurd g g1) hro
      refine (does0_err1 (EngAt be x L) (EngAt be x L) S 12 r w0.heap.size bt be bf nF _ _ _ a0 a1 va vb A B F xs xn xk xt xv w (Or.inr rfl) hS0 (fun W h0 => E.tell 12 W ((World.cell?_of_block (w := w) (a := ⟨0, 0, none⟩) h0).trans hGw) (Or.inr (Or.inr rfl))) hT hs hr (E.steady _ _ _) (E.steady _ _ _) hE hS2 (fun W hW _ h0 => E.full be x L S W r 1 ((World.cell?_of_block (w := w) (a := ⟨0, 0, none⟩) h0).trans hGw) hW hJ hg (Or.inr ⟨rfl, hl, hro2.1, hro2.2⟩))).mono ?_
      rintro e w' ⟨rfl, S', h1, h2, h3, h4⟩
      refine ⟨rfl, be, bf, nF, a0, a1, va, vb, A, B, F, L, x, S', h1, h2, fun k hk => ⟨?_, (h3 k hk).2.2⟩, hH, hL, hFv, ⟨rfl, rfl, rfl⟩, hok, hJ, by omega, by omega, by omega, by omega, hsa, hsb, hbt, hbf, hlow.trans (h4.below hws (fun k hk => (hS k hk).1)), hlm⟩
      rcases (h3 k hk).1 with g | g
      · exact (hS k g).1
      · omega
  · have hml : moreI x.late ≤ x.late + 1 := by unfold moreI; split <;> omega
    have hml0 : x.late ≤ moreI x.late := by unfold moreI; split <;> omega
    have hjl := hJ.late
    refine (does0_err1 (EngAt be x L) (EngAt be { x with late := moreI x.late } L) S 10 r w0.heap.size bt be bf nF _ _ _ a0 a1 va vb A B F xs xn xk xt xv w (Or.inl rfl) hS0 (fun W h0 => E.tell 10 W ((World.cell?_of_block (w := w) (a := ⟨0, 0, none⟩) h0).trans hGw) (Or.inr (Or.inl rfl))) hT hs hr (E.steady _ _ _) (E.steady _ _ _) hE hS2 (fun W hW _ h0 => E.late be x L S W r 1 ((World.cell?_of_block (w := w) (a := ⟨0, 0, none⟩) h0).trans hGw) hW hJ hg (Or.inr ⟨rfl, by omega⟩))).mono ?_
    rintro e w' ⟨rfl, S', h1, h2, h3, h4⟩
    refine ⟨rfl, be, bf, nF, a0, a1, va, vb, A, B, F, L, _, S', h1, h2, fun k hk => ⟨?_, (h3 k hk).2.2⟩, ⟨hH.r0, hH.r1, hH.s0, hH.s1⟩, hL, hFv, ⟨rfl, rfl, rfl⟩, hok, ⟨hJ.lo1, hJ.lo2, hJ.hi1, hJ.hi2, hJ.s0, hJ.s1, hJ.l0, hJ.l1, hJ.n0, hJ.n1, ⟨by show 0 ≤ moreI x.late; omega, by show moreI x.late ≤ _; omega⟩⟩, by show moreI x.late ≤ _; omega, ⟨hmk.1, hmk.2.1, by omega⟩, by omega, by omega, hsa, hsb, hbt, hbf, hlow.trans (h4.below hws (fun k hk => (hS k hk).1)), hlm⟩
    rcases (h3 k hk).1 with g | g
    · exact (hS k g).1
    · omega

/-- A side's mark goes on. -/
theorem mark1 {EngAt : Nat → J → List O → (Nat → Prop) → World → Prop} (E : EngSays EngAt) {w0 : World} {bt : Nat} {lo hi mode : Int} {n : Nat} {w : World} {be bf nF : Nat} {a0 a1 : Int} {va vb : Value} {A B : List Rw} {F L : List O} {x : J} {S : Nat → Prop} (h : Full EngAt w0 bt lo hi mode n w be bf nF a0 a1 va vb A B F L x S) (hn : n ≤ 100) (xs xn xk xt xv : Int) (hs : pickN xs 2 = 1) :
    Calls Tryz.prog 9 #[.pointer (some ⟨bt, 0, none⟩), .agg #[.int .i64 1, .int .i64 xs, .int .i64 xn, .int .i64 xk, .int .i64 xt, .int .i64 xv]] w fun e w' => e = .returned (.bool true) ∧ Tale EngAt w0 bt lo hi mode (n + 1) w' := by
  obtain ⟨hT, hE, hS, hH, hL, hFv, ⟨rfl, rfl, rfl⟩, hok, hJ, hlate, hmk, hlen, hnF, hsa, hsb, hbt, hbf, hlow, hlm⟩ := h
  have q1 := (pickN_lt xn 60 (by omega)).1
  obtain ⟨p, hp⟩ : ∃ p : Int, p = (pickN xn 60 : Nat) := ⟨_, rfl⟩
  have hp0 : 0 ≤ p ∧ p < 60 := by omega
  have hws := hlow.size
  have hS2 : ∀ k, S k → k < w.heap.size ∧ k ≠ bt ∧ k ≠ bf ∧ va.ownBlock ≠ some k ∧ vb.ownBlock ≠ some k := fun k hk => ⟨E.foot _ _ _ _ _ hE k hk, (hS k hk).2⟩
  have hH' := hH.moved1 (a1 + p) (by omega)
  have hj := hJ.late
  refine (does1_1 (EngAt be x L) (EngAt be { x with m1 := a1 + p, R0 := keepR (fun y => decide (y.t ≤ a1 + p - x.hi)) x.R0 } L) S p w0.heap.size bt be bf nF _ _ _ a0 a1 va vb A B F xs xn xk xt xv w hT hs hp (by omega) (E.steady _ _ _) (E.steady _ _ _) hE hS2 (fun W hW _ => E.move1 be x L S W (a1 + p) hW hJ (by omega) (by omega))).mono ?_
  rintro e w' ⟨rfl, S', h1, h2, h3, h4⟩
  refine ⟨rfl, be, bf, nF, a0, a1 + p, va, vb, A, B, F, L, _, S', h1, h2, fun k hk => ⟨?_, (h3 k hk).2.2⟩, hH', hL, hFv, ⟨rfl, rfl, rfl⟩, hok, ?_, by show x.late ≤ _; omega, ⟨hmk.1, Int.le_refl _, by omega⟩, by omega, by omega, hsa, hsb, hbt, hbf, ?_, ⟨⟨hlm.1.1, by show -1099511627777 ≤ a1 + p; omega⟩, hlm.2⟩⟩
  · rcases (h3 k hk).1 with g | g
    · exact (hS k g).1
    · omega
  · refine jok_of hH' hok ?_ ?_ (by omega) (by omega) hJ.late
    · exact Nat.le_trans (List.length_filter_le _ _) hJ.l0
    · exact hJ.l1
  · refine hlow.trans (h4.below hws (fun k hk => ?_))
    rcases hk with hk | hk
    · exact (hS k hk).1
    · omega

end Go.Proofs.YtmmbjbgimpgcfaaGreatDoor
