/- A tale of rows alone (EngineOrder): which blocks it lies in, and that a row is taken, whatever came ahead. -/
import Derived.Test.YtpannogknebgaabGreatDoorEve
namespace Go.Proofs.YtpannogknebgaabGreatDoor
open Go.RowKit Go.Sort
set_option maxRecDepth 100000

/-- A tale of known parts, no mark of which has gone on; P: the blocks that it lies in. -/
structure Ord (EngAt : Nat → J → List O → (Nat → Prop) → World → Prop) (base bt : Nat) (lo hi mode : Int) (A B : List Rw) (P : Nat → Prop) (w : World) (be bf nF : Nat) (va vb : Value) (F L : List O) (x : J) (S : Nat → Prop) : Prop where
  tale : TaleAt w base bt (.pointer (some ⟨be, 0, none⟩)) lo hi mode (-300) (-300) va vb bf nF A B F
  eng : EngAt be x L S w
  foot : ∀ k, S k → k < w.heap.size ∧ k ≠ bt ∧ k ≠ bf ∧ va.ownBlock ≠ some k ∧ vb.ownBlock ≠ some k
  all : ∀ k, P k ↔ (S k ∨ k = bt ∨ k = bf ∨ va.ownBlock = some k ∨ vb.ownBlock = some k)
  holds : Holds x A B
  lv : L.Perm (viewOf lo hi mode A B)
  fv : F.Perm (viewOf lo hi mode A B)
  plan : x.lo = lo ∧ x.hi = hi ∧ x.mode = mode
  ok : planOk lo hi mode
  marks : x.m0 = -1099511627777 ∧ x.m1 = -1099511627777 ∧ x.late = 0
  nf : nF ≤ 700 * (A.length + B.length)
  sa : ∀ r ∈ A, r.small
  sb : ∀ r ∈ B, r.small
def OTale (EngAt : Nat → J → List O → (Nat → Prop) → World → Prop) (base bt : Nat) (lo hi mode : Int) (A B : List Rw) (P : Nat → Prop) (w : World) : Prop :=
  ∃ (be bf nF : Nat) (va vb : Value) (F L : List O) (x : J) (S : Nat → Prop), Ord EngAt base bt lo hi mode A B P w be bf nF va vb F L x S

theorem OTale.steady {EngAt : Nat → J → List O → (Nat → Prop) → World → Prop} (E : EngFeeds EngAt) {base bt : Nat} {lo hi mode : Int} {A B : List Rw} {P : Nat → Prop} {w W : World} (h : OTale EngAt base bt lo hi mode A B P w) (hs : w.heap.size ≤ W.heap.size) (hk : ∀ k, P k → W.heap[k]? = w.heap[k]?) : OTale EngAt base bt lo hi mode A B P W := by
  obtain ⟨be, bf, nF, va, vb, F, L, x, S, h⟩ := h
  refine ⟨be, bf, nF, va, vb, F, L, x, S, h.tale.kept (fun k _ hor => hk k ((h.all k).2 (Or.inr hor))), E.steady _ _ _ S w W h.eng hs (fun k hS => hk k ((h.all k).2 (Or.inl hS))), fun k hS => ⟨Nat.lt_of_lt_of_le (h.foot k hS).1 hs, (h.foot k hS).2⟩, h.all, h.holds, h.lv, h.fv, h.plan, h.ok, h.marks, h.nf, h.sa, h.sb⟩
theorem OTale.lt {EngAt : Nat → J → List O → (Nat → Prop) → World → Prop} {base bt : Nat} {lo hi mode : Int} {A B : List Rw} {P : Nat → Prop} {w : World} (h : OTale EngAt base bt lo hi mode A B P w) : ∀ k, P k → k < w.heap.size := by
  obtain ⟨be, bf, nF, va, vb, F, L, x, S, h⟩ := h
  intro k hk
  rcases (h.all k).1 hk with g | g | g | g | g
  · exact (h.foot k g).1
  · rw [g]; exact h.tale.lt
  · rw [g]; exact h.tale.ltf
  · exact (h.tale.r0.lt k g).2
  · exact (h.tale.r1.lt k g).2

/-- The row that a step tells. -/
def rowOf (xk xt xv : Int) : Rw := ⟨pickN xk 4, (pickN xt 200 : Int) - 100, pickN xv 50⟩

theorem orow0 {EngAt : Nat → J → List O → (Nat → Prop) → World → Prop} (E : EngFeeds EngAt) {base bt : Nat} {lo hi mode : Int} {A B : List Rw} {P : Nat → Prop} {w : World} (h : OTale EngAt base bt lo hi mode A B P w) (hbase : base ≤ w.heap.size) (hn : A.length + B.length ≤ 60) (xs xn xk xt xv : Int) (hs : pickN xs 2 = 0) :
    Calls Tryz.prog 9 #[.pointer (some ⟨bt, 0, none⟩), .agg #[.int .i64 0, .int .i64 xs, .int .i64 xn, .int .i64 xk, .int .i64 xt, .int .i64 xv]] w fun e w' => e = .returned (.bool true) ∧ ∃ P', OTale EngAt base bt lo hi mode (A ++ [rowOf xk xt xv]) B P' w' ∧ Turned P w w' ∧ ∀ k, P' k → P k ∨ w.heap.size ≤ k := by
  obtain ⟨be, bf, nF, va, vb, F, L, x, S, hT, hE, hS, hP, hH, hL, hFv, ⟨rfl, rfl, rfl⟩, hok, ⟨hm0, hm1, hla⟩, hnF, hsa, hsb⟩ := h
  have q1 := (pickN_lt xk 4 (by omega)).1
  have q2 := (pickN_lt xt 200 (by omega)).1
  have q3 := (pickN_lt xv 50 (by omega)).1
  obtain ⟨r, hr⟩ : ∃ r : Rw, r = rowOf xk xt xv := ⟨_, rfl⟩
  rw [← hr]
  have hrs : r.small := by rw [hr]; unfold Rw.small rowOf; simp only; omega
  have hrt : -100 ≤ r.t ∧ r.t ≤ 99 := by rw [hr]; unfold rowOf; simp only; omega
  have hg : goodI r.k r.t r.v = true := by
    obtain ⟨g1, g2, g3⟩ := hrs
    simp only [goodI, inI, Bool.and_eq_true, decide_eq_true_eq]
    omega
  have hl : x.m0 < r.t := by omega
  have hl0 := hH.len0
  have hl1 := hH.len1
  have hJ : JOk x := jok_of hH hok (by omega) (by omega) (by omega) (by omega) (by omega)
  have hvL := hH.view0 r hl hL
  have hvF := hH.view0 r hl hFv
  have hLl : L.length ≤ 20000 := by rw [hL.length_eq]; exact view_small _ _ _ A B 60 (by omega) hn
  have hFl : F.length ≤ 20000 := by rw [hFv.length_eq]; exact view_small _ _ _ A B 60 (by omega) hn
  have hm : ∀ y ∈ metR r.k (r.t + x.lo) (r.t + x.hi) x.R1, y.rw.small := fun y hy => hsb _ (hH.yet1 y (met_mem hy)).2.2.2
  have hcw := chgs_wf x.mode 0 r _ hrs hm
  have hcl := chgsA_len x.mode 0 r.k r.t r.v (metR r.k (r.t + x.lo) (r.t + x.hi) x.R1)
  have hml := met_len r.k (r.t + x.lo) (r.t + x.hi) x.R1
  have hH' := hH.fed0 r hl (by omega)
  refine (does0_0 (EngAt be x L) (EngAt be (x.fed0 r.k r.t r.v) (appC L (cF0 x r))) S (cF0 x r) r base bt be bf nF _ _ _ (-300) (-300) va vb A B F xs xn xk xt xv w hT hbase hs hr (E.steady _ _ _) (E.steady _ _ _) hE hS (fun W hW _ => E.feed0 be x L S W r hW hJ hg hl (fun _ => by omega) hvL.1 hcw (by omega)) hvF.1 hcw (by omega) (by omega) (by show (chgs _ _ _ _ _ _).length ≤ _; omega) (by omega)).mono ?_
  rintro e w' ⟨rfl, v', S', h1, h2, h3, h4, h5⟩
  refine ⟨rfl, fun k => S' k ∨ k = bt ∨ k = bf ∨ v'.ownBlock = some k ∨ vb.ownBlock = some k, ⟨be, bf, _, v', vb, _, _, _, S', h1, h2, fun k hk => (h3 k hk).2, fun k => Iff.rfl, hH', hvL.2, hvF.2, ⟨rfl, rfl, rfl⟩, hok, ⟨hm0, hm1, hla⟩, by show nF + (chgs _ _ _ _ _ _).length ≤ _; rw [List.length_append]; simp; omega, (fun q hq => by rcases List.mem_append.1 hq with g | g; (exact hsa q g); (simp at g; rw [g]; exact hrs)), hsb⟩, h4.mono (fun k hk => (hP k).2 ?_), fun k hk => ?_⟩
  · rcases hk with g | g | g | g
    · exact Or.inl g
    · exact Or.inr (Or.inl g)
    · exact Or.inr (Or.inr (Or.inl g))
    · exact Or.inr (Or.inr (Or.inr (Or.inl g)))
  · rcases hk with g | g | g | g | g
    · rcases (h3 k g).1 with g2 | g2
      · exact Or.inl ((hP k).2 (Or.inl g2))
      · exact Or.inr g2
    · exact Or.inl ((hP k).2 (Or.inr (Or.inl g)))
    · exact Or.inl ((hP k).2 (Or.inr (Or.inr (Or.inl g))))
    · rcases h5 with h5 | ⟨g9, h5, h6⟩
      · exact Or.inl ((hP k).2 (Or.inr (Or.inr (Or.inr (Or.inl (h5 ▸ g))))))
      · rw [h5] at g
        cases g
        exact Or.inr h6
    · exact Or.inl ((hP k).2 (Or.inr (Or.inr (Or.inr (Or.inr g)))))

theorem orow1 {EngAt : Nat → J → List O → (Nat → Prop) → World → Prop} (E : EngFeeds EngAt) {base bt : Nat} {lo hi mode : Int} {A B : List Rw} {P : Nat → Prop} {w : World} (h : OTale EngAt base bt lo hi mode A B P w) (hbase : base ≤ w.heap.size) (hn : A.length + B.length ≤ 60) (xs xn xk xt xv : Int) (hs : pickN xs 2 = 1) :
    Calls Tryz.prog 9 #[.pointer (some ⟨bt, 0, none⟩), .agg #[.int .i64 0, .int .i64 xs, .int .i64 xn, .int .i64 xk, .int .i64 xt, .int .i64 xv]] w fun e w' => e = .returned (.bool true) ∧ ∃ P', OTale EngAt base bt lo hi mode A (B ++ [rowOf xk xt xv]) P' w' ∧ Turned P w w' ∧ ∀ k, P' k → P k ∨ w.heap.size ≤ k := by
  obtain ⟨be, bf, nF, va, vb, F, L, x, S, hT, hE, hS, hP, hH, hL, hFv, ⟨rfl, rfl, rfl⟩, hok, ⟨hm0, hm1, hla⟩, hnF, hsa, hsb⟩ := h
  have q1 := (pickN_lt xk 4 (by omega)).1
  have q2 := (pickN_lt xt 200 (by omega)).1
  have q3 := (pickN_lt xv 50 (by omega)).1
  obtain ⟨r, hr⟩ : ∃ r : Rw, r = rowOf xk xt xv := ⟨_, rfl⟩
  rw [← hr]
  have hrs : r.small := by rw [hr]; unfold Rw.small rowOf; simp only; omega
  have hrt : -100 ≤ r.t ∧ r.t ≤ 99 := by rw [hr]; unfold rowOf; simp only; omega
  have hg : goodI r.k r.t r.v = true := by
    obtain ⟨g1, g2, g3⟩ := hrs
    simp only [goodI, inI, Bool.and_eq_true, decide_eq_true_eq]
    omega
  have hl : x.m1 < r.t := by omega
  have hl0 := hH.len0
  have hl1 := hH.len1
  have hJ : JOk x := jok_of hH hok (by omega) (by omega) (by omega) (by omega) (by omega)
  have hvL := hH.view1 r hl hL
  have hvF := hH.view1 r hl hFv
  have hLl : L.length ≤ 20000 := by rw [hL.length_eq]; exact view_small _ _ _ A B 60 (by omega) hn
  have hFl : F.length ≤ 20000 := by rw [hFv.length_eq]; exact view_small _ _ _ A B 60 (by omega) hn
  have hm : ∀ y ∈ metR r.k (r.t + -x.hi) (r.t + -x.lo) x.R0, y.rw.small := fun y hy => hsa _ (hH.yet0 y (met_mem hy)).2.2.2
  have hcw := chgs_wf x.mode 1 r _ hrs hm
  have hcl := chgsA_len x.mode 1 r.k r.t r.v (metR r.k (r.t + -x.hi) (r.t + -x.lo) x.R0)
  have hml := met_len r.k (r.t + -x.hi) (r.t + -x.lo) x.R0
  have hH' := hH.fed1 r hl (by omega)
  refine (does0_1 (EngAt be x L) (EngAt be (x.fed1 r.k r.t r.v) (appC L (cF1 x r))) S (cF1 x r) r base bt be bf nF _ _ _ (-300) (-300) va vb A B F xs xn xk xt xv w hT hbase hs hr (E.steady _ _ _) (E.steady _ _ _) hE hS (fun W hW _ => E.feed1 be x L S W r hW hJ hg hl (fun _ => by omega) hvL.1 hcw (by omega)) hvF.1 hcw (by omega) (by omega) (by show (chgs _ _ _ _ _ _).length ≤ _; omega) (by omega)).mono ?_
  rintro e w' ⟨rfl, v', S', h1, h2, h3, h4, h5⟩
  refine ⟨rfl, fun k => S' k ∨ k = bt ∨ k = bf ∨ va.ownBlock = some k ∨ v'.ownBlock = some k, ⟨be, bf, _, va, v', _, _, _, S', h1, h2, fun k hk => (h3 k hk).2, fun k => Iff.rfl, hH', hvL.2, hvF.2, ⟨rfl, rfl, rfl⟩, hok, ⟨hm0, hm1, hla⟩, by show nF + (chgs _ _ _ _ _ _).length ≤ _; rw [List.length_append]; simp; omega, hsa, (fun q hq => by rcases List.mem_append.1 hq with g | g; (exact hsb q g); (simp at g; rw [g]; exact hrs))⟩, h4.mono (fun k hk => (hP k).2 ?_), fun k hk => ?_⟩
  · rcases hk with g | g | g | g
    · exact Or.inl g
    · exact Or.inr (Or.inl g)
    · exact Or.inr (Or.inr (Or.inl g))
    · exact Or.inr (Or.inr (Or.inr (Or.inr g)))
  · rcases hk with g | g | g | g | g
    · rcases (h3 k g).1 with g2 | g2
      · exact Or.inl ((hP k).2 (Or.inl g2))
      · exact Or.inr g2
    · exact Or.inl ((hP k).2 (Or.inr (Or.inl g)))
    · exact Or.inl ((hP k).2 (Or.inr (Or.inr (Or.inl g))))
    · exact Or.inl ((hP k).2 (Or.inr (Or.inr (Or.inr (Or.inl g)))))
    · rcases h5 with h5 | ⟨g9, h5, h6⟩
      · exact Or.inl ((hP k).2 (Or.inr (Or.inr (Or.inr (Or.inr (h5 ▸ g))))))
      · rw [h5] at g
        cases g
        exact Or.inr h6

end Go.Proofs.YtpannogknebgaabGreatDoor
