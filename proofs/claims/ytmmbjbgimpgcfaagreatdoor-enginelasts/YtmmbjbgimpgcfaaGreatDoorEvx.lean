/- Evx: several texts in one. -/
import Derived.Test.YtmmbjbgimpgcfaaGreatDoorEve
/- A tale of rows alone (EngineOrder): which blocks it lies in, and that a row is taken, whatever came ahead. -/
namespace Go.Proofs.YtmmbjbgimpgcfaaGreatDoor
open Go.RowKit Go.Sort
set_option maxRecDepth 100000

/-- A tale of known parts, no mark of which has gone on; P: the blocks that it lies in. -/
structure Ord (EngAt : Nat → J → List O → (Nat → Prop) → World → Prop) (base bt : Nat) (lo hi mode : Int) (A B : List Rw) (P : Nat → Prop) (w : World) (be bf nF : Nat) (va vb : Value) (F L : List O) (x : J) (S : Nat → Prop) : Prop where
  tale : TaleAt w base bt (.pointer (some ⟨be, 0, none⟩)) lo hi mode (-300) (-300) va vb bf nF A B F
  eng : EngAt be x L S w
  foot : ∀ k, S k → k < w.heap.size ∧ k ≠ bt ∧ k ≠ bf ∧ va.ownBlock ≠ some k ∧ vb.ownBlock ≠ some k
  all : ∀ k, P k ↔ (S k ∨ k = bt ∨ k = bf ∨ va.ownBlock = some k ∨ vb.ownBlock = some k)
  holds : Holds x A B
  lv : L.Perm (viewOf lo hi mode A B)
  fv : F.Perm (viewOf lo hi mode A B)
  plan : x.lo = lo ∧ x.hi = hi ∧ x.mode = mode
  ok : planOk lo hi mode
  marks : x.m0 = -1099511627777 ∧ x.m1 = -1099511627777 ∧ x.late = 0
  nf : nF ≤ 700 * (A.length + B.length)
  sa : ∀ r ∈ A, r.small
  sb : ∀ r ∈ B, r.small
def OTale (EngAt : Nat → J → List O → (Nat → Prop) → World → Prop) (base bt : Nat) (lo hi mode : Int) (A B : List Rw) (P : Nat → Prop) (w : World) : Prop :=
  ∃ (be bf nF : Nat) (va vb : Value) (F L : List O) (x : J) (S : Nat → Prop), Ord EngAt base bt lo hi mode A B P w be bf nF va vb F L x S

theorem OTale.steady {EngAt : Nat → J → List O → (Nat → Prop) → World → Prop} (E : EngFeeds EngAt) {base bt : Nat} {lo hi mode : Int} {A B : List Rw} {P : Nat → Prop} {w W : World} (h : OTale EngAt base bt lo hi mode A B P w) (hs : w.heap.size ≤ W.heap.size) (hk : ∀ k, P k → W.heap[k]? = w.heap[k]?) : OTale EngAt base bt lo hi mode A B P W := by
  obtain ⟨be, bf, nF, va, vb, F, L, x, S, h⟩ := h
  refine ⟨be, bf, nF, va, vb, F, L, x, S, h.tale.kept (fun k _ hor => hk k ((h.all k).2 (Or.inr hor))), E.steady _ _ _ S w W h.eng hs (fun k hS => hk k ((h.all k).2 (Or.inl hS))), fun k hS => ⟨Nat.lt_of_lt_of_le (h.foot k hS).1 hs, (h.foot k hS).2⟩, h.all, h.holds, h.lv, h.fv, h.plan, h.ok, h.marks, h.nf, h.sa, h.sb⟩
theorem OTale.lt {EngAt : Nat → J → List O → (Nat → Prop) → World → Prop} {base bt : Nat} {lo hi mode : Int} {A B : List Rw} {P : Nat → Prop} {w : World} (h : OTale EngAt base bt lo hi mode A B P w) : ∀ k, P k → k < w.heap.size := by
  obtain ⟨be, bf, nF, va, vb, F, L, x, S, h⟩ := h
  intro k hk
  rcases (h.all k).1 hk with g | g | g | g | g
  · exact (h.foot k g).1
  · rw [g]; exact h.tale.lt
  · rw [g]; exact h.tale.ltf
  · exact (h.tale.r0.lt k g).2
  · exact (h.tale.r1.lt k g).2

/-- The row that a step tells. -/
def rowOf (xk xt xv : Int) : Rw := ⟨pickN xk 4, (pickN xt 200 : Int) - 100, pickN xv 50⟩

theorem orow0 {EngAt : Nat → J → List O → (Nat → Prop) → World → Prop} (E : EngFeeds EngAt) {base bt : Nat} {lo hi mode : Int} {A B : List Rw} {P : Nat → Prop} {w : World} (h : OTale EngAt base bt lo hi mode A B P w) (hbase : base ≤ w.heap.size) (hn : A.length + B.length ≤ 60) (xs xn xk xt xv : Int) (hs : pickN xs 2 = 0) :
    Calls Tryz.prog 9 #[.pointer (some ⟨bt, 0, none⟩), .agg #[.int .i64 0, .int .i64 xs, .int .i64 xn, .int .i64 xk, .int .i64 xt, .int .i64 xv]] w fun e w' => e = .returned (.bool true) ∧ ∃ P', OTale EngAt base bt lo hi mode (A ++ [rowOf xk xt xv]) B P' w' ∧ Turned P w w' ∧ ∀ k, P' k → P k ∨ w.heap.size ≤ k := by
  obtain ⟨be, bf, nF, va, vb, F, L, x, S, hT, hE, hS, hP, hH, hL, hFv, ⟨rfl, rfl, rfl⟩, hok, ⟨hm0, hm1, hla⟩, hnF, hsa, hsb⟩ := h
  have q1 := (pickN_lt xk 4 (by omega)).1
  have q2 := (pickN_lt xt 200 (by omega)).1
  have q3 := (pickN_lt xv 50 (by omega)).1
  obtain ⟨r, hr⟩ : ∃ r : Rw, r = rowOf xk xt xv := ⟨_, rfl⟩
  rw [← hr]
  have hrs : r.small := by rw [hr]; unfold Rw.small rowOf; simp only; omega
  have hrt : -100 ≤ r.t ∧ r.t ≤ 99 := by rw [hr]; unfold rowOf; simp only; omega
  have hg : goodI r.k r.t r.v = true := by
    obtain ⟨g1, g2, g3⟩ := hrs
    simp only [goodI, inI, Bool.and_eq_true, decide_eq_true_eq]
    omega
  have hl : x.m0 < r.t := by omega
  have hl0 := hH.len0
  have hl1 := hH.len1
  have hJ : JOk x := jok_of hH hok (by omega) (by omega) (by omega) (by omega) (by omega)
  have hvL := hH.view0 r hl hL
  have hvF := hH.view0 r hl hFv
  have hLl : L.length ≤ 20000 := by rw [hL.length_eq]; exact view_small _ _ _ A B 60 (by omega) hn
  have hFl : F.length ≤ 20000 := by rw [hFv.length_eq]; exact view_small _ _ _ A B 60 (by omega) hn
  have hm : ∀ y ∈ metR r.k (r.t + x.lo) (r.t + x.hi) x.R1, y.rw.small := fun y hy => hsb _ (hH.yet1 y (met_mem hy)).2.2.2
  have hcw := chgs_wf x.mode 0 r _ hrs hm
  have hcl := chgsA_len x.mode 0 r.k r.t r.v (metR r.k (r.t + x.lo) (r.t + x.hi) x.R1)
  have hml := met_len r.k (r.t + x.lo) (r.t + x.hi) x.R1
  have hH' := hH.fed0 r hl (by omega)
  refine (does0_0 (EngAt be x L) (EngAt be (x.fed0 r.k r.t r.v) (appC L (cF0 x r))) S (cF0 x r) r base bt be bf nF _ _ _ (-300) (-300) va vb A B F xs xn xk xt xv w hT hbase hs hr (E.steady _ _ _) (E.steady _ _ _) hE hS (fun W hW _ => E.feed0 be x L S W r hW hJ hg hl (fun _ => by omega) hvL.1 hcw (by omega)) hvF.1 hcw (by omega) (by omega) (by show (chgs _ _ _ _ _ _).length ≤ _; omega) (by omega)).mono ?_
  rintro e w' ⟨rfl, v', S', h1, h2, h3, h4, h5⟩
  refine ⟨rfl, fun k => S' k ∨ k = bt ∨ k = bf ∨ v'.ownBlock = some k ∨ vb.ownBlock = some k, ⟨be, bf, _, v', vb, _, _, _, S', h1, h2, fun k hk => (h3 k hk).2, fun k => Iff.rfl, hH', hvL.2, hvF.2, ⟨rfl, rfl, rfl⟩, hok, ⟨hm0, hm1, hla⟩, by show nF + (chgs _ _ _ _ _ _).length ≤ _; rw [List.length_append]; simp; omega, (fun q hq => by rcases List.mem_append.1 hq with g | g; (exact hsa q g); (simp at g; rw [g]; exact hrs)), hsb⟩, h4.mono (fun k hk => (hP k).2 ?_), fun k hk => ?_⟩
  · rcases hk with g | g | g | g
    · exact Or.inl g
    · exact Or.inr (Or.inl g)
    · exact Or.inr (Or.inr (Or.inl g))
    · exact Or.inr (Or.inr (Or.inr (Or.inl g)))
  · rcases hk with g | g | g | g | g
    · rcases (h3 k g).1 with g2 | g2
      · exact Or.inl ((hP k).2 (Or.inl g2))
      · exact Or.inr g2
    · exact Or.inl ((hP k).2 (Or.inr (Or.inl g)))
    · exact Or.inl ((hP k).2 (Or.inr (Or.inr (Or.inl g))))
    · rcases h5 with h5 | ⟨g9, h5, h6⟩
      · exact Or.inl ((hP k).2 (Or.inr (Or.inr (Or.inr (Or.inl (h5 ▸ g))))))
      · rw [h5] at g
        cases g
        exact Or.inr h6
    · exact Or.inl ((hP k).2 (Or.inr (Or.inr (Or.inr (Or.inr g)))))

theorem orow1 {EngAt : Nat → J → List O → (Nat → Prop) → World → Prop} (E : EngFeeds EngAt) {base bt : Nat} {lo hi mode : Int} {A B : List Rw} {P : Nat → Prop} {w : World} (h : OTale EngAt base bt lo hi mode A B P w) (hbase : base ≤ w.heap.size) (hn : A.length + B.length ≤ 60) (xs xn xk xt xv : Int) (hs : pickN xs 2 = 1) :
    Calls Tryz.prog 9 #[.pointer (some ⟨bt, 0, none⟩), .agg #[.int .i64 0, .int .i64 xs, .int .i64 xn, .int .i64 xk, .int .i64 xt, .int .i64 xv]] w fun e w' => e = .returned (.bool true) ∧ ∃ P', OTale EngAt base bt lo hi mode A (B ++ [rowOf xk xt xv]) P' w' ∧ Turned P w w' ∧ ∀ k, P' k → P k ∨ w.heap.size ≤ k := by
  obtain ⟨be, bf, nF, va, vb, F, L, x, S, hT, hE, hS, hP, hH, hL, hFv, ⟨rfl, rfl, rfl⟩, hok, ⟨hm0, hm1, hla⟩, hnF, hsa, hsb⟩ := h
  have q1 := (pickN_lt xk 4 (by omega)).1
  have q2 := (pickN_lt xt 200 (by omega)).1
  have q3 := (pickN_lt xv 50 (by omega)).1
  obtain ⟨r, hr⟩ : ∃ r : Rw, r = rowOf xk xt xv := ⟨_, rfl⟩
  rw [← hr]
  have hrs : r.small := by rw [hr]; unfold Rw.small rowOf; simp only; omega
  have hrt : -100 ≤ r.t ∧ r.t ≤ 99 := by rw [hr]; unfold rowOf; simp only; omega
  have hg : goodI r.k r.t r.v = true := by
    obtain ⟨g1, g2, g3⟩ := hrs
    simp only [goodI, inI, Bool.and_eq_true, decide_eq_true_eq]
    omega
  have hl : x.m1 < r.t := by omega
  have hl0 := hH.len0
  have hl1 := hH.len1
  have hJ : JOk x := jok_of hH hok (by omega) (by omega) (by omega) (by omega) (by omega)
  have hvL := hH.view1 r hl hL
  have hvF := hH.view1 r hl hFv
  have hLl : L.length ≤ 20000 := by rw [hL.length_eq]; exact view_small _ _ _ A B 60 (by omega) hn
  have hFl : F.length ≤ 20000 := by rw [hFv.length_eq]; exact view_small _ _ _ A B 60 (by omega) hn
  have hm : ∀ y ∈ metR r.k (r.t + -x.hi) (r.t + -x.lo) x.R0, y.rw.small := fun y hy => hsa _ (hH.yet0 y (met_mem hy)).2.2.2
  have hcw := chgs_wf x.mode 1 r _ hrs hm
  have hcl := chgsA_len x.mode 1 r.k r.t r.v (metR r.k (r.t + -x.hi) (r.t + -x.lo) x.R0)
  have hml := met_len r.k (r.t + -x.hi) (r.t + -x.lo) x.R0
  have hH' := hH.fed1 r hl (by omega)
  refine (does0_1 (EngAt be x L) (EngAt be (x.fed1 r.k r.t r.v) (appC L (cF1 x r))) S (cF1 x r) r base bt be bf nF _ _ _ (-300) (-300) va vb A B F xs xn xk xt xv w hT hbase hs hr (E.steady _ _ _) (E.steady _ _ _) hE hS (fun W hW _ => E.feed1 be x L S W r hW hJ hg hl (fun _ => by omega) hvL.1 hcw (by omega)) hvF.1 hcw (by omega) (by omega) (by show (chgs _ _ _ _ _ _).length ≤ _; omega) (by omega)).mono ?_
  rintro e w' ⟨rfl, v', S', h1, h2, h3, h4, h5⟩
  refine ⟨rfl, fun k => S' k ∨ k = bt ∨ k = bf ∨ va.ownBlock = some k ∨ v'.ownBlock = some k, ⟨be, bf, _, va, v', _, _, _, S', h1, h2, fun k hk => (h3 k hk).2, fun k => Iff.rfl, hH', hvL.2, hvF.2, ⟨rfl, rfl, rfl⟩, hok, ⟨hm0, hm1, hla⟩, by show nF + (chgs _ _ _ _ _ _).length ≤ _; rw [List.length_append]; simp; omega, hsa, (fun q hq => by rcases List.mem_append.1 hq with g | g; (exact hsb q g); (simp at g; rw [g]; exact hrs))⟩, h4.mono (fun k hk => (hP k).2 ?_), fun k hk => ?_⟩
  · rcases hk with g | g | g | g
    · exact Or.inl g
    · exact Or.inr (Or.inl g)
    · exact Or.inr (Or.inr (Or.inl g))
    · exact Or.inr (Or.inr (Or.inr (Or.inr g)))
  · rcases hk with g | g | g | g | g
    · rcases (h3 k g).1 with g2 | g2
      · exact Or.inl ((hP k).2 (Or.inl g2))
      · exact Or.inr g2
    · exact Or.inl ((hP k).2 (Or.inr (Or.inl g)))
    · exact Or.inl ((hP k).2 (Or.inr (Or.inr (Or.inl g))))
    · exact Or.inl ((hP k).2 (Or.inr (Or.inr (Or.inr (Or.inl g)))))
    · rcases h5 with h5 | ⟨g9, h5, h6⟩
      · exact Or.inl ((hP k).2 (Or.inr (Or.inr (Or.inr (Or.inr (h5 ▸ g))))))
      · rw [h5] at g
        cases g
        exact Or.inr h6

end Go.Proofs.YtmmbjbgimpgcfaaGreatDoor

/- Two tales side by side, and the steps that are left (EngineOrder). -/
namespace Go.Proofs.YtmmbjbgimpgcfaaGreatDoor
open Go.RowKit Go.Sort
set_option maxRecDepth 100000

/-- A step. -/
structure St where
  wh : Int
  s : Int
  n : Int
  k : Int
  t : Int
  v : Int
  deriving DecidableEq, Inhabited
def encS (q : St) : List Value := [.int .i64 q.wh, .int .i64 q.s, .int .i64 q.n, .int .i64 q.k, .int .i64 q.t, .int .i64 q.v]
def zSt : Value := .agg #[.int .i64 0, .int .i64 0, .int .i64 0, .int .i64 0, .int .i64 0, .int .i64 0]
theorem infoSt : (Tryz.prog.info? 28).map (fun i => (i.zero, i.size, i.bytes)) = some (some zSt, 6, 48) := by kernel_rfl
theorem encS_len (q : St) : (encS q).length = 6 := rfl
theorem encS_one (q : St) : ∀ u ∈ encS q, u.oneCell' = true := by
  intro u hu; simp [encS] at hu; rcases hu with rfl | rfl | rfl | rfl | rfl | rfl <;> rfl
theorem flatS_len (xs : List St) : (xs.flatMap encS).length = xs.length * 6 := by
  induction xs with
  | nil => rfl
  | cons a r ih => rw [List.flatMap_cons, List.length_append, ih, encS_len, List.length_cons]; omega
theorem flatS_one (R : List St) : ∀ u ∈ R.flatMap encS, u.oneCell' = true := by
  intro u hu
  obtain ⟨x, _, h⟩ := List.mem_flatMap.1 hu
  exact encS_one x u h
theorem flatS_get (xs : List St) (k j : Nat) (x : St) (hx : xs[k]? = some x) (hj : j < 6) : (xs.flatMap encS)[k * 6 + j]? = (encS x)[j]? := by
  induction xs generalizing k with
  | nil => simp at hx
  | cons a r ih =>
    rw [List.flatMap_cons]
    cases k with
    | zero =>
      simp at hx
      subst hx
      rw [List.getElem?_append_left (by rw [encS_len]; omega)]
      congr 1; omega
    | succ k =>
      rw [List.getElem?_append_right (by rw [encS_len]; omega), encS_len, show (k + 1) * 6 + j - 6 = k * 6 + j by omega]
      exact ih k (by simpa using hx)
theorem st_cells {W : World} {base gs n ck : Nat} {xs : List St} (h : W.ownsRow base 28 6 (.slice (some ⟨gs, 0, none⟩) n ck) n (xs.flatMap encS)) (k : Nat) (q : St) (hx : xs[k]? = some q) :
    W.cell? ⟨gs, k * 6, none⟩ = some (.int .i64 q.wh) ∧ W.cell? ⟨gs, k * 6 + 1, none⟩ = some (.int .i64 q.s) ∧ W.cell? ⟨gs, k * 6 + 2, none⟩ = some (.int .i64 q.n) ∧ W.cell? ⟨gs, k * 6 + 3, none⟩ = some (.int .i64 q.k) ∧ W.cell? ⟨gs, k * 6 + 4, none⟩ = some (.int .i64 q.t) ∧ W.cell? ⟨gs, k * 6 + 5, none⟩ = some (.int .i64 q.v) := by
  have key := fun (j : Nat) (v : Value) (hj : j < 6) (hv : (encS q)[j]? = some v) => h.cells (g := gs) rfl (k * 6 + j) v ((flatS_get xs k j q hx hj).trans hv)
  simp only [add_at] at key
  exact ⟨key 0 _ (by omega) rfl, key 1 _ (by omega) rfl, key 2 _ (by omega) rfl, key 3 _ (by omega) rfl, key 4 _ (by omega) rfl, key 5 _ (by omega) rfl⟩

/-- The rows of a side that steps tell. -/
def rowsOf (s : Nat) (T : List St) : List Rw := (T.filter fun q => decide (pickN q.s 2 = s)).map fun q => rowOf q.k q.t q.v
theorem rowsOf_snoc (s : Nat) (T : List St) (q : St) : rowsOf s (T ++ [q]) = rowsOf s T ++ (if pickN q.s 2 = s then [rowOf q.k q.t q.v] else []) := by
  unfold rowsOf
  rw [List.filter_append, List.map_append]
  by_cases h : pickN q.s 2 = s <;> simp [h]
theorem rowsOf_len : ∀ T : List St, (rowsOf 0 T).length + (rowsOf 1 T).length ≤ T.length
  | [] => by simp [rowsOf]
  | q :: T => by
    have ih := rowsOf_len T
    unfold rowsOf at *
    simp only [List.filter_cons, List.length_cons, List.length_map] at *
    by_cases h0 : pickN q.s 2 = 0
    · simp [h0]; omega
    · by_cases h1 : pickN q.s 2 = 1
      · simp [h1]; omega
      · simp [h0, h1]; omega
theorem rowsOf_perm {s : Nat} {T T' : List St} (h : T.Perm T') : (rowsOf s T).Perm (rowsOf s T') := (h.filter _).map _

/-- A tale behind steps T, alone. -/
abbrev After (EngAt : Nat → J → List O → (Nat → Prop) → World → Prop) (base bt : Nat) (lo hi mode : Int) (T : List St) (P : Nat → Prop) (w : World) : Prop := OTale EngAt base bt lo hi mode (rowsOf 0 T) (rowsOf 1 T) P w

theorem after_step {EngAt : Nat → J → List O → (Nat → Prop) → World → Prop} (E : EngFeeds EngAt) {base bt : Nat} {lo hi mode : Int} {T : List St} {P : Nat → Prop} {w : World} (h : After EngAt base bt lo hi mode T P w) (hbase : base ≤ w.heap.size) (hn : T.length ≤ 60) (q : St) (hq : q.wh = 0) :
    Calls Tryz.prog 9 #[.pointer (some ⟨bt, 0, none⟩), .agg #[.int .i64 q.wh, .int .i64 q.s, .int .i64 q.n, .int .i64 q.k, .int .i64 q.t, .int .i64 q.v]] w fun e w' => e = .returned (.bool true) ∧ ∃ P', After EngAt base bt lo hi mode (T ++ [q]) P' w' ∧ Turned P w w' ∧ ∀ k, P' k → P k ∨ w.heap.size ≤ k := by
  have hp := (pickN_lt q.s 2 (by omega)).1
  have hl := rowsOf_len T
  unfold After
  rw [rowsOf_snoc, rowsOf_snoc, hq]
  have hp2 : pickN q.s 2 = 0 ∨ pickN q.s 2 = 1 := by omega
  rcases hp2 with h0 | h0
  · rw [h0, if_pos rfl, if_neg (by omega), List.append_nil]
    exact orow0 E h hbase (by omega) q.s q.n q.k q.t q.v h0
  · rw [h0, if_neg (by omega), if_pos rfl, List.append_nil]
    exact orow1 E h hbase (by omega) q.s q.n q.k q.t q.v h0

/-- Two tales, and the steps that are left. -/
structure Two (EngAt : Nat → J → List O → (Nat → Prop) → World → Prop) (w0 : World) (ba bb : Nat) (lo hi mode : Int) (Ta Tb : List St) (v : Value) (Q : List St) (w : World) : Prop where
  ex : ∃ Pa Pb : Nat → Prop, After EngAt w0.heap.size ba lo hi mode Ta Pa w ∧ After EngAt w0.heap.size bb lo hi mode Tb Pb w ∧ (∀ k, Pa k → ¬ Pb k) ∧ (∀ k, Pa k ∨ Pb k → w0.heap.size ≤ k ∧ v.ownBlock ≠ some k)
  row : w.ownsRow w0.heap.size 28 6 v Q.length (Q.flatMap encS)
  low : Below w0.heap.size w0 w

theorem Two.a {EngAt : Nat → J → List O → (Nat → Prop) → World → Prop} (E : EngFeeds EngAt) {w0 : World} {ba bb : Nat} {lo hi mode : Int} {Ta Tb : List St} {v : Value} {Q : List St} {w : World} (h : Two EngAt w0 ba bb lo hi mode Ta Tb v Q w) (hn : Ta.length ≤ 60) (q : St) (hq : q.wh = 0) :
    Calls Tryz.prog 9 #[.pointer (some ⟨ba, 0, none⟩), .agg #[.int .i64 q.wh, .int .i64 q.s, .int .i64 q.n, .int .i64 q.k, .int .i64 q.t, .int .i64 q.v]] w fun e w' => e = .returned (.bool true) ∧ Two EngAt w0 ba bb lo hi mode (Ta ++ [q]) Tb v Q w' := by
  obtain ⟨⟨Pa, Pb, h1, h2, h3, h4⟩, hr, hl⟩ := h
  refine (after_step E h1 hl.size hn q hq).mono ?_
  rintro e w' ⟨rfl, P', g1, g2, g3⟩
  have hlb := OTale.lt h2
  refine ⟨rfl, ⟨P', Pb, g1, OTale.steady E h2 g2.size (fun k hk => g2.block k (hlb k hk) (fun e => h3 k e hk)), fun k hk hb => ?_, fun k hk => ?_⟩, own_still hr (fun g e => g2.block g (hr.lt g e).2 (fun e2 => (h4 g (Or.inl e2)).2 e)), hl.trans (g2.below hl.size (fun k hk => (h4 k (Or.inl hk)).1))⟩
  · rcases g3 k hk with g | g
    · exact h3 k g hb
    · have := hlb k hb; omega
  · rcases hk with hk | hk
    · rcases g3 k hk with g | g
      · exact h4 k (Or.inl g)
      · have := hl.size
        exact ⟨by omega, fun e => by have := (hr.lt k e).2; omega⟩
    · exact h4 k (Or.inr hk)
theorem Two.b {EngAt : Nat → J → List O → (Nat → Prop) → World → Prop} (E : EngFeeds EngAt) {w0 : World} {ba bb : Nat} {lo hi mode : Int} {Ta Tb : List St} {v : Value} {Q : List St} {w : World} (h : Two EngAt w0 ba bb lo hi mode Ta Tb v Q w) (hn : Tb.length ≤ 60) (q : St) (hq : q.wh = 0) :
    Calls Tryz.prog 9 #[.pointer (some ⟨bb, 0, none⟩), .agg #[.int .i64 q.wh, .int .i64 q.s, .int .i64 q.n, .int .i64 q.k, .int .i64 q.t, .int .i64 q.v]] w fun e w' => e = .returned (.bool true) ∧ Two EngAt w0 ba bb lo hi mode Ta (Tb ++ [q]) v Q w' := by
  obtain ⟨⟨Pa, Pb, h1, h2, h3, h4⟩, hr, hl⟩ := h
  refine (after_step E h2 hl.size hn q hq).mono ?_
  rintro e w' ⟨rfl, P', g1, g2, g3⟩
  have hla := OTale.lt h1
  refine ⟨rfl, ⟨Pa, P', OTale.steady E h1 g2.size (fun k hk => g2.block k (hla k hk) (fun e => h3 k hk e)), g1, fun k hk hb => ?_, fun k hk => ?_⟩, own_still hr (fun g e => g2.block g (hr.lt g e).2 (fun e2 => (h4 g (Or.inr e2)).2 e)), hl.trans (g2.below hl.size (fun k hk => (h4 k (Or.inr hk)).1))⟩
  · rcases g3 k hb with g | g
    · exact h3 k hk g
    · have := hla k hk; omega
  · rcases hk with hk | hk
    · exact h4 k (Or.inl hk)
    · rcases g3 k hk with g | g
      · exact h4 k (Or.inr g)
      · have := hl.size
        exact ⟨by omega, fun e => by have := (hr.lt k e).2; omega⟩

end Go.Proofs.YtmmbjbgimpgcfaaGreatDoor

/- EngineOrder: the beginning of both tales; the steps that are left, stored and taken out. -/
namespace Go.Proofs.YtmmbjbgimpgcfaaGreatDoor
open Go.RowKit Go.Sort
set_option maxRecDepth 100000

theorem otale_begins {EngAt : Nat → J → List O → (Nat → Prop) → World → Prop} (E : EngFeeds EngAt) (low high md : Int) (base : Nat) (w : World) (_hb : base ≤ w.heap.size) :
    Calls Tryz.prog 8 #[.int .i64 low, .int .i64 high, .int .i64 md] w fun e w' => ∃ bt P, e = .returned (.pointer (some ⟨bt, 0, none⟩)) ∧ After EngAt base bt (loOf low) (hiOf low high) (modeOf md) [] P w' ∧ (∀ k, P k → w.heap.size ≤ k) ∧ Below w.heap.size w w' := by
  have hok := plan_ok low high md
  refine (tale_new (fun be lo hi mode S W => EngAt be ⟨lo, hi, mode, -1099511627777, -1099511627777, 0, [], []⟩ [] S W) low high md w (fun be lo hi mode => E.steady _ _ _) (fun lo hi mode W h => E.new lo hi mode W h)).mono ?_
  rintro e w' ⟨bt, be, bf, S, rfl, h1, h2, h3, h4, h5, h6⟩
  have hH : Holds ⟨loOf low, hiOf low high, modeOf md, -1099511627777, -1099511627777, 0, [], []⟩ [] [] := Holds.new _ _ _ _ _ _
  have h1' : TaleAt w' base bt (.pointer (some ⟨be, 0, none⟩)) (loOf low) (hiOf low high) (modeOf md) (-300) (-300) (.slice none 0 0) (.slice none 0 0) bf 0 [] [] [] := ⟨h1.blk, World.ownsRow_nil _ _ _ _, World.ownsRow_nil _ _ _ _, h1.apart, h1.fold⟩
  refine ⟨bt, fun k => S k ∨ k = bt ∨ k = bf ∨ (Value.slice none 0 0).ownBlock = some k ∨ (Value.slice none 0 0).ownBlock = some k, rfl, ⟨be, bf, 0, .slice none 0 0, .slice none 0 0, [], [], _, S, h1', h2, fun k hk => ⟨(h3 k hk).2.1, (h3 k hk).2.2.1, (h3 k hk).2.2.2, by simp [Value.ownBlock], by simp [Value.ownBlock]⟩, fun k => Iff.rfl, hH, ?_, ?_, ⟨rfl, rfl, rfl⟩, hok, ⟨rfl, rfl, rfl⟩, by simp, by simp [rowsOf], by simp [rowsOf]⟩, ?_, h6⟩
  · unfold rowsOf viewOf allOf; simp
  · unfold rowsOf viewOf allOf; simp
  · intro k hk
    rcases hk with g | g | g | g | g
    · exact (h3 k g).1
    · omega
    · omega
    · simp [Value.ownBlock] at g
    · simp [Value.ownBlock] at g

theorem Two.below {EngAt : Nat → J → List O → (Nat → Prop) → World → Prop} (E : EngFeeds EngAt) {w0 : World} {ba bb : Nat} {lo hi mode : Int} {Ta Tb : List St} {v : Value} {Q : List St} {w w' : World} (h : Two EngAt w0 ba bb lo hi mode Ta Tb v Q w) (hb : Below w.heap.size w w') : Two EngAt w0 ba bb lo hi mode Ta Tb v Q w' := by
  obtain ⟨⟨Pa, Pb, h1, h2, h3, h4⟩, hr, hl⟩ := h
  exact ⟨⟨Pa, Pb, OTale.steady E h1 hb.size (fun k hk => hb.block k (OTale.lt h1 k hk)), OTale.steady E h2 hb.size (fun k hk => hb.block k (OTale.lt h2 k hk)), h3, h4⟩, kept_below hr hb, hl.trans (hb.mono hl.size)⟩

/-- The steps that are left lie elsewhere, or are turned. -/
theorem Two.other {EngAt : Nat → J → List O → (Nat → Prop) → World → Prop} (E : EngFeeds EngAt) {w0 : World} {ba bb : Nat} {lo hi mode : Int} {Ta Tb : List St} {v v' : Value} {Q Q' : List St} {w w' : World} (h : Two EngAt w0 ba bb lo hi mode Ta Tb v Q w) (hrow : w'.ownsRow w0.heap.size 28 6 v' Q'.length (Q'.flatMap encS)) (hg : w.grownBy w' v.ownBlock) (hv : v'.ownBlock = v.ownBlock ∨ ∃ g, v'.ownBlock = some g ∧ w.heap.size ≤ g) : Two EngAt w0 ba bb lo hi mode Ta Tb v' Q' w' := by
  obtain ⟨⟨Pa, Pb, h1, h2, h3, h4⟩, hr, hl⟩ := h
  have hla := OTale.lt h1
  have hlb := OTale.lt h2
  have hk : ∀ k, Pa k ∨ Pb k → k < w.heap.size → w'.heap[k]? = w.heap[k]? := fun k hk hlt => hg.block k hlt (fun e => (h4 k hk).2 e.symm)
  refine ⟨⟨Pa, Pb, OTale.steady E h1 hg.size (fun k hP => hk k (Or.inl hP) (hla k hP)), OTale.steady E h2 hg.size (fun k hP => hk k (Or.inr hP) (hlb k hP)), h3, fun k hP => ⟨(h4 k hP).1, fun e => ?_⟩⟩, hrow, ?_⟩
  · rcases hv with hv | ⟨g, hv, hgl⟩
    · exact (h4 k hP).2 (hv.symm.trans e)
    · rw [hv] at e
      cases e
      rcases hP with hP | hP
      · have := hla _ hP; omega
      · have := hlb _ hP; omega
  · exact hl.grown hg hl.size (fun k e => (hr.lt k e).1)

def z0 (q : St) : St := { q with wh := 0 }
theorem flatS_set0 (Q : List St) (i : Nat) (q : St) (hq : Q[i]? = some q) : (Q.set i (z0 q)).flatMap encS = (Q.flatMap encS).set (i * 6) (.int .i64 0) := by
  induction Q generalizing i with
  | nil => simp at hq
  | cons a r ih =>
    cases i with
    | zero => simp at hq; subst hq; simp [encS, z0]
    | succ i =>
      rw [List.set_cons_succ, List.flatMap_cons, List.flatMap_cons, ih i (by simpa using hq)]
      simp [encS, show (i + 1) * 6 = i * 6 + 1 + 1 + 1 + 1 + 1 + 1 by omega]

/-- 'left[i].What = 0'. -/
theorem Two.zero {EngAt : Nat → J → List O → (Nat → Prop) → World → Prop} (E : EngFeeds EngAt) {w0 : World} {ba bb : Nat} {lo hi mode : Int} {Ta Tb : List St} {gs ck : Nat} {Q : List St} {w : World} {i : Nat} {q : St} (h : Two EngAt w0 ba bb lo hi mode Ta Tb (.slice (some ⟨gs, 0, none⟩) Q.length ck) Q w) (hq : Q[i]? = some q) :
    Two EngAt w0 ba bb lo hi mode Ta Tb (.slice (some ⟨gs, 0, none⟩) Q.length ck) (Q.set i (z0 q)) (w.setCell ⟨gs, i * 6, none⟩ (.int .i64 0)) := by
  have h1 := own_setCell h.row (i * 6) (.int .i64 0)
  rw [← flatS_set0 Q i q hq] at h1
  refine Two.other E (Q' := Q.set i (z0 q)) h ?_ ⟨rfl, rfl, rfl, by simp, fun k _ hne => Below.heap_setCell _ _ _ _ (fun e => hne (by rw [e]; rfl))⟩ (Or.inl rfl)
  rw [List.length_set]
  exact h1

/-- One is taken out. -/
def outQ (Q : List St) (k : Nat) : List St := Q.take k ++ Q.drop (k + 1)
theorem outQ_perm (Q : List St) (k : Nat) (q : St) (h : Q[k]? = some q) : (q :: outQ Q k).Perm Q := by
  obtain ⟨hk, e⟩ := List.getElem?_eq_some_iff.1 h
  have h1 : Q = Q.take k ++ q :: Q.drop (k + 1) := by rw [← e, List.getElem_cons_drop hk, List.take_append_drop]
  unfold outQ
  conv => rhs; rw [h1]
  exact List.perm_middle.symm
theorem outQ_len (Q : List St) (k : Nat) (h : k < Q.length) : (outQ Q k).length + 1 = Q.length := by
  unfold outQ; rw [List.length_append, List.length_take, List.length_drop]; omega

end Go.Proofs.YtmmbjbgimpgcfaaGreatDoor
