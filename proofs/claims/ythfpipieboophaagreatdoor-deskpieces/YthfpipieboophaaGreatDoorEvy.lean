/- Evy: several texts in one. -/
import Derived.Test.YthfpipieboophaaGreatDoorVwz
import Derived.Lib.LaidTab
import Derived.Lib.ItoaNum
/- What an engine says, and what a step does then. -/
namespace Go.Proofs.YthfpipieboophaaGreatDoor
open Go.RowKit Go.Sort
set_option maxRecDepth 100000
structure JOk (x : J) : Prop where
  lo1 : -1048576 ≤ x.lo
  lo2 : x.lo ≤ 1048576
  hi1 : -1048576 ≤ x.hi
  hi2 : x.hi ≤ 1048576
  s0 : SortedR x.R0
  s1 : SortedR x.R1
  l0 : x.R0.length ≤ 300
  l1 : x.R1.length ≤ 300
  n0 : ∀ y ∈ x.R0, 0 ≤ y.n ∧ y.n ≤ 1000000
  n1 : ∀ y ∈ x.R1, 0 ≤ y.n ∧ y.n ≤ 1000000
  late : 0 ≤ x.late ∧ x.late ≤ 1000000
abbrev cF0 (x : J) (r : Rw) : List Ch := chgs x.mode 0 r.k r.t r.v (metR r.k (r.t + x.lo) (r.t + x.hi) x.R1)
abbrev cF1 (x : J) (r : Rw) : List Ch := chgs x.mode 1 r.k r.t r.v (metR r.k (r.t + -x.hi) (r.t + -x.lo) x.R0)
abbrev FootTo (S S' : Nat → Prop) (W w' : World) : Prop := (∀ k, S' k → (S k ∨ W.heap.size ≤ k) ∧ k < w'.heap.size) ∧ Turned S W w'
def errT : Value := .iface 278 (.agg #[.pointer (some ⟨12, 29, none⟩)])
structure EngFeeds (EngAt : Nat → J → List O → (Nat → Prop) → World → Prop) : Prop where
  steady : ∀ be x L, Steady (EngAt be x L)
  foot : ∀ be x L S W, EngAt be x L S W → ∀ k, S k → k < W.heap.size
  new : ∀ lo hi mode W, planOk lo hi mode → Calls Tryz.prog 13 #[.agg #[.int .i64 lo, .int .i64 hi, .int .i64 mode]] W fun e w' => ∃ be S, e = .returned (.tuple #[.pointer (some ⟨be, 0, none⟩), .nilIface]) ∧ EngAt be ⟨lo, hi, mode, -1099511627777, -1099511627777, 0, [], []⟩ [] S w' ∧ (∀ k, S k → W.heap.size ≤ k ∧ k < w'.heap.size) ∧ Below W.heap.size W w'
  feed0 : ∀ be x L S W (r : Rw), EngAt be x L S W → JOk x → goodI r.k r.t r.v = true → x.m0 < r.t → (x.m1 < r.t + x.hi → x.R0.length < 300) → okC L (cF0 x r) → (∀ c ∈ cF0 x r, c.x.wf) → L.length ≤ 1000000 →
    Calls Tryz.prog 11 #[.pointer (some ⟨be, 0, none⟩), .int .i64 0, .agg #[.int .i64 r.k, .int .i64 r.t, .int .i64 r.v]] W fun e w' => ∃ v9 S', e = .returned (.tuple #[v9, .nilIface]) ∧ w'.ownsRow W.heap.size 95 10 v9 (cF0 x r).length ((cF0 x r).flatMap encC) ∧ EngAt be (x.fed0 r.k r.t r.v) (appC L (cF0 x r)) S' w' ∧ FootTo S S' W w'
  feed1 : ∀ be x L S W (r : Rw), EngAt be x L S W → JOk x → goodI r.k r.t r.v = true → x.m1 < r.t → (x.m0 < r.t + -x.lo → x.R1.length < 300) → okC L (cF1 x r) → (∀ c ∈ cF1 x r, c.x.wf) → L.length ≤ 1000000 →
    Calls Tryz.prog 11 #[.pointer (some ⟨be, 0, none⟩), .int .i64 1, .agg #[.int .i64 r.k, .int .i64 r.t, .int .i64 r.v]] W fun e w' => ∃ v9 S', e = .returned (.tuple #[v9, .nilIface]) ∧ w'.ownsRow W.heap.size 95 10 v9 (cF1 x r).length ((cF1 x r).flatMap encC) ∧ EngAt be (x.fed1 r.k r.t r.v) (appC L (cF1 x r)) S' w' ∧ FootTo S S' W w'
  view : ∀ be x L S W, EngAt be x L S W → L.length ≤ 1000000 → Calls Tryz.prog 27 #[.pointer (some ⟨be, 0, none⟩)] W fun e w' => ∃ (v : Value) (Z : List O), e = .returned v ∧ Z.Perm L ∧ w'.ownsRow W.heap.size 89 9 v Z.length (Z.flatMap encO) ∧ Below W.heap.size W w'
structure EngSays (EngAt : Nat → J → List O → (Nat → Prop) → World → Prop) : Prop extends EngFeeds EngAt where
  late : ∀ be x L S W (r : Rw) (s : Int), W.cell? ⟨2, 0, none⟩ = some errT → EngAt be x L S W → JOk x → goodI r.k r.t r.v = true → (s = 0 ∧ r.t ≤ x.m0 ∨ s = 1 ∧ r.t ≤ x.m1) →
    Calls Tryz.prog 11 #[.pointer (some ⟨be, 0, none⟩), .int .i64 s, .agg #[.int .i64 r.k, .int .i64 r.t, .int .i64 r.v]] W fun e w' => ∃ S', e = .returned (.tuple #[.slice none 0 0, .iface 24 (.int .i64 10)]) ∧ EngAt be { x with late := moreI x.late } L S' w' ∧ FootTo S S' W w'
  full : ∀ be x L S W (r : Rw) (s : Int), W.cell? ⟨2, 0, none⟩ = some errT → EngAt be x L S W → JOk x → goodI r.k r.t r.v = true → (s = 0 ∧ x.m0 < r.t ∧ x.m1 < r.t + x.hi ∧ 300 ≤ x.R0.length ∨ s = 1 ∧ x.m1 < r.t ∧ x.m0 < r.t + -x.lo ∧ 300 ≤ x.R1.length) →
    Calls Tryz.prog 11 #[.pointer (some ⟨be, 0, none⟩), .int .i64 s, .agg #[.int .i64 r.k, .int .i64 r.t, .int .i64 r.v]] W fun e w' => ∃ S', e = .returned (.tuple #[.slice none 0 0, .iface 24 (.int .i64 12)]) ∧ EngAt be x L S' w' ∧ FootTo S S' W w'
  move0 : ∀ be x L S W (t : Int), EngAt be x L S W → JOk x → x.m0 ≤ t → (-1099511627776 ≤ t ∧ t ≤ 1099511627776) →
    Calls Tryz.prog 15 #[.pointer (some ⟨be, 0, none⟩), .int .i64 0, .int .i64 t] W fun e w' => ∃ S', e = .returned .nilIface ∧ EngAt be { x with m0 := t, R1 := keepR (fun y => decide (y.t ≤ t + x.lo)) x.R1 } L S' w' ∧ FootTo S S' W w'
  move1 : ∀ be x L S W (t : Int), EngAt be x L S W → JOk x → x.m1 ≤ t → (-1099511627776 ≤ t ∧ t ≤ 1099511627776) →
    Calls Tryz.prog 15 #[.pointer (some ⟨be, 0, none⟩), .int .i64 1, .int .i64 t] W fun e w' => ∃ S', e = .returned .nilIface ∧ EngAt be { x with m1 := t, R0 := keepR (fun y => decide (y.t ≤ t - x.hi)) x.R0 } L S' w' ∧ FootTo S S' W w'
  tell : ∀ c W, W.cell? ⟨2, 0, none⟩ = some errT → c = 4 ∨ c = 10 ∨ c = 12 → Calls Tryz.prog 46 #[.iface 24 (.int .i64 c)] W fun e w' => e = .returned (.int .i64 c) ∧ Below W.heap.size W w'
structure Glob (W : World) : Prop where
  err : W.cell? ⟨2, 0, none⟩ = some errT
  tab : Lib.TabIs Tryz.prog W "internal/strconv.uint64pow10" .u64 Lib.pow10Tab
  max : ∃ m, W.cell? ⟨3, 0, none⟩ = some (.int .i64 m)
theorem tab_below {w w' : World} (h : Lib.TabIs Tryz.prog w "internal/strconv.uint64pow10" .u64 Lib.pow10Tab) (hb : Below w.heap.size w w') : Lib.TabIs Tryz.prog w' "internal/strconv.uint64pow10" .u64 Lib.pow10Tab := by
  have hg : Tryz.prog.globalNamed "internal/strconv.uint64pow10" = some 6 := by kernel_rfl
  unfold Lib.TabIs World.var? at h ⊢
  rw [hg] at h ⊢
  simp only [Option.bind_some] at h ⊢
  have hlt : 6 < w.heap.size := by
    rcases Nat.lt_or_ge 6 w.heap.size with h' | h'
    · exact h'
    · rw [Array.getElem?_eq_none h'] at h; cases h
  rw [hb.block 6 hlt]
  exact h
theorem Glob.below {W W' : World} (h : Glob W) (hb : Below W.heap.size W W') : Glob W' := by
  obtain ⟨m, hm⟩ := h.max
  exact ⟨(hb.cell (p := ⟨2, 0, none⟩) (World.block_lt_of_cell? _ _ h.err)).trans h.err, tab_below h.tab hb, m, (hb.cell (p := ⟨3, 0, none⟩) (World.block_lt_of_cell? _ _ hm)).trans hm⟩
inductive TellO : O → Prop
  | left (k t v : Int) : goodI k t v = true → TellO (loneO 0 k t v)
  | right (k t v : Int) : goodI k t v = true → TellO (loneO 1 k t v)
  | pair (k t v t2 v2 : Int) : goodI k t v = true → goodI k t2 v2 = true → TellO ⟨k, k, t, v, k, t2, v2, true, true⟩
structure EngSaves (EngAt : Nat → J → List O → (Nat → Prop) → World → Prop) : Prop where
  saved : ∀ be x L S0 W0, EngAt be x L S0 W0 → JOk x → planOk x.lo x.hi x.mode → (-1099511627777 ≤ x.m0 ∧ x.m0 ≤ 1099511627776) → (-1099511627777 ≤ x.m1 ∧ x.m1 ≤ 1099511627776) → (∀ y ∈ x.R0, goodI y.k y.t y.v = true) → (∀ y ∈ x.R1, goodI y.k y.t y.v = true) → (∀ o ∈ L, TellO o) → L.length ≤ 1000000 →
    ∃ (Eng : (Nat → Prop) → World → Prop) (txt : ByteArray), Steady Eng ∧ Eng S0 W0 ∧ (∀ S W, Eng S W → EngAt be x L S W) ∧ ((∀ S W, Eng S W → Glob W → Calls Tryz.prog 18 #[.pointer (some ⟨be, 0, none⟩)] W fun e w' => e = .returned (.tuple #[.string txt, .iface 24 (.int .i64 4)]) ∧ Below W.heap.size W w') ∨
    ((∀ S W, Eng S W → Glob W → Calls Tryz.prog 18 #[.pointer (some ⟨be, 0, none⟩)] W fun e w' => e = .returned (.tuple #[.string txt, .nilIface]) ∧ Below W.heap.size W w') ∧
      ∀ W, Glob W → Calls Tryz.prog 8 #[.string txt] W fun e w' => ∃ be' S', e = .returned (.tuple #[.pointer (some ⟨be', 0, none⟩), .nilIface]) ∧ (∃ L' : List O, L'.Perm L ∧ EngAt be' x L' S' w') ∧ (∀ k, S' k → W.heap.size ≤ k ∧ k < w'.heap.size) ∧ Below W.heap.size W w'))
end Go.Proofs.YthfpipieboophaaGreatDoor

/- What the proof reads of package variables, strconv's errors too. -/
namespace Go.Proofs.YthfpipieboophaaGreatDoor
open Go.RowKit Go.Sort
set_option maxRecDepth 100000
structure GlobE (W : World) : Prop where
  g : Glob W
  e5 : ∃ ev, W.cell? ⟨4, 0, none⟩ = some ev ∧ (ev = .nilIface ∨ ∃ te pe, ev = .iface te pe)
  e6 : ∃ ev, W.cell? ⟨5, 0, none⟩ = some ev ∧ (ev = .nilIface ∨ ∃ te pe, ev = .iface te pe)
theorem GlobE.below {W W' : World} (h : GlobE W) (hb : Below W.heap.size W W') : GlobE W' := by
  obtain ⟨v5, a5, b5⟩ := h.e5
  obtain ⟨v6, a6, b6⟩ := h.e6
  exact ⟨h.g.below hb, ⟨v5, (hb.cell (p := ⟨4, 0, none⟩) (World.block_lt_of_cell? _ _ a5)).trans a5, b5⟩, ⟨v6, (hb.cell (p := ⟨5, 0, none⟩) (World.block_lt_of_cell? _ _ a6)).trans a6, b6⟩⟩
end Go.Proofs.YthfpipieboophaaGreatDoor

/- Rows that may be: what comes of them may be, and how much there is. -/
namespace Go.Proofs.YthfpipieboophaaGreatDoor
open Go.RowKit Go.Sort
set_option maxRecDepth 100000
def Rw.small (r : Rw) : Prop := (-1099511627776 ≤ r.k ∧ r.k ≤ 1099511627776) ∧ (-1099511627776 ≤ r.t ∧ r.t ≤ 1099511627776) ∧ (-1099511627776 ≤ r.v ∧ r.v ≤ 1099511627776)
theorem wf40 {n : Int} (h : -1099511627776 ≤ n ∧ n ≤ 1099511627776) : (Lit.int .i64 n).wf = true := WalkArith.wf_i64 (by omega)
def eachOf (lo hi mode : Int) (B : List Rw) (a : Rw) : List O := (B.filter (mB lo hi a)).map (pairRw a) ++ (if B.any (mB lo hi a) = false ∧ tellsB mode 0 = true then [leftRw a] else [])
theorem eachOf_len (lo hi mode : Int) (B : List Rw) (a : Rw) : (eachOf lo hi mode B a).length ≤ B.length + 1 := by
  unfold eachOf
  rw [List.length_append, List.length_map]
  have := List.length_filter_le (mB lo hi a) B
  split <;> simp <;> omega
theorem eaches_len (lo hi mode : Int) (B : List Rw) (A : List Rw) : (A.flatMap (eachOf lo hi mode B)).length ≤ A.length * (B.length + 1) := by
  induction A with
  | nil => simp
  | cons a r ih =>
    have := eachOf_len lo hi mode B a
    rw [List.flatMap_cons, List.length_append, List.length_cons, Nat.add_mul]
    omega
theorem view_len (lo hi mode : Int) (A B : List Rw) : (viewOf lo hi mode A B).length ≤ A.length * (B.length + 1) + B.length := by
  have h := (walk_perm (mB lo hi) pairRw leftRw rightRw (tellsB mode 0) (tellsB mode 1) A B).length_eq
  have h1 := eaches_len lo hi mode B A
  have h2 : (viewOf lo hi mode A B).length = (A.flatMap (eachOf lo hi mode B)).length + (if tellsB mode 1 = true then (B.filter fun b => !A.any fun a => mB lo hi a b).map rightRw else []).length := by
    rw [← List.length_append]; exact h.symm
  have h3 : (if tellsB mode 1 = true then (B.filter fun b => !A.any fun a => mB lo hi a b).map rightRw else []).length ≤ B.length := by
    split
    · rw [List.length_map]; exact List.length_filter_le _ _
    · simp
  omega
theorem view_most (lo hi mode : Int) (A B : List Rw) (n : Nat) (hn : n ≤ 1600) (h : A.length + B.length ≤ n) : (viewOf lo hi mode A B).length ≤ 700000 := by
  have h1 := view_len lo hi mode A B
  have h2 : A.length * (B.length + 1) ≤ 641601 := by
    have h3 : 4 * (A.length * (B.length + 1)) ≤ (A.length + (B.length + 1)) * (A.length + (B.length + 1)) := by
      rcases Nat.le_total A.length (B.length + 1) with g | g
      · obtain ⟨d, hd⟩ := Nat.exists_eq_add_of_le g
        rw [hd]
        have : (A.length + (A.length + d)) * (A.length + (A.length + d)) = 4 * (A.length * (A.length + d)) + d * d := by
          simp only [Nat.mul_add, Nat.add_mul]
          have := Nat.mul_comm d A.length
          omega
        omega
      · obtain ⟨d, hd⟩ := Nat.exists_eq_add_of_le g
        rw [hd]
        have : (B.length + 1 + d + (B.length + 1)) * (B.length + 1 + d + (B.length + 1)) = 4 * ((B.length + 1 + d) * (B.length + 1)) + d * d := by
          generalize B.length + 1 = m
          simp only [Nat.mul_add, Nat.add_mul]
          have := Nat.mul_comm d m
          omega
        omega
    have h4 : (A.length + (B.length + 1)) * (A.length + (B.length + 1)) ≤ 1601 * 1601 := Nat.mul_le_mul (by omega) (by omega)
    omega
  omega
theorem met_mem {key frm til : Int} {R : List D} {y : D} (h : y ∈ metR key frm til R) : y ∈ R := List.mem_of_mem_drop ((List.takeWhile_sublist _).subset h)
theorem chgs_wf (mode s : Int) (r : Rw) (M : List D) (hr : r.small) (hM : ∀ y ∈ M, y.rw.small) : ∀ c ∈ chgs mode s r.k r.t r.v M, c.x.wf := by
  have hl : ∀ (u : Int) (q : Rw), q.small → (loneO u q.k q.t q.v).wf := fun u q hq => by
    unfold loneO
    split
    · exact ⟨wf40 hq.1, wf40 hq.1, wf40 hq.2.1, wf40 hq.2.2, wf40 (n := 0) (by omega), wf40 (n := 0) (by omega), wf40 (n := 0) (by omega)⟩
    · exact ⟨wf40 hq.1, wf40 (n := 0) (by omega), wf40 (n := 0) (by omega), wf40 (n := 0) (by omega), wf40 hq.1, wf40 hq.2.1, wf40 hq.2.2⟩
  have hp : ∀ (u : Int) (q m : Rw), q.small → m.small → (pairO u q.k q.t q.v m.k m.t m.v).wf := fun u q m hq hm => by
    unfold pairO
    split
    · exact ⟨wf40 hq.1, wf40 hq.1, wf40 hq.2.1, wf40 hq.2.2, wf40 hm.1, wf40 hm.2.1, wf40 hm.2.2⟩
    · exact ⟨wf40 hm.1, wf40 hm.1, wf40 hm.2.1, wf40 hm.2.2, wf40 hq.1, wf40 hq.2.1, wf40 hq.2.2⟩
  intro c hc
  unfold chgs at hc
  split at hc
  · split at hc
    · simp at hc; subst hc; exact hl s r hr
    · simp at hc
  · rw [List.mem_flatMap] at hc
    obtain ⟨m, hm, hc⟩ := hc
    have hms := hM m hm
    unfold chg1 at hc
    rw [List.mem_append] at hc
    rcases hc with hc | hc
    · split at hc
      · simp at hc; subst hc; exact hl (1 - s) m.rw hms
      · simp at hc
    · simp at hc; subst hc; exact hp s r m.rw hr hms
theorem chgsA_len (mode s k t v : Int) (M : List D) : (chgs mode s k t v M).length ≤ 2 * M.length + 1 := by
  unfold chgs
  split
  · split <;> simp
  · have := chgs_len (tellsB mode (1 - s)) s (1 - s) k t v M
    omega
theorem small_good {r : Rw} (h : r.small) : goodI r.k r.t r.v = true := by
  unfold Rw.small at h
  unfold goodI inI
  simp
  omega
theorem good_small {r : Rw} (h : goodI r.k r.t r.v = true) : r.small := by
  unfold goodI inI at h
  unfold Rw.small
  simp at h
  omega
theorem mem_viewOf {lo hi mode : Int} {A B : List Rw} (hA : ∀ r ∈ A, r.small) (hB : ∀ r ∈ B, r.small) : ∀ o ∈ viewOf lo hi mode A B, TellO o := by
  intro o ho
  unfold viewOf allOf at ho
  rw [List.mem_append, List.mem_append] at ho
  rcases ho with ho | ho | ho
  · rw [List.mem_flatMap] at ho
    obtain ⟨a, ha, ho⟩ := ho
    rw [List.mem_map] at ho
    obtain ⟨b, hb, rfl⟩ := ho
    obtain ⟨hb1, hb2⟩ := List.mem_filter.1 hb
    have hk : a.k = b.k := by
      unfold mB at hb2
      simp at hb2
      omega
    have := TellO.pair a.k a.t a.v b.t b.v (small_good (hA a ha)) (by rw [hk]; exact small_good (hB b hb1))
    unfold pairRw
    rw [← hk]
    exact this
  · split at ho
    · rw [List.mem_map] at ho
      obtain ⟨a, ha, rfl⟩ := ho
      exact TellO.left _ _ _ (small_good (hA a (List.mem_filter.1 ha).1))
    · cases ho
  · split at ho
    · rw [List.mem_map] at ho
      obtain ⟨a, ha, rfl⟩ := ho
      exact TellO.right _ _ _ (small_good (hB a (List.mem_filter.1 ha).1))
    · cases ho
theorem Holds.good0 {x : J} {A B : List Rw} (h : Holds x A B) (hA : ∀ r ∈ A, r.small) : ∀ y ∈ x.R0, goodI y.k y.t y.v = true := by
  intro y hy
  have := h.r0.subset hy
  rw [List.mem_map] at this
  obtain ⟨l, hl, rfl⟩ := this
  exact small_good (hA l (List.mem_filter.1 hl).1)
theorem Holds.good1 {x : J} {A B : List Rw} (h : Holds x A B) (hB : ∀ r ∈ B, r.small) : ∀ y ∈ x.R1, goodI y.k y.t y.v = true := by
  intro y hy
  have := h.r1.subset hy
  rw [List.mem_map] at this
  obtain ⟨l, hl, rfl⟩ := this
  exact small_good (hB l (List.mem_filter.1 hl).1)
theorem jok_of {x : J} {A B : List Rw} (h : Holds x A B) (p : planOk x.lo x.hi x.mode) (hl0 : x.R0.length ≤ 300) (hl1 : x.R1.length ≤ 300) (hA : A.length ≤ 1000000) (hB : B.length ≤ 1000000) (hlate : 0 ≤ x.late ∧ x.late ≤ 1000000) : JOk x := by
  unfold planOk at p
  exact ⟨by omega, by omega, by omega, by omega, h.s0, h.s1, hl0, hl1, fun y hy => by have := h.yet0 y hy; omega, fun y hy => by have := h.yet1 y hy; omega, hlate⟩
end Go.Proofs.YthfpipieboophaaGreatDoor
