/- What an engine says, and what a step does then. -/
import Derived.Test.YtmmbjbgimpgcfaaGreatDoorTlg
import Derived.Test.YtmmbjbgimpgcfaaGreatDoorKpd
import Derived.Lib.LaidTab
import Derived.Lib.ItoaNum
namespace Go.Proofs.YtmmbjbgimpgcfaaGreatDoor
open Go.RowKit Go.Sort
set_option maxRecDepth 100000

/-- A join whose plan may be, whose rows lie in order, and fit. -/
structure JOk (x : J) : Prop where
  lo1 : -1048576 ≤ x.lo
  lo2 : x.lo ≤ 1048576
  hi1 : -1048576 ≤ x.hi
  hi2 : x.hi ≤ 1048576
  s0 : SortedR x.R0
  s1 : SortedR x.R1
  l0 : x.R0.length ≤ 300
  l1 : x.R1.length ≤ 300
  n0 : ∀ y ∈ x.R0, 0 ≤ y.n ∧ y.n ≤ 1000000
  n1 : ∀ y ∈ x.R1, 0 ≤ y.n ∧ y.n ≤ 1000000
  late : 0 ≤ x.late ∧ x.late ≤ 1000000

abbrev cF0 (x : J) (r : Rw) : List Ch := chgs x.mode 0 r.k r.t r.v (metR r.k (r.t + x.lo) (r.t + x.hi) x.R1)
abbrev cF1 (x : J) (r : Rw) : List Ch := chgs x.mode 1 r.k r.t r.v (metR r.k (r.t + -x.hi) (r.t + -x.lo) x.R0)

/-- What a call leaves of an engine's footprint. -/
abbrev FootTo (S S' : Nat → Prop) (W w' : World) : Prop := (∀ k, S' k → (S k ∨ W.heap.size ≤ k) ∧ k < w'.heap.size) ∧ Turned S W w'

/-- errors.errorType as it is laid. -/
def errT : Value := .iface 188 (.agg #[.pointer (some ⟨9, 63, none⟩)])

/-- What an engine says, of rows that are taken. -/
structure EngFeeds (EngAt : Nat → J → List O → (Nat → Prop) → World → Prop) : Prop where
  steady : ∀ be x L, Steady (EngAt be x L)
  foot : ∀ be x L S W, EngAt be x L S W → ∀ k, S k → k < W.heap.size
  new : ∀ lo hi mode W, planOk lo hi mode → Calls Tryz.prog 24 #[.agg #[.int .i64 lo, .int .i64 hi, .int .i64 mode]] W fun e w' => ∃ be S, e = .returned (.tuple #[.pointer (some ⟨be, 0, none⟩), .nilIface]) ∧ EngAt be ⟨lo, hi, mode, -1099511627777, -1099511627777, 0, [], []⟩ [] S w' ∧ (∀ k, S k → W.heap.size ≤ k ∧ k < w'.heap.size) ∧ Below W.heap.size W w'
  feed0 : ∀ be x L S W (r : Rw), EngAt be x L S W → JOk x → goodI r.k r.t r.v = true → x.m0 < r.t → (x.m1 < r.t + x.hi → x.R0.length < 300) → okC L (cF0 x r) → (∀ c ∈ cF0 x r, c.x.wf) → L.length ≤ 1000000 →
    Calls Tryz.prog 25 #[.pointer (some ⟨be, 0, none⟩), .int .i64 0, .agg #[.int .i64 r.k, .int .i64 r.t, .int .i64 r.v]] W fun e w' => ∃ v9 S', e = .returned (.tuple #[v9, .nilIface]) ∧ w'.ownsRow W.heap.size 66 10 v9 (cF0 x r).length ((cF0 x r).flatMap encC) ∧ EngAt be (x.fed0 r.k r.t r.v) (appC L (cF0 x r)) S' w' ∧ FootTo S S' W w'
  feed1 : ∀ be x L S W (r : Rw), EngAt be x L S W → JOk x → goodI r.k r.t r.v = true → x.m1 < r.t → (x.m0 < r.t + -x.lo → x.R1.length < 300) → okC L (cF1 x r) → (∀ c ∈ cF1 x r, c.x.wf) → L.length ≤ 1000000 →
    Calls Tryz.prog 25 #[.pointer (some ⟨be, 0, none⟩), .int .i64 1, .agg #[.int .i64 r.k, .int .i64 r.t, .int .i64 r.v]] W fun e w' => ∃ v9 S', e = .returned (.tuple #[v9, .nilIface]) ∧ w'.ownsRow W.heap.size 66 10 v9 (cF1 x r).length ((cF1 x r).flatMap encC) ∧ EngAt be (x.fed1 r.k r.t r.v) (appC L (cF1 x r)) S' w' ∧ FootTo S S' W w'
  view : ∀ be x L S W, EngAt be x L S W → L.length ≤ 1000000 → Calls Tryz.prog 10 #[.pointer (some ⟨be, 0, none⟩)] W fun e w' => ∃ (v : Value) (Z : List O), e = .returned v ∧ Z.Perm L ∧ w'.ownsRow W.heap.size 50 9 v Z.length (Z.flatMap encO) ∧ Below W.heap.size W w'

/-- What an engine says, of late ones, full sides, marks. -/
structure EngSays (EngAt : Nat → J → List O → (Nat → Prop) → World → Prop) : Prop extends EngFeeds EngAt where
  late : ∀ be x L S W (r : Rw) (s : Int), W.cell? ⟨0, 0, none⟩ = some errT → EngAt be x L S W → JOk x → goodI r.k r.t r.v = true → (s = 0 ∧ r.t ≤ x.m0 ∨ s = 1 ∧ r.t ≤ x.m1) →
    Calls Tryz.prog 25 #[.pointer (some ⟨be, 0, none⟩), .int .i64 s, .agg #[.int .i64 r.k, .int .i64 r.t, .int .i64 r.v]] W fun e w' => ∃ S', e = .returned (.tuple #[.slice none 0 0, .iface 70 (.int .i64 10)]) ∧ EngAt be { x with late := moreI x.late } L S' w' ∧ FootTo S S' W w'
  full : ∀ be x L S W (r : Rw) (s : Int), W.cell? ⟨0, 0, none⟩ = some errT → EngAt be x L S W → JOk x → goodI r.k r.t r.v = true → (s = 0 ∧ x.m0 < r.t ∧ x.m1 < r.t + x.hi ∧ 300 ≤ x.R0.length ∨ s = 1 ∧ x.m1 < r.t ∧ x.m0 < r.t + -x.lo ∧ 300 ≤ x.R1.length) →
    Calls Tryz.prog 25 #[.pointer (some ⟨be, 0, none⟩), .int .i64 s, .agg #[.int .i64 r.k, .int .i64 r.t, .int .i64 r.v]] W fun e w' => ∃ S', e = .returned (.tuple #[.slice none 0 0, .iface 70 (.int .i64 12)]) ∧ EngAt be x L S' w' ∧ FootTo S S' W w'
  move0 : ∀ be x L S W (t : Int), EngAt be x L S W → JOk x → x.m0 ≤ t → (-1099511627776 ≤ t ∧ t ≤ 1099511627776) →
    Calls Tryz.prog 20 #[.pointer (some ⟨be, 0, none⟩), .int .i64 0, .int .i64 t] W fun e w' => ∃ S', e = .returned .nilIface ∧ EngAt be { x with m0 := t, R1 := keepR (fun y => decide (y.t ≤ t + x.lo)) x.R1 } L S' w' ∧ FootTo S S' W w'
  move1 : ∀ be x L S W (t : Int), EngAt be x L S W → JOk x → x.m1 ≤ t → (-1099511627776 ≤ t ∧ t ≤ 1099511627776) →
    Calls Tryz.prog 20 #[.pointer (some ⟨be, 0, none⟩), .int .i64 1, .int .i64 t] W fun e w' => ∃ S', e = .returned .nilIface ∧ EngAt be { x with m1 := t, R0 := keepR (fun y => decide (y.t ≤ t - x.hi)) x.R0 } L S' w' ∧ FootTo S S' W w'
  tell : ∀ c W, W.cell? ⟨0, 0, none⟩ = some errT → c = 4 ∨ c = 10 ∨ c = 12 → Calls Tryz.prog 22 #[.iface 70 (.int .i64 c)] W fun e w' => e = .returned (.int .i64 c) ∧ Below W.heap.size W w'

/-- What the proof reads of package variables: errors.errorType; a table of powers of ten; bytealg.MaxLen is some number. -/
structure Glob (W : World) : Prop where
  err : W.cell? ⟨0, 0, none⟩ = some errT
  tab : Lib.TabIs Tryz.prog W "internal/strconv.uint64pow10" .u64 Lib.pow10Tab
  max : ∃ m, W.cell? ⟨4, 0, none⟩ = some (.int .i64 m)
theorem tab_below {w w' : World} (h : Lib.TabIs Tryz.prog w "internal/strconv.uint64pow10" .u64 Lib.pow10Tab) (hb : Below w.heap.size w w') : Lib.TabIs Tryz.prog w' "internal/strconv.uint64pow10" .u64 Lib.pow10Tab := by
  have hg : Tryz.prog.globalNamed "internal/strconv.uint64pow10" = some 1 := by kernel_rfl
  unfold Lib.TabIs World.var? at h ⊢
  rw [hg] at h ⊢
  simp only [Option.bind_some] at h ⊢
  have hlt : 1 < w.heap.size := by
    rcases Nat.lt_or_ge 1 w.heap.size with h' | h'
    · exact h'
    · rw [Array.getElem?_eq_none h'] at h; cases h
  rw [hb.block 1 hlt]
  exact h
theorem Glob.below {W W' : World} (h : Glob W) (hb : Below W.heap.size W W') : Glob W' := by
  obtain ⟨m, hm⟩ := h.max
  exact ⟨(hb.cell (p := ⟨0, 0, none⟩) (World.block_lt_of_cell? _ _ h.err)).trans h.err, tab_below h.tab hb, m, (hb.cell (p := ⟨4, 0, none⟩) (World.block_lt_of_cell? _ _ hm)).trans hm⟩

/-- An Out as it is told: of a side alone, or a pair of one key. -/
inductive TellO : O → Prop
  | left (k t v : Int) : goodI k t v = true → TellO (loneO 0 k t v)
  | right (k t v : Int) : goodI k t v = true → TellO (loneO 1 k t v)
  | pair (k t v t2 v2 : Int) : goodI k t v = true → goodI k t2 v2 = true → TellO ⟨k, k, t, v, k, t2, v2, true, true⟩

/-- What an engine saves, and loads. -/
structure EngSaves (EngAt : Nat → J → List O → (Nat → Prop) → World → Prop) : Prop where
  saved : ∀ be x L S0 W0, EngAt be x L S0 W0 → JOk x → planOk x.lo x.hi x.mode → (-1099511627777 ≤ x.m0 ∧ x.m0 ≤ 1099511627776) → (-1099511627777 ≤ x.m1 ∧ x.m1 ≤ 1099511627776) → (∀ y ∈ x.R0, goodI y.k y.t y.v = true) → (∀ y ∈ x.R1, goodI y.k y.t y.v = true) → (∀ o ∈ L, TellO o) → L.length ≤ 1000000 →
    ∃ (Eng : (Nat → Prop) → World → Prop) (txt : ByteArray), Steady Eng ∧ Eng S0 W0 ∧ (∀ S W, Eng S W → EngAt be x L S W) ∧ ((∀ S W, Eng S W → Glob W → Calls Tryz.prog 21 #[.pointer (some ⟨be, 0, none⟩)] W fun e w' => e = .returned (.tuple #[.string txt, .iface 70 (.int .i64 4)]) ∧ Below W.heap.size W w') ∨
    ((∀ S W, Eng S W → Glob W → Calls Tryz.prog 21 #[.pointer (some ⟨be, 0, none⟩)] W fun e w' => e = .returned (.tuple #[.string txt, .nilIface]) ∧ Below W.heap.size W w') ∧
      ∀ W, Glob W → Calls Tryz.prog 29 #[.string txt] W fun e w' => ∃ be' S', e = .returned (.tuple #[.pointer (some ⟨be', 0, none⟩), .nilIface]) ∧ (∃ L' : List O, L'.Perm L ∧ EngAt be' x L' S' w') ∧ (∀ k, S' k → W.heap.size ≤ k ∧ k < w'.heap.size) ∧ Below W.heap.size W w'))

/-- All that holds of a tale, behind n steps. -/
structure Told (EngAt : Nat → J → List O → (Nat → Prop) → World → Prop) (w0 : World) (bt : Nat) (lo hi mode : Int) (n : Nat) (w : World) : Prop where
  ex : ∃ (be bf nF : Nat) (a0 a1 : Int) (va vb : Value) (A B : List Rw) (F L : List O) (x : J) (S : Nat → Prop),
    TaleAt w w0.heap.size bt (.pointer (some ⟨be, 0, none⟩)) lo hi mode a0 a1 va vb bf nF A B F ∧ EngAt be x L S w ∧ (∀ k, S k → w0.heap.size ≤ k ∧ k ≠ bt ∧ k ≠ bf ∧ va.ownBlock ≠ some k ∧ vb.ownBlock ≠ some k) ∧
    Holds x A B ∧ L.Perm (viewOf lo hi mode A B) ∧ F.Perm (viewOf lo hi mode A B) ∧ (x.lo = lo ∧ x.hi = hi ∧ x.mode = mode) ∧ planOk lo hi mode ∧ JOk x ∧ x.late ≤ n ∧
    (x.m0 ≤ a0 ∧ x.m1 ≤ a1 ∧ -300 ≤ a0 ∧ a0 ≤ -300 + 60 * (n : Int) ∧ -300 ≤ a1 ∧ a1 ≤ -300 + 60 * (n : Int)) ∧ A.length + B.length ≤ n ∧ nF ≤ 200 * n ∧ (∀ r ∈ A, r.small) ∧ (∀ r ∈ B, r.small) ∧ w0.heap.size ≤ bt ∧ w0.heap.size ≤ bf
  low : Below w0.heap.size w0 w

end Go.Proofs.YtmmbjbgimpgcfaaGreatDoor
