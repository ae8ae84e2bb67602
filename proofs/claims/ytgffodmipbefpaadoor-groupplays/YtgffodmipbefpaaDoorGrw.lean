/- Package group: what a tally comes to. -/
import Derived.Test.YtgffodmipbefpaaDoorGrv
import Derived.Maps.RangeWalk
namespace Go.Proofs.YtgffodmipbefpaaDoor
open Go.RowKit Go.Sort
set_option maxRecDepth 100000

def lo : List Int → Int
  | [] => 0
  | [x] => x
  | x :: y :: r => min x (lo (y :: r))
def hi : List Int → Int
  | [] => 0
  | [x] => x
  | x :: y :: r => max x (hi (y :: r))
theorem lo_cons (x : Int) {r : List Int} (h : r ≠ []) : lo (x :: r) = min x (lo r) := by
  cases r with
  | nil => exact absurd rfl h
  | cons y r => rfl
theorem hi_cons (x : Int) {r : List Int} (h : r ≠ []) : hi (x :: r) = max x (hi r) := by
  cases r with
  | nil => exact absurd rfl h
  | cons y r => rfl
theorem lo_spec : ∀ {R : List Int}, R ≠ [] → lo R ∈ R ∧ ∀ y ∈ R, lo R ≤ y
  | [], h => absurd rfl h
  | [x], _ => by simp [lo]
  | x :: y :: r, _ => by
    have ih := lo_spec (R := y :: r) (by simp)
    rw [lo_cons x (by simp)]
    refine ⟨?_, fun z hz => ?_⟩
    · by_cases h : x ≤ lo (y :: r)
      · rw [Int.min_eq_left h]; simp
      · rw [Int.min_eq_right (by omega)]; exact List.mem_cons_of_mem _ ih.1
    · rcases List.mem_cons.1 hz with rfl | hz
      · omega
      · have := ih.2 z hz; omega
theorem hi_spec : ∀ {R : List Int}, R ≠ [] → hi R ∈ R ∧ ∀ y ∈ R, y ≤ hi R
  | [], h => absurd rfl h
  | [x], _ => by simp [hi]
  | x :: y :: r, _ => by
    have ih := hi_spec (R := y :: r) (by simp)
    rw [hi_cons x (by simp)]
    refine ⟨?_, fun z hz => ?_⟩
    · by_cases h : hi (y :: r) ≤ x
      · rw [Int.max_eq_left h]; simp
      · rw [Int.max_eq_right (by omega)]; exact List.mem_cons_of_mem _ ih.1
    · rcases List.mem_cons.1 hz with rfl | hz
      · omega
      · have := ih.2 z hz; omega
/-- They hang on which numbers there are alone. -/
theorem lo_same {R R' : List Int} (h : ∀ x, x ∈ R ↔ x ∈ R') : lo R = lo R' := by
  by_cases e : R = []
  · subst e
    have : R' = [] := List.eq_nil_iff_forall_not_mem.2 fun x hx => by simpa using (h x).2 hx
    rw [this]
  · have e' : R' ≠ [] := fun e2 => e (List.eq_nil_iff_forall_not_mem.2 fun x hx => by have := (h x).1 hx; rw [e2] at this; cases this)
    have h1 := lo_spec e
    have h2 := lo_spec e'
    have a := h1.2 _ ((h _).2 h2.1)
    have b := h2.2 _ ((h _).1 h1.1)
    omega
theorem hi_same {R R' : List Int} (h : ∀ x, x ∈ R ↔ x ∈ R') : hi R = hi R' := by
  by_cases e : R = []
  · subst e
    have : R' = [] := List.eq_nil_iff_forall_not_mem.2 fun x hx => by simpa using (h x).2 hx
    rw [this]
  · have e' : R' ≠ [] := fun e2 => e (List.eq_nil_iff_forall_not_mem.2 fun x hx => by have := (h x).1 hx; rw [e2] at this; cases this)
    have h1 := hi_spec e
    have h2 := hi_spec e'
    have a := h1.2 _ ((h _).2 h2.1)
    have b := h2.2 _ ((h _).1 h1.1)
    omega
def some? (R : List Int) : Bool := !R.isEmpty
theorem some_same {R R' : List Int} (h : ∀ x, x ∈ R ↔ x ∈ R') : some? R = some? R' := by
  cases R with
  | nil =>
    have : R' = [] := List.eq_nil_iff_forall_not_mem.2 fun x hx => by simpa using (h x).2 hx
    rw [this]
  | cons a r =>
    cases R' with
    | nil => have := (h a).1 (by simp); cases this
    | cons b s => rfl

/-- A key's group, as a value. -/
def vG (k : Int) (τ : Tl) : Value := .agg #[.int .i64 k, .int .i64 τ.c, .int .i64 τ.s, .int .i64 (lo τ.R), .int .i64 (hi τ.R), .bool (some? τ.R)]

/-- Group's loop: xs have come. -/
structure Gl (w : World) (ob : Nat) (k : Int) (τ : Tl) (left : Lit → Bool) (xs : List Int) (wr : World) : Prop where
  blk : wr.heap[ob]? = some (.cells #[.int .i64 k, .int .i64 τ.c, .int .i64 τ.s, .int .i64 (lo xs), .int .i64 (hi xs), .bool (some? xs)] 88)
  below : Below w.heap.size w wr
  mem : ∀ x, x ∈ xs ↔ x ∈ τ.R ∧ left (gi x) = false

theorem gl_cells {wr : World} {ob : Nat} {k c s l h : Int} {b : Bool} (hb : wr.heap[ob]? = some (.cells #[.int .i64 k, .int .i64 c, .int .i64 s, .int .i64 l, .int .i64 h, .bool b] 88)) :
    wr.cell? ⟨ob, 0, none⟩ = some (.int .i64 k) ∧ wr.cell? ⟨ob, 1, none⟩ = some (.int .i64 c) ∧ wr.cell? ⟨ob, 2, none⟩ = some (.int .i64 s) ∧ wr.cell? ⟨ob, 3, none⟩ = some (.int .i64 l) ∧ wr.cell? ⟨ob, 4, none⟩ = some (.int .i64 h) ∧ wr.cell? ⟨ob, 5, none⟩ = some (.bool b) ∧
    wr.frozen? ⟨ob, 0, none⟩ = false ∧ wr.frozen? ⟨ob, 1, none⟩ = false ∧ wr.frozen? ⟨ob, 2, none⟩ = false ∧ wr.frozen? ⟨ob, 3, none⟩ = false ∧ wr.frozen? ⟨ob, 4, none⟩ = false ∧ wr.frozen? ⟨ob, 5, none⟩ = false := by
  refine ⟨?_, ?_, ?_, ?_, ?_, ?_, Go.Joins.unfrozen_of_block hb 0, Go.Joins.unfrozen_of_block hb 1, Go.Joins.unfrozen_of_block hb 2, Go.Joins.unfrozen_of_block hb 3, Go.Joins.unfrozen_of_block hb 4, Go.Joins.unfrozen_of_block hb 5⟩ <;> (rw [Go.Joins.cell_of_block hb]; rfl)

set_option maxHeartbeats 4000000 in
theorem group_any (t r m : Nat) (τ : Tl) (w : World) (h : TalAt w t r m τ) (k : Int) :
    Calls Tryd.prog 60 #[tp t, .int .i64 k] w fun e w' => e = .returned (vG k τ) ∧ Below w.heap.size w w' := by
  have hc := h.cells
  have htlt := h.lt
  obtain ⟨n, D, hn, hown, hcn⟩ := h.own
  let z0 : Obj := .cells #[.int .i64 0, .int .i64 0, .int .i64 0, .int .i64 0, .int .i64 0, .bool false] 88
  let g0 : Obj := .cells #[.int .i64 k, .int .i64 τ.c, .int .i64 τ.s, .int .i64 0, .int .i64 0, .bool false] 88
  have hown0 : ((w.alloc z0).alloc g0).drew.ownsMap Tryd.prog 3 (plainElem (H := Unit) Tryd.prog 3) r n D := ((hown.alloc z0).alloc g0).drew
  have hb0 : ((w.alloc z0).alloc g0).drew.heap[w.heap.size + 1]? = some g0 := by
    have e : (w.alloc z0).heap.size = w.heap.size + 1 := by simp
    have := (MapKept.heap_alloc (w.alloc z0) g0).1
    rw [e] at this
    exact this
  have hz0 : ((w.alloc z0).alloc g0).drew.heap[w.heap.size]? = some z0 := (Below.heap_alloc (w.alloc z0) g0 _ (by simp)).trans (MapKept.heap_alloc w z0).1
  have hbl0 : Below w.heap.size w ((w.alloc z0).alloc g0).drew := (((Below.refl _ w).alloc (Nat.le_refl _) z0).alloc (by simp) g0).drew
  have es : ((w.alloc z0).alloc g0).drew.heap.size = w.heap.size + 2 := by simp
  have HB0 : Hid _ := hb0
  have HZ0 : Hid _ := hz0
  have HBL0 : Hid _ := hbl0
  have ES : Hid _ := es
  clear hb0 hz0 hbl0 es
  simp only [z0, g0] at hown0 HB0 HZ0 HBL0 ES
  clear z0 g0
  go_enter Tryd.func60, Tryd.ntmps60
  go_wp2
  go_region
  go_wp2_with (first
    | (at_range; refine wpList_range_own _ rfl _ 165 rfl 3 3 gkeyed Tryd.underlying165 _ r n _ rfl hown0 ?_; intro w0 hrg0 hg0 hs0)
    | go_in)
  go_frame
  rw [ES.out] at hrg0 hs0 ⊢
  go_loopw [6] (fun _ wr => ∃ (left : Lit → Bool) (cnt : Nat) (xs : List Int), wr.ranges Tryd.prog 3 (plainElem (H := Unit) Tryd.prog 3) r (w.heap.size + 2) n D left cnt ∧ Hid (Gl w (w.heap.size + 1) k τ left xs wr ∧ wr.heap[w.heap.size]? = some (.cells #[.int .i64 0, .int .i64 0, .int .i64 0, .int .i64 0, .int .i64 0, .bool false] 88)))
    (fun _ wr => wr.rangeLeft r (w.heap.size + 2))
  case atStart =>
    have hblt : w.heap.size + 1 < w.heap.size + 2 := by omega
    refine ⟨_, _, [], hrg0, ⟨(hg0.block _ (by rw [ES.out]; omega) (by simp)).trans HB0.out, ?_, fun x => ?_⟩, (hg0.block _ (by rw [ES.out]; omega) (by simp)).trans HZ0.out⟩
    · exact HBL0.out.trans ⟨hg0.os, hg0.tape, hg0.output, hg0.size, fun j hj => hg0.block j (by rw [ES.out]; omega) (by simp)⟩
    · constructor
      · intro hx; cases hx
      · rintro ⟨hx, hl⟩
        rw [hcn.has x (hcn.wf x hx)] at hl
        simp [hx] at hl
  case round =>
    obtain ⟨left, cnt, xs, hrg, HG⟩ := hrel
    go_wp2_with (first
      | (at_next; refine wpList_next_ranges_ii _ rfl _ rfl 3 3 .i64 .i64 gkeyed Tryd.underlying3 Tryd.underlying3 r (w.heap.size + 2) n _ _ _ rfl hrg ?_ ?_)
      | go_in)
    · intro hc0 hl0
      obtain ⟨hG, hzr⟩ := HG.out
      have hsame : ∀ x, x ∈ xs ↔ x ∈ τ.R := fun x => by rw [hG.mem x, hl0]; simp
      have hcl := gl_cells hG.blk
      have hcz := gl_cells hzr
      rw [lo_same hsame, hi_same hsame, some_same hsame] at hcl
      have HB : Hid (Below w.heap.size w wr) := hG.below
      have hsz : w.heap.size + 1 < wr.heap.size := (Array.getElem?_eq_some_iff.1 hG.blk).1
      clear hG hzr HG
      go_wp2
      refine bodyPost_ret (v := vG k τ) (by simp [results, Tryd.results60, go_sem, hcz, vG]) rfl ⟨rfl, ?_⟩
      exact (((((HB.out.setCell (p := ⟨w.heap.size, 0, none⟩) (Nat.le_refl _) _).setCell (p := ⟨w.heap.size, 1, none⟩) (Nat.le_refl _) _).setCell (p := ⟨w.heap.size, 2, none⟩) (Nat.le_refl _) _).setCell (p := ⟨w.heap.size, 3, none⟩) (Nat.le_refl _) _).setCell (p := ⟨w.heap.size, 4, none⟩) (Nat.le_refl _) _).setCell (p := ⟨w.heap.size, 5, none⟩) (Nat.le_refl _) _
    · intro x c w1 cnt1 hwx hwc hlx hat hrg1 hlt hg1 hs1 hen
      obtain ⟨hG, hzr⟩ := HG.out
      have hr2 := hrg.lt
      have hblk1 := (hg1.block (w.heap.size + 1) (by omega) (fun e => by injection e; omega)).trans hG.blk
      have hz1 := (hg1.block w.heap.size (by omega) (fun e => by injection e; omega)).trans hzr
      have hcl := gl_cells hblk1
      have hhas : Maps.has D (gi x) = true := Maps.has_true_of_atKey hat
      have hmemR : x ∈ τ.R := by
        have := hcn.has x hwx
        rw [hhas] at this
        simpa using this.symm
      have hmem : ∀ y, y ∈ x :: xs ↔ y ∈ τ.R ∧ (left (gi y) && !(gi y).sameKey (gi x)) = false := fun y => by
        by_cases e : y = x
        · subst e; simp [hmemR, WideAt.sameKey_self (gisKey hwx)]
        · simp [e, hG.mem y, Maps.sameKey_ne (gi_ne e)]
      have hstep : ∀ W' : World, W'.heap[w.heap.size + 1]? = some (.cells #[.int .i64 k, .int .i64 τ.c, .int .i64 τ.s, .int .i64 (lo (x :: xs)), .int .i64 (hi (x :: xs)), .bool (some? (x :: xs))] 88) → w1.grownBy W' (some (w.heap.size + 1)) →
          (∃ left cnt xs, W'.ranges Tryd.prog 3 (plainElem (H := Unit) Tryd.prog 3) r (w.heap.size + 2) n D left cnt ∧ Hid (Gl w (w.heap.size + 1) k τ left xs W' ∧ W'.heap[w.heap.size]? = some (.cells #[.int .i64 0, .int .i64 0, .int .i64 0, .int .i64 0, .int .i64 0, .bool false] 88))) ∧ W'.rangeLeft r (w.heap.size + 2) < wr.rangeLeft r (w.heap.size + 2) := fun W' hb' hg' => by
        have hrg2 := hrg1.kept hg' (fun e => by injection e; omega) (fun e => by injection e; omega)
        refine ⟨⟨_, _, x :: xs, hrg2, ⟨hb', ?_, hmem⟩, (hg'.block _ (by omega) (fun e => by injection e; omega)).trans hz1⟩, ?_⟩
        · exact hG.below.trans ⟨hg'.os.trans hg1.os, hg'.tape.trans hg1.tape, hg'.output.trans hg1.output, Nat.le_trans hg1.size hg'.size, fun j hj => (hg'.block j (by omega) (fun e => by injection e; omega)).trans (hg1.block j (by omega) (fun e => by injection e; omega))⟩
        · rw [hrg2.left_eq, hrg.left_eq]; exact hlt
      have HS : Hid _ := hstep
      have HB1 : Hid _ := hblk1
      clear HG hcn hstep hmem hhas hmemR hz1 hblk1 hG hzr
      by_cases hx : xs = []
      · subst hx
        simp only [lo, hi, some?, List.isEmpty_nil, Bool.not_true] at hcl
        go_wp2
        refine HS.out _ ?_ ?_
        · rw [Go.Joins.block_setCell (Go.Joins.block_setCell (Go.Joins.block_setCell (Go.Joins.block_setCell (Go.Joins.block_setCell HB1.out _) _) _) _)]
          simp [lo, hi, some?]
        · exact ⟨rfl, rfl, rfl, by simp, fun j _ hj => by
            have hne : j ≠ w.heap.size + 1 := fun e => hj (by rw [e])
            rw [Below.heap_setCell _ _ _ _ hne, Below.heap_setCell _ _ _ _ hne, Below.heap_setCell _ _ _ _ hne, Below.heap_setCell _ _ _ _ hne, Below.heap_setCell _ _ _ _ hne]⟩
      · have hsm : some? xs = true := by cases xs with
          | nil => exact absurd rfl hx
          | cons a r => rfl
        rw [hsm] at hcl
        have HX : Hid (xs ≠ []) := hx
        have HSM : Hid (some? xs = true) := hsm
        clear hx hsm
        go_wp2
        refine HS.out _ ?_ ?_
        · rw [Go.Joins.block_setCell (Go.Joins.block_setCell HB1.out _) _]
          have e1 : min x (lo xs) = if x < lo xs then x else lo xs := by split <;> omega
          have e2 : max x (hi xs) = if hi xs < x then x else hi xs := by split <;> omega
          rw [lo_cons x HX.out, hi_cons x HX.out, e1, e2, HSM.out]
          rfl
        · exact ⟨rfl, rfl, rfl, by simp, fun j _ hj => by
            have hne : j ≠ w.heap.size + 1 := fun e => hj (by rw [e])
            rw [Below.heap_setCell _ _ _ _ hne, Below.heap_setCell _ _ _ _ hne]⟩

end Go.Proofs.YtgffodmipbefpaaDoor
