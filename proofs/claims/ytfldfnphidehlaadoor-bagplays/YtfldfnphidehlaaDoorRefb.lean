/- The document's bag (package estuaryref): how many there are of one; one more. -/
import Derived.Test.YtfldfnphidehlaaDoorRefo
import Derived.Test.YtfldfnphidehlaaDoorBagw
import Derived.Laws.AppendOwnNone
import Derived.Deep.AppendLies
import Derived.Deep.RegionLaw
namespace Go.Proofs.YtfldfnphidehlaaDoor
open Go.RowKit
set_option maxRecDepth 100000

theorem eq_out (x y : O) (w : World) : (binOp .eql 37 (vO x) (vO y)).run Tryd.prog w = .ok (.bool (decide (x = y))) w := by
  have e : decide (x = y) = (x.k == y.k && (x.lk == y.lk && (x.lt == y.lt && (x.lv == y.lv && (x.rk == y.rk && (x.rt == y.rt && (x.rv == y.rv && (x.hl == y.hl && (x.hr == y.hr))))))))) := by
    cases x; cases y
    rw [Bool.eq_iff_iff]; simp
  rw [e]
  unfold vO
  by_cases hk : x.k = y.k
  · by_cases hlk : x.lk = y.lk
    · by_cases hlt : x.lt = y.lt
      · by_cases hlv : x.lv = y.lv
        · by_cases hrk : x.rk = y.rk
          · by_cases hrt : x.rt = y.rt
            · by_cases hrv : x.rv = y.rv
              · by_cases hhl : x.hl = y.hl
                · by_cases hhr : x.hr = y.hr
                  · go_simp
                  · go_simp
                · go_simp
              · go_simp
            · go_simp
          · go_simp
        · go_simp
      · go_simp
    · go_simp
  · go_simp

/-- Block b is the document's bag: a slice of all. -/
structure RefAt (w : World) (base b : Nat) (v : Value) (M : List O) : Prop where
  blk : w.heap[b]? = some (.cells #[v] 29)
  row : w.ownsRow base 37 9 v M.length (M.flatMap encO)

theorem RefAt.lt {w : World} {base b : Nat} {v : Value} {M : List O} (h : RefAt w base b v M) : b < w.heap.size := (Array.getElem?_eq_some_iff.1 h.blk).1
theorem RefAt.cell {w : World} {base b : Nat} {v : Value} {M : List O} (h : RefAt w base b v M) : w.cell? ⟨b, 0, none⟩ = some v ∧ w.frozen? ⟨b, 0, none⟩ = false :=
  ⟨by rw [Go.Joins.cell_of_block h.blk]; rfl, Go.Joins.unfrozen_of_block h.blk 0⟩
theorem RefAt.below {w w' : World} {base b : Nat} {v : Value} {M : List O} (h : RefAt w base b v M) (hb : Below w.heap.size w w') : RefAt w' base b v M :=
  ⟨(hb.block _ h.lt).trans h.blk, kept_below h.row hb⟩
theorem RefAt.own {w : World} {base b : Nat} {v : Value} {M : List O} (h : RefAt w base b v M) : v.ownBlock ≠ some b := by
  rcases h.row.2 with ⟨rfl, _⟩ | ⟨g, cap, cur, rfl, hb, hg, _⟩
  · simp [Value.ownBlock]
  · intro e
    simp [Value.ownBlock] at e
    subst e
    rw [h.blk] at hg
    cases hg

theorem count_take (M : List O) (x y : O) (k : Nat) (h : M[k]? = some y) : (M.take (k + 1)).count x = (M.take k).count x + if x = y then 1 else 0 := by
  rw [List.take_add_one, h, List.count_append]
  by_cases e : x = y
  · subst e; simp
  · rw [if_neg e]; simp [List.count_cons]; intro e'; exact e e'.symm

set_option maxHeartbeats 1000000 in
theorem rmany_any (base b : Nat) (v : Value) (M : List O) (w : World) (h : RefAt w base b v M) (x : O) (hM : M.length ≤ 1000) :
    Calls Tryd.prog 9 #[.pointer (some ⟨b, 0, none⟩), vO x] w fun e w' => e = .returned (.int .i64 (M.count x)) ∧ Below w.heap.size w w' := by
  have hc := h.cell
  have hlt := h.lt
  simp only [vO]
  rcases Go.Joins.ownsRow_forms h.row with ⟨rfl, h0⟩ | ⟨gs, ck, rfl⟩
  · obtain rfl : M = [] := List.eq_nil_of_length_eq_zero h0
    clear h h0
    go_enter Tryd.func9, Tryd.ntmps9
    go_wp2
    refine wp_loop_rounds 1 ?_
    rw [rounds_succ]
    go_wp2
    go_ret
    exact ⟨rfl, Go.Joins.below_alloc1 _ _⟩
  · have HR : Hid (w.ownsRow base 37 9 (.slice (some ⟨gs, 0, none⟩) M.length ck) M.length (M.flatMap encO)) := h.row
    have HM : Hid (M.length ≤ 1000) := hM
    clear h
    go_enter Tryd.func9, Tryd.ntmps9
    go_wp2
    go_loopg [5, 13] M.length (fun g v5 v13 wr => ∃ (k c : Nat), k ≤ M.length ∧ g = M.length - k ∧ v5 = .int .i64 c ∧ v13 = .int .i64 k ∧ c ≤ 1000 ∧ Hid ((M.take k).count x = c) ∧ Hid (Below w.heap.size w wr ∧ OutAt wr w.heap.size x))
    case atStart => exact ⟨0, 0, Nat.zero_le _, rfl, rfl, rfl, by omega, rfl, ⟨Go.Joins.below_alloc1 _ _, heap_alloc_new _ _⟩⟩
    case round =>
      obtain ⟨k, c, hk, hg, rfl, rfl, hc1, C, I⟩ := hrel
      have HG : Hid (gk = M.length - k) := hg
      clear hg
      by_cases hlt2 : k < M.length
      · obtain ⟨y, hy⟩ : ∃ y, M[k]? = some y := ⟨_, List.getElem?_eq_getElem hlt2⟩
        have hcy := ks_cells (kept_below HR.out I.out.1) k y hy
        have hcx := I.out.2.cells
        have hz : w.heap.size < wr.heap.size := (Array.getElem?_eq_some_iff.1 (show wr.heap[w.heap.size]? = some _ from I.out.2)).1
        have HY : Hid (M[k]? = some y) := hy
        have i1 : (0 : Int) ≤ (k : Int) := by omega
        have i2 : (k : Int) < (M.length : Int) := by omega
        have i3 : (M.length : Int) ≤ 1000 := by omega
        have i4 : (c : Int) ≤ 1000 := by omega
        have i5 : (0 : Int) ≤ (c : Int) := by omega
        have I2 : Hid (Below w.heap.size w (wr.alloc (.cells (encO y).toArray 37)) ∧ OutAt (wr.alloc (.cells (encO y).toArray 37)) w.heap.size x) :=
          ⟨I.out.1.alloc I.out.1.size _, (Below.heap_alloc _ _ _ hz).trans I.out.2⟩
        simp only [encO] at I2
        clear hy
        by_cases e : x = y
        · have heq : ∀ w', (binOp .eql 37 (vO x) (vO y)).run Tryd.prog w' = .ok (.bool true) w' := fun w' => by rw [eq_out, decide_eq_true e]
          have C2 : Hid ((M.take (k + 1)).count x = c + 1) := by show (M.take (k + 1)).count x = c + 1; rw [count_take M x y k HY.out, C.out, if_pos e]
          have hc2 : c + 1 ≤ 1000 := by
            rw [← C2.out]; exact Nat.le_trans (Nat.le_trans List.count_le_length (List.length_take_le _ _)) (by have := HM.out; omega)
          simp only [vO] at heq
          clear e
          go_wp2
          go_roundg (M.length - (k + 1))
          case measure => have := HG.out; omega
          case rel => exact ⟨k + 1, c + 1, by omega, rfl, by first | rfl | (congr 1; omega) | go_num, by first | rfl | (congr 1; omega) | go_num, hc2, C2, I2⟩
        · have heq : ∀ w', (binOp .eql 37 (vO x) (vO y)).run Tryd.prog w' = .ok (.bool false) w' := fun w' => by rw [eq_out, decide_eq_false e]
          have C2 : Hid ((M.take (k + 1)).count x = c) := by show (M.take (k + 1)).count x = c; rw [count_take M x y k HY.out, C.out, if_neg e]; rfl
          simp only [vO] at heq
          clear e
          go_wp2
          go_roundg (M.length - (k + 1))
          case measure => have := HG.out; omega
          case rel => exact ⟨k + 1, c, by omega, rfl, rfl, by first | rfl | (congr 1; omega) | go_num, hc1, C2, I2⟩
      · have i2 : ¬ ((k : Int) < (M.length : Int)) := by omega
        have C2 : Hid (M.count x = c) := by
          have := C.out
          rw [List.take_of_length_le (by omega)] at this; exact this
        go_wp2
        go_ret
        exact ⟨by rw [C2.out]; rfl, I.out.1⟩

/-- The bag's slice, stored anew. -/
theorem ref_stored {w w1 : World} {base b : Nat} {v v' : Value} {M' : List O} (hrow : w1.ownsRow base 37 9 v' M'.length (M'.flatMap encO)) (hk : Keep b v.ownBlock w w1) (hcell : w1.heap[b]? = some (.cells #[v] 29)) :
    RefAt (w1.setCell ⟨b, 0, none⟩ v') base b v' M' ∧ Keep b v.ownBlock w (w1.setCell ⟨b, 0, none⟩ v') := by
  have hne : v'.ownBlock ≠ some b := by
    rcases hrow.2 with ⟨rfl, _⟩ | ⟨g, cap, cur, rfl, hb, hg, _⟩
    · simp [Value.ownBlock]
    · intro e
      simp [Value.ownBlock] at e
      subst e
      rw [hcell] at hg
      cases hg
  refine ⟨⟨Go.Joins.block_setCell hcell v', ?_⟩, ?_⟩
  · refine hrow.kept (row := some b) ⟨rfl, rfl, rfl, by simp, fun k hk2 hne2 => ?_⟩ (Or.inr hne)
    exact Below.heap_setCell _ _ _ _ (fun e => hne2 (by rw [e]))
  · refine ⟨hk.os, hk.tape, hk.output, by simpa using hk.size, fun k hk2 h1 h2 => ?_⟩
    rw [Below.heap_setCell _ _ _ _ h1]
    exact hk.block k hk2 h1 h2

theorem keep_grown {w W w1 : World} {b : Nat} {om : Option Nat} (hB : Below w.heap.size w W) (hg : W.grownBy w1 om) : Keep b om w w1 :=
  ⟨hg.os.trans hB.os, hg.tape.trans hB.tape, hg.output.trans hB.output, Nat.le_trans hB.size hg.size, fun k hk _ h2 => (hg.block k (Nat.lt_of_lt_of_le hk hB.size) (fun e => h2 e.symm)).trans (hB.block k hk)⟩

/-- What a change in its box, and the bag's cell, hold. -/
theorem box10 {W : World} {B b : Nat} {v : Value} {x : O} {gone : Bool} (hb : W.heap[B]? = some (.cells #[.int .i64 x.k, .int .i64 x.lk, .int .i64 x.lt, .int .i64 x.lv, .int .i64 x.rk, .int .i64 x.rt, .int .i64 x.rv, .bool x.hl, .bool x.hr, .bool gone] 39)) (hc : W.heap[b]? = some (.cells #[v] 29)) :
    W.cell? ⟨b, 0, none⟩ = some v ∧ W.cell? ⟨B, 0, none⟩ = some (.int .i64 x.k) ∧ W.cell? ⟨B, 1, none⟩ = some (.int .i64 x.lk) ∧ W.cell? ⟨B, 2, none⟩ = some (.int .i64 x.lt) ∧ W.cell? ⟨B, 3, none⟩ = some (.int .i64 x.lv) ∧ W.cell? ⟨B, 4, none⟩ = some (.int .i64 x.rk) ∧ W.cell? ⟨B, 5, none⟩ = some (.int .i64 x.rt) ∧ W.cell? ⟨B, 6, none⟩ = some (.int .i64 x.rv) ∧ W.cell? ⟨B, 7, none⟩ = some (.bool x.hl) ∧ W.cell? ⟨B, 8, none⟩ = some (.bool x.hr) := by
  refine ⟨?_, ?_, ?_, ?_, ?_, ?_, ?_, ?_, ?_, ?_⟩
  · rw [Go.Joins.cell_of_block hc]; rfl
  all_goals (rw [Go.Joins.cell_of_block hb]; rfl)

theorem own_lt {w : World} {base : Nat} {v : Value} {n : Nat} {xs : List Value} (h : w.ownsRow base 37 9 v n xs) (k : Nat) (hk : w.heap.size ≤ k) : v.ownBlock ≠ some k := by
  rcases h.2 with ⟨rfl, _⟩ | ⟨g, cap, cur, rfl, hb, hg, _⟩
  · simp [Value.ownBlock]
  · intro e
    simp [Value.ownBlock] at e
    have := (Array.getElem?_eq_some_iff.1 hg).1
    omega

set_option maxHeartbeats 1000000 in
theorem rput_any (base b : Nat) (v : Value) (M : List O) (w : World) (h : RefAt w base b v M) (x : O) (hM : M.length ≤ 1000) (hb : base ≤ w.heap.size) :
    Calls Tryd.prog 7 #[.pointer (some ⟨b, 0, none⟩), vC x false] w fun e w' => e = .returned (.int .i64 0) ∧ ∃ v', RefAt w' base b v' (M ++ [x]) ∧ Keep b v.ownBlock w w' ∧ Moves w v.ownBlock v'.ownBlock := by
  obtain ⟨i0, hi, hz0, hz1, hz2⟩ := info_parts info27
  have hc := h.cell
  have hlt := h.lt
  have HR : Hid (RefAt w base b v M) := h
  have HO : Hid (((w.alloc (.cells #[.int .i64 x.k, .int .i64 x.lk, .int .i64 x.lt, .int .i64 x.lv, .int .i64 x.rk, .int .i64 x.rt, .int .i64 x.rv, .bool x.hl, .bool x.hr, .bool false] 39)).alloc (.cells #[.int .i64 x.k, .int .i64 x.lk, .int .i64 x.lt, .int .i64 x.lv, .int .i64 x.rk, .int .i64 x.rt, .int .i64 x.rv, .bool x.hl, .bool x.hr] 37)).drew.ownsRow base 37 9 v M.length (M.flatMap encO)) := ((h.row.alloc _).alloc _).drew
  have HN : Hid (∀ j u, (encO x)[j]? = some u → ((w.alloc (.cells #[.int .i64 x.k, .int .i64 x.lk, .int .i64 x.lt, .int .i64 x.lv, .int .i64 x.rk, .int .i64 x.rt, .int .i64 x.rv, .bool x.hl, .bool x.hr, .bool false] 39)).alloc (.cells #[.int .i64 x.k, .int .i64 x.lk, .int .i64 x.lt, .int .i64 x.lv, .int .i64 x.rk, .int .i64 x.rt, .int .i64 x.rv, .bool x.hl, .bool x.hr] 37)).drew.cell? ((⟨w.heap.size + 1, 0, none⟩ : Addr).add j) = some u) := by
    have h2 := heap_alloc_new (w.alloc (.cells #[.int .i64 x.k, .int .i64 x.lk, .int .i64 x.lt, .int .i64 x.lv, .int .i64 x.rk, .int .i64 x.rt, .int .i64 x.rv, .bool x.hl, .bool x.hr, .bool false] 39)) (.cells #[.int .i64 x.k, .int .i64 x.lk, .int .i64 x.lt, .int .i64 x.lv, .int .i64 x.rk, .int .i64 x.rt, .int .i64 x.rv, .bool x.hl, .bool x.hr] 37)
    simp only [World.size_alloc] at h2
    exact World.news_of_block (w := ((w.alloc (.cells #[.int .i64 x.k, .int .i64 x.lk, .int .i64 x.lt, .int .i64 x.lv, .int .i64 x.rk, .int .i64 x.rt, .int .i64 x.rv, .bool x.hl, .bool x.hr, .bool false] 39)).alloc (.cells #[.int .i64 x.k, .int .i64 x.lk, .int .i64 x.lt, .int .i64 x.lv, .int .i64 x.rk, .int .i64 x.rt, .int .i64 x.rv, .bool x.hl, .bool x.hr] 37)).drew) h2
  clear h
  simp only [vC]
  go_enter Tryd.func7, Tryd.ntmps7
  go_wp2
  go_region_law
    (first
      | (refine step_append_lies _ (by rfl) _ _ _ (by rfl) base 37 i0 zO 9 64 Tryd.underlying27 hi hz0 hz1 hz2 rfl (by omega) v M.length (M.flatMap encO) (by rfl) ?_ ⟨w.heap.size + 1, 0, none⟩ 1 1 (encO x) (by rfl) (by rfl) ?_ (enc_one x) (by omega) (by unfold maxLen; omega) (by omega) ?_ _ rfl ?_; (exact HO.out); (exact HN.out); (simp; omega); intro g cap w1 hown hgrow hat hlt1; have hbb : w1.heap[b]? = some (.cells #[v] 29) := (hgrow.block b (by simp; omega) (fun e => HR.out.own e.symm)).trans (Eq.trans (Below.heap_alloc _ _ _ (by simp; omega)) (Eq.trans (Below.heap_alloc _ _ _ hlt) HR.out.blk)); have hcb : w1.cell? ⟨b, 0, none⟩ = some v := (by rw [Go.Joins.cell_of_block hbb]; rfl); have hfb : w1.frozen? ⟨b, 0, none⟩ = false := Go.Joins.unfrozen_of_block hbb 0)
      | fail)
  all_goals (try go_wp2)
  all_goals go_ret
  all_goals
    refine ⟨rfl, .slice (some ⟨g, 0, none⟩) (M.length + 1) cap, ?_⟩
    have hB : Below w.heap.size w ((w.alloc (.cells #[.int .i64 x.k, .int .i64 x.lk, .int .i64 x.lt, .int .i64 x.lv, .int .i64 x.rk, .int .i64 x.rt, .int .i64 x.rv, .bool x.hl, .bool x.hr, .bool false] 39)).alloc (.cells #[.int .i64 x.k, .int .i64 x.lk, .int .i64 x.lt, .int .i64 x.lv, .int .i64 x.rk, .int .i64 x.rt, .int .i64 x.rv, .bool x.hl, .bool x.hr] 37)).drew := ((Go.Joins.below_alloc2 _ _ _).drew)
    have hown2 : w1.ownsRow base 37 9 (.slice (some ⟨g, 0, none⟩) (M.length + 1) cap) (M ++ [x]).length ((M ++ [x]).flatMap encO) := by
      simpa [List.flatMap_append] using hown
    have hs := ref_stored (v := v) hown2 (keep_grown hB hgrow) hbb
    refine ⟨hs.1, hs.2, ?_⟩
    rcases hat with hat | hat
    · exact Or.inl (by rw [hat]; rfl)
    · exact Or.inr ⟨g, rfl, by rw [hat]; simp; omega⟩

end Go.Proofs.YtfldfnphidehlaaDoor
