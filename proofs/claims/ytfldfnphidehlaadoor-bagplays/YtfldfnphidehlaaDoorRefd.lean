/- The document's bag (package estuaryref): one that is there goes. -/
import Derived.Test.YtfldfnphidehlaaDoorRefc
namespace Go.Proofs.YtfldfnphidehlaaDoor
open Go.RowKit
set_option maxRecDepth 100000

theorem flat_take (M : List O) (i : Nat) : (M.take i).flatMap encO = (M.flatMap encO).take (i * 9) := by
  induction M generalizing i with
  | nil => simp
  | cons a r ih =>
    cases i with
    | zero => simp
    | succ i =>
      rw [List.take_succ_cons, List.flatMap_cons, List.flatMap_cons, ih, List.take_append, encO_len, List.take_of_length_le (l := encO a) (by rw [encO_len]; omega), show (i + 1) * 9 - 9 = i * 9 by omega]
theorem flat_drop (M : List O) (i : Nat) : (M.drop i).flatMap encO = (M.flatMap encO).drop (i * 9) := by
  induction M generalizing i with
  | nil => simp
  | cons a r ih =>
    cases i with
    | zero => simp
    | succ i =>
      rw [List.drop_succ_cons, List.flatMap_cons, ih, List.drop_append, encO_len, List.drop_eq_nil_of_le (show (encO a).length ≤ (i + 1) * 9 by rw [encO_len]; omega), List.nil_append, show (i + 1) * 9 - 9 = i * 9 by omega]

theorem flat_one (M : List O) : ∀ u ∈ M.flatMap encO, u.oneCell' = true := by
  intro u hu
  obtain ⟨x, _, h⟩ := List.mem_flatMap.1 hu
  exact enc_one x u h

/-- What the round in which it goes finds. -/
structure Goes (w : World) (base b gs ck : Nat) (M : List O) (W : World) : Prop where
  below : Below w.heap.size w W
  blk : W.heap[b]? = some (.cells #[.slice (some ⟨gs, 0, none⟩) M.length ck] 29)
  row : W.ownsRow base 37 9 (.slice (some ⟨gs, 0, none⟩) M.length ck) M.length (M.flatMap encO)

theorem Goes.go {w : World} {base b gs ck : Nat} {M : List O} {W W' : World} (h : Goes w base b gs ck M W) (hb : Below W.heap.size W W') : Goes w base b gs ck M W' := by
  have hl : b < W.heap.size := (Array.getElem?_eq_some_iff.1 h.blk).1
  exact ⟨h.below.trans (hb.mono h.below.size), (hb.block _ hl).trans h.blk, kept_below h.row hb⟩
theorem Goes.cell {w : World} {base b gs ck : Nat} {M : List O} {W : World} (h : Goes w base b gs ck M W) : W.cell? ⟨b, 0, none⟩ = some (.slice (some ⟨gs, 0, none⟩) M.length ck) ∧ W.frozen? ⟨b, 0, none⟩ = false :=
  ⟨by rw [Go.Joins.cell_of_block h.blk]; rfl, Go.Joins.unfrozen_of_block h.blk 0⟩
theorem Goes.get {w : World} {base b gs ck : Nat} {M : List O} {W : World} (h : Goes w base b gs ck M W) (j : Nat) (u : Value) (hu : (M.flatMap encO)[j]? = some u) : W.cell? ⟨gs, j, none⟩ = some u := by
  have := h.row.cells (g := gs) rfl j u hu
  rwa [add_at] at this
theorem Goes.grown {w : World} {base b gs ck : Nat} {M : List O} {W W' : World} {g : Nat} (h : Goes w base b gs ck M W) (hg : W.grownBy W' (some g)) (h1 : w.heap.size ≤ g) (h2 : g ≠ b) (h3 : g ≠ gs) : Goes w base b gs ck M W' := by
  have hl : b < W.heap.size := (Array.getElem?_eq_some_iff.1 h.blk).1
  refine ⟨h.below.grown hg h.below.size (fun k e => by cases e; exact h1), (hg.block _ hl (fun e => h2 (by cases e; rfl))).trans h.blk, h.row.kept hg (Or.inr (by simp [Value.ownBlock]; exact fun e => h3 e.symm))⟩

theorem own_empty {W : World} {base : Nat} (hb : base ≤ W.heap.size) : (W.alloc (.cells #[] 37)).drew.ownsRow base 37 9 (.slice (some ⟨W.heap.size, 0, none⟩) 0 0) 0 [] :=
  ⟨rfl, .inr ⟨W.heap.size, 0, #[], rfl, hb, heap_alloc_new _ _, Nat.le_refl _, Nat.zero_le _, rfl, rfl⟩⟩

theorem Goes.head {w : World} {base b gs ck : Nat} {M : List O} {W : World} (h : Goes w base b gs ck M W) (k j : Nat) (u : Value) (hu : ((M.take k).flatMap encO)[j]? = some u) : W.cell? ((⟨gs, 0, none⟩ : Addr).add j) = some u := by
  rw [add_at]
  refine h.get j u ?_
  rw [flat_take] at hu
  have hj := (List.getElem?_eq_some_iff.1 hu).1
  rw [List.length_take] at hj
  rw [List.getElem?_take_of_lt (by omega)] at hu
  exact hu

theorem Goes.tail {w : World} {base b gs ck : Nat} {M : List O} {W : World} (h : Goes w base b gs ck M W) (k j : Nat) (u : Value) (hu : ((M.drop k).flatMap encO)[j]? = some u) : W.cell? ((⟨gs, k * 9, none⟩ : Addr).add j) = some u := by
  rw [Addr.add_lit]
  refine h.get (k * 9 + j) u ?_
  rw [flat_drop, List.getElem?_drop] at hu
  exact hu

theorem flat_sum (M : List O) (k : Nat) (hk : k < M.length) (cap g : Nat) (w : World) (base : Nat) (h : w.ownsRow base 37 9 (.slice (some ⟨g, 0, none⟩) (0 + k + (M.length - (k + 1))) cap) (0 + k + (M.length - (k + 1))) ([] ++ (M.take k).flatMap encO ++ (M.drop (k + 1)).flatMap encO)) :
    w.ownsRow base 37 9 (.slice (some ⟨g, 0, none⟩) (k + (M.length - (k + 1))) cap) (M.take k ++ M.drop (k + 1)).length ((M.take k ++ M.drop (k + 1)).flatMap encO) := by
  rw [List.flatMap_append, show (M.take k ++ M.drop (k + 1)).length = k + (M.length - (k + 1)) by simp; omega]
  rw [Nat.zero_add] at h
  exact h

set_option maxHeartbeats 2000000 in
theorem rtake_any (base b : Nat) (v : Value) (M : List O) (w : World) (h : RefAt w base b v M) (x : O) (hM : M.length ≤ 1000) (hb : base ≤ w.heap.size) (hmem : x ∈ M) :
    Calls Tryd.prog 7 #[.pointer (some ⟨b, 0, none⟩), vC x true] w fun e w' => e = .returned (.int .i64 0) ∧ ∃ v', RefAt w' base b v' (M.erase x) ∧ Keep b v.ownBlock w w' ∧ Moves w v.ownBlock v'.ownBlock := by
  obtain ⟨i0, hi, hz0, hz1, hz2⟩ := info_parts info27
  have hc := h.cell
  have hlt := h.lt
  simp only [vC]
  obtain ⟨gs, ck, rfl⟩ := Go.Joins.ownsRow_form h.row (List.length_pos_of_mem hmem)
  have hck : M.length ≤ ck := by
    rcases h.row.2 with ⟨h1, _⟩ | ⟨g, cap, cur, h1, _, _, h2, _⟩
    · cases h1
    · cases h1; exact h2
  have hck2 : ck ≤ maxLen := by
    rcases h.row.2 with ⟨h1, _⟩ | ⟨g, cap, cur, h1, _, _, _, h2, _⟩
    · cases h1
    · cases h1; exact h2
  have hgl : gs < w.heap.size := (h.row.lt gs rfl).2
  have HG0 : Hid (Goes w base b gs ck M w) := ⟨Below.refl _ _, h.blk, h.row⟩
  have HI : Hid (M.idxOf x < M.length ∧ M[M.idxOf x]? = some x ∧ (∀ j y, j < M.idxOf x → M[j]? = some y → y ≠ x) ∧ M.erase x = M.take (M.idxOf x) ++ M.drop (M.idxOf x + 1)) := by
    have h1 : M.idxOf x < M.length := List.idxOf_lt_length_of_mem hmem
    refine ⟨h1, ?_, ?_, ?_⟩
    · rw [List.getElem?_eq_getElem h1, List.getElem_idxOf]
    · intro j y hj hy e
      subst e
      obtain ⟨hjl, hye⟩ := List.getElem?_eq_some_iff.1 hy
      have := List.not_of_lt_findIdx (p := (· == y)) hj
      rw [hye] at this
      simp at this
    · rw [List.erase_eq_eraseIdx_of_idxOf rfl, List.eraseIdx_eq_take_drop_succ]
  have hi1 := HI.out.1
  generalize hI : M.idxOf x = i at *
  clear h hI hmem
  go_enter Tryd.func7, Tryd.ntmps7
  go_wp2
  go_loopg [26] M.length (fun g v26 wr => ∃ k : Nat, k ≤ i ∧ g = M.length - k ∧ v26 = .int .i64 k ∧ Hid (Goes w base b gs ck M wr ∧ wr.heap[w.heap.size]? = some (.cells #[.int .i64 x.k, .int .i64 x.lk, .int .i64 x.lt, .int .i64 x.lv, .int .i64 x.rk, .int .i64 x.rt, .int .i64 x.rv, .bool x.hl, .bool x.hr, .bool true] 39)))
  case atStart => exact ⟨0, Nat.zero_le _, rfl, rfl, ⟨HG0.out.go (Go.Joins.below_alloc1 _ _), heap_alloc_new _ _⟩⟩
  case round =>
    obtain ⟨k, hk, hg, rfl, I⟩ := hrel
    have HG : Hid (gk = M.length - k) := hg
    clear hg
    obtain ⟨y, hy⟩ : ∃ y, M[k]? = some y := ⟨_, List.getElem?_eq_getElem (show k < M.length by omega)⟩
    have hcy := ks_cells I.out.1.row k y hy
    have hcx := boxC I.out.2
    have hz : w.heap.size < wr.heap.size := (Array.getElem?_eq_some_iff.1 I.out.2).1
    have i1 : (0 : Int) ≤ (k : Int) := by omega
    have i2 : (k : Int) < (M.length : Int) := by omega
    have i3 : (M.length : Int) ≤ 1000 := by omega
    have I2 : Hid (Goes w base b gs ck M (wr.alloc (.cells #[.int .i64 y.k, .int .i64 y.lk, .int .i64 y.lt, .int .i64 y.lv, .int .i64 y.rk, .int .i64 y.rt, .int .i64 y.rv, .bool y.hl, .bool y.hr] 37)) ∧ (wr.alloc (.cells #[.int .i64 y.k, .int .i64 y.lk, .int .i64 y.lt, .int .i64 y.lv, .int .i64 y.rk, .int .i64 y.rt, .int .i64 y.rv, .bool y.hl, .bool y.hr] 37)).heap[w.heap.size]? = some (.cells #[.int .i64 x.k, .int .i64 x.lk, .int .i64 x.lt, .int .i64 x.lv, .int .i64 x.rk, .int .i64 x.rt, .int .i64 x.rv, .bool x.hl, .bool x.hr, .bool true] 39)) :=
      ⟨I.out.1.go (Go.Joins.below_alloc1 _ _), (Below.heap_alloc _ _ _ hz).trans I.out.2⟩
    by_cases hki : k < i
    · have hne : y ≠ x := HI.out.2.2.1 k y hki hy
      have heq : ∀ w', (binOp .eql 37 (vO y) (vO x)).run Tryd.prog w' = .ok (.bool false) w' := fun w' => by rw [eq_out, decide_eq_false hne]
      simp only [vO] at heq
      clear hy hne
      go_wp2
      go_roundg (M.length - (k + 1))
      case measure => have := HG.out; omega
      case rel => exact ⟨k + 1, by omega, rfl, by first | rfl | (congr 1; omega) | go_num, I2⟩
    · have hki2 : k = i := by omega
      have hyx : y = x := by
        have h2 := HI.out.2.1
        rw [← hki2, hy] at h2
        exact Option.some.inj h2
      have heq : ∀ w', (binOp .eql 37 (vO y) (vO x)).run Tryd.prog w' = .ok (.bool true) w' := fun w' => by rw [eq_out, decide_eq_true hyx]
      have HE : Hid (M.erase x = M.take k ++ M.drop (k + 1)) := by
        show M.erase x = M.take k ++ M.drop (k + 1)
        rw [hki2]; exact HI.out.2.2.2
      simp only [vO] at heq
      clear hy hyx hki2 hki
      have HN : Hid (∃ A : Addr, (if ck = k + 1 then some (⟨gs, 0, none⟩ : Addr) else some ⟨gs, (k + 1) * 9, none⟩) = some A ∧ ∀ W', Goes w base b gs ck M W' → ∀ j u, ((M.drop (k + 1)).flatMap encO)[j]? = some u → W'.cell? (A.add j) = some u) := by
        by_cases h1 : ck = k + 1
        · refine ⟨⟨gs, 0, none⟩, by simp [h1], fun W' _ j u hu => ?_⟩
          rw [List.drop_eq_nil_of_le (by omega)] at hu
          simp at hu
        · exact ⟨⟨gs, (k + 1) * 9, none⟩, by simp [h1], fun W' hW j u hu => hW.tail (k + 1) j u hu⟩
      obtain ⟨A, hA, hN⟩ := HN.out
      have HN2 : Hid (∀ W', Goes w base b gs ck M W' → ∀ j u, ((M.drop (k + 1)).flatMap encO)[j]? = some u → W'.cell? (A.add j) = some u) := hN
      clear hN HN
      have hwr : IntKind.i64.wrap ((k : Int) + 1) = (k : Int) + 1 := by rw [IntKind.wrap_i64]; omega
      have hp0 : (0 : Int) ≤ (k : Int) + 1 := by omega
      have hp1 : (k : Int) + 1 ≤ (M.length : Int) := by omega
      have hp2 : ((k : Int) + 1).toNat = k + 1 := by omega
      have hkc : k ≤ ck := by omega
      have hl1 : Hid (((M.take k).flatMap encO).length = k * 9) := by
        show ((M.take k).flatMap encO).length = k * 9
        rw [flat_len, List.length_take]; congr 1; omega
      have hl2 : Hid (((M.drop (k + 1)).flatMap encO).length = (M.length - (k + 1)) * 9) := by
        show ((M.drop (k + 1)).flatMap encO).length = (M.length - (k + 1)) * 9
        rw [flat_len, List.length_drop]
      go_wp2_with fail
      have HW : Hid (Goes w base b gs ck M (wr.alloc (.cells #[.int .i64 y.k, .int .i64 y.lk, .int .i64 y.lt, .int .i64 y.lv, .int .i64 y.rk, .int .i64 y.rt, .int .i64 y.rv, .bool y.hl, .bool y.hr] 37))) := I2.out.1
      have hz4 : w.heap.size < (wr.alloc (.cells #[.int .i64 y.k, .int .i64 y.lk, .int .i64 y.lt, .int .i64 y.lv, .int .i64 y.rk, .int .i64 y.rt, .int .i64 y.rv, .bool y.hl, .bool y.hr] 37)).heap.size := by simp; omega
      clear I2 hcx hcy heq I hc
      revert HW hz4
      generalize wr.alloc (.cells #[.int .i64 y.k, .int .i64 y.lk, .int .i64 y.lt, .int .i64 y.lv, .int .i64 y.rk, .int .i64 y.rt, .int .i64 y.rv, .bool y.hl, .bool y.hr] 37) = W
      intro HW hz4
      have hcb := HW.out.cell
      have hcb2 := (HW.out.go (Go.Joins.below_alloc1 W (.cells #[] 37))).cell
      have hgb : W.heap.size ≠ b := by omega
      have hgg : W.heap.size ≠ gs := by omega
      go_region_law
        (first
          | (refine step_append_some _ (by rfl) _ _ _ (by rfl) base 37 i0 zO 9 64 Tryd.underlying27 hi hz0 hz1 hz2 rfl (by omega) W.heap.size 0 0 [] (by rfl) (own_empty (by omega)) ⟨gs, 0, none⟩ k ck ((M.take k).flatMap encO) (by first | rfl | simp [Act.eval, Act.put]) hl1.out ?_ (flat_one _) (by unfold maxLen; omega) (by omega) ?_ ?_; (exact (HW.out.go ((Go.Joins.below_alloc1 _ _).drew)).head k); (simp; omega); intro g1 cap1 w1 hown1 hgrow1 hat1; have G1 : Hid (Goes w base b gs ck M w1) := (HW.out.go ((Go.Joins.below_alloc1 _ _).drew)).grown hgrow1 (by omega) hgb hgg; have hg1 : W.heap.size ≤ g1 := (by have := hat1; simp at this; omega); have hcb3 := G1.out.cell)
          | (refine step_append_some _ (by rfl) _ _ _ (by rfl) base 37 i0 zO 9 64 Tryd.underlying27 hi hz0 hz1 hz2 rfl (by omega) g1 cap1 (0 + k) ([] ++ (M.take k).flatMap encO) (by first | rfl | simp [Act.eval, Act.put]) hown1 A (M.length - (k + 1)) (ck - (k + 1)) ((M.drop (k + 1)).flatMap encO) (by first | rfl | simp [Act.eval, Act.put]) hl2.out (HN2.out _ G1.out) (flat_one _) (by unfold maxLen; omega) (by omega) ?_ ?_; (have := G1.out.below.size; omega); intro g2 cap2 w2 hown2 hgrow2 hat2; have G2 : Hid (Goes w base b gs ck M w2) := G1.out.grown hgrow2 (by omega) (by omega) (by omega); have hcb4 := G2.out.cell)
          | fail)
      all_goals (try go_wp2)
      all_goals go_ret
      all_goals
        refine ⟨rfl, .slice (some ⟨g2, 0, none⟩) (k + (M.length - (k + 1))) cap2, ?_⟩
        have hs := ref_stored (v := .slice (some ⟨gs, 0, none⟩) M.length ck) (flat_sum M k (by omega) cap2 g2 w2 base hown2) (Keep.of_below G2.out.below) G2.out.blk
        rw [HE.out]
        refine ⟨hs.1, hs.2, Or.inr ⟨g2, rfl, ?_⟩⟩
        have := G1.out.below.size
        rcases hat2 with h | h <;> omega

end Go.Proofs.YtfldfnphidehlaaDoor
