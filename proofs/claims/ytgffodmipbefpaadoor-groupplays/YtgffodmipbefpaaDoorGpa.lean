/- The document's answer of a key: estuaryref.Group. -/
import Derived.Test.YtgffodmipbefpaaDoorGza
import Derived.Test.YtgffodmipbefpaaDoorBare
namespace Go.Proofs.YtgffodmipbefpaaDoor
open Go.RowKit Go.Maps Go.Sort Go.Shelf
set_option maxRecDepth 100000

theorem gencO_len (x : O) : (encO x).length = 9 := rfl
theorem goflat_get (xs : List O) (k j : Nat) (x : O) (hx : xs[k]? = some x) (hj : j < 9) : (xs.flatMap encO)[k * 9 + j]? = (encO x)[j]? := by
  induction xs generalizing k with
  | nil => simp at hx
  | cons a r ih =>
    rw [List.flatMap_cons]
    cases k with
    | zero =>
      simp at hx; subst hx
      rw [List.getElem?_append_left (by rw [gencO_len]; omega)]; simp
    | succ k =>
      simp at hx
      rw [List.getElem?_append_right (by rw [gencO_len]; omega), gencO_len, show (k + 1) * 9 + j - 9 = k * 9 + j by omega]
      exact ih k hx
theorem gos_cells {W : World} {base gs n ck : Nat} {xs : List O} (h : W.ownsRow base 37 9 (.slice (some ⟨gs, 0, none⟩) n ck) n (xs.flatMap encO)) (k : Nat) (x : O) (hx : xs[k]? = some x) :
    W.cell? ⟨gs, k * 9, none⟩ = some (.int .i64 x.k) ∧ W.cell? ⟨gs, k * 9 + 1, none⟩ = some (.int .i64 x.lk) ∧ W.cell? ⟨gs, k * 9 + 2, none⟩ = some (.int .i64 x.lt) ∧ W.cell? ⟨gs, k * 9 + 3, none⟩ = some (.int .i64 x.lv) ∧ W.cell? ⟨gs, k * 9 + 4, none⟩ = some (.int .i64 x.rk) ∧ W.cell? ⟨gs, k * 9 + 5, none⟩ = some (.int .i64 x.rt) ∧ W.cell? ⟨gs, k * 9 + 6, none⟩ = some (.int .i64 x.rv) ∧ W.cell? ⟨gs, k * 9 + 7, none⟩ = some (.bool x.hl) ∧ W.cell? ⟨gs, k * 9 + 8, none⟩ = some (.bool x.hr) := by
  have key := fun (j : Nat) (v : Value) (hj : j < 9) (hv : (encO x)[j]? = some v) => h.cells (g := gs) rfl (k * 9 + j) v ((goflat_get xs k j x hx hj).trans hv)
  simp only [gadd_at] at key
  exact ⟨key 0 _ (by omega) rfl, key 1 _ (by omega) rfl, key 2 _ (by omega) rfl, key 3 _ (by omega) rfl, key 4 _ (by omega) rfl, key 5 _ (by omega) rfl, key 6 _ (by omega) rfl, key 7 _ (by omega) rfl, key 8 _ (by omega) rfl⟩

/-- What the document tells of a key. -/
def rOf (k : Int) : Option Tl → Value
  | none => .tuple #[zG, .int .i64 8]
  | some τ => .tuple #[vG k τ, .int .i64 0]
theorem vG_eq {τ τ' : Tl} (h : Teq τ τ') (k : Int) : vG k τ = vG k τ' := by
  have hm : ∀ x, x ∈ τ.R ↔ x ∈ τ'.R := fun x => h.R.mem_iff
  unfold vG
  rw [h.c, h.s, lo_same hm, hi_same hm, some_same hm]

theorem bs1 {w : World} {b i1 : Nat} {u1 : Value} {cs : Array Value} {T : TypeId} (h : w.heap[b]? = some (.cells cs T)) : (w.setCell ⟨b, i1, none⟩ u1).heap[b]? = some (.cells (cs.setIfInBounds i1 u1) T) := Go.Joins.block_setCell h _
theorem bs2 {w : World} {b i1 i2 : Nat} {u1 u2 : Value} {cs : Array Value} {T : TypeId} (h : w.heap[b]? = some (.cells cs T)) : ((w.setCell ⟨b, i1, none⟩ u1).setCell ⟨b, i2, none⟩ u2).heap[b]? = some (.cells ((cs.setIfInBounds i1 u1).setIfInBounds i2 u2) T) := bs1 (bs1 h)
theorem bs3 {w : World} {b i1 i2 i3 : Nat} {u1 u2 u3 : Value} {cs : Array Value} {T : TypeId} (h : w.heap[b]? = some (.cells cs T)) : (((w.setCell ⟨b, i1, none⟩ u1).setCell ⟨b, i2, none⟩ u2).setCell ⟨b, i3, none⟩ u3).heap[b]? = some (.cells (((cs.setIfInBounds i1 u1).setIfInBounds i2 u2).setIfInBounds i3 u3) T) := bs1 (bs2 h)
theorem bs4 {w : World} {b i1 i2 i3 i4 : Nat} {u1 u2 u3 u4 : Value} {cs : Array Value} {T : TypeId} (h : w.heap[b]? = some (.cells cs T)) : ((((w.setCell ⟨b, i1, none⟩ u1).setCell ⟨b, i2, none⟩ u2).setCell ⟨b, i3, none⟩ u3).setCell ⟨b, i4, none⟩ u4).heap[b]? = some (.cells ((((cs.setIfInBounds i1 u1).setIfInBounds i2 u2).setIfInBounds i3 u3).setIfInBounds i4 u4) T) := bs1 (bs3 h)
theorem bs5 {w : World} {b i1 i2 i3 i4 i5 : Nat} {u1 u2 u3 u4 u5 : Value} {cs : Array Value} {T : TypeId} (h : w.heap[b]? = some (.cells cs T)) : (((((w.setCell ⟨b, i1, none⟩ u1).setCell ⟨b, i2, none⟩ u2).setCell ⟨b, i3, none⟩ u3).setCell ⟨b, i4, none⟩ u4).setCell ⟨b, i5, none⟩ u5).heap[b]? = some (.cells (((((cs.setIfInBounds i1 u1).setIfInBounds i2 u2).setIfInBounds i3 u3).setIfInBounds i4 u4).setIfInBounds i5 u5) T) := bs1 (bs4 h)
/-- Only block b has turned. -/
theorem gs0 (w : World) (b : Nat) : w.grownBy w (some b) := ⟨rfl, rfl, rfl, Nat.le_refl _, fun _ _ _ => rfl⟩
theorem gs1 {w w' : World} {b : Nat} (h : w.grownBy w' (some b)) (i : Nat) (u : Value) : w.grownBy (w'.setCell ⟨b, i, none⟩ u) (some b) :=
  ⟨h.os, h.tape, h.output, by simpa using h.size, fun j hj hne => (Below.heap_setCell _ _ _ _ (fun e => hne (by rw [show j = b from e]))).trans (h.block j hj hne)⟩

/-- The document's loop: the first i of A have been looked at. -/
structure Rg (w : World) (k : Int) (A : List O) (i : Nat) (W : World) : Prop where
  blk : W.heap[w.heap.size + 1]? = some (.cells (encG k (talOf (ofK (A.take i).reverse k))).toArray 88)
  res : W.heap[w.heap.size]? = some (.cells #[.int .i64 0, .int .i64 0, .int .i64 0, .int .i64 0, .int .i64 0, .bool false] 88)
  below : Below w.heap.size w W

theorem Rg.next {w W W' : World} {k : Int} {A : List O} {i : Nat} {x : O} {o : Obj} (h : Rg w k A i W) (hx : A[i]? = some x) (hk : x.k = k) (hb : W'.heap[w.heap.size + 1]? = some (.cells (encG k (putT (talOf (ofK (A.take i).reverse k)) x)).toArray 88)) (hg : (W.alloc o).grownBy W' (some (w.heap.size + 1))) : Rg w k A (i + 1) W' := by
  have hlt := (Array.getElem?_eq_some_iff.1 h.blk).1
  have hs := h.below.size
  have e : ofK (A.take (i + 1)).reverse k = x :: ofK (A.take i).reverse k := by
    rw [List.take_add_one, hx, List.reverse_append]
    subst hk
    exact ofK_same x _
  refine ⟨by rw [e]; exact hb, ?_, ?_⟩
  · exact (hg.block _ (by simp; omega) (fun e => by injection e; omega)).trans ((Below.heap_alloc W o _ (by omega)).trans h.res)
  · exact (h.below.alloc hs o).grown hg (by simp; omega) (fun j e => by injection e; omega)
theorem Rg.skip {w W : World} {k : Int} {A : List O} {i : Nat} {x : O} (o : Obj) (h : Rg w k A i W) (hx : A[i]? = some x) (hk : x.k ≠ k) : Rg w k A (i + 1) (W.alloc o) := by
  have hlt := (Array.getElem?_eq_some_iff.1 h.blk).1
  have hs := h.below.size
  have e : ofK (A.take (i + 1)).reverse k = ofK (A.take i).reverse k := by
    rw [List.take_add_one, hx, List.reverse_append]
    exact ofK_other x _ (Ne.symm hk)
  refine ⟨by rw [e]; exact (Below.heap_alloc W o _ hlt).trans h.blk, (Below.heap_alloc W o _ (by omega)).trans h.res, h.below.alloc hs o⟩

theorem ofK_len (A : List O) (k : Int) (i : Nat) : (talOf (ofK (A.take i).reverse k)).c ≤ A.length := by
  rw [tal_count]
  refine Nat.le_trans (List.length_filter_le _ _) ?_
  simp; omega
theorem abs_rev (A : List O) (k : Int) : (ofK A k).Perm (ofK A.reverse k) := ofK_perm (List.reverse_perm A).symm k

theorem ga1 {w w' : World} {b : Nat} (h : w.grownBy w' (some b)) (o : Obj) (hs : w'.heap.size = w.heap.size := by simp) : (w.alloc o).grownBy (w'.alloc o) (some b) := by
  refine ⟨h.os, h.tape, h.output, by simp [hs], fun j hj hne => ?_⟩
  by_cases e : j < w.heap.size
  · rw [Below.heap_alloc _ _ _ e, Below.heap_alloc _ _ _ (by omega)]; exact h.block j e hne
  · have e2 : j = w.heap.size := by simp at hj; omega
    subst e2
    have h1 := (MapKept.heap_alloc w' o).1
    rw [hs] at h1
    rw [h1, (MapKept.heap_alloc w o).1]


set_option maxHeartbeats 8000000 in
theorem rgroup_some (base g ck : Nat) (A : List O) (w : World) (h : w.ownsRow base 37 9 (.slice (some ⟨g, 0, none⟩) A.length ck) A.length (A.flatMap encO)) (k : Int) (hA : A.length ≤ 1000) (h0 : 0 < A.length) :
    Calls Tryd.prog 32 #[.slice (some ⟨g, 0, none⟩) A.length ck, .int .i64 k] w fun e w' => e = .returned (rOf k (absG A k)) ∧ Below w.heap.size w w' := by
  have HR : Hid (w.ownsRow base 37 9 (.slice (some ⟨g, 0, none⟩) A.length ck) A.length (A.flatMap encO)) := h
  clear h
  have HI : Hid (Rg w k A 0 ((w.alloc (.cells #[.int .i64 0, .int .i64 0, .int .i64 0, .int .i64 0, .int .i64 0, .bool false] 88)).alloc (.cells #[.int .i64 k, .int .i64 0, .int .i64 0, .int .i64 0, .int .i64 0, .bool false] 88))) := by
    refine ⟨?_, ?_, Go.Joins.below_alloc2 _ _ _⟩
    · have e : (w.alloc (.cells #[.int .i64 0, .int .i64 0, .int .i64 0, .int .i64 0, .int .i64 0, .bool false] 88)).heap.size = w.heap.size + 1 := by simp
      have := (MapKept.heap_alloc (w.alloc (.cells #[.int .i64 0, .int .i64 0, .int .i64 0, .int .i64 0, .int .i64 0, .bool false] 88)) (.cells #[.int .i64 k, .int .i64 0, .int .i64 0, .int .i64 0, .int .i64 0, .bool false] 88)).1
      rw [e] at this
      exact this
    · exact (Below.heap_alloc _ _ _ (by simp)).trans (MapKept.heap_alloc w _).1
  go_enter Tryd.func32, Tryd.ntmps32
  go_wp2
  go_loopg [14] A.length (fun gg v14 wr => ∃ i : Nat, i ≤ A.length ∧ gg = A.length - i ∧ v14 = .int .i64 i ∧ Hid (Rg w k A i wr))
  case atStart => exact ⟨0, Nat.zero_le _, rfl, rfl, HI.out⟩
  case round =>
    obtain ⟨i, hile, hgi, rfl, HG⟩ := hrel
    have HGi : Hid (gk = A.length - i) := hgi
    clear hgi
    by_cases hlt : i < A.length
    · obtain ⟨x, hx⟩ : ∃ x, A[i]? = some x := ⟨_, List.getElem?_eq_getElem hlt⟩
      have hG := HG.out
      have hca := gos_cells (gkept_below (gkept_below HR.out hG.below) (Below.refl _ _)) i x hx
      have hcl := gl_cells hG.blk
      have hob : w.heap.size + 1 < wr.heap.size := (Array.getElem?_eq_some_iff.1 hG.blk).1
      have hcl0 : ((talOf (ofK (A.take i).reverse k)).c : Int) ≤ 1000 := by have := ofK_len A k i; omega
      have hcl1 : (0 : Int) ≤ ((talOf (ofK (A.take i).reverse k)).c : Int) := by omega
      have hglt : g < wr.heap.size := by
        have h1 := (gkept_below HR.out hG.below)
        rcases h1.2 with ⟨h3, _⟩ | ⟨g', cap, cur, h3, h5, h4, _⟩
        · cases h3
        · cases h3; exact (Array.getElem?_eq_some_iff.1 h4).1
      have i1 : (0 : Int) ≤ (i : Int) := by omega
      have i2 : (i : Int) < (A.length : Int) := by omega
      by_cases hkk : x.k = k
      · have HS : Hid (∀ W1, W1.heap[w.heap.size + 1]? = some (.cells (encG k (putT (talOf (ofK (A.take i).reverse k)) x)).toArray 88) → wr.grownBy W1 (some (w.heap.size + 1)) → W1.heap.size = wr.heap.size → ∀ o, Rg w k A (i + 1) (W1.alloc o)) := fun W1 h1 h2 h3 o => HG.out.next (o := o) hx hkk ((Below.heap_alloc W1 o _ (by omega)).trans h1) (ga1 h2 o h3)
        have HB : Hid (wr.heap[w.heap.size + 1]? = some (.cells (encG k (talOf (ofK (A.take i).reverse k))).toArray 88)) := hG.blk
        clear hG hx
        generalize talOf (ofK (A.take i).reverse k) = τ at *
        obtain ⟨c, s, R⟩ := τ
        obtain ⟨xk, lk, lt, lv, rk, rt, rv, hl, hr⟩ := x
        simp only at hkk hca hcl hcl0 hcl1
        subst hkk
        cases hl <;> cases hr
        · go_wp2
          all_goals go_roundg (A.length - (i + 1))
          case measure => have := HGi.out; omega
          case rel =>
            refine ⟨i + 1, by omega, rfl, by go_num, ?_⟩
            refine HS.out _ ((bs1 HB.out).trans ?_) (gs1 (gs0 wr _) _ _) (by simp) _
            simp [encG, putT]
        · by_cases hR : R = []
          · subst hR
            simp only [lo, hi, some?, List.isEmpty_nil, Bool.not_true] at hcl
            go_wp2
            all_goals go_roundg (A.length - (i + 1))
            case measure => have := HGi.out; omega
            case rel =>
              refine ⟨i + 1, by omega, rfl, by go_num, ?_⟩
              refine HS.out _ ((bs4 HB.out).trans ?_) (gs1 (gs1 (gs1 (gs1 (gs0 wr _) _ _) _ _) _ _) _ _) (by simp) _
              simp [encG, putT, lo, hi, some?]
          · have hsm : some? R = true := by cases R with
              | nil => exact absurd rfl hR
              | cons a r => rfl
            rw [hsm] at hcl
            have HX : Hid (R ≠ []) := hR
            clear hR hsm
            by_cases hlo : rv < lo R <;> by_cases hhi : hi R < rv
            · go_wp2
              all_goals go_roundg (A.length - (i + 1))
              case measure => have := HGi.out; omega
              case rel =>
                refine ⟨i + 1, by omega, rfl, by go_num, ?_⟩
                refine HS.out _ ((bs4 HB.out).trans ?_) (gs1 (gs1 (gs1 (gs1 (gs0 wr _) _ _) _ _) _ _) _ _) (by simp) _
                have e1 : min rv (lo R) = rv := by omega
                have e2 : max rv (hi R) = rv := by omega
                simp [encG, putT, lo_cons rv HX.out, hi_cons rv HX.out, e1, e2, some?]
            · go_wp2
              all_goals go_roundg (A.length - (i + 1))
              case measure => have := HGi.out; omega
              case rel =>
                refine ⟨i + 1, by omega, rfl, by go_num, ?_⟩
                refine HS.out _ ((bs3 HB.out).trans ?_) (gs1 (gs1 (gs1 (gs0 wr _) _ _) _ _) _ _) (by simp) _
                have e1 : min rv (lo R) = rv := by omega
                have e2 : max rv (hi R) = hi R := by omega
                simp [encG, putT, lo_cons rv HX.out, hi_cons rv HX.out, e1, e2, some?]
            · go_wp2
              all_goals go_roundg (A.length - (i + 1))
              case measure => have := HGi.out; omega
              case rel =>
                refine ⟨i + 1, by omega, rfl, by go_num, ?_⟩
                refine HS.out _ ((bs3 HB.out).trans ?_) (gs1 (gs1 (gs1 (gs0 wr _) _ _) _ _) _ _) (by simp) _
                have e1 : min rv (lo R) = lo R := by omega
                have e2 : max rv (hi R) = rv := by omega
                simp [encG, putT, lo_cons rv HX.out, hi_cons rv HX.out, e1, e2, some?]
            · go_wp2
              all_goals go_roundg (A.length - (i + 1))
              case measure => have := HGi.out; omega
              case rel =>
                refine ⟨i + 1, by omega, rfl, by go_num, ?_⟩
                refine HS.out _ ((bs2 HB.out).trans ?_) (gs1 (gs1 (gs0 wr _) _ _) _ _) (by simp) _
                have e1 : min rv (lo R) = lo R := by omega
                have e2 : max rv (hi R) = hi R := by omega
                simp [encG, putT, lo_cons rv HX.out, hi_cons rv HX.out, e1, e2, some?]
        · go_wp2
          all_goals go_roundg (A.length - (i + 1))
          case measure => have := HGi.out; omega
          case rel =>
            refine ⟨i + 1, by omega, rfl, by go_num, ?_⟩
            refine HS.out _ ((bs2 HB.out).trans ?_) (gs1 (gs1 (gs0 wr _) _ _) _ _) (by simp) _
            simp [encG, putT]
        · by_cases hR : R = []
          · subst hR
            simp only [lo, hi, some?, List.isEmpty_nil, Bool.not_true] at hcl
            go_wp2
            all_goals go_roundg (A.length - (i + 1))
            case measure => have := HGi.out; omega
            case rel =>
              refine ⟨i + 1, by omega, rfl, by go_num, ?_⟩
              refine HS.out _ ((bs5 HB.out).trans ?_) (gs1 (gs1 (gs1 (gs1 (gs1 (gs0 wr _) _ _) _ _) _ _) _ _) _ _) (by simp) _
              simp [encG, putT, lo, hi, some?]
          · have hsm : some? R = true := by cases R with
              | nil => exact absurd rfl hR
              | cons a r => rfl
            rw [hsm] at hcl
            have HX : Hid (R ≠ []) := hR
            clear hR hsm
            by_cases hlo : rv < lo R <;> by_cases hhi : hi R < rv
            · go_wp2
              all_goals go_roundg (A.length - (i + 1))
              case measure => have := HGi.out; omega
              case rel =>
                refine ⟨i + 1, by omega, rfl, by go_num, ?_⟩
                refine HS.out _ ((bs5 HB.out).trans ?_) (gs1 (gs1 (gs1 (gs1 (gs1 (gs0 wr _) _ _) _ _) _ _) _ _) _ _) (by simp) _
                have e1 : min rv (lo R) = rv := by omega
                have e2 : max rv (hi R) = rv := by omega
                simp [encG, putT, lo_cons rv HX.out, hi_cons rv HX.out, e1, e2, some?]
            · go_wp2
              all_goals go_roundg (A.length - (i + 1))
              case measure => have := HGi.out; omega
              case rel =>
                refine ⟨i + 1, by omega, rfl, by go_num, ?_⟩
                refine HS.out _ ((bs4 HB.out).trans ?_) (gs1 (gs1 (gs1 (gs1 (gs0 wr _) _ _) _ _) _ _) _ _) (by simp) _
                have e1 : min rv (lo R) = rv := by omega
                have e2 : max rv (hi R) = hi R := by omega
                simp [encG, putT, lo_cons rv HX.out, hi_cons rv HX.out, e1, e2, some?]
            · go_wp2
              all_goals go_roundg (A.length - (i + 1))
              case measure => have := HGi.out; omega
              case rel =>
                refine ⟨i + 1, by omega, rfl, by go_num, ?_⟩
                refine HS.out _ ((bs4 HB.out).trans ?_) (gs1 (gs1 (gs1 (gs1 (gs0 wr _) _ _) _ _) _ _) _ _) (by simp) _
                have e1 : min rv (lo R) = lo R := by omega
                have e2 : max rv (hi R) = rv := by omega
                simp [encG, putT, lo_cons rv HX.out, hi_cons rv HX.out, e1, e2, some?]
            · go_wp2
              all_goals go_roundg (A.length - (i + 1))
              case measure => have := HGi.out; omega
              case rel =>
                refine ⟨i + 1, by omega, rfl, by go_num, ?_⟩
                refine HS.out _ ((bs3 HB.out).trans ?_) (gs1 (gs1 (gs1 (gs0 wr _) _ _) _ _) _ _) (by simp) _
                have e1 : min rv (lo R) = lo R := by omega
                have e2 : max rv (hi R) = hi R := by omega
                simp [encG, putT, lo_cons rv HX.out, hi_cons rv HX.out, e1, e2, some?]
      · have HS : Hid (∀ o, Rg w k A (i + 1) (wr.alloc o)) := fun o => HG.out.skip o hx hkk
        clear hG hx
        go_wp2
        go_roundg (A.length - (i + 1))
        case measure => have := HGi.out; omega
        case rel => exact ⟨i + 1, by omega, rfl, by go_num, HS.out _⟩
    · have e1 : i = A.length := by omega
      have hge : ¬ ((i : Int) < (A.length : Int)) := by omega
      have hG := HG.out
      have hcz := gl_cells hG.res
      have hb := hG.blk
      rw [e1, List.take_length] at hb
      have hcl := gl_cells hb
      have HBl : Hid (Below w.heap.size w wr) := hG.below
      have hob : w.heap.size + 1 < wr.heap.size := (Array.getElem?_eq_some_iff.1 hb).1
      have hte := tal_perm (abs_rev A k)
      by_cases hem : ofK A k = []
      · have hab : absG A k = none := if_pos hem
        have HF : Hid (rOf k (absG A k) = rOf k none) := by show rOf k (absG A k) = rOf k none; rw [hab]
        have hc0 : (talOf (ofK A.reverse k)).c = 0 := by rw [← hte.c, hem]; rfl
        rw [hc0] at hcl
        clear hG hb hte HG hab
        go_wp2
        refine bodyPost_ret (v := rOf k none) (by simp [results, Tryd.results32, go_sem, hcz, rOf, zG]) rfl ⟨by rw [HF.out], ?_⟩
        exact (((((HBl.out.setCell (p := ⟨w.heap.size, 0, none⟩) (Nat.le_refl _) _).setCell (p := ⟨w.heap.size, 1, none⟩) (Nat.le_refl _) _).setCell (p := ⟨w.heap.size, 2, none⟩) (Nat.le_refl _) _).setCell (p := ⟨w.heap.size, 3, none⟩) (Nat.le_refl _) _).setCell (p := ⟨w.heap.size, 4, none⟩) (Nat.le_refl _) _).setCell (p := ⟨w.heap.size, 5, none⟩) (Nat.le_refl _) _
      · have hab : absG A k = some (talOf (ofK A k)) := if_neg hem
        have hv := vG_eq hte k
        have hcp : (0 : Int) < ((talOf (ofK A.reverse k)).c : Int) := by
          rw [← hte.c, tal_count]
          have := List.length_pos_iff.2 hem
          omega
        have hcp2 : ((talOf (ofK A.reverse k)).c : Int) ≤ 1000 := by
          have := ofK_len A k A.length
          rw [List.take_length] at this
          omega
        have HF : Hid (rOf k (absG A k) = rOf k (some (talOf (ofK A.reverse k)))) := by
          show rOf k (absG A k) = rOf k (some (talOf (ofK A.reverse k)))
          rw [hab]
          show Value.tuple #[_, _] = Value.tuple #[_, _]
          rw [hv]
        clear hG hb hte HG hv hab
        generalize talOf (ofK A.reverse k) = τ at *
        go_wp2
        refine bodyPost_ret (v := rOf k (some τ)) (by simp [results, Tryd.results32, go_sem, hcz, rOf, vG]) rfl ⟨by rw [HF.out], ?_⟩
        exact (((((HBl.out.setCell (p := ⟨w.heap.size, 0, none⟩) (Nat.le_refl _) _).setCell (p := ⟨w.heap.size, 1, none⟩) (Nat.le_refl _) _).setCell (p := ⟨w.heap.size, 2, none⟩) (Nat.le_refl _) _).setCell (p := ⟨w.heap.size, 3, none⟩) (Nat.le_refl _) _).setCell (p := ⟨w.heap.size, 4, none⟩) (Nat.le_refl _) _).setCell (p := ⟨w.heap.size, 5, none⟩) (Nat.le_refl _) _

end Go.Proofs.YtgffodmipbefpaaDoor
