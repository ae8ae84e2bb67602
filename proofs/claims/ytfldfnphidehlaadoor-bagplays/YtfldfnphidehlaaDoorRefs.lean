/- The document's bag (package estuaryref): all, in order. -/
import Derived.Test.YtfldfnphidehlaaDoorRefd
import Derived.Test.YtfldfnphidehlaaDoorSlst
namespace Go.Proofs.YtfldfnphidehlaaDoor
open Go.Shelf Go.RowKit Go.Lib Go.Sort
set_option maxRecDepth 100000

theorem wpList_append_some {P : Program} (w : World) {ops : Array Oper} {rest : List Oper} {o : Oper} {a : Act} {Q : Exit → Act → World → Prop} (hgd : o.guard = none) (s x : Operand) (t : TypeId)
    (ho : o.op = .call { callee := .builtin .append, args := #[s, x], argTypes := #[t, t] })
    (base : Nat) (e : TypeId) (i : TypeInfo) (z : Value) (size bytes : Nat) (ht : P.underlying t = some (.slice e)) (hi : P.info? e = some i) (hz : i.zero = some z)
    (hsize : i.size = size) (hby : i.bytes = bytes) (hzs : z.cells.size = size) (hsz : 0 < size)
    (g0 c0 n : Nat) (xs : List Value) (hs : a.eval s = .slice (some ⟨g0, 0, none⟩) n c0) (hown : w.ownsRow base e size (.slice (some ⟨g0, 0, none⟩) n c0) n xs)
    (ad : Addr) (m c : Nat) (news : List Value) (hx : a.eval x = .slice (some ad) m c) (hl : news.length = m * size) (hnews : ∀ j u, news[j]? = some u → w.cell? (ad.add j) = some u) (h1 : ∀ u ∈ news, u.oneCell' = true)
    (h63 : n + m ≤ maxLen) (hbytes : (n + m) * bytes ≤ 140737488355328) (hbase : base ≤ w.heap.size)
    (h : ∀ g cap w', w'.ownsRow base e size (.slice (some ⟨g, 0, none⟩) (n + m) cap) (n + m) (xs ++ news) → w.grownBy w' (some g0) → (g = g0 ∨ g = w.heap.size) → wpList P ops Q rest (a.put o.dst (.slice (some ⟨g, 0, none⟩) (n + m) cap)) w') : wpList P ops Q (o :: rest) a w := by
  refine wpList_plain hgd fun _ hK => ?_
  obtain ⟨v', w', hr, h2, h3, h4, h5⟩ := run_append_own_at (P := P) w base t o.type e i z size bytes ht hi hz hsize hby hzs hsz _ n xs hown ad m c news hl hnews h1 h63 hbytes hbase
  rcases h2.2 with ⟨rfl, _⟩ | ⟨g, cap, cur, rfl, _⟩
  · have := (h4.1 rfl).1; cases this
  · unfold Oper.wp execOp
    simp only [ho, resolve, invoke, builtin, Sem.run_bind, Sem.run_pure, Result.andThen_ok, List.map_toArray, List.map_cons, List.map_nil, hs, hx, hr]
    refine hK _ _ (h g cap w' h2 h3 ?_)
    simpa [Value.ownBlock] using h5

theorem own_empty0 {W : World} {base : Nat} (hb : base ≤ W.heap.size) : (W.alloc (.cells #[] 37)).ownsRow base 37 9 (.slice (some ⟨W.heap.size, 0, none⟩) 0 0) 0 [] :=
  ⟨rfl, .inr ⟨W.heap.size, 0, #[], rfl, hb, heap_alloc_new _ _, Nat.le_refl _, Nat.zero_le _, rfl, rfl⟩⟩

/-- What SliceStable is given. -/
theorem shd_of {w1 : World} {base g n cap : Nat} {M : List O} (hn : M.length = n) (h : w1.ownsRow base 37 9 (.slice (some ⟨g, 0, none⟩) n cap) n (M.flatMap encO)) :
    SHd g 0 n cap w1.heap.size M.toArray (w1.alloc (.cells #[.slice (some ⟨g, 0, none⟩) n cap] 27)) := by
  rcases h.2 with ⟨h1, _⟩ | ⟨g', cap', cur, h1, hb, hg, h2, h3, h4, h5⟩
  · cases h1
  · cases h1
    have hlt : g < w1.heap.size := (Array.getElem?_eq_some_iff.1 hg).1
    have hg' : (w1.alloc (.cells #[.slice (some ⟨g, 0, none⟩) n cap] 27)).heap[g]? = some (.cells cur 37 (0, 0)) := (Below.heap_alloc _ _ _ hlt).trans hg
    refine ⟨by simpa using hn, holdsO hg' (by rw [hn]; exact h5), by simp, by simp; omega, by simp, by omega, cur, hg', h4⟩

/-- .. and what it leaves. -/
theorem own_of_shd {W : World} {base g n cap lbx : Nat} {d : Array O} (h : SHd g 0 n cap lbx d W) (hb : base ≤ g) (hn : n ≤ cap) (hc : cap ≤ maxLen) : W.ownsRow base 37 9 (.slice (some ⟨g, 0, none⟩) n cap) d.toList.length (d.toList.flatMap encO) := by
  obtain ⟨cur, h1, h2⟩ := h.shape
  have hl : d.toList.length = n := by simpa using h.size
  refine ⟨by rw [flat_len], .inr ⟨g, cap, cur, by rw [hl], hb, h1, by omega, hc, h2, ?_⟩⟩
  rw [← flatK_list]
  apply List.ext_getElem?
  intro j
  by_cases hj : j < d.toList.length * 9
  · rw [List.getElem?_take_of_lt hj, Array.getElem?_toList, Array.getElem?_toList]
    have hs : j < (flatK encO 9 d).size := by rw [size_flatK]; simpa using hj
    have hcell := (h.row j hs).1
    simp only [World.cell?, h1, Nat.zero_add] at hcell
    simp only [Option.isSome_none, Bool.false_eq_true, if_false] at hcell
    rw [hcell, Array.getElem?_eq_getElem hs, getElem!_pos _ j hs]
    rfl
  · rw [List.getElem?_take_eq_none (by omega), List.getElem?_eq_none (by simp at hj; simp; omega)]

theorem sorted_list {n : Nat} {M : List O} {d : Array O} (hn : M.length = n) (hz : d.size = n) (hp : PermIn 0 n M.toArray d) (hs : SortedIn ltC 0 n d) : d.toList.Perm M ∧ InOrder d.toList := by
  refine ⟨?_, order_of_sorted (by rw [hz]; exact hs)⟩
  have h3 := hp.2.2
  have e1 : (d.extract 0 n).toList = d.toList := by simp [← hz]
  have e2 : (M.toArray.extract 0 n).toList = M := by simp [← hn]
  rw [e1, e2] at h3
  exact h3

set_option maxHeartbeats 2000000 in
theorem rsorted_any (base b : Nat) (v : Value) (M : List O) (w : World) (h : RefAt w base b v M) (hM : M.length ≤ 1000) :
    Calls Tryd.prog 13 #[.pointer (some ⟨b, 0, none⟩)] w fun e w' => ∃ v' Z, e = .returned v' ∧ Z.Perm M ∧ InOrder Z ∧ w'.ownsRow w.heap.size 37 9 v' Z.length (Z.flatMap encO) ∧ Below w.heap.size w w' := by
  obtain ⟨i0, hi, hz0, hz1, hz2⟩ := info_parts info27
  have hc := h.cell
  have hlt := h.lt
  have hE := own_empty0 (W := w) (base := w.heap.size) (Nat.le_refl _)
  have HE : Hid ((w.alloc (.cells #[] 37)).ownsRow w.heap.size 37 9 (.slice (some ⟨w.heap.size, 0, none⟩) 0 0) 0 []) := hE
  clear hE
  rcases Go.Joins.ownsRow_forms h.row with ⟨rfl, h0⟩ | ⟨gs, ck, rfl⟩
  · obtain rfl : M = [] := List.eq_nil_of_length_eq_zero h0
    clear h h0
    have HS := stable_says (blk := w.heap.size) (n := 0) (cap := 0) (lbx := w.heap.size + 1) (d := #[]) ((w.alloc (.cells #[] 37)).alloc (.cells #[.slice (some ⟨w.heap.size, 0, none⟩) 0 0] 27)) (by
      have := shd_of (M := []) rfl HE.out
      simpa using this) (by omega)
    go_enter Tryd.func13, Tryd.ntmps13
    go_wp2_with (first
      | (refine wpList_append_own_none rfl _ _ _ rfl w.heap.size 37 i0 9 Tryd.underlying27 hi _ 0 [] rfl HE.out rfl ?_)
      | (go_at_call 25; refine HS.mono ?_; rintro e w' ⟨rfl, d', h1, h2, h3, h4⟩; have hbx := h1.box)
      | fail)
    go_ret
    have hz : d'.toList = [] := List.eq_nil_of_length_eq_zero (by simpa using h1.size)
    have hw := own_of_shd (base := w.heap.size) h1 (Nat.le_refl _) (Nat.le_refl _) (Nat.zero_le _)
    rw [hz] at hw
    exact ⟨_, [], rfl, List.Perm.refl _, List.Pairwise.nil, hw, (Go.Joins.below_alloc2 w _ _).grown h4 (by simp; omega) (fun k e => by cases e; exact Nat.le_refl _)⟩
  · have HR : Hid (RefAt w base b (.slice (some ⟨gs, 0, none⟩) M.length ck) M) := h
    have HN : Hid (∀ j u, (M.flatMap encO)[j]? = some u → (w.alloc (.cells #[] 37)).cell? ((⟨gs, 0, none⟩ : Addr).add j) = some u) := fun j u hu =>
      (kept_below h.row (Go.Joins.below_alloc1 w (.cells #[] 37))).cells (g := gs) rfl j u hu
    clear h
    go_enter Tryd.func13, Tryd.ntmps13
    go_wp2_with (first
      | (refine wpList_append_some _ rfl _ _ _ rfl w.heap.size 37 i0 zO 9 64 Tryd.underlying27 hi hz0 hz1 hz2 rfl (by omega) w.heap.size 0 0 [] rfl HE.out ⟨gs, 0, none⟩ M.length ck (M.flatMap encO) rfl (flat_len M) HN.out (flat_one M) (by unfold maxLen; omega) (by omega) (by simp) ?_; intro g1 cap1 w1 hown1 hgrow1 hat1; have hw1 : w.heap.size < w1.heap.size := (by have := hgrow1.size; simp at this; omega))
      | fail)
    rw [Nat.zero_add, List.nil_append] at hown1
    have hB1 : Below w.heap.size w w1 := (Go.Joins.below_alloc1 w _).grown hgrow1 (by simp) (fun k e => by cases e; exact Nat.le_refl _)
    have hg1 : w.heap.size ≤ g1 := by
      have := hat1; simp at this; omega
    have hcaps : M.length ≤ cap1 ∧ cap1 ≤ maxLen := by
      rcases hown1.2 with ⟨h1, _⟩ | ⟨g', cap', cur, h1, _, _, h2, h3, _⟩
      · cases h1
      · cases h1; exact ⟨h2, h3⟩
    have HS := stable_says (d := M.toArray) (w1.alloc (.cells #[.slice (some ⟨g1, 0, none⟩) M.length cap1] 27)) (shd_of rfl hown1) (by omega)
    refine HS.mono ?_
    rintro e w' ⟨rfl, d', h1, h2, h3, h4⟩
    have hbx := h1.box
    go_wp2
    go_ret
    have hsl := sorted_list rfl h1.size h2 h3
    exact ⟨_, d'.toList, rfl, hsl.1, hsl.2, own_of_shd h1 hg1 hcaps.1 hcaps.2, (hB1.alloc hB1.size _).grown h4 (by simp; omega) (fun k e => by cases e; exact hg1)⟩

end Go.Proofs.YtfldfnphidehlaaDoor
