/- Bag.All: all, in order, each as often as it is there. -/
import Derived.Test.YtfldfnphidehlaaDoorBags
import Derived.Test.YtfldfnphidehlaaDoorBagt
import Derived.Deep.LoopGhost
import Derived.Deep.CutRange
namespace Go.Proofs.YtfldfnphidehlaaDoor
open Go.RowKit Go.Maps Go.Sort Go.Shelf
set_option maxRecDepth 100000

def InOrder (Z : List O) : Prop := Z.Pairwise fun x y => cO x y ≤ 0

/-- What slices.SortedFunc(maps.Keys(b.many), row.CompareOut) answers. -/
def SortedSays : Prop := ∀ (Bm b m : Nat) (om : Option Nat) (L : List O) (w : World), BagAt w b om m L → L.length ≤ 1000000 → Bm < w.heap.size → m ≤ 100000000 → w.cell? ⟨Bm, 0, none⟩ = some (.map om) →
    Calls Tryd.prog 22 #[.func (.func 32) #[] #[.pointer (some ⟨Bm, 0, none⟩)], .func (.func 24) #[] #[]] w fun e W' => ∃ v xs, e = .returned v ∧ xs.Nodup ∧ (∀ x, x ∈ xs ↔ x ∈ L) ∧ InOrder xs ∧ xs.length ≤ 100000000 ∧ W'.ownsRow w.heap.size 37 9 v xs.length (xs.flatMap encO) ∧ Below w.heap.size w W'

theorem nodup_le : ∀ (xs L : List O), xs.Nodup → (∀ x ∈ xs, x ∈ L) → xs.length ≤ L.length
  | [], _, _, _ => by simp
  | a :: r, L, hnd, hs => by
    obtain ⟨h1, h2⟩ := List.nodup_cons.1 hnd
    have ha : a ∈ L := hs a (by simp)
    have := nodup_le r (L.erase a) h2 (fun x hx => (List.mem_erase_of_ne (a := x) (b := a) (fun e => h1 (by rw [← e]; exact hx))).2 (hs x (by simp [hx])))
    rw [List.length_erase_of_mem ha] at this
    have hpos : 0 < L.length := List.length_pos_of_mem ha
    simp; omega

theorem flat_get (xs : List O) (k j : Nat) (x : O) (hx : xs[k]? = some x) (hj : j < 9) : (xs.flatMap encO)[k * 9 + j]? = (encO x)[j]? := by
  induction xs generalizing k with
  | nil => simp at hx
  | cons a r ih =>
    rw [List.flatMap_cons]
    cases k with
    | zero =>
      simp at hx; subst hx
      rw [List.getElem?_append_left (by rw [encO_len]; omega)]; simp
    | succ k =>
      simp at hx
      rw [List.getElem?_append_right (by rw [encO_len]; omega), encO_len, show (k + 1) * 9 + j - 9 = k * 9 + j by omega]
      exact ih k hx

/-- What lies in memory within a round of All. -/
structure Inn (w : World) (gk ck n : Nat) (xs : List O) (Bx : Nat) (x : O) (Z : List O) (v : Value) (W : World) : Prop where
  below : Below w.heap.size w W
  row : W.ownsRow w.heap.size 37 9 v Z.length (Z.flatMap encO)
  ks : W.ownsRow w.heap.size 37 9 (.slice (some ⟨gk, 0, none⟩) n ck) n (xs.flatMap encO)
  box : OutAt W Bx x
  ne1 : v.ownBlock ≠ some gk
  ne2 : v.ownBlock ≠ some Bx

theorem Inn.step {w W w1 : World} {gk ck n Bx : Nat} {xs Z : List O} {x : O} {v v' : Value} {o : Obj} (h : Inn w gk ck n xs Bx x Z v W)
    (hown' : w1.ownsRow w.heap.size 37 9 v' (Z.length + 1) (Z.flatMap encO ++ encO x)) (hg : (W.alloc o).grownBy w1 v.ownBlock) (hloc : v'.ownBlock = v.ownBlock ∨ v'.ownBlock = some (W.alloc o).heap.size) :
    Inn w gk ck n xs Bx x (Z ++ [x]) v' w1 := by
  have hs := h.below.size
  have hBx : Bx < W.heap.size := (Array.getElem?_eq_some_iff.1 (show W.heap[Bx]? = some _ from h.box)).1
  have hgk : gk < W.heap.size := by
    have h2 := h.ks.2
    rcases h2 with ⟨h3, _⟩ | ⟨g, cap, cur, h3, _, h4, _⟩
    · cases h3
    · cases h3; exact (Array.getElem?_eq_some_iff.1 h4).1
  refine ⟨(h.below.alloc hs _).grown hg (by simp; omega) (fun k e => ?_), by simpa [List.flatMap_append] using hown', (h.ks.alloc _).kept hg (.inr (by simpa [Value.ownBlock] using fun e => h.ne1 e.symm)), ?_, ?_, ?_⟩
  · rcases h.row.2 with ⟨rfl, _⟩ | ⟨g, cap, cur, rfl, h3, _⟩
    · simp [Value.ownBlock] at e
    · simp [Value.ownBlock] at e; omega
  · have h5 : W.heap[Bx]? = some (.cells (encO x).toArray 37 (0, 0)) := h.box
    exact (hg.block Bx (by simp; omega) (fun e => h.ne2 e.symm)).trans ((Below.heap_alloc W o Bx hBx).trans h5)
  · rcases hloc with e | e
    · rw [e]; exact h.ne1
    · rw [e]; simp; omega
  · rcases hloc with e | e
    · rw [e]; exact h.ne2
    · rw [e]; simp; omega

/-- The first k of xs, each as often as it is in L. -/
def Zk (xs L : List O) (k : Nat) : List O := (xs.take k).flatMap fun x => List.replicate (L.count x) x
theorem Zk_succ (xs L : List O) (k : Nat) (x : O) (h : xs[k]? = some x) : Zk xs L (k + 1) = Zk xs L k ++ List.replicate (L.count x) x := by
  unfold Zk
  rw [List.take_add_one, h]; simp [List.flatMap_append]
theorem Zk_count (xs L : List O) (hn : xs.Nodup) (hm : ∀ x, x ∈ xs ↔ x ∈ L) (y : O) : (Zk xs L xs.length).count y = L.count y := by
  unfold Zk
  rw [List.take_length]
  have key : ∀ (zs : List O), zs.Nodup → (zs.flatMap fun x => List.replicate (L.count x) x).count y = if y ∈ zs then L.count y else 0 := by
    intro zs
    induction zs with
    | nil => simp
    | cons a r ih =>
      intro hnd
      obtain ⟨h1, h2⟩ := List.nodup_cons.1 hnd
      rw [List.flatMap_cons, List.count_append, ih h2]
      by_cases e : y = a
      · subst e
        simp [h1]
      · have : List.count y (List.replicate (L.count a) a) = 0 := by
          rw [List.count_eq_zero]; intro hh; exact e (List.eq_of_mem_replicate hh)
        rw [this]; simp [e]
  rw [key xs hn]
  by_cases h : y ∈ xs
  · simp [h]
  · rw [if_neg h]; exact (List.count_eq_zero.2 (fun h' => h ((hm y).2 h'))).symm
theorem Zk_perm (xs L : List O) (hn : xs.Nodup) (hm : ∀ x, x ∈ xs ↔ x ∈ L) : (Zk xs L xs.length).Perm L := List.perm_iff_count.2 (Zk_count xs L hn hm)
theorem Zk_order (xs L : List O) (h : InOrder xs) : InOrder (Zk xs L xs.length) := by
  unfold Zk InOrder
  rw [List.take_length, List.pairwise_flatMap]
  refine ⟨fun a _ => ?_, h.imp fun {a b} hab => ?_⟩
  · rw [List.pairwise_replicate]; exact .inr (by rw [(cO_zero a a).2 rfl]; omega)
  · intro x hx y hy
    rw [List.eq_of_mem_replicate hx, List.eq_of_mem_replicate hy]; exact hab
theorem Zk_le (xs L : List O) (hn : xs.Nodup) (hm : ∀ x, x ∈ xs ↔ x ∈ L) (k : Nat) : (Zk xs L k).length ≤ L.length := by
  have h := (Zk_perm xs L hn hm).length_eq
  have : (Zk xs L k).length ≤ (Zk xs L xs.length).length := by
    unfold Zk
    rw [List.take_length]
    have : xs = xs.take k ++ xs.drop k := (List.take_append_drop k xs).symm
    conv => rhs; rw [this]
    rw [List.flatMap_append, List.length_append]; omega
  omega

end Go.Proofs.YtfldfnphidehlaaDoor
