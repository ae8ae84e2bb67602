/- BagBack's ground: rotations; two bags in memory. -/
import Derived.Test.YtfldfnphidehlaaBack
namespace Go.Proofs.Ytfldfnphidehlaa
open Go.Shelf Go.RowKit Go.Lib Go.Sort

theorem mod_at {n p j : Nat} (hp : p < n) (hj : j < n) : (j + p) % n = if j + p < n then j + p else j + p - n := by
  split
  · rename_i h; exact Nat.mod_eq_of_lt h
  · rename_i h
    rw [Nat.mod_eq_sub_mod (by omega), Nat.mod_eq_of_lt (by omega)]
theorem rot_range (n p : Nat) (hp : p < n) : ((List.range n).map fun j => (j + p) % n).Perm (List.range n) := by
  refine (List.perm_ext_iff_of_nodup ?_ List.nodup_range).2 fun x => ?_
  · rw [List.Nodup, List.pairwise_map]
    refine List.Pairwise.imp_of_mem (fun {a b} ha hb hne e => ?_) (List.nodup_range (n := n))
    rw [List.mem_range] at ha hb
    rw [mod_at hp ha, mod_at hp hb] at e
    apply hne
    split at e <;> split at e <;> omega
  · rw [List.mem_map, List.mem_range]
    constructor
    · rintro ⟨a, ha, rfl⟩; exact Nat.mod_lt _ (by omega)
    · intro hx
      by_cases h : p ≤ x
      · exact ⟨x - p, by rw [List.mem_range]; omega, by rw [mod_at hp (by omega)]; split <;> omega⟩
      · exact ⟨x + n - p, by rw [List.mem_range]; omega, by rw [mod_at hp (by omega)]; split <;> omega⟩
theorem rot_perm (n p : Nat) (S : Nat → O) (hp : p < n) : ((List.range n).map fun j => S ((j + p) % n)).Perm ((List.range n).map S) := by
  have := (rot_range n p hp).map S
  rwa [List.map_map] at this

/-- Both are ordered, each is the other otherwise ordered: they are the same. -/
theorem order_eq {Z Z' : List O} (h : Z.Perm Z') (h1 : InOrder Z) (h2 : InOrder Z') : Z = Z' := by
  refine List.Perm.eq_of_pairwise (le := fun a b => cO a b ≤ 0) (fun a b _ _ h3 h4 => ?_) h1 h2 h
  rw [cO_neg] at h4
  exact (cO_zero a b).1 (by omega)

/-- Two bags in the call's own memory. -/
structure Duo (w : World) (ba bb : Nat) (oma omb : Option Nat) (ma mb : Nat) (La Lb : List O) (W : World) : Prop where
  a : Mine w ba oma ma La W
  b : Mine w bb omb mb Lb W
  ne : ba ≠ bb
  apart : ∀ k, oma = some k → omb ≠ some k

theorem BagAt.not_map {W : World} {b c m m' : Nat} {om om' : Option Nat} {L L' : List O} (h : BagAt W b om m L) (h' : BagAt W c om' m' L') : om ≠ some c := by
  intro e
  rcases h.map with ⟨h1, _⟩ | ⟨bm, n, D, h1, _, hown, _⟩
  · rw [h1] at e; cases e
  · rw [h1] at e; cases e
    obtain ⟨es, cl, hh, _⟩ := hown
    rw [h'.blk] at hh; cases hh

theorem Duo.stepA {w W W' : World} {ba bb ma mb ma' : Nat} {oma omb oma' : Option Nat} {La Lb La' : List O} (h : Duo w ba bb oma omb ma mb La Lb W) (hb : BagAt W' ba oma' ma' La') (hk : Keep ba oma W W') (hm : Moves W oma oma') :
    Duo w ba bb oma' omb ma' mb La' Lb W' := by
  have hbb := h.b.bag.lt
  have hA := h.a.go hb hk hm
  refine ⟨hA, ⟨h.b.bag.kept (hk.block bb hbb (Ne.symm h.ne) (h.a.bag.not_map h.b.bag)) (fun k e => hk.block k (h.b.bag.ne e).2 (fun e' => h.b.bag.not_map h.a.bag (by rw [e, e'])) (fun e' => h.apart k e' e)), hA.below, h.b.base, h.b.mbase⟩, h.ne, fun k e1 e2 => ?_⟩
  rcases hm with rfl | ⟨j, rfl, hj⟩
  · exact h.apart k e1 e2
  · cases e1; have := (h.b.bag.ne e2).2; omega
theorem Duo.swap {w W : World} {ba bb ma mb : Nat} {oma omb : Option Nat} {La Lb : List O} (h : Duo w ba bb oma omb ma mb La Lb W) : Duo w bb ba omb oma mb ma Lb La W :=
  ⟨h.b, h.a, Ne.symm h.ne, fun k e1 e2 => h.apart k e2 e1⟩
theorem Duo.stepB {w W W' : World} {ba bb ma mb mb' : Nat} {oma omb omb' : Option Nat} {La Lb Lb' : List O} (h : Duo w ba bb oma omb ma mb La Lb W) (hb : BagAt W' bb omb' mb' Lb') (hk : Keep bb omb W W') (hm : Moves W omb omb') :
    Duo w ba bb oma omb' ma mb' La Lb' W' := (h.swap.stepA hb hk hm).swap
theorem Duo.by_below {w W W' : World} {ba bb ma mb : Nat} {oma omb : Option Nat} {La Lb : List O} (h : Duo w ba bb oma omb ma mb La Lb W) (hb : Below W.heap.size W W') : Duo w ba bb oma omb ma mb La Lb W' :=
  ⟨h.a.by_below hb, h.b.by_below hb, h.ne, h.apart⟩

/-- Nine cells at an address: an Out. -/
def Cells9 (W : World) (g o : Nat) (x : O) : Prop := W.cell? ⟨g, o, none⟩ = some (.int .i64 x.k) ∧ W.cell? ⟨g, o + 1, none⟩ = some (.int .i64 x.lk) ∧ W.cell? ⟨g, o + 2, none⟩ = some (.int .i64 x.lt) ∧ W.cell? ⟨g, o + 3, none⟩ = some (.int .i64 x.lv) ∧ W.cell? ⟨g, o + 4, none⟩ = some (.int .i64 x.rk) ∧ W.cell? ⟨g, o + 5, none⟩ = some (.int .i64 x.rt) ∧ W.cell? ⟨g, o + 6, none⟩ = some (.int .i64 x.rv) ∧ W.cell? ⟨g, o + 7, none⟩ = some (.bool x.hl) ∧ W.cell? ⟨g, o + 8, none⟩ = some (.bool x.hr)
theorem Cells9.below {w W : World} {g o : Nat} {x : O} (h : Cells9 w g o x) (hb : Below w.heap.size w W) (hg : g < w.heap.size) : Cells9 W g o x := by
  have key := fun (o : Nat) => hb.cell (p := ⟨g, o, none⟩) hg
  unfold Cells9 at *
  simp only [key]
  exact h

/-- A slice of Outs that came in. -/
def ArgAt (w : World) (oa : Option Addr) (n : Nat) (S : Nat → O) : Prop := 0 < n → ∃ g o, oa = some ⟨g, o, none⟩ ∧ g < w.heap.size ∧ ∀ k, k < n → Cells9 w g (o + k * 9) (S k) ∧ (S k).wf

end Go.Proofs.Ytfldfnphidehlaa
