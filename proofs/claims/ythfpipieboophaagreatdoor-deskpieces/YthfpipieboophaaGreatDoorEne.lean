/- An engine: what it says, of rows that are taken; what it shows. -/
import Derived.Test.YthfpipieboophaaGreatDoorEnz
import Derived.Test.YthfpipieboophaaGreatDoorEvy
import Derived.Test.YthfpipieboophaaGreatDoorBagq
import Derived.Test.YthfpipieboophaaGreatDoorShelfP
namespace Go.Proofs.YthfpipieboophaaGreatDoor
open Go.RowKit Go.Sort Go.Shelf
set_option maxRecDepth 100000
theorem nil_says : NilSays := fun w =>
  (AnyF.slices_SortFunc_none { Tryz.sortO with } none 0 (.func (.func 122) #[] #[]) w).mono fun _ _ h => h
theorem order_eq {Z Z' : List O} (h : Z.Perm Z') (h1 : InOrder Z) (h2 : InOrder Z') : Z = Z' := by
  refine List.Perm.eq_of_pairwise (le := fun a b => cO a b ≤ 0) (fun a b _ _ h3 h4 => ?_) h1 h2 h
  rw [cO_neg] at h4
  exact (cO_zero a b).1 (by omega)
def EngAt (be : Nat) (x : J) (L : List O) (S : Nat → Prop) (w : World) : Prop :=
  ∃ bj bm v0 v1 f0 f1 om Sg, EngIn w be bj bm v0 v1 f0 f1 om Sg x L L ∧ ∀ k, S k ↔ footE bj bm v0 v1 om Sg k
theorem own_apart {w : World} {b1 b2 e1 e2 s1 s2 n1 n2 : Nat} {u v : Value} {xs ys : List Value} (h1 : w.ownsRow b1 e1 s1 u n1 xs) (h2 : w.ownsRow b2 e2 s2 v n2 ys) (hne : e1 ≠ e2) {k : Nat} (hk : u.ownBlock = some k) : v.ownBlock ≠ some k := by
  rcases h1.2 with ⟨rfl, _⟩ | ⟨g, cap, cur, rfl, _, hg, _⟩
  · simp [Value.ownBlock] at hk
  · rcases h2.2 with ⟨rfl, _⟩ | ⟨g', cap', cur', rfl, _, hg', _⟩
    · simp [Value.ownBlock]
    · simp [Value.ownBlock] at hk ⊢
      subst hk
      intro e
      subst e
      rw [hg] at hg'
      cases hg'
      exact hne rfl
theorem metS_len (k a b : Int) {R : List D} (h : SortedR R) : (metR k a b R).length ≤ R.length := by
  rw [met_is_filter h]
  exact List.length_filter_le _ _
theorem footJ_new {w : World} {bj bm : Nat} {v0 v1 v0' v1' : Value} (h0 : Fresh w v0 v0') (h1 : Fresh w v1 v1') : ∀ k, footJ bj bm v0' v1' k → footJ bj bm v0 v1 k ∨ w.heap.size ≤ k := by
  rintro k (e | e | e | e)
  · exact .inl (.inl e)
  · exact .inl (.inr (.inl e))
  · rcases h0 with h | ⟨g, h, hl⟩
    · exact .inl (.inr (.inr (.inl (by rw [← h]; exact e))))
    · rw [h] at e; cases e; exact .inr hl
  · rcases h1 with h | ⟨g, h, hl⟩
    · exact .inl (.inr (.inr (.inr (by rw [← h]; exact e))))
    · rw [h] at e; cases e; exact .inr hl
end Go.Proofs.YthfpipieboophaaGreatDoor
