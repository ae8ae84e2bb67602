/- What reads as a key of an Out's type is an Out. -/
import Derived.Test.YtfldfnphidehlaaDoorBase
namespace Go.Proofs.YtfldfnphidehlaaDoor
open Go.RowKit Go.Sort
set_option maxRecDepth 100000

theorem int_inv {d : Nat} {c : Value} {ls : List Lit} (h : Tryd.prog.keyLits (d + 1) 3 [c] = some ls) : ∃ a, c = .int .i64 a ∧ (Lit.int .i64 a).wf = true := by
  unfold Program.keyLits at h
  rw [Tryd.underlying3] at h
  cases c <;> simp at h
  rename_i q a
  exact ⟨a, by rw [h.1.1], h.1.2⟩
theorem bool_inv {d : Nat} {c : Value} {ls : List Lit} (h : Tryd.prog.keyLits (d + 1) 4 [c] = some ls) : ∃ a, c = .bool a := by
  unfold Program.keyLits at h
  rw [Tryd.underlying4] at h
  cases c <;> simp at h
  rename_i a
  exact ⟨a, rfl⟩
theorem row_inv {d : Nat} {c0 c1 c2 : Value} {ls : List Lit} (h : Tryd.prog.keyLits (d + 2) 35 [c0, c1, c2] = some ls) : ∃ a b c, c0 = .int .i64 a ∧ c1 = .int .i64 b ∧ c2 = .int .i64 c ∧ (Lit.int .i64 a).wf = true ∧ (Lit.int .i64 b).wf = true ∧ (Lit.int .i64 c).wf = true := by
  rw [show d + 2 = (d + 1) + 1 from rfl] at h
  unfold Program.keyLits at h
  rw [Tryd.underlying35] at h
  simp [cells23, cells3] at h
  cases h0 : Tryd.prog.keyLits (d + 1) 3 [c0] with
  | none => simp [h0] at h
  | some l0 =>
    cases h1 : Tryd.prog.keyLits (d + 1) 3 [c1] with
    | none => simp [h0, h1] at h
    | some l1 =>
      cases h2 : Tryd.prog.keyLits (d + 1) 3 [c2] with
      | none => simp [h0, h1, h2] at h
      | some l2 =>
        obtain ⟨a, rfl, ha⟩ := int_inv h0
        obtain ⟨b, rfl, hb⟩ := int_inv h1
        obtain ⟨c, rfl, hc⟩ := int_inv h2
        exact ⟨a, b, c, rfl, rfl, rfl, ha, hb, hc⟩

theorem list9 {α : Type} {l : List α} (h : l.length = 9) : ∃ a b c d e f g i j, l = [a, b, c, d, e, f, g, i, j] := by
  match l, h with
  | [a, b, c, d, e, f, g, i, j], _ => exact ⟨a, b, c, d, e, f, g, i, j, rfl⟩

theorem key_inv {v : Value} {l : Lit} (h : keyOf Tryd.prog 37 v = some l) : ∃ x : O, x.wf ∧ v = vO x := by
  unfold keyOf at h
  rw [Tryd.underlying37] at h
  simp only [keyType27, Bool.true_and] at h
  split at h
  · rename_i hf
    cases v <;> simp [Value.formed, Tryd.underlying37] at hf
    rename_i cs
    obtain ⟨cl⟩ := cs
    obtain ⟨c0, c1, c2, c3, c4, c5, c6, c7, c8, rfl⟩ := list9 (l := cl) (by simpa [cells27] using hf)
    rw [show Tryd.prog.types.size + 1 = (Tryd.prog.types.size - 2 + 2) + 1 by have : 2 ≤ Tryd.prog.types.size := of_decide_eq_true (by kernel_rfl); omega] at h
    generalize Tryd.prog.types.size - 2 = d at h
    unfold Program.keyLits at h
    rw [Tryd.underlying37] at h
    simp [cells27, cells3, cells4, cells23, Value.cells] at h
    cases h0 : Tryd.prog.keyLits (d + 2) 3 [c0] with
    | none => simp [h0] at h
    | some l0 =>
      cases h1 : Tryd.prog.keyLits (d + 2) 35 [c1, c2, c3] with
      | none => simp [h0, h1] at h
      | some l1 =>
        cases h2 : Tryd.prog.keyLits (d + 2) 35 [c4, c5, c6] with
        | none => simp [h0, h1, h2] at h
        | some l2 =>
          cases h3 : Tryd.prog.keyLits (d + 2) 4 [c7] with
          | none => simp [h0, h1, h2, h3] at h
          | some l3 =>
            cases h4 : Tryd.prog.keyLits (d + 2) 4 [c8] with
            | none => simp [h0, h1, h2, h3, h4] at h
            | some l4 =>
              obtain ⟨k, rfl, hk⟩ := int_inv h0
              obtain ⟨a, b, c, rfl, rfl, rfl, ha, hb, hc⟩ := row_inv h1
              obtain ⟨a', b', c', rfl, rfl, rfl, ha', hb', hc'⟩ := row_inv h2
              obtain ⟨x, rfl⟩ := bool_inv h3
              obtain ⟨y, rfl⟩ := bool_inv h4
              exact ⟨⟨k, a, b, c, a', b', c', x, y⟩, ⟨hk, ha, hb, hc, ha', hb', hc'⟩, rfl⟩
  · cases h

end Go.Proofs.YtfldfnphidehlaaDoor
