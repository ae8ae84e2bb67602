/- The desk in pieces: what is answered to a text's head is the head of what is answered. -/
import Derived.Test.YthfpipieboophaaGreatDoorDkx
namespace Go.Proofs.YthfpipieboophaaGreatDoor
open Go.RowKit Go.Sort Go.Shelf
set_option maxRecDepth 100000
theorem lns_app (a b : List UInt8) : lnsOf (a ++ 10 :: b) = lnsOf a ++ lnsOf b := by
  induction a with
  | nil => simp [lnsOf]
  | cons c a ih =>
    show lnsOf (c :: (a ++ 10 :: b)) = lnsOf (c :: a) ++ lnsOf b
    generalize lnsOf b = B at *
    unfold lnsOf
    split
    · rw [ih]; rfl
    · rw [ih]
      cases h : lnsOf a with
      | nil => exact absurd h (lns_ne a)
      | cons x r => rfl
theorem trim_one (a : List UInt8) : Lib.trimSuffix (a ++ [10]) [10] = a := by
  unfold Lib.trimSuffix Lib.hasSuffix
  rw [if_pos (by rw [List.isSuffixOf_iff_suffix]; exact List.suffix_append _ _)]
  simp
theorem trim_more (a b : List UInt8) : Lib.trimSuffix (a ++ 10 :: b) [10] = a ∨ ∃ b', Lib.trimSuffix (a ++ 10 :: b) [10] = a ++ 10 :: b' := by
  rcases List.eq_nil_or_concat b with rfl | ⟨b', c, rfl⟩
  · exact .inl (trim_one a)
  · right
    by_cases hc : c = 10
    · subst hc
      refine ⟨b', ?_⟩
      have := trim_one (a ++ 10 :: b')
      simpa using this
    · refine ⟨b' ++ [c], ?_⟩
      unfold Lib.trimSuffix Lib.hasSuffix
      rw [if_neg]
      · simp
      · rw [List.isSuffixOf_iff_suffix]
        rintro ⟨t, ht⟩
        have ht2 : t ++ [10] = (a ++ 10 :: b') ++ [c] := by simpa using ht
        have := (List.append_inj' ht2 rfl).2
        simp at this
        exact hc this.symm
theorem sess_head (a b : List UInt8) : ∃ z, sessTx (a ++ 10 :: b) = sessTx (a ++ [10]) ++ z := by
  unfold sessTx
  rw [trim_one]
  rcases trim_more a b with h | ⟨b', h⟩
  · rw [h]; exact ⟨[], by simp⟩
  · rw [h, lns_app, runs_app]; exact ⟨_, rfl⟩
theorem trim_len (t : List UInt8) : (Lib.trimSuffix t [10]).length ≤ t.length := by
  unfold Lib.trimSuffix
  split
  · rw [List.length_take]; omega
  · exact Nat.le_refl _
theorem cnt_text (t : List UInt8) (h : t.length ≤ 3000) : cntW (lnsOf (Lib.trimSuffix t [10])) ≤ 1600 := by
  have h1 := cnt_half (lnsOf (Lib.trimSuffix t [10]))
  rw [lns_rest] at h1
  have := trim_len t
  omega
theorem sess_first : sessTx [108, 101, 102, 116, 32, 49, 32, 53, 32, 55, 10, 120, 10] = [102, 101, 100, 44, 32, 43, 49, 58, 32, 53, 32, 55, 32, 45, 10, 101, 114, 114, 111, 114, 32, 51, 10] := by kernel_rfl
theorem sess_at (w : World) (hG : GlobE w) (t : List UInt8) (V : World) (ht : t.length ≤ 3000) (hV : Below w.heap.size w V) : Calls Tryz.prog 32 #[.string ⟨t.toArray⟩] V fun e w' => e = .returned (sV (sessTx t)) ∧ Hid (Below w.heap.size w w') := by
  refine (session_any t (by omega) (cnt_text t ht) V (hG.below hV)).mono ?_
  rintro e w' ⟨rfl, hb⟩
  exact ⟨rfl, hV.trans (hb.mono hV.size)⟩
theorem sess_one (w : World) (hG : GlobE w) : Calls Tryz.prog 32 #[.string ⟨#[108, 101, 102, 116, 32, 49, 32, 53, 32, 55, 10, 120, 10]⟩] w fun e w' => e = .returned (.string ⟨#[102, 101, 100, 44, 32, 43, 49, 58, 32, 53, 32, 55, 32, 45, 10, 101, 114, 114, 111, 114, 32, 51, 10]⟩) ∧ Hid (Below w.heap.size w w') := by
  refine (sess_at w hG [108, 101, 102, 116, 32, 49, 32, 53, 32, 55, 10, 120, 10] w (by decide) (Below.refl _ _)).mono ?_
  rintro e w' ⟨rfl, hb⟩
  rw [sess_first]
  exact ⟨rfl, hb⟩
set_option maxHeartbeats 400000 in
theorem pieces_small (a b : List UInt8) (hl : a.length + b.length ≤ 2000) (w : World) (hG : GlobE w) : Calls Tryz.prog 5 #[sV a, sV b] w fun e w' => e = .returned (.bool true) ∧ Below w.heap.size w w' := by
  have i1 : (a.length : Int) + (b.length : Int) ≤ 2000 := by omega
  have e1 : ((⟨a.toArray⟩ : ByteArray) ++ (⟨#[10]⟩ : ByteArray)) = ⟨(a ++ [10]).toArray⟩ := by apply ByteArray.ext; simp
  have e2 : ((⟨a.toArray⟩ : ByteArray) ++ (⟨#[10]⟩ : ByteArray) ++ (⟨b.toArray⟩ : ByteArray)) = ⟨(a ++ 10 :: b).toArray⟩ := by apply ByteArray.ext; simp
  obtain ⟨z, hz⟩ := sess_head a b
  have H0 : Hid (Calls Tryz.prog 32 #[.string ⟨#[108, 101, 102, 116, 32, 49, 32, 53, 32, 55, 10, 120, 10]⟩] w fun e w' => e = .returned (.string ⟨#[102, 101, 100, 44, 32, 43, 49, 58, 32, 53, 32, 55, 32, 45, 10, 101, 114, 114, 111, 114, 32, 51, 10]⟩) ∧ Hid (Below w.heap.size w w')) := sess_one w hG
  have H1 : Hid (∀ V, Hid (Below w.heap.size w V) → Calls Tryz.prog 32 #[.string ((⟨a.toArray⟩ : ByteArray) ++ (⟨#[10]⟩ : ByteArray))] V fun e w' => e = .returned (sV (sessTx (a ++ [10]))) ∧ Hid (Below w.heap.size w w')) := by
    intro V hV
    rw [e1]
    exact sess_at w hG _ V (by simp; omega) hV.out
  have H2 : Hid (∀ V, Hid (Below w.heap.size w V) → Calls Tryz.prog 32 #[.string ((⟨a.toArray⟩ : ByteArray) ++ (⟨#[10]⟩ : ByteArray) ++ (⟨b.toArray⟩ : ByteArray))] V fun e w' => e = .returned (sV (sessTx (a ++ [10]) ++ z)) ∧ Hid (Below w.heap.size w w')) := by
    intro V hV
    rw [e2, ← hz]
    exact sess_at w hG _ V (by simp; omega) hV.out
  clear e1 e2 hz hG
  have s1 : ¬ 9223372036854775807 < a.length + 1 := by omega
  have s2 : ¬ 9223372036854775807 < a.length + 1 + b.length := by omega
  generalize sessTx (a ++ [10]) = X at *
  have k1 : (X.length : Int) ≤ ((X ++ z).length : Int) := by simp; omega
  have ef : Hid ((⟨(X ++ z).toArray⟩ : ByteArray).extract 0 X.length = ⟨X.toArray⟩) := extract_first X z
  generalize X ++ z = Y at *
  go_enter Tryz.func5, Tryz.ntmps5
  go_wp2_with fail
  refine H0.out.mono ?_
  rintro e w1 ⟨rfl, h1⟩
  clear H0
  go_wp2_with fail
  refine (H1.out _ h1).mono ?_
  rintro e w2 ⟨rfl, h2⟩
  clear H1
  go_wp2_with fail
  refine (H2.out _ h2).mono ?_
  rintro e w3 ⟨rfl, h3⟩
  clear H2
  go_wp2
  go_ret
  refine ⟨?_, h3.out⟩
  show Ending.returned (Value.bool (((⟨Y.toArray⟩ : ByteArray).extract 0 X.length).toList == X)) = _
  rw [ef.out]
  simp
theorem pieces_big (a b : List UInt8) (hl : 2000 < a.length + b.length) (hs : a.length + b.length ≤ 9223372036854775807) (w : World) : Calls Tryz.prog 5 #[sV a, sV b] w fun e w' => e = .returned (.bool true) ∧ Below w.heap.size w w' := by
  have i1 : (2000 : Int) < (a.length : Int) + (b.length : Int) := by omega
  have i2 : (a.length : Int) + (b.length : Int) ≤ 9223372036854775807 := by omega
  go_enter Tryz.func5, Tryz.ntmps5
  go_wp2
  go_ret
  exact ⟨rfl, Below.refl _ _⟩
theorem pieces_any (a b : List UInt8) (hs : a.length + b.length ≤ 9223372036854775807) (w : World) (hG : GlobE w) : Calls Tryz.prog 5 #[sV a, sV b] w fun e w' => e = .returned (.bool true) ∧ Below w.heap.size w w' := by
  rcases Nat.lt_or_ge 2000 (a.length + b.length) with h | h
  · exact pieces_big a b h hs w
  · exact pieces_small a b h w hG
end Go.Proofs.YthfpipieboophaaGreatDoor
