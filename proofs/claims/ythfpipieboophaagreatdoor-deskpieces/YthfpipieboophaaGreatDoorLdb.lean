/- An engine that is put together, line by line: for whatever engine. -/
import Derived.Test.YthfpipieboophaaGreatDoorLdz
import Derived.Test.YthfpipieboophaaGreatDoorLdz
import Derived.Test.YthfpipieboophaaGreatDoorVwz
namespace Go.Proofs.YthfpipieboophaaGreatDoor
open Go.RowKit Go.Sort Go.Shelf
set_option maxRecDepth 100000
attribute [local go_sem] Oper.semAt_some
structure Bd (w : World) (kb bm : Nat) (ve : Value) (W : World) : Prop where
  low : Below w.heap.size w W
  r1 : W.heap[w.heap.size]? = some (.cells #[.pointer none] 27)
  r2 : W.heap[w.heap.size + 1]? = some (.cells #[.bool false] 4)
  re : W.heap[w.heap.size + 1 + 1]? = some (.cells #[ve] 27)
  rk : W.heap[kb]? = some (.cells #[.map (some bm)] 152)
  kn : Known W bm
  kb3 : w.heap.size + 3 ≤ kb
  bm3 : w.heap.size + 3 ≤ bm
section
variable {w : World} {kb bm : Nat} {ve : Value} {W W' : World}
theorem Bd.lts (h : Bd w kb bm ve W) : w.heap.size + 2 < W.heap.size ∧ kb < W.heap.size ∧ bm < W.heap.size := by
  refine ⟨(Array.getElem?_eq_some_iff.1 h.re).1, (Array.getElem?_eq_some_iff.1 h.rk).1, ?_⟩
  obtain ⟨es, c, h1, _⟩ := h.kn
  exact (Array.getElem?_eq_some_iff.1 h1).1
theorem Bd.still (h : Bd w kb bm ve W) (hb : Below w.heap.size W W') (hk : ∀ k, k = w.heap.size ∨ k = w.heap.size + 1 ∨ k = w.heap.size + 1 + 1 ∨ k = kb ∨ k = bm → W'.heap[k]? = W.heap[k]?) : Bd w kb bm ve W' :=
  ⟨h.low.trans hb, (hk _ (.inl rfl)).trans h.r1, (hk _ (.inr (.inl rfl))).trans h.r2, (hk _ (.inr (.inr (.inl rfl)))).trans h.re, (hk _ (.inr (.inr (.inr (.inl rfl))))).trans h.rk, h.kn.still (hk _ (.inr (.inr (.inr (.inr rfl))))), h.kb3, h.bm3⟩
theorem Bd.below (h : Bd w kb bm ve W) (hb : Below W.heap.size W W') : Bd w kb bm ve W' := by
  have l := h.lts
  refine h.still (hb.mono (by omega)) (fun k hk => hb.block k ?_)
  rcases hk with rfl | rfl | rfl | rfl | rfl <;> omega
theorem Bd.cells (h : Bd w kb bm ve W) : W.cell? ⟨w.heap.size, 0, none⟩ = some (.pointer none) ∧ W.cell? ⟨w.heap.size + 1, 0, none⟩ = some (.bool false) ∧ W.cell? ⟨w.heap.size + 1 + 1, 0, none⟩ = some ve ∧ W.cell? ⟨kb, 0, none⟩ = some (.map (some bm)) ∧ W.frozen? ⟨w.heap.size, 0, none⟩ = false ∧ W.frozen? ⟨w.heap.size + 1, 0, none⟩ = false ∧ W.frozen? ⟨w.heap.size + 1 + 1, 0, none⟩ = false :=
  ⟨by rw [Go.Joins.cell_of_block h.r1]; rfl, by rw [Go.Joins.cell_of_block h.r2]; rfl, by rw [Go.Joins.cell_of_block h.re]; rfl, by rw [Go.Joins.cell_of_block h.rk]; rfl, Go.Joins.unfrozen_of_block h.r1 0, Go.Joins.unfrozen_of_block h.r2 0, Go.Joins.unfrozen_of_block h.re 0⟩
theorem Bd.put (h : Bd w kb bm ve W) (u : Value) : Bd w kb bm u (W.setCell ⟨w.heap.size + 1 + 1, 0, none⟩ u) := by
  have hs : ∀ j, j ≠ w.heap.size + 1 + 1 → (W.setCell ⟨w.heap.size + 1 + 1, 0, none⟩ u).heap[j]? = W.heap[j]? := fun j e => Below.heap_setCell _ _ _ _ e
  have a := h.kb3
  have b := h.bm3
  refine ⟨h.low.setCell (p := ⟨w.heap.size + 1 + 1, 0, none⟩) (by show w.heap.size ≤ w.heap.size + 1 + 1; omega) _, (hs _ (by omega)).trans h.r1, (hs _ (by omega)).trans h.r2, ?_, (hs _ (by omega)).trans h.rk, h.kn.still (hs _ (by omega)), a, b⟩
  rw [Go.Joins.block_setCell h.re]
  rfl
end
def Bi (P : Nat → Nat → (Nat → Prop) → World → Prop) (w : World) (kb bm : Nat) (B : Nat) (i : Nat) (W : World) : Prop :=
  ∃ ve, Bd w kb bm ve W ∧ ((i = 0 ∧ ve = .pointer none) ∨ ∃ be S, 1 ≤ i ∧ ve = .pointer (some ⟨be, 0, none⟩) ∧ P i be S W ∧ ∀ k, S k → B ≤ k ∧ k < W.heap.size)
theorem Bi.grown {P : Nat → Nat → (Nat → Prop) → World → Prop} (hP : ∀ i be, Steady (P i be)) {w : World} {kb bm B i : Nat} {W W' : World} {row : Option Nat} (h : Bi P w kb bm B i W) (hg : W.grownBy W' row) (hr : ∀ k, row = some k → w.heap.size + 3 ≤ k ∧ k ≠ kb ∧ k ≠ bm ∧ k < B) : Bi P w kb bm B i W' := by
  obtain ⟨ve, hB, hE⟩ := h
  have l := hB.lts
  have hb : Below w.heap.size W W' := (Below.refl _ _).grown hg (by omega) (fun k e => by have := (hr k e).1; omega)
  refine ⟨ve, hB.still hb (fun k hk => hg.block k ?_ (fun e => ?_)), ?_⟩
  · rcases hk with rfl | rfl | rfl | rfl | rfl <;> omega
  · obtain ⟨h1, h2, h3, _⟩ := hr k e.symm
    rcases hk with rfl | rfl | rfl | rfl | rfl <;> omega
  · rcases hE with hE | ⟨be, S, h1, h2, h3, h4⟩
    · exact .inl hE
    · refine .inr ⟨be, S, h1, h2, hP i be S W W' h3 hg.size (fun k hk => hg.block k (h4 k hk).2 (fun e => ?_)), fun k hk => ⟨(h4 k hk).1, Nat.lt_of_lt_of_le (h4 k hk).2 hg.size⟩⟩
      have := (hr k e.symm).2.2.2
      have := (h4 k hk).1
      omega
set_option maxHeartbeats 8000000 in
theorem build_ok (HIx : ∀ (s : ByteArray) (c : UInt8) (w : World), Calls Tryz.prog 154 #[.string s, .string ⟨#[c]⟩] w fun e w' => e = .returned (.int .i64 (Lib.indexByte s.data.toList c)) ∧ w' = w)
    (HTr : ∀ (s p : ByteArray) (w : World), s.size ≤ 9223372036854775807 → Calls Tryz.prog 90 #[.string s, .string p] w fun e w' => e = .returned (.string ⟨(Lib.trimSuffix s.data.toList p.data.toList).toArray⟩) ∧ w' = w)
    (P : Nat → Nat → (Nat → Prop) → World → Prop) (hP : ∀ i be, Steady (P i be)) (ls : List (ByteArray × List Int)) (tx : ByteArray × List Int → List UInt8) (w : World)
    (hne : ls ≠ []) (h10 : ∀ p ∈ ls, (10 : UInt8) ∉ tx p) (hsz : (ls.flatMap fun p => tx p ++ [10]).length ≤ 1000000)
    (HRd : ∀ (i : Nat) p bm W, ls[i]? = some p → Below w.heap.size w W → Known W bm → bm < W.heap.size → Calls Tryz.prog 91 #[.string ⟨(tx p).toArray⟩, .map (some bm)] W fun e w' => ∃ g, e = .returned (.tuple #[.agg #[.string p.1, .slice (some ⟨g, 0, none⟩) p.2.length p.2.length], .bool true]) ∧ w'.heap[g]? = some (.cells (p.2.map (Value.int .i64)).toArray 3) ∧ W.heap.size ≤ g ∧ Below W.heap.size W w')
    (HS : ∀ p g W, ls[0]? = some p → Below w.heap.size w W → W.heap[g]? = some (.cells (p.2.map (Value.int .i64)).toArray 3) → Calls Tryz.prog 93 #[.agg #[.string p.1, .slice (some ⟨g, 0, none⟩) p.2.length p.2.length]] W fun e w' => ∃ be S, e = .returned (.tuple #[.pointer (some ⟨be, 0, none⟩), .bool true]) ∧ P 1 be S w' ∧ (∀ k, S k → W.heap.size ≤ k ∧ k < w'.heap.size) ∧ Below W.heap.size W w')
    (HR : ∀ (i : Nat) p be S g W, 1 ≤ i → ls[i]? = some p → Below w.heap.size w W → P i be S W → W.heap[g]? = some (.cells (p.2.map (Value.int .i64)).toArray 3) → ¬ S g → Calls Tryz.prog 92 #[.pointer (some ⟨be, 0, none⟩), .agg #[.string p.1, .slice (some ⟨g, 0, none⟩) p.2.length p.2.length]] W fun e w' => e = .returned (.bool true) ∧ ∃ S', P (i + 1) be S' w' ∧ (∀ k, S' k → (S k ∨ W.heap.size ≤ k) ∧ k < w'.heap.size) ∧ Turned S W w') :
    Calls Tryz.prog 42 #[.string ⟨(ls.flatMap fun p => tx p ++ [10]).toArray⟩] w fun e w' => ∃ be S, e = .returned (.tuple #[.pointer (some ⟨be, 0, none⟩), .bool true]) ∧ P ls.length be S w' ∧ (∀ k, S k → w.heap.size ≤ k ∧ k < w'.heap.size) ∧ Below w.heap.size w w' := by
  have e10 : ∀ l : List (ByteArray × List Int), (l.flatMap fun p => tx p ++ [10]) = (l.map tx).flatMap fun x => x ++ [10] := fun l => by rw [List.flatMap_map]
  have htr : ∀ W, Calls Tryz.prog 90 #[.string ⟨(ls.flatMap fun p => tx p ++ [10]).toArray⟩, .string ⟨#[10]⟩] W fun e w' => e = .returned (.string ⟨(restL (ls.map tx)).toArray⟩) ∧ w' = W := by
    intro W
    refine (HTr _ ⟨#[10]⟩ W (by show (ls.flatMap fun p => tx p ++ [10]).toArray.size ≤ _; simp only [List.size_toArray]; omega)).mono ?_
    rintro e w' ⟨rfl, h⟩
    refine ⟨?_, h⟩
    show _ = Ending.returned (Value.string ⟨(restL (ls.map tx)).toArray⟩)
    simp only
    rw [e10]
    obtain ⟨p, t, rfl⟩ := List.exists_cons_of_ne_nil hne
    rw [List.map_cons, trim_text]
  have hlen : (restL (ls.map tx)).length ≤ 1000000 := by
    have h1 : (restL (ls.map tx)).length ≤ ((ls.map tx).flatMap fun x => x ++ [10]).length := by
      obtain ⟨p, t, rfl⟩ := List.exists_cons_of_ne_nil hne
      rw [List.map_cons, ← trim_text]
      unfold Lib.trimSuffix
      split
      · rw [List.length_take]; omega
      · exact Nat.le_refl _
    rw [← e10] at h1
    omega
  revert htr
  generalize (⟨(ls.flatMap fun p => tx p ++ [10]).toArray⟩ : ByteArray) = txt
  intro htr
  clear e10 HTr hsz
  refine (callsIn_wide (n := 4)).1 ?_
  refine callsIn_of_wp_marks Tryz.func42 rfl trivial ?_ rfl
  simp only [Tryz.ntmps42, List.size_toArray, List.length_cons, List.length_nil, Nat.reduceAdd, Nat.reduceSub, Array.replicate_succ, Array.replicate_zero, List.push_toArray, List.append_toArray, List.nil_append, List.cons_append]
  have f83 : Fence.wide.fn 88 := trivial
  have f84 : Fence.wide.fn 89 := trivial
  have f85 : Fence.wide.fn 90 := trivial
  gi_wp2_with (first
    | (gi_at_call 89; refine (callsIn_wide.2 (splitSeq_any _ _ _)).mono ?_; rintro e w4 ⟨rfl, hw4⟩; subst hw4)
    | (gi_at_call 90; refine (callsIn_wide.2 (htr _)).mono ?_; rintro e w3 ⟨rfl, hw3⟩; have hw3 := hw3.symm; subst hw3)
    | (gi_at_call 88; refine (callsIn_wide.2 (lengths_any _)).mono ?_; rintro e w2 ⟨rfl, hk2, hb2⟩)
    | gi_in)
  have hW0 : Below w.heap.size w (((w.alloc (.cells #[.pointer none] 27)).alloc (.cells #[.bool false] 4)).alloc (.cells #[.pointer none] 27)) := ((Go.Joins.below_alloc2 _ _ _).alloc (by simp only [World.size_alloc]; omega) _)
  have hs0 : (((w.alloc (.cells #[.pointer none] 27)).alloc (.cells #[.bool false] 4)).alloc (.cells #[.pointer none] 27)).heap.size = w.heap.size + 1 + 1 + 1 := by simp
  have q1 : (((w.alloc (.cells #[.pointer none] 27)).alloc (.cells #[.bool false] 4)).alloc (.cells #[.pointer none] 27)).heap[w.heap.size]? = some (.cells #[.pointer none] 27) := (Below.heap_alloc _ _ _ (by simp only [World.size_alloc]; omega)).trans ((Below.heap_alloc _ _ _ (by simp only [World.size_alloc]; omega)).trans (heap_alloc_new w _))
  have q2 : (((w.alloc (.cells #[.pointer none] 27)).alloc (.cells #[.bool false] 4)).alloc (.cells #[.pointer none] 27)).heap[w.heap.size + 1]? = some (.cells #[.bool false] 4) := by
    refine (Below.heap_alloc _ _ _ (by simp only [World.size_alloc]; omega)).trans ?_
    have := heap_alloc_new (w.alloc (.cells #[.pointer none] 27)) (.cells #[.bool false] 4)
    rwa [World.size_alloc] at this
  have q3 : (((w.alloc (.cells #[.pointer none] 27)).alloc (.cells #[.bool false] 4)).alloc (.cells #[.pointer none] 27)).heap[w.heap.size + 1 + 1]? = some (.cells #[.pointer none] 27) := by
    have := heap_alloc_new ((w.alloc (.cells #[.pointer none] 27)).alloc (.cells #[.bool false] 4)) (.cells #[.pointer none] 27)
    rwa [World.size_alloc, World.size_alloc] at this
  have hBd2 : ∀ (W : World), Below w2.heap.size w2 W → W.heap[w2.heap.size]? = some (.cells #[.map (some (w.heap.size + 1 + 1 + 1))] 152) → Bd w w2.heap.size (w.heap.size + 1 + 1 + 1) (.pointer none) W := by
    intro W hW hkb
    have hz := hb2.size
    rw [hs0] at hz hk2
    have hb3 := hb2.trans (hW.mono hb2.size)
    have l := hk2.lt
    exact ⟨hW0.trans (hb3.mono (by rw [hs0]; omega)), (hb3.block _ (by rw [hs0]; omega)).trans q1, (hb3.block _ (by rw [hs0]; omega)).trans q2, (hb3.block _ (by rw [hs0]; omega)).trans q3, hkb, hk2.still (hW.block _ l), by omega, by omega⟩
  have hlo : w.heap.size + 1 + 1 + 1 ≤ w2.heap.size := by have := hb2.size; rwa [hs0] at this
  clear hW0 hs0 q1 q2 q3 hk2 hb2
  obtain ⟨w4, hw4⟩ : ∃ w4, ((((w2.alloc (.cells #[.map (some (w.heap.size + 1 + 1 + 1))] 152)).alloc (.cells #[.string ⟨(restL (ls.map tx)).toArray⟩] 9)).alloc (.cells #[.string ⟨#[10]⟩] 9)).alloc (.cells #[.int .i64 0] 3)) = w4 := ⟨_, rfl⟩
  have hs4 : w4.heap.size = w2.heap.size + 4 := by rw [← hw4]; simp
  have hBx : Boxes w4 (w2.heap.size + 1) (w2.heap.size + 1 + 1) (w2.heap.size + 1 + 2) (restL (ls.map tx)) := by
    rw [← hw4]
    refine ⟨?_, ?_, ?_, by omega, by omega⟩
    · refine (Below.heap_alloc _ _ _ (by simp only [World.size_alloc]; omega)).trans ((Below.heap_alloc _ _ _ (by simp only [World.size_alloc]; omega)).trans ?_)
      have := heap_alloc_new (w2.alloc (.cells #[.map (some (w.heap.size + 1 + 1 + 1))] 152)) (.cells #[.string ⟨(restL (ls.map tx)).toArray⟩] 9)
      rwa [World.size_alloc] at this
    · refine (Below.heap_alloc _ _ _ (by simp only [World.size_alloc]; omega)).trans ?_
      have := heap_alloc_new ((w2.alloc (.cells #[.map (some (w.heap.size + 1 + 1 + 1))] 152)).alloc (.cells #[.string ⟨(restL (ls.map tx)).toArray⟩] 9)) (.cells #[.string ⟨#[10]⟩] 9)
      rwa [World.size_alloc, World.size_alloc] at this
    · have := heap_alloc_new (((w2.alloc (.cells #[.map (some (w.heap.size + 1 + 1 + 1))] 152)).alloc (.cells #[.string ⟨(restL (ls.map tx)).toArray⟩] 9)).alloc (.cells #[.string ⟨#[10]⟩] 9)) (.cells #[.int .i64 0] 3)
      rwa [World.size_alloc, World.size_alloc, World.size_alloc] at this
  have hB4 : Bd w w2.heap.size (w.heap.size + 1 + 1 + 1) (.pointer none) w4 := by
    rw [← hw4]
    refine hBd2 _ (((Go.Joins.below_alloc2 _ _ _).alloc (by simp only [World.size_alloc]; omega) _).alloc (by simp only [World.size_alloc]; omega) _) ?_
    exact (Below.heap_alloc _ _ _ (by simp only [World.size_alloc]; omega)).trans ((Below.heap_alloc _ _ _ (by simp only [World.size_alloc]; omega)).trans ((Below.heap_alloc _ _ _ (by simp only [World.size_alloc]; omega)).trans (heap_alloc_new w2 _)))
  have hbm2 : w.heap.size + 1 + 1 + 1 < w2.heap.size + 4 := by omega
  have hs4a : w4.heap.size ≤ w2.heap.size + 4 := by omega
  have hs4b : w2.heap.size + 4 ≤ w4.heap.size := by omega
  clear hs4
  rw [hw4]
  clear hw4 hBd2
  refine range_lines HIx (n := 4) (by omega) (bs := w2.heap.size + 1) (bp := w2.heap.size + 1 + 1) (bv := w2.heap.size + 1 + 2) rfl (ls.map tx) (by simpa using hne) (fun x hx => by obtain ⟨p, hp, rfl⟩ := List.mem_map.1 hx; exact h10 p hp) hlen hBx
    (Bi P w w2.heap.size (w.heap.size + 1 + 1 + 1) (w4.heap.size + 2)) ?hI ⟨_, hB4, .inl ⟨rfl, rfl⟩⟩
    (fun x => { tmps := #[.string txt, undef, .pointer (some ⟨w.heap.size, 0, none⟩), .pointer (some ⟨w.heap.size + 1, 0, none⟩), .pointer (some ⟨w.heap.size + 1 + 1, 0, none⟩), .pointer (some ⟨w2.heap.size, 0, none⟩), .string ⟨x.toArray⟩, undef, undef, .map (some (w.heap.size + 1 + 1 + 1)), .string txt, .string ⟨(restL (ls.map tx)).toArray⟩, .func (.func 237) #[] #[.pointer (some ⟨w2.heap.size + 1 + 1, 0, none⟩), .pointer (some ⟨w2.heap.size + 1, 0, none⟩), .pointer (some ⟨w2.heap.size + 1 + 2, 0, none⟩)], .string ⟨x.toArray⟩, undef, undef, undef, undef, undef, undef, undef, undef, undef, undef, undef, undef, undef, undef, undef, undef, undef, undef, undef, undef, undef, undef, undef], defers := [] }) ?assign ?body ?done
  case hI =>
    intro i W W' row hB hg hr
    refine hB.grown hP hg (fun k e => ?_)
    rcases hr k e with rfl | rfl
    · omega
    · omega
  case assign =>
    intro x W K hK
    gi_wp2
    exact hK
  case body =>
    intro i x W hx hB hWs
    obtain ⟨p, hp, rfl⟩ : ∃ p, ls[i]? = some p ∧ tx p = x := by
      rw [List.getElem?_map] at hx
      cases hq : ls[i]? with
      | none => rw [hq] at hx; cases hx
      | some p => rw [hq] at hx; exact ⟨p, rfl, by injection hx⟩
    obtain ⟨ve, hBd, hE⟩ := hB
    have hcs := hBd.cells
    have lts := hBd.lts
    have hRd := HRd i p _ W hp hBd.low hBd.kn lts.2.2
    rcases hE with ⟨rfl, rfl⟩ | ⟨be, S, h1, rfl, hPi, hSk⟩
    · have hRd' : Hid (Calls Tryz.prog 91 #[.string ⟨(tx p).toArray⟩, .map (some (w.heap.size + 1 + 1 + 1))] W fun e w' => ∃ g, e = .returned (.tuple #[.agg #[.string p.1, .slice (some ⟨g, 0, none⟩) p.2.length p.2.length], .bool true]) ∧ (w'.cell? ⟨w.heap.size + 1 + 1, 0, none⟩ = some (.pointer none) ∧ w.heap.size + 1 + 1 < w'.heap.size) ∧ Hid (w'.heap[g]? = some (.cells (p.2.map (Value.int .i64)).toArray 3) ∧ Bd w w2.heap.size (w.heap.size + 1 + 1 + 1) (.pointer none) w' ∧ Below W.heap.size W w')) := by
        refine hRd.mono ?_
        rintro e w' ⟨g, rfl, hg1, hge, hb1⟩
        have hB1 := hBd.below hb1
        exact ⟨g, rfl, ⟨hB1.cells.2.2.1, hB1.lts.1⟩, hg1, hB1, hb1⟩
      have hS' : Hid (∀ g W1, Hid (W1.heap[g]? = some (.cells (p.2.map (Value.int .i64)).toArray 3) ∧ Bd w w2.heap.size (w.heap.size + 1 + 1 + 1) (.pointer none) W1 ∧ Below W.heap.size W W1) →
          Calls Tryz.prog 93 #[.agg #[.string p.1, .slice (some ⟨g, 0, none⟩) p.2.length p.2.length]] (W1.alloc (.cells #[.string p.1, .slice (some ⟨g, 0, none⟩) p.2.length p.2.length] 169)) fun e w' => ∃ be, e = .returned (.tuple #[.pointer (some ⟨be, 0, none⟩), .bool true]) ∧ (w'.cell? ⟨w.heap.size + 1 + 1, 0, none⟩ = some (.pointer none) ∧ w'.frozen? ⟨w.heap.size + 1 + 1, 0, none⟩ = false) ∧ Hid (∃ S, P 1 be S w' ∧ (∀ k, S k → W.heap.size ≤ k ∧ k < w'.heap.size) ∧ Bd w w2.heap.size (w.heap.size + 1 + 1 + 1) (.pointer none) w' ∧ Below W.heap.size W w')) := by
        intro g W1 hh
        obtain ⟨g1, g2, g3⟩ := hh.out
        have ha := Go.Joins.below_alloc1 W1 (.cells #[.string p.1, .slice (some ⟨g, 0, none⟩) p.2.length p.2.length] 169)
        have hB2 := g2.below ha
        refine (HS p g _ hp hB2.low ((ha.block g (Array.getElem?_eq_some_iff.1 g1).1).trans g1)).mono ?_
        rintro e w' ⟨be, S, rfl, hP1, hS1, hb3⟩
        have hB3 := hB2.below hb3
        have hz1 := g3.size
        have hz2 := ha.size
        exact ⟨be, rfl, ⟨hB3.cells.2.2.1, hB3.cells.2.2.2.2.2.2⟩, S, hP1, fun k hk => ⟨by have := (hS1 k hk).1; omega, (hS1 k hk).2⟩, hB3, g3.trans ((ha.trans (hb3.mono hz2)).mono hz1)⟩
      have hn2 : 1 ≤ 4 - 1 - 1 := by decide
      have f86 : Fence.wide.fn 91 := trivial
      have f88 : Fence.wide.fn 93 := trivial
      have hlt := lts.2.1
      clear hRd HRd HS HR hBd lts hB4 hBx
      gi_wp2_with (first
        | (gi_at_call 93; refine (CallsIn.inRound _ (callsIn_wide.2 (hS'.out _ _ h1))).mono ?_; rintro e W3 ⟨be, rfl, hc3, h3⟩)
        | (gi_at_call 91; refine (CallsIn.inRound _ (callsIn_wide.2 hRd'.out)).mono ?_; rintro e W1 ⟨g, rfl, hc1, h1⟩)
        | gi_in)
      obtain ⟨S, hP1, hS1, hB3, hbW⟩ := h3.out
      have hB4 := hB3.put (.pointer (some ⟨be, 0, none⟩))
      have hset : ∀ k, k ≠ w.heap.size + 1 + 1 → (W3.setCell ⟨w.heap.size + 1 + 1, 0, none⟩ (.pointer (some ⟨be, 0, none⟩))).heap[k]? = W3.heap[k]? := fun k e => Below.heap_setCell _ _ _ _ e
      have hz := hbW.size
      refine ⟨⟨_, hB4, .inr ⟨be, S, Nat.le_refl _, rfl, hP 1 be S W3 _ hP1 (by simp) (fun k hk => hset k (by have := (hS1 k hk).1; omega)), fun k hk => ⟨by have := (hS1 k hk).1; omega, by simpa using (hS1 k hk).2⟩⟩⟩, by simpa using hz, fun k hk => ?_⟩
      rcases hk with rfl | rfl | rfl | rfl | rfl
      all_goals exact (hset _ (by omega)).trans (hbW.block _ (by omega))
    · have hRd' : Hid (Calls Tryz.prog 91 #[.string ⟨(tx p).toArray⟩, .map (some (w.heap.size + 1 + 1 + 1))] W fun e w' => ∃ g, e = .returned (.tuple #[.agg #[.string p.1, .slice (some ⟨g, 0, none⟩) p.2.length p.2.length], .bool true]) ∧ (w'.cell? ⟨w.heap.size + 1 + 1, 0, none⟩ = some (.pointer (some ⟨be, 0, none⟩)) ∧ w.heap.size + 1 + 1 < w'.heap.size) ∧ Hid (w'.heap[g]? = some (.cells (p.2.map (Value.int .i64)).toArray 3) ∧ W.heap.size ≤ g ∧ Bd w w2.heap.size (w.heap.size + 1 + 1 + 1) (.pointer (some ⟨be, 0, none⟩)) w' ∧ Below W.heap.size W w')) := by
        refine hRd.mono ?_
        rintro e w' ⟨g, rfl, hg1, hge, hb1⟩
        have hB1 := hBd.below hb1
        exact ⟨g, rfl, ⟨hB1.cells.2.2.1, hB1.lts.1⟩, hg1, hge, hB1, hb1⟩
      have hS' : Hid (∀ g W1, Hid (W1.heap[g]? = some (.cells (p.2.map (Value.int .i64)).toArray 3) ∧ W.heap.size ≤ g ∧ Bd w w2.heap.size (w.heap.size + 1 + 1 + 1) (.pointer (some ⟨be, 0, none⟩)) W1 ∧ Below W.heap.size W W1) →
          Calls Tryz.prog 92 #[.pointer (some ⟨be, 0, none⟩), .agg #[.string p.1, .slice (some ⟨g, 0, none⟩) p.2.length p.2.length]] (W1.alloc (.cells #[.string p.1, .slice (some ⟨g, 0, none⟩) p.2.length p.2.length] 169)) fun e w' => e = .returned (.bool true) ∧ Hid (∃ S', P (i + 1) be S' w' ∧ (∀ k, S' k → w4.heap.size + 2 ≤ k ∧ k < w'.heap.size) ∧ Bd w w2.heap.size (w.heap.size + 1 + 1 + 1) (.pointer (some ⟨be, 0, none⟩)) w' ∧ Turned S W w')) := by
        intro g W1 hh
        obtain ⟨g1, g0, g2, g3⟩ := hh.out
        have ha := Go.Joins.below_alloc1 W1 (.cells #[.string p.1, .slice (some ⟨g, 0, none⟩) p.2.length p.2.length] 169)
        have hB2 := g2.below ha
        have hz1 := g3.size
        have hz2 := ha.size
        have hb2 := g3.trans (ha.mono hz1)
        have hP2 := hP i be S W _ hPi hb2.size (fun k hk => hb2.block k (hSk k hk).2)
        refine (HR i p be S g _ h1 hp hB2.low hP2 ((ha.block g (Array.getElem?_eq_some_iff.1 g1).1).trans g1) (fun hk => by have := (hSk g hk).2; omega)).mono ?_
        rintro e w' ⟨rfl, S', hP3, hS3, hT⟩
        have hbl : ∀ k, k < w4.heap.size + 2 → k < (W1.alloc (.cells #[.string p.1, .slice (some ⟨g, 0, none⟩) p.2.length p.2.length] 169)).heap.size → w'.heap[k]? = (W1.alloc (.cells #[.string p.1, .slice (some ⟨g, 0, none⟩) p.2.length p.2.length] 169)).heap[k]? := fun k hk hk2 => hT.block k hk2 (fun e => by have := (hSk k e).1; omega)
        have l2 := hB2.lts
        refine ⟨rfl, S', hP3, fun k hk => ⟨?_, (hS3 k hk).2⟩, hB2.still (hT.below (by omega) (fun k hk => by have := (hSk k hk).1; omega)) (fun k hk => hbl k ?_ ?_), (Turned.of_below (S := S) hb2).trans hT (fun _ _ e => e)⟩
        · rcases (hS3 k hk).1 with h | h
          · exact (hSk k h).1
          · omega
        · rcases hk with rfl | rfl | rfl | rfl | rfl <;> omega
        · rcases hk with rfl | rfl | rfl | rfl | rfl <;> omega
      have hn2 : 1 ≤ 4 - 1 - 1 := by decide
      have f86 : Fence.wide.fn 91 := trivial
      have f87 : Fence.wide.fn 92 := trivial
      have hlt := lts.2.1
      have hi1 := h1
      have HSk : Hid (∀ k, S k → w4.heap.size + 2 ≤ k ∧ k < W.heap.size) := hSk
      clear hRd HRd HS HR hBd lts hB4 hBx h1 hSk hPi
      gi_wp2_with (first
        | (gi_at_call 92; refine (CallsIn.inRound _ (callsIn_wide.2 (hS'.out _ _ h1))).mono ?_; rintro e W3 ⟨rfl, h3⟩)
        | (gi_at_call 91; refine (CallsIn.inRound _ (callsIn_wide.2 hRd'.out)).mono ?_; rintro e W1 ⟨g, rfl, hc1, h1⟩)
        | gi_in)
      obtain ⟨S', hP3, hS3, hB3, hT⟩ := h3.out
      refine ⟨⟨_, hB3, .inr ⟨be, S', by omega, rfl, hP3, hS3⟩⟩, hT.size, fun k hk => hT.block k ?_ (fun e => ?_)⟩
      · rcases hk with rfl | rfl | rfl | rfl | rfl <;> omega
      · have := (HSk.out k e).1
        rcases hk with rfl | rfl | rfl | rfl | rfl <;> omega
  case done =>
    intro W hB hK
    obtain ⟨ve, hBd, hE⟩ := hB
    have hl0 : 1 ≤ ls.length := by
      cases ls with
      | nil => exact absurd rfl hne
      | cons a t => simp
    rw [List.length_map] at hE
    rcases hE with ⟨h, _⟩ | ⟨be, S, h1, rfl, hPi, hSk⟩
    · omega
    have hcs := hBd.cells
    have lts := hBd.lts
    gi_wp2
    obtain ⟨W5, hW5⟩ : ∃ W5, (W.setCell ⟨w.heap.size, 0, none⟩ (.pointer (some ⟨be, 0, none⟩))).setCell ⟨w.heap.size + 1, 0, none⟩ (.bool true) = W5 := ⟨_, rfl⟩
    rw [hW5]
    have hz5 : W5.heap.size = W.heap.size := by rw [← hW5]; simp
    have ho5 : ∀ k, k ≠ w.heap.size → k ≠ w.heap.size + 1 → W5.heap[k]? = W.heap[k]? := fun k e1 e2 => by
      rw [← hW5]
      exact (Below.heap_setCell _ _ _ _ e2).trans (Below.heap_setCell _ _ _ _ e1)
    have h51 : W5.heap[w.heap.size]? = some (.cells #[.pointer (some ⟨be, 0, none⟩)] 27) := by
      rw [← hW5, Below.heap_setCell _ _ _ _ (by simp), Go.Joins.block_setCell hBd.r1]
      rfl
    have h52 : W5.heap[w.heap.size + 1]? = some (.cells #[.bool true] 4) := by
      rw [← hW5, Go.Joins.block_setCell ((Below.heap_setCell _ _ _ _ (by simp)).trans hBd.r2)]
      rfl
    have hlow5 : Below w.heap.size w W5 := by
      rw [← hW5]
      exact (hBd.low.setCell (p := ⟨w.heap.size, 0, none⟩) (Nat.le_refl _) _).setCell (p := ⟨w.heap.size + 1, 0, none⟩) (by show w.heap.size ≤ w.heap.size + 1; omega) _
    have hK5 : W5.heap[w4.heap.size]? = some (.deferred (some [])) := (ho5 _ (by omega) (by omega)).trans hK
    have hpo : ∀ k, k ≠ w4.heap.size → (W5.putObj w4.heap.size (.deferred none)).heap[k]? = W5.heap[k]? := fun k e => World.putObj_heap_other e
    have hx0 : (W5.putObj w4.heap.size (.deferred none)).cell? ⟨w.heap.size, 0, none⟩ = some (.pointer (some ⟨be, 0, none⟩)) := by
      rw [Go.Joins.cell_of_block ((hpo _ (by omega)).trans h51)]; rfl
    have hx1 : (W5.putObj w4.heap.size (.deferred none)).cell? ⟨w.heap.size + 1, 0, none⟩ = some (.bool true) := by
      rw [Go.Joins.cell_of_block ((hpo _ (by omega)).trans h52)]; rfl
    refine ⟨by simp, .inl ⟨_, _, rfl, run_takeDeferred hK5, ?_⟩⟩
    refine ⟨.tuple #[.pointer (some ⟨be, 0, none⟩), .bool true], by simp [results, Tryz.results42, go_sem, hx0, hx1], be, S, rfl, ?_, fun k hk => ⟨by have := (hSk k hk).1; omega, ?_⟩, ?_⟩
    · refine hP _ be S W _ hPi (by simp [hz5]) (fun k hk => (hpo k (by have := (hSk k hk).1; omega)).trans (ho5 k (by have := (hSk k hk).1; omega) (by have := (hSk k hk).1; omega)))
    · simpa [hz5] using (hSk k hk).2
    · exact hlow5.trans (belowK_b (w := w) (Nat.le_refl _) W5 w4.heap.size _ _ (by omega) hK5 rfl rfl)
end Go.Proofs.YthfpipieboophaaGreatDoor
