/- The desk's lines: each line of a text once, in order; and a range over them. -/
import Derived.Test.YthfpipieboophaaGreatDoorLdz
import Derived.Test.YthfpipieboophaaGreatDoorShl
import Derived.Test.YthfpipieboophaaGreatDoorDkd
namespace Go.Proofs.YthfpipieboophaaGreatDoor
open Go.RowKit Go.Shelf
set_option maxRecDepth 100000
def lnsOf : List UInt8 → List (List UInt8)
  | [] => [[]]
  | c :: t => if c = 10 then [] :: lnsOf t else match lnsOf t with
    | [] => [[c]]
    | x :: r => (c :: x) :: r
theorem lns_ne (t : List UInt8) : lnsOf t ≠ [] := by
  cases t with
  | nil => simp [lnsOf]
  | cons c t => unfold lnsOf; split; · simp
                split <;> simp
theorem lns_rest (t : List UInt8) : restL (lnsOf t) = t := by
  induction t with
  | nil => rfl
  | cons c t ih =>
    unfold lnsOf
    split
    · rename_i h
      subst h
      cases hl : lnsOf t with
      | nil => exact absurd hl (lns_ne t)
      | cons x r => rw [hl] at ih; rw [← ih]; rfl
    · cases hl : lnsOf t with
      | nil => exact absurd hl (lns_ne t)
      | cons x r =>
        rw [hl] at ih
        rw [← ih]
        cases r <;> rfl
theorem lns_10 (t : List UInt8) : ∀ x ∈ lnsOf t, (10 : UInt8) ∉ x := by
  induction t with
  | nil => intro x hx; simp [lnsOf] at hx; subst hx; simp
  | cons c t ih =>
    unfold lnsOf
    split
    · intro x hx
      rcases List.mem_cons.1 hx with rfl | hx
      · simp
      · exact ih x hx
    · rename_i hc
      cases hl : lnsOf t with
      | nil => exact absurd hl (lns_ne t)
      | cons x r =>
        rw [hl] at ih
        intro y hy
        rcases List.mem_cons.1 hy with rfl | hy
        · intro h
          rcases List.mem_cons.1 h with h | h
          · exact hc h.symm
          · exact ih x (by simp) h
        · exact ih y (by simp [hy])
theorem cut_last (x : List UInt8) (h : (10 : UInt8) ∉ x) : Lib.cut x [10] = (x, [], false) := by
  unfold Lib.cut
  rw [Lib.index_one, indexByte_not x 10 h]
  rfl
theorem cut_more (x r : List UInt8) (h : (10 : UInt8) ∉ x) : Lib.cut (x ++ 10 :: r) [10] = (x, r, true) := by
  unfold Lib.cut
  rw [Lib.index_one, indexByte_at x r 10 h, if_pos (by omega)]
  simp
def strN : Value → Nat
  | .string s => s.size
  | _ => 0
def boolN : Value → Nat
  | .bool true => 1
  | _ => 0
theorem grown_drewN (W : World) (n : Nat) (row : Option Nat) : W.grownBy (W.drewN n) row := by
  induction n generalizing W with
  | zero => exact ⟨rfl, rfl, rfl, Nat.le_refl _, fun _ _ _ => rfl⟩
  | succ n ih => have := ih W.drew; exact ⟨this.os, this.tape, this.output, this.size, this.block⟩
set_option maxHeartbeats 4000000 in
theorem lines1_in (n : Nat) (hn : 1 ≤ n) (l bt : Nat) (t : List UInt8) (ht : t.length ≤ 1000000) (ls : List (List UInt8)) (hne : ls ≠ []) (hls : ∀ x ∈ ls, (10 : UInt8) ∉ x) (hr : Lib.trimSuffix t [10] = restL ls)
    (J : Nat → World → Prop) (hJ : ∀ i W k, J i W → J i (W.drewN k)) (m : Int) (hM : ∀ i W, J i W → W.cell? ⟨3, 0, none⟩ = some (.int .i64 m))
    (hY : ∀ i x W, J i W → ls[i]? = some x → YieldAt Fence.wide (n - 1) Tryz.prog l #[.string ⟨x.toArray⟩] W fun e W' => e = .returned (.bool true) ∧ J (i + 1) W')
    (W : World) (hB : W.cell? ⟨bt, 0, none⟩ = some (.string ⟨t.toArray⟩)) (h0 : J 0 W) :
    CallsIn Fence.wide n Tryz.prog 145 #[.func (.yield l) #[] #[], .pointer (some ⟨bt, 0, none⟩)] W fun e W' => (∃ v, e = .returned v) ∧ J ls.length W' := by
  have hsz : (restL ls).length ≤ 1000000 := by
    rw [← hr]
    unfold Lib.trimSuffix
    split
    · simp; omega
    · exact ht
  have HT : ∀ W, Calls Tryz.prog 90 #[.string ⟨t.toArray⟩, .string ⟨#[10]⟩] W fun e w' => e = .returned (.string ⟨(restL ls).toArray⟩) ∧ w' = W := fun W => by
    have := Tryz.strings_TrimSuffix ⟨t.toArray⟩ ⟨#[10]⟩ W (by simp [ByteArray.size]; omega)
    rw [show Lib.trimSuffix (⟨t.toArray⟩ : ByteArray).data.toList (⟨#[10]⟩ : ByteArray).data.toList = restL ls from hr] at this
    exact this
  refine callsIn_of_wp Tryz.func145 rfl trivial ?_ rfl
  simp only [Tryz.ntmps145, List.size_toArray, List.length_cons, List.length_nil, Nat.reduceAdd, Nat.reduceSub, Array.replicate_succ, Array.replicate_zero, List.push_toArray, List.append_toArray, List.nil_append, List.cons_append]
  have f90 : Fence.wide.fn 90 := trivial
  have f146 : Fence.wide.fn 146 := trivial
  gi_wp2_with (first
    | (gi_at_call 90; refine (callsIn_wide.2 (HT _)).mono ?_; rintro e w' ⟨rfl, hw⟩; have hw := hw.symm; subst hw)
    | gi_in)
  gi_loopw [3, 4] (fun v3 v4 wr => ∃ i, i ≤ ls.length ∧ v3 = .string ⟨(restL (ls.drop i)).toArray⟩ ∧ v4 = .bool (decide (i < ls.length)) ∧ J i wr)
    (fun v3 v4 _ => strN v3 + boolN v4)
  case atStart =>
    have : 0 < ls.length := List.length_pos_iff.2 hne
    exact ⟨0, by omega, rfl, by rw [decide_eq_true this], h0⟩
  case round =>
    obtain ⟨i, hi, rfl, rfl, hJr⟩ := hrel
    by_cases hil : i < ls.length
    · obtain ⟨x, hx⟩ : ∃ x, ls[i]? = some x := ⟨_, List.getElem?_eq_getElem hil⟩
      obtain ⟨t', hd⟩ : ∃ t', ls.drop i = x :: t' := ⟨ls.drop (i + 1), by rw [List.drop_eq_getElem_cons hil]; congr 1; exact Option.some.inj ((List.getElem?_eq_getElem hil).symm.trans hx)⟩
      have hd2 : ls.drop (i + 1) = t' := by rw [← List.drop_drop, hd]; rfl
      have hmem : x ∈ ls := List.mem_of_getElem? hx
      have hlen : (restL (ls.drop i)).length ≤ 1000000 := Nat.le_trans (restL_drop ls i) hsz
      have hcut : Lib.cut (restL (ls.drop i)) [10] = (x, restL (ls.drop (i + 1)), decide (i + 1 < ls.length)) := by
        rw [hd2, hd]
        have hl2 : ls.length = i + 1 + t'.length := by
          have := congrArg List.length hd
          simp at this
          omega
        cases t' with
        | nil => rw [decide_eq_false (by simp at hl2; omega)]; exact cut_last x (hls x hmem)
        | cons y t' => rw [decide_eq_true (by simp at hl2; omega)]; exact cut_more x _ (hls x hmem)
      have hms : (restL (ls.drop (i + 1))).length + boolN (.bool (decide (i + 1 < ls.length))) < (restL (ls.drop i)).length + 1 := by
        rw [hd2, hd]
        have hl2 : ls.length = i + 1 + t'.length := by
          have := congrArg List.length hd
          simp at this
          omega
        cases t' with
        | nil => rw [decide_eq_false (by simp at hl2; omega)]; simp [restL, boolN]
        | cons y t' => rw [decide_eq_true (by simp at hl2; omega)]; simp [restL, boolN]; omega
      have HC : Hid (∀ W, J i W → Calls Tryz.prog 146 #[.string ⟨(restL (ls.drop i)).toArray⟩, .string ⟨#[10]⟩] W fun e w' => e = .returned (.tuple #[.string ⟨x.toArray⟩, .string ⟨(restL (ls.drop (i + 1))).toArray⟩, .bool (decide (i + 1 < ls.length))]) ∧ J i w') := fun W hW => by
        have := Tryz.strings_Cut ⟨(restL (ls.drop i)).toArray⟩ ⟨#[10]⟩ m W (by simp [ByteArray.size]; omega) (hM i W hW)
        rw [show Lib.cut (⟨(restL (ls.drop i)).toArray⟩ : ByteArray).data.toList (⟨#[10]⟩ : ByteArray).data.toList = _ from hcut] at this
        refine this.mono ?_
        rintro e w' ⟨rfl, k, rfl⟩
        exact ⟨rfl, hJ i W k hW⟩
      have HM : Hid ((restL (ls.drop (i + 1))).length + boolN (.bool (decide (i + 1 < ls.length))) < (restL (ls.drop i)).length + 1) := hms
      have hJr2 : Hid (J i wr) := hJr
      clear hcut hms hd hd2 hlen hM hJr
      rw [decide_eq_true hil]
      generalize hq : decide (i + 1 < ls.length) = q at *
      generalize hR : restL (ls.drop (i + 1)) = R2 at *
      generalize restL (ls.drop i) = R1 at *
      have Hq : Hid (decide (i + 1 < ls.length) = q) := hq
      have HR : Hid (restL (ls.drop (i + 1)) = R2) := hR
      clear hq hR
      gi_wp2_with (first
        | (gi_at_call 146; refine (callsIn_wide.2 (HC.out _ hJr2.out)).mono ?_; rintro e w1 ⟨rfl, hJ1⟩; obtain ⟨fn, tmps, assign, body, hy, hRd⟩ := hY i x w1 hJ1 hx)
        | gi_in)
      refine hRd.mono ?_
      rintro e W3 ⟨rfl, hJ3⟩
      gi_wp2
      refine ⟨⟨i + 1, by omega, by rw [HR.out], by rw [Hq.out], hJ3⟩, ?_⟩
      have := HM.out
      simp [strN, boolN, ByteArray.size] at this ⊢
      omega
    · rw [decide_eq_false hil]
      gi_wp2
      go_end0
      have : i = ls.length := by omega
      rw [← this]
      exact ⟨⟨_, rfl⟩, hJr⟩
def roundPost (D l : Nat) (I : World → Prop) (W : World) : Exit → Act → World → Prop
  | .normal, _, W' => I W' ∧ W.heap.size ≤ W'.heap.size ∧ ∀ k, k = D ∨ k = l → W'.heap[k]? = W.heap[k]?
  | _, _, _ => False
set_option maxHeartbeats 1000000 in
theorem range_text {n : Nat} (h2 : 2 ≤ n) {g : Operand} {p : Tmp} {assign body : Code} {Q : Exit → Act → World → Prop} {a : Act} {w : World} {bt : Nat}
    (hg : a.eval g = .func (.func 145) #[] #[.pointer (some ⟨bt, 0, none⟩)])
    (t : List UInt8) (ht : t.length ≤ 1000000) (ls : List (List UInt8)) (hne : ls ≠ []) (hls : ∀ x ∈ ls, (10 : UInt8) ∉ x) (hr : Lib.trimSuffix t [10] = restL ls) (hB : w.heap[bt]? = some (.cells #[.string ⟨t.toArray⟩] 9))
    (I : Nat → World → Prop) (m : Int) (hM : ∀ i W, I i W → W.cell? ⟨3, 0, none⟩ = some (.int .i64 m))
    (hI : ∀ i W W' row, I i W → W.grownBy W' row → (∀ k, row = some k → k = w.heap.size + 1) → I i W') (h0 : I 0 w)
    (a₁ : List UInt8 → Act)
    (hassign : ∀ (x : List UInt8) (W : World) (K : Act → World → Prop), K (a₁ x) W →
      assign.wpIn (Fence.wide.inRound (w.heap.size + 1)) (n - 1 - 1) Tryz.prog (Exit.then K (fun _ _ _ => False)) { tmps := ((#[p] : Array Tmp).zip #[.string ⟨x.toArray⟩]).foldl (fun t (p, v) => t.setIfInBounds p v) a.tmps, defers := [] } W)
    (hbody : ∀ (i : Nat) (x : List UInt8) (W : World), ls[i]? = some x → I i W → w.heap.size + 2 ≤ W.heap.size → body.wpIn (Fence.wide.inRound (w.heap.size + 1)) (n - 1 - 1) Tryz.prog (roundPost w.heap.size (w.heap.size + 1) (I (i + 1)) W) (a₁ x) W)
    (hdone : ∀ (W : World), I ls.length W → W.heap[w.heap.size]? = some (.deferred (some [])) → Q .normal { a with defers := { target := .collected w.heap.size, args := #[] } :: a.defers } W) :
    (Code.rangeFunc g #[p] assign body).wpIn Fence.wide n Tryz.prog Q a w := by
  have hlt : bt < w.heap.size := (Array.getElem?_eq_some_iff.1 hB).1
  refine wpIn_rangeFunc ?_
  intro fn hfn
  obtain ⟨rec, hrec⟩ : ∃ rec : LoopState → Option Code → Loop, rec = recOf fn a.tmps #[p] assign body w.heap.size := ⟨_, rfl⟩
  obtain ⟨W1, hW1⟩ : ∃ W1, (w.alloc (.deferred (some []))).alloc (.loop (rec .ready none)) = W1 := ⟨_, rfl⟩
  have hL1 : W1.heap[w.heap.size + 1]? = some (.loop (rec .ready none)) := by
    rw [← hW1]; have := World.alloc_heap_new (w.alloc (.deferred (some []))) (.loop (rec .ready none)); rwa [World.size_alloc] at this
  have hK1 : W1.heap[w.heap.size]? = some (.deferred (some [])) := by
    rw [← hW1]; exact (Below.heap_alloc _ _ _ (by simp)).trans (World.alloc_heap_new w _)
  have hI1 : I 0 W1 := by
    rw [← hW1]
    exact hI 0 _ _ none (hI 0 _ _ none h0 (World.grownBy_alloc _ _ _) (fun _ e => by cases e)) (World.grownBy_alloc _ _ _) (fun _ e => by cases e)
  have hB1 : W1.cell? ⟨bt, 0, none⟩ = some (.string ⟨t.toArray⟩) := by
    have : W1.heap[bt]? = some (.cells #[.string ⟨t.toArray⟩] 9) := by
      rw [← hW1]
      exact ((Below.heap_alloc _ _ _ (by simp; omega)).trans (Below.heap_alloc _ _ _ hlt)).trans hB
    rw [Go.Joins.cell_of_block this]; rfl
  refine ⟨w.heap.size + 1, [{ target := .collected w.heap.size, args := #[] }], W1, { target := .fn (.func 145) #[.pointer (some ⟨bt, 0, none⟩)], args := #[.func (.yield (w.heap.size + 1)) #[] #[]] }, W1, 145,
    #[.func (.yield (w.heap.size + 1)) #[] #[], .pointer (some ⟨bt, 0, none⟩)], W1, ?_, ?_, ?_, ?_, fun _ => by omega, ?_⟩
  · rw [← hW1, hrec]; exact run_enterLoop_outer _ _ _ _ _
  · simp only [resolve, hg]
    simp [go_sem]
  · intro f' _; trivial
  · simp [invoke, go_sem]
  · refine (lines1_in (n - 1) (by omega) (w.heap.size + 1) bt t ht ls hne hls hr
      (fun i W => I i W ∧ W.heap[w.heap.size + 1]? = some (.loop (rec .ready none)) ∧ W.heap[w.heap.size]? = some (.deferred (some [])))
      (fun i A k hs => ⟨hI i A _ none hs.1 (grown_drewN A k none) (fun k e => by cases e), ((grown_drewN A k none).block _ (Array.getElem?_eq_some_iff.1 hs.2.1).1 (by simp)).trans hs.2.1, ((grown_drewN A k none).block _ (Array.getElem?_eq_some_iff.1 hs.2.2).1 (by simp)).trans hs.2.2⟩) m (fun i A hs => hM i A hs.1)
      ?_ W1 hB1 ⟨hI1, hL1, hK1⟩).mono ?_
    · rintro i x W ⟨hi, hl, hk⟩ hx
      have hlt2 : w.heap.size + 1 < W.heap.size := (Array.getElem?_eq_some_iff.1 hl).1
      have hy := run_yield (P := Tryz.prog) (args := #[.string ⟨x.toArray⟩]) hl (by rw [hrec]; rfl)
      rw [hrec] at hy
      refine ⟨fn, _, assign, body, hy, roundIn_of_wpIn hfn (hassign x W _ ⟨_, run_beginRound hl (by rw [hrec]; rfl), ?_⟩)⟩
      clear hy
      have hl2 : (W.putObj (w.heap.size + 1) (.loop { rec .ready none with state := .busy })).heap[w.heap.size + 1]? = some (.loop { rec .ready none with state := .busy }) := World.putObj_heap_same hlt2
      have hk2 : (W.putObj (w.heap.size + 1) (.loop { rec .ready none with state := .busy })).heap[w.heap.size]? = some (.deferred (some [])) := (World.putObj_heap_other (by omega)).trans hk
      have hi2 : I i (W.putObj (w.heap.size + 1) (.loop { rec .ready none with state := .busy })) := hI i _ _ _ hi (grownBy_putObj' W _ _) (fun k e => by cases e; rfl)
      refine wpIn_mono (hbody i x _ hx hi2 (by simp; omega)) ?_
      rintro e a3 W3 hp
      cases e with
      | normal =>
        obtain ⟨hi3, hs3, hk3⟩ := hp
        have hl3 := (hk3 _ (.inr rfl)).trans hl2
        have hd3 := (hk3 _ (.inl rfl)).trans hk2
        have hr := run_endRound (P := Tryz.prog) none hl3
        have hlt3 := (Array.getElem?_eq_some_iff.1 hl3).1
        refine ⟨_, _, hr, rfl, hI (i + 1) _ _ _ hi3 (grownBy_putObj' W3 _ _) (fun k e => by cases e; rfl), ?_, (World.putObj_heap_other (by omega)).trans hd3⟩
        rw [World.putObj_heap_same hlt3, hrec]
        rfl
      | ret => exact hp.elim
      | exit id => exact hp.elim
      | goto t => exact hp.elim
      | panic ch => exact hp.elim
      | outgrown => exact hp.elim
    · rintro e W2 ⟨⟨v, rfl⟩, hi, hl, hk⟩
      exact ⟨none, _, by have := run_endLoop (P := Tryz.prog) hl (by rw [hrec]; simp [recOf]); rw [hrec] at this; exact this, hdone _ (hI _ _ _ _ hi (grownBy_putObj' W2 _ _) (fun k e => by cases e; rfl)) ((World.putObj_heap_other (by omega)).trans hk)⟩
end Go.Proofs.YthfpipieboophaaGreatDoor
