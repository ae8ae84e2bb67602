/- Ldz: several texts in one. -/
import Derived.Lib.SplitLaws
import Derived.Lib.ItoaLen
import Derived.Lib.AtoiAll
import Derived.Lib.IndexBytes
import Derived.Lib.Strings
import Derived.Test.YthfpipieboophaaGreatDoorProg
import Derived.RangeFuncNested
import Derived.RangeFuncBound
import Derived.RangeFuncCalls
import Derived.RangeFuncLeaves
import Derived.Shelf.Abstract
import Derived.Shelf.RegionOpen
import Derived.WalkKit
import Derived.Lib.SmallJoins
import Derived.OwnWalkIn
import Derived.TacticsInMore
import Derived.LoopNIn
import Derived.LoopIn
import Derived.Test.YthfpipieboophaaGreatDoorBagz
import Derived.Maps.OwnSet
import Derived.Carry
/- What a text's lines and words are: the mathematics of Load. -/
namespace Go.Proofs.YthfpipieboophaaGreatDoor
open Go
set_option maxRecDepth 100000
theorem digit_byte (d : Nat) (h : d < 10) : (UInt8.ofNat (48 + d)).toNat = 48 + d := by
  rw [UInt8.toNat_ofNat']; omega
theorem dec_bytes (u : Nat) : ∀ b ∈ Lib.decDigits u, 48 ≤ b.toNat ∧ b.toNat ≤ 57 := by
  induction u using Nat.strongRecOn with
  | _ u ih =>
    intro b hb
    rw [Lib.decDigits] at hb
    split at hb
    · rename_i h
      simp only [List.mem_singleton] at hb
      subst hb
      rw [digit_byte u h]; omega
    · rename_i h
      rw [List.mem_append] at hb
      rcases hb with hb | hb
      · exact ih (u / 10) (by omega) b hb
      · simp only [List.mem_singleton] at hb
        subst hb
        rw [digit_byte _ (by omega)]; omega
theorem dec_ne (u : Nat) : Lib.decDigits u ≠ [] := by
  rw [Lib.decDigits]; split
  · simp
  · simp
theorem itoa_bytes (n : Int) : ∀ b ∈ Lib.itoa n, b.toNat = 45 ∨ (48 ≤ b.toNat ∧ b.toNat ≤ 57) := by
  intro b hb
  unfold Lib.itoa at hb
  split at hb
  · rw [List.mem_cons] at hb
    rcases hb with rfl | hb
    · exact .inl rfl
    · exact .inr (dec_bytes _ b hb)
  · exact .inr (dec_bytes _ b hb)
theorem itoa_no (n : Int) (c : UInt8) (hc : c.toNat < 45) : c ∉ Lib.itoa n := fun h => by
  have := itoa_bytes n c h
  omega
/-! ### Numbers -/
theorem parse_digits (u : Nat) : ∀ (r : List UInt8), u < 18446744073709551616 → Lib.parseUint10 0 (Lib.decDigits u ++ r) = Lib.parseUint10 u r := by
  induction u using Nat.strongRecOn with
  | _ u ih =>
    intro r hu
    rw [Lib.decDigits]
    split
    · rename_i h
      show (if 48 ≤ (UInt8.ofNat (48 + u)).toNat ∧ (UInt8.ofNat (48 + u)).toNat ≤ 57 then _ else _) = _
      rw [digit_byte u h, if_pos (by omega), if_neg (by omega), if_neg (by omega)]
      congr 1
      omega
    · rename_i h
      rw [List.append_assoc, ih (u / 10) (by omega) _ (by omega)]
      show (if 48 ≤ (UInt8.ofNat (48 + u % 10)).toNat ∧ (UInt8.ofNat (48 + u % 10)).toNat ≤ 57 then _ else _) = _
      rw [digit_byte _ (by omega), if_pos (by omega), if_neg (by omega), if_neg (by omega)]
      congr 1
      omega
theorem parse_dec (u : Nat) (hu : u < 18446744073709551616) : Lib.parseMag (Lib.decDigits u) = .ok u := by
  unfold Lib.parseMag
  rw [if_neg (dec_ne u)]
  have := parse_digits u [] hu
  rw [List.append_nil] at this
  rw [this]
  rfl
theorem atoi_itoa (n : Int) (h0 : -9223372036854775808 ≤ n) (h1 : n ≤ 9223372036854775807) : Lib.atoiAll (Lib.itoa n) = .ok n := by
  unfold Lib.itoa
  split
  · rename_i h
    show (match Lib.parseMag (if (45 : UInt8).toNat = 43 ∨ (45 : UInt8).toNat = 45 then Lib.decDigits n.natAbs else 45 :: Lib.decDigits n.natAbs) with | .syntax => _ | .range => _ | .ok u => _) = _
    rw [if_pos (.inr rfl), parse_dec _ (by omega)]
    simp only
    rw [if_neg (by intro h; exact h.1 rfl), if_neg (by omega), if_pos (show (45 : UInt8).toNat = 45 from rfl)]
    congr 1
    omega
  · rename_i h
    have hp := parse_dec n.toNat (by omega)
    have hb := dec_bytes n.toNat
    cases hd : Lib.decDigits n.toNat with
    | nil => exact absurd hd (dec_ne _)
    | cons c r =>
      rw [hd] at hp hb
      have hc := hb c (by simp)
      show (match Lib.parseMag (if c.toNat = 43 ∨ c.toNat = 45 then r else c :: r) with | .syntax => _ | .range => _ | .ok u => _) = _
      rw [if_neg (by omega), hp]
      simp only
      rw [if_neg (by omega), if_neg (by omega), if_neg (by omega)]
      congr 1
      omega
/-! ### Words -/
def joinW (a : List UInt8) (ws : List (List UInt8)) : List UInt8 := a ++ ws.flatMap fun x => 32 :: x
theorem indexByte_at (a r : List UInt8) (c : UInt8) (h : c ∉ a) : Lib.indexByte (a ++ c :: r) c = a.length := by
  induction a with
  | nil => simp [Lib.indexByte]
  | cons b a ih =>
    have hb : b ≠ c := fun e => h (by simp [e])
    have h2 := ih (fun e => h (by simp [e]))
    show (if b == c then (0 : Int) else if Lib.indexByte (a ++ c :: r) c == -1 then -1 else Lib.indexByte (a ++ c :: r) c + 1) = _
    rw [if_neg (by simpa using hb), h2, if_neg (by simp)]
    simp
theorem indexByte_not (a : List UInt8) (c : UInt8) (h : c ∉ a) : Lib.indexByte a c = -1 := by
  induction a with
  | nil => rfl
  | cons b a ih =>
    have hb : b ≠ c := fun e => h (by simp [e])
    have h2 := ih (fun e => h (by simp [e]))
    show (if b == c then (0 : Int) else if Lib.indexByte a c == -1 then -1 else Lib.indexByte a c + 1) = _
    rw [if_neg (by simpa using hb), h2]
    rfl
theorem bytes_eq {a b : ByteArray} (h : a.data.toList = b.data.toList) : a = b := by
  obtain ⟨⟨a⟩⟩ := a
  obtain ⟨⟨b⟩⟩ := b
  simp at h
  rw [h]
theorem extract_first (a r : List UInt8) : (⟨(a ++ r).toArray⟩ : ByteArray).extract 0 a.length = ⟨a.toArray⟩ := by
  apply bytes_eq
  rw [Lib.extract_data]
  simp
theorem extract_last (a r : List UInt8) (c : UInt8) (n : Nat) (hn : n = (a ++ c :: r).length) : (⟨(a ++ c :: r).toArray⟩ : ByteArray).extract (a.length + 1) n = ⟨r.toArray⟩ := by
  apply bytes_eq
  rw [Lib.extract_data]
  simp only
  rw [show a ++ c :: r = (a ++ [c]) ++ r by simp, List.drop_left' (by simp), List.take_of_length_le (by subst hn; simp; omega)]
theorem count_words (a : List UInt8) (ws : List (List UInt8)) (ha : (32 : UInt8) ∉ a) (hw : ∀ x ∈ ws, (32 : UInt8) ∉ x) : (joinW a ws).count 32 = ws.length := by
  unfold joinW
  rw [List.count_append, List.count_eq_zero_of_not_mem ha]
  induction ws with
  | nil => simp
  | cons x ws ih =>
    have h1 := ih (fun y hy => hw y (by simp [hy]))
    simp only [List.flatMap_cons, List.cons_append, List.count_cons_self, List.count_append, List.count_eq_zero_of_not_mem (hw x (by simp)), List.length_cons] at h1 ⊢
    omega
theorem split_words (ws : List (List UInt8)) : ∀ (a : List UInt8), (32 : UInt8) ∉ a → (∀ x ∈ ws, (32 : UInt8) ∉ x) → Lib.splitB ⟨#[32]⟩ 0 ws.length ⟨(joinW a ws).toArray⟩ = (a :: ws).map fun x => (⟨x.toArray⟩ : ByteArray) := by
  induction ws with
  | nil => intro a _ _; simp [joinW, Lib.splitB_zero]
  | cons x ws ih =>
    intro a ha hw
    have e : joinW a (x :: ws) = a ++ 32 :: joinW x ws := by simp [joinW]
    rw [e, List.length_cons, Lib.splitB_hit _ _ _ _ a.length]
    · have h1 := extract_first a (32 :: joinW x ws)
      rw [Nat.add_zero, h1]
      have h2 := extract_last a (joinW x ws) 32 (a ++ 32 :: joinW x ws).length rfl
      have h3 := ih x (hw x (by simp)) (fun y hy => hw y (by simp [hy]))
      show _ :: Lib.splitB _ 0 ws.length ((⟨(a ++ 32 :: joinW x ws).toArray⟩ : ByteArray).extract (a.length + 1) (a ++ 32 :: joinW x ws).length) = _
      rw [h2, h3]
      simp
    · show Lib.index (a ++ 32 :: joinW x ws) [32] = _
      rw [Lib.index_one, indexByte_at _ _ _ ha]
theorem countB_words (a : List UInt8) (ws : List (List UInt8)) (ha : (32 : UInt8) ∉ a) (hw : ∀ x ∈ ws, (32 : UInt8) ∉ x) : Lib.countB ⟨(joinW a ws).toArray⟩ ⟨#[32]⟩ = ws.length := by
  show Lib.count (joinW a ws) [32] = _
  rw [Lib.count_one, count_words a ws ha hw]
/-! ### Lines -/
def restL : List (List UInt8) → List UInt8
  | [] => []
  | [l] => l
  | l :: m :: ls => l ++ 10 :: restL (m :: ls)
theorem trim_text (l : List UInt8) (ls : List (List UInt8)) : Lib.trimSuffix ((l :: ls).flatMap fun x => x ++ [10]) [10] = restL (l :: ls) := by
  have h : ∀ (ls : List (List UInt8)) (l : List UInt8), ((l :: ls).flatMap fun x => x ++ [10]) = restL (l :: ls) ++ [10] := by
    intro ls
    induction ls with
    | nil => intro l; simp [restL]
    | cons m ls ih => intro l; rw [List.flatMap_cons, ih m]; simp [restL]
  rw [h]
  unfold Lib.trimSuffix Lib.hasSuffix
  rw [if_pos (by rw [List.isSuffixOf_iff_suffix]; exact List.suffix_append _ _)]
  simp
end Go.Proofs.YthfpipieboophaaGreatDoor

/- strings.SplitSeq at a line feed: each line once, in order; and a range over it. -/
namespace Go.Proofs.YthfpipieboophaaGreatDoor
open Go.RowKit Go.Shelf
set_option maxRecDepth 100000
structure Boxes (W : World) (bs bp bv : Nat) (rest : List UInt8) : Prop where
  s : W.heap[bs]? = some (.cells #[.string ⟨rest.toArray⟩] 9)
  p : W.heap[bp]? = some (.cells #[.string ⟨#[10]⟩] 9)
  v : W.heap[bv]? = some (.cells #[.int .i64 0] 3)
  np : bp ≠ bs
  nv : bv ≠ bs
theorem Boxes.cells {W : World} {bs bp bv : Nat} {rest : List UInt8} (h : Boxes W bs bp bv rest) : W.cell? ⟨bs, 0, none⟩ = some (.string ⟨rest.toArray⟩) ∧ W.cell? ⟨bp, 0, none⟩ = some (.string ⟨#[10]⟩) ∧ W.cell? ⟨bv, 0, none⟩ = some (.int .i64 0) ∧ W.frozen? ⟨bs, 0, none⟩ = false :=
  ⟨by rw [Go.Joins.cell_of_block h.s]; rfl, by rw [Go.Joins.cell_of_block h.p]; rfl, by rw [Go.Joins.cell_of_block h.v]; rfl, Go.Joins.unfrozen_of_block h.s 0⟩
theorem Boxes.still {W W' : World} {bs bp bv : Nat} {rest : List UInt8} (h : Boxes W bs bp bv rest) (hk : ∀ k, k = bs ∨ k = bp ∨ k = bv → W'.heap[k]? = W.heap[k]?) : Boxes W' bs bp bv rest :=
  ⟨(hk bs (.inl rfl)).trans h.s, (hk bp (.inr (.inl rfl))).trans h.p, (hk bv (.inr (.inr rfl))).trans h.v, h.np, h.nv⟩
theorem Boxes.next {W : World} {bs bp bv : Nat} {rest r : List UInt8} (h : Boxes W bs bp bv rest) : Boxes (W.setCell ⟨bs, 0, none⟩ (.string ⟨r.toArray⟩)) bs bp bv r :=
  ⟨(Go.Joins.block_setCell h.s _).trans rfl, (Below.heap_setCell _ _ _ _ h.np).trans h.p, (Below.heap_setCell _ _ _ _ h.nv).trans h.v, h.np, h.nv⟩
theorem restL_drop (ls : List (List UInt8)) : ∀ i, (restL (ls.drop i)).length ≤ (restL ls).length := by
  induction ls with
  | nil => intro i; simp
  | cons x ls ih =>
    intro i
    cases i with
    | zero => simp
    | succ i =>
      refine Nat.le_trans (ih i) ?_
      cases ls with
      | nil => simp [restL]
      | cons y ls => simp [restL]; omega
def leftIn (W : World) (bs : Nat) : Nat := match W.cell? ⟨bs, 0, none⟩ with
  | some (.string s) => s.size
  | _ => 0
set_option maxHeartbeats 4000000 in
theorem split1_in (HIx : ∀ (s : ByteArray) (c : UInt8) (w : World), Calls Tryz.prog 154 #[.string s, .string ⟨#[c]⟩] w fun e w' => e = .returned (.int .i64 (Lib.indexByte s.data.toList c)) ∧ w' = w)
    (n : Nat) (hn : 1 ≤ n) (l bs bp bv : Nat) (ls : List (List UInt8)) (hne : ls ≠ []) (hls : ∀ x ∈ ls, (10 : UInt8) ∉ x) (hsz : (restL ls).length ≤ 1000000)
    (J : Nat → World → Prop) (hJ : ∀ i W W', J i W → W.grownBy W' (some bs) → J i W')
    (hY : ∀ i x rest W, J i W → ls[i]? = some x → Boxes W bs bp bv rest → YieldAt Fence.wide (n - 1) Tryz.prog l #[.string ⟨x.toArray⟩] W fun e W' => e = .returned (.bool true) ∧ J (i + 1) W' ∧ Boxes W' bs bp bv rest)
    (W : World) (hB : Boxes W bs bp bv (restL ls)) (h0 : J 0 W) :
    CallsIn Fence.wide n Tryz.prog 237 #[.func (.yield l) #[] #[], .pointer (some ⟨bp, 0, none⟩), .pointer (some ⟨bs, 0, none⟩), .pointer (some ⟨bv, 0, none⟩)] W fun e W' => (∃ v, e = .returned v) ∧ J ls.length W' := by
  refine callsIn_of_wp Tryz.func237 rfl trivial ?_ rfl
  simp only [Tryz.ntmps237, List.size_toArray, List.length_cons, List.length_nil, Nat.reduceAdd, Nat.reduceSub, Array.replicate_succ, Array.replicate_zero, List.push_toArray, List.append_toArray, List.nil_append, List.cons_append]
  have hc := hB.cells
  have h151 : Fence.wide.fn 154 := trivial
  gi_wp2
  gi_loopw [7] (fun _ wr => ∃ i x t, ls.drop i = x :: t ∧ Boxes wr bs bp bv (restL (x :: t)) ∧ J i wr)
    (fun _ wr => leftIn wr bs)
  case atStart =>
    obtain ⟨x, t, rfl⟩ := List.exists_cons_of_ne_nil hne
    exact ⟨0, x, t, rfl, hB, h0⟩
  case round =>
    obtain ⟨i, x, t, hd, hBr, hJr⟩ := hrel
    have hx : ls[i]? = some x := by
      have := congrArg List.head? hd
      simpa [List.head?_drop] using this
    have hmem : x ∈ ls := List.mem_of_getElem? hx
    have hlen : (restL (x :: t)).length ≤ 1000000 := by
      refine Nat.le_trans ?_ hsz
      rw [← hd]
      exact restL_drop ls i
    have hcr := hBr.cells
    cases t with
    | nil =>
      have hix := HIx ⟨x.toArray⟩ 10 wr
      have e1 : Lib.indexByte (⟨x.toArray⟩ : ByteArray).data.toList 10 = -1 := indexByte_not x 10 (hls x hmem)
      rw [e1] at hix
      obtain ⟨fn, tmps, assign, body, hy, hR⟩ := hY i x _ wr hJr hx hBr
      have hil : i + 1 = ls.length := by
        have := congrArg List.length hd
        simp at this
        omega
      simp only [restL] at hcr
      clear hd hBr e1 hlen
      gi_wp2_with (first
        | (gi_at_call 154; refine (callsIn_wide.2 hix).mono ?_; rintro e w' ⟨rfl, hw⟩; have hw := hw.symm; subst hw)
        | gi_in)
      refine hR.mono ?_
      rintro e W3 ⟨rfl, hJ3, _⟩
      gi_wp2
      go_end0
      rw [← hil]
      exact ⟨⟨_, rfl⟩, hJ3⟩
    | cons y t =>
      have hix := HIx ⟨(restL (x :: y :: t)).toArray⟩ 10 wr
      have e1 : Lib.indexByte (⟨(restL (x :: y :: t)).toArray⟩ : ByteArray).data.toList 10 = (x.length : Int) := indexByte_at x _ 10 (hls x hmem)
      rw [e1] at hix
      obtain ⟨fn, tmps, assign, body, hy, hR⟩ := hY i x _ wr hJr hx hBr
      have ef : (⟨(restL (x :: y :: t)).toArray⟩ : ByteArray).extract 0 x.length = ⟨x.toArray⟩ := extract_first x (10 :: restL (y :: t))
      have el : (⟨(restL (x :: y :: t)).toArray⟩ : ByteArray).extract (x.length + 1) (restL (x :: y :: t)).length = ⟨(restL (y :: t)).toArray⟩ := extract_last x (restL (y :: t)) 10 _ rfl
      have k0 : (restL (x :: y :: t)).length = x.length + 1 + (restL (y :: t)).length := by simp [restL]; omega
      have k1 : (x.length : Int) ≤ 1000000 := by omega
      have k3 : (x.length : Int) + 1 ≤ ((restL (x :: y :: t)).length : Int) := by omega
      have k2 : (x.length : Int) ≤ ((restL (x :: y :: t)).length : Int) := by omega
      have k4 : ((restL (x :: y :: t)).length : Int) ≤ 1000000 := by omega
      rw [← ef] at hy
      have hd2 : ls.drop (i + 1) = y :: t := by
        rw [← List.drop_drop, hd]; rfl
      have HL : Hid (leftIn wr bs = (restL (x :: y :: t)).length ∧ (restL (x :: y :: t)).length = x.length + 1 + (restL (y :: t)).length) := ⟨by unfold leftIn; rw [hcr.1]; simp [ByteArray.size], k0⟩
      have HE : Hid ((⟨(restL (x :: y :: t)).toArray⟩ : ByteArray).extract (x.length + 1) (restL (x :: y :: t)).length = ⟨(restL (y :: t)).toArray⟩) := el
      clear ef el e1 hlen k0 hd
      generalize (restL (x :: y :: t)) = R at *
      gi_wp2_with (first
        | (gi_at_call 154; refine (callsIn_wide.2 hix).mono ?_; rintro e w' ⟨rfl, hw⟩; have hw := hw.symm; subst hw)
        | gi_in)
      refine hR.mono ?_
      rintro e W3 ⟨rfl, hJ3, hB3⟩
      have hc3 := hB3.cells
      clear hcr
      gi_wp2
      rw [HE.out]
      have hB4 := hB3.next (r := restL (y :: t))
      refine ⟨⟨i + 1, y, t, hd2, hB4, hJ _ _ _ hJ3 (grownBy_setCell' W3 bs _)⟩, ?_⟩
      have e4 : leftIn (W3.setCell ⟨bs, 0, none⟩ (.string ⟨(restL (y :: t)).toArray⟩)) bs = (restL (y :: t)).length := by unfold leftIn; rw [hB4.cells.1]; simp [ByteArray.size]
      have := HL.out
      omega
def recOf (fn : FuncId) (tmps : Array Value) (ps : Array Tmp) (assign body : Code) (D : Nat) (st : LoopState) (pe : Option Code) : Loop := { state := st, pending := pe, fn, tmps := tmps, params := ps, assign, body, defers := D }
def linePost (bs bp bv D l : Nat) (I : World → Prop) (W : World) : Exit → Act → World → Prop
  | .normal, _, W' => I W' ∧ W.heap.size ≤ W'.heap.size ∧ ∀ k, k = bs ∨ k = bp ∨ k = bv ∨ k = D ∨ k = l → W'.heap[k]? = W.heap[k]?
  | _, _, _ => False
set_option maxHeartbeats 1000000 in
theorem range_lines (HIx : ∀ (s : ByteArray) (c : UInt8) (w : World), Calls Tryz.prog 154 #[.string s, .string ⟨#[c]⟩] w fun e w' => e = .returned (.int .i64 (Lib.indexByte s.data.toList c)) ∧ w' = w)
    {n : Nat} (h2 : 2 ≤ n) {g : Operand} {p : Tmp} {assign body : Code} {Q : Exit → Act → World → Prop} {a : Act} {w : World} {bs bp bv : Nat}
    (hg : a.eval g = .func (.func 237) #[] #[.pointer (some ⟨bp, 0, none⟩), .pointer (some ⟨bs, 0, none⟩), .pointer (some ⟨bv, 0, none⟩)])
    (ls : List (List UInt8)) (hne : ls ≠ []) (hls : ∀ x ∈ ls, (10 : UInt8) ∉ x) (hsz : (restL ls).length ≤ 1000000) (hB : Boxes w bs bp bv (restL ls))
    (I : Nat → World → Prop) (hI : ∀ i W W' row, I i W → W.grownBy W' row → (∀ k, row = some k → k = bs ∨ k = w.heap.size + 1) → I i W') (h0 : I 0 w)
    (a₁ : List UInt8 → Act)
    (hassign : ∀ (x : List UInt8) (W : World) (K : Act → World → Prop), K (a₁ x) W →
      assign.wpIn (Fence.wide.inRound (w.heap.size + 1)) (n - 1 - 1) Tryz.prog (Exit.then K (fun _ _ _ => False)) { tmps := ((#[p] : Array Tmp).zip #[.string ⟨x.toArray⟩]).foldl (fun t (p, v) => t.setIfInBounds p v) a.tmps, defers := [] } W)
    (hbody : ∀ (i : Nat) (x : List UInt8) (W : World), ls[i]? = some x → I i W → w.heap.size + 2 ≤ W.heap.size → body.wpIn (Fence.wide.inRound (w.heap.size + 1)) (n - 1 - 1) Tryz.prog (linePost bs bp bv w.heap.size (w.heap.size + 1) (I (i + 1)) W) (a₁ x) W)
    (hdone : ∀ (W : World), I ls.length W → W.heap[w.heap.size]? = some (.deferred (some [])) → Q .normal { a with defers := { target := .collected w.heap.size, args := #[] } :: a.defers } W) :
    (Code.rangeFunc g #[p] assign body).wpIn Fence.wide n Tryz.prog Q a w := by
  have hlt : bs < w.heap.size ∧ bp < w.heap.size ∧ bv < w.heap.size := ⟨(Array.getElem?_eq_some_iff.1 hB.s).1, (Array.getElem?_eq_some_iff.1 hB.p).1, (Array.getElem?_eq_some_iff.1 hB.v).1⟩
  refine wpIn_rangeFunc ?_
  intro fn hfn
  obtain ⟨rec, hrec⟩ : ∃ rec : LoopState → Option Code → Loop, rec = recOf fn a.tmps #[p] assign body w.heap.size := ⟨_, rfl⟩
  obtain ⟨W1, hW1⟩ : ∃ W1, (w.alloc (.deferred (some []))).alloc (.loop (rec .ready none)) = W1 := ⟨_, rfl⟩
  have hL1 : W1.heap[w.heap.size + 1]? = some (.loop (rec .ready none)) := by
    rw [← hW1]; have := World.alloc_heap_new (w.alloc (.deferred (some []))) (.loop (rec .ready none)); rwa [World.size_alloc] at this
  have hK1 : W1.heap[w.heap.size]? = some (.deferred (some [])) := by
    rw [← hW1]; exact (Below.heap_alloc _ _ _ (by simp)).trans (World.alloc_heap_new w _)
  have hI1 : I 0 W1 := by
    rw [← hW1]
    exact hI 0 _ _ none (hI 0 _ _ none h0 (World.grownBy_alloc _ _ _) (fun _ e => by cases e)) (World.grownBy_alloc _ _ _) (fun _ e => by cases e)
  have hB1 : Boxes W1 bs bp bv (restL ls) := by
    refine hB.still (fun k hk => ?_)
    have hk' : k < w.heap.size := by rcases hk with rfl | rfl | rfl <;> omega
    rw [← hW1]
    exact (Below.heap_alloc _ _ _ (by simp; omega)).trans (Below.heap_alloc _ _ _ hk')
  refine ⟨w.heap.size + 1, [{ target := .collected w.heap.size, args := #[] }], W1, { target := .fn (.func 237) #[.pointer (some ⟨bp, 0, none⟩), .pointer (some ⟨bs, 0, none⟩), .pointer (some ⟨bv, 0, none⟩)], args := #[.func (.yield (w.heap.size + 1)) #[] #[]] }, W1, 237,
    #[.func (.yield (w.heap.size + 1)) #[] #[], .pointer (some ⟨bp, 0, none⟩), .pointer (some ⟨bs, 0, none⟩), .pointer (some ⟨bv, 0, none⟩)], W1, ?_, ?_, ?_, ?_, fun _ => by omega, ?_⟩
  · rw [← hW1, hrec]; exact run_enterLoop_outer _ _ _ _ _
  · simp only [resolve, hg]
    simp [go_sem]
  · intro f' _; trivial
  · simp [invoke, go_sem]
  · refine (split1_in HIx (n - 1) (by omega) (w.heap.size + 1) bs bp bv ls hne hls hsz
      (fun i W => I i W ∧ W.heap[w.heap.size + 1]? = some (.loop (rec .ready none)) ∧ W.heap[w.heap.size]? = some (.deferred (some [])))
      (fun i A B hs hg' => ⟨hI i A B _ hs.1 hg' (fun k e => by cases e; exact .inl rfl), (hg'.block _ (Array.getElem?_eq_some_iff.1 hs.2.1).1 (by simp; omega)).trans hs.2.1, (hg'.block _ (Array.getElem?_eq_some_iff.1 hs.2.2).1 (by simp; omega)).trans hs.2.2⟩)
      ?_ W1 hB1 ⟨hI1, hL1, hK1⟩).mono ?_
    · rintro i x rest W ⟨hi, hl, hk⟩ hx hBx
      have hlt2 : w.heap.size + 1 < W.heap.size := (Array.getElem?_eq_some_iff.1 hl).1
      have hy := run_yield (P := Tryz.prog) (args := #[.string ⟨x.toArray⟩]) hl (by rw [hrec]; rfl)
      rw [hrec] at hy
      refine ⟨fn, _, assign, body, hy, roundIn_of_wpIn hfn (hassign x W _ ⟨_, run_beginRound hl (by rw [hrec]; rfl), ?_⟩)⟩
      clear hy
      have hl2 : (W.putObj (w.heap.size + 1) (.loop { rec .ready none with state := .busy })).heap[w.heap.size + 1]? = some (.loop { rec .ready none with state := .busy }) := World.putObj_heap_same hlt2
      have hk2 : (W.putObj (w.heap.size + 1) (.loop { rec .ready none with state := .busy })).heap[w.heap.size]? = some (.deferred (some [])) := (World.putObj_heap_other (by omega)).trans hk
      have hi2 : I i (W.putObj (w.heap.size + 1) (.loop { rec .ready none with state := .busy })) := hI i _ _ _ hi (grownBy_putObj' W _ _) (fun k e => by cases e; exact .inr rfl)
      refine wpIn_mono (hbody i x _ hx hi2 (by simp; omega)) ?_
      rintro e a3 W3 hp
      cases e with
      | normal =>
        obtain ⟨hi3, hs3, hk3⟩ := hp
        have hl3 := (hk3 _ (.inr (.inr (.inr (.inr rfl))))).trans hl2
        have hd3 := (hk3 _ (.inr (.inr (.inr (.inl rfl))))).trans hk2
        have hr := run_endRound (P := Tryz.prog) none hl3
        have hlt3 := (Array.getElem?_eq_some_iff.1 hl3).1
        refine ⟨_, _, hr, rfl, ⟨hI (i + 1) _ _ _ hi3 (grownBy_putObj' W3 _ _) (fun k e => by cases e; exact .inr rfl), ?_, (World.putObj_heap_other (by omega)).trans hd3⟩, ?_⟩
        · rw [World.putObj_heap_same hlt3, hrec]
          rfl
        · refine hBx.still (fun k hk => ?_)
          have hne1 : k ≠ w.heap.size + 1 := by rcases hk with rfl | rfl | rfl <;> omega
          refine (World.putObj_heap_other hne1).trans ((hk3 k ?_).trans (World.putObj_heap_other hne1))
          rcases hk with rfl | rfl | rfl
          · exact .inl rfl
          · exact .inr (.inl rfl)
          · exact .inr (.inr (.inl rfl))
      | ret => exact hp.elim
      | exit id => exact hp.elim
      | goto t => exact hp.elim
      | panic ch => exact hp.elim
      | outgrown => exact hp.elim
    · rintro e W2 ⟨⟨v, rfl⟩, hi, hl, hk⟩
      exact ⟨none, _, by have := run_endLoop (P := Tryz.prog) hl (by rw [hrec]; simp [recOf]); rw [hrec] at this; exact this, hdone _ (hI _ _ _ _ hi (grownBy_putObj' W2 _ _) (fun k e => by cases e; exact .inr rfl)) ((World.putObj_heap_other (by omega)).trans hk)⟩
theorem splitSeq_any (s sep : ByteArray) (w : World) : Calls Tryz.prog 89 #[.string s, .string sep] w fun e w' =>
    e = .returned (.func (.func 237) #[] #[.pointer (some ⟨w.heap.size + 1, 0, none⟩), .pointer (some ⟨w.heap.size, 0, none⟩), .pointer (some ⟨w.heap.size + 2, 0, none⟩)]) ∧
    w' = ((w.alloc (.cells #[.string s] 9)).alloc (.cells #[.string sep] 9)).alloc (.cells #[.int .i64 0] 3) := by
  go_enter Tryz.func89, Tryz.ntmps89
  go_wp2
  go_ret
  exact ⟨rfl, rfl⟩
end Go.Proofs.YthfpipieboophaaGreatDoor

/- How many numbers each line has: a map of eight. -/
namespace Go.Proofs.YthfpipieboophaaGreatDoor
open Go.RowKit Go.Sort
set_option maxRecDepth 100000
theorem keyed9 : Maps.Keyed Tryz.prog 9 := Maps.string_keyed Tryz.underlying9
def known8 : DataW Unit := ((((((((DataW.map []).put (.string [112, 108, 97, 110]) (.lit (.int .i64 3))).put (.string [102, 101, 100]) (.lit (.int .i64 3))).put (.string [109, 97, 114, 107, 115]) (.lit (.int .i64 2))).put (.string [114, 111, 119]) (.lit (.int .i64 5))).put (.string [111, 117, 116, 32, 49]) (.lit (.int .i64 3))).put (.string [111, 117, 116, 32, 50]) (.lit (.int .i64 3))).put (.string [111, 117, 116, 32, 51]) (.lit (.int .i64 6))).put (.string [101, 110, 100]) (.lit (.int .i64 0))
def Known (W : World) (bm : Nat) : Prop := W.ownsMap Tryz.prog 9 (plainElem (H := Unit) Tryz.prog 3) bm 8 known8
theorem Known.still {W W' : World} {bm : Nat} (h : Known W bm) (hb : W'.heap[bm]? = W.heap[bm]?) : Known W' bm := by
  obtain ⟨es, c, h1, h2⟩ := h
  exact ⟨es, c, hb.trans h1, h2⟩
inductive HeadN : ByteArray → Nat → Prop
  | plan : HeadN ⟨#[112, 108, 97, 110]⟩ 3
  | fed : HeadN ⟨#[102, 101, 100]⟩ 3
  | marks : HeadN ⟨#[109, 97, 114, 107, 115]⟩ 2
  | row : HeadN ⟨#[114, 111, 119]⟩ 5
  | left : HeadN ⟨#[111, 117, 116, 32, 49]⟩ 3
  | right : HeadN ⟨#[111, 117, 116, 32, 50]⟩ 3
  | pair : HeadN ⟨#[111, 117, 116, 32, 51]⟩ 6
  | fin : HeadN ⟨#[101, 110, 100]⟩ 0
theorem key9 (s : ByteArray) (hs : s.size ≤ 100) : keyOf Tryz.prog 9 (.string s) = some (.string s.data.toList) := by
  simp [keyOf, Tryz.underlying9, mapKey]
  unfold maxLen
  omega
theorem known_at {hd : ByteArray} {k : Nat} (hk : HeadN hd k) : known8.atKey (.string hd.data.toList) (.lit (.int .i64 0)) = .lit (.int .i64 k) ∧ Maps.has known8 (.string hd.data.toList) = true := by
  cases hk <;> exact ⟨by kernel_rfl, by kernel_rfl⟩
theorem known_look {W : World} {bm : Nat} (h : Known W bm) {hd : ByteArray} {k : Nat} (hk : HeadN hd k) : (Instr.lookup 152 (.map (some bm)) (.string hd) true).run Tryz.prog W = .ok (.tuple #[.int .i64 k, .bool true]) W := by
  obtain ⟨v, ps, hrun, hv⟩ := h.look_ok keyed9 Tryz.underlying152 (zero3 W) (plainElem_int Tryz.underlying3 (q := .i64) (a := 0) (by decide)) (key9 hd (by cases hk <;> decide))
  obtain ⟨c, rfl, hc, _⟩ := plainElem_int_inv Tryz.underlying3 hv
  have hc := congrArg Prod.fst hc
  obtain ⟨h1, h2⟩ := known_at hk
  rw [h1] at hc
  rw [hrun, h2]
  injection hc with hc
  injection hc with _ hc
  rw [hc]
theorem run_put {W : World} {b n : Nat} {D : DataW Unit} (h : W.ownsMap Tryz.prog 9 (plainElem (H := Unit) Tryz.prog 3) b n D) (hn : n < 100) (s : ByteArray) (k : Int) (hk : 0 ≤ k ∧ k < 100) (hs : s.size ≤ 100) :
    ∃ w', (Instr.mapUpdate 152 (.map (some b)) (.string s) (.int .i64 k)).run Tryz.prog W = .ok () w' ∧ w'.ownsMap Tryz.prog 9 (plainElem (H := Unit) Tryz.prog 3) b (n + 1) (D.put (.string s.data.toList) (.lit (.int .i64 k))) ∧ W.grownBy w' (some b) :=
  h.update keyed9 Tryz.underlying152 (by unfold maxLen; omega) (key9 s hs) (plainElem_int Tryz.underlying3 (q := .i64) (a := k) (by simp [Lit.wf, IntKind.min, IntKind.max, IntKind.signed, IntKind.bits]; omega))
theorem lengths_any (w : World) : Calls Tryz.prog 88 #[] w fun e w' => e = .returned (.map (some w.heap.size)) ∧ Known w' w.heap.size ∧ Below w.heap.size w w' := by
  have hmm := @run_makeMap Tryz.prog
  have h0 := World.ownsMap_made w Tryz.prog 9 (plainElem (H := Unit) Tryz.prog 3)
  obtain ⟨w1, r1, h1, g1⟩ := run_put h0 (by omega) ⟨#[112, 108, 97, 110]⟩ 3 (by omega) (by decide)
  obtain ⟨w2, r2, h2, g2⟩ := run_put h1 (by omega) ⟨#[102, 101, 100]⟩ 3 (by omega) (by decide)
  obtain ⟨w3, r3, h3, g3⟩ := run_put h2 (by omega) ⟨#[109, 97, 114, 107, 115]⟩ 2 (by omega) (by decide)
  obtain ⟨w4, r4, h4, g4⟩ := run_put h3 (by omega) ⟨#[114, 111, 119]⟩ 5 (by omega) (by decide)
  obtain ⟨w5, r5, h5, g5⟩ := run_put h4 (by omega) ⟨#[111, 117, 116, 32, 49]⟩ 3 (by omega) (by decide)
  obtain ⟨w6, r6, h6, g6⟩ := run_put h5 (by omega) ⟨#[111, 117, 116, 32, 50]⟩ 3 (by omega) (by decide)
  obtain ⟨w7, r7, h7, g7⟩ := run_put h6 (by omega) ⟨#[111, 117, 116, 32, 51]⟩ 6 (by omega) (by decide)
  obtain ⟨w8, r8, h8, g8⟩ := run_put h7 (by omega) ⟨#[101, 110, 100]⟩ 0 (by omega) (by decide)
  have HF : Hid (Known w8 w.heap.size ∧ Below w.heap.size w w8) := by
    refine ⟨h8, ?_⟩
    have hb : ∀ {A B : World}, w.heap.size ≤ A.heap.size → A.grownBy B (some w.heap.size) → Below w.heap.size A B := fun hA hg => (Below.refl _ _).grown hg hA (fun k e => by cases e; exact Nat.le_refl _)
    have s0 : w.heap.size ≤ (w.alloc (.map #[] 0)).heap.size := by simp
    have s1 := Nat.le_trans s0 g1.size
    have s2 := Nat.le_trans s1 g2.size
    have s3 := Nat.le_trans s2 g3.size
    have s4 := Nat.le_trans s3 g4.size
    have s5 := Nat.le_trans s4 g5.size
    have s6 := Nat.le_trans s5 g6.size
    have s7 := Nat.le_trans s6 g7.size
    exact ((((((((Go.Joins.below_alloc1 w _).trans (hb s0 g1)).trans (hb s1 g2)).trans (hb s2 g3)).trans (hb s3 g4)).trans (hb s4 g5)).trans (hb s5 g6)).trans (hb s6 g7)).trans (hb s7 g8)
  clear h0 h1 h2 h3 h4 h5 h6 h7 h8 g1 g2 g3 g4 g5 g6 g7 g8
  go_enter Tryz.func88, Tryz.ntmps88
  go_wp2
  go_ret
  exact ⟨rfl, HF.out⟩
end Go.Proofs.YthfpipieboophaaGreatDoor
