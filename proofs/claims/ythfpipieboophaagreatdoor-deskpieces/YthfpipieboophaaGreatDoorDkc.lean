/- What a desk tells: a row, an Out, a change. -/
import Derived.Test.YthfpipieboophaaGreatDoorDkb
namespace Go.Proofs.YthfpipieboophaaGreatDoor
open Go.RowKit Go.Sort Go.Shelf
set_option maxRecDepth 100000
abbrev In64a (n : Int) : Prop := -9223372036854775808 ≤ n ∧ n ≤ 9223372036854775807
theorem nums_at {W : World} {g : Nat} {ns : List Int} {T : TypeId} (h : W.heap[g]? = some (.cells (ns.map (Value.int .i64)).toArray T)) : ∀ k n, ns[k]? = some n → W.cell? ⟨g, 0 + k, none⟩ = some (.int .i64 n) := by
  intro k n hn
  rw [Go.Joins.cell_of_block h, Nat.zero_add]
  simp [hn]
theorem two_in {a b : Int} (ha : In64a a) (hb : In64a b) : ∀ n ∈ [a, b], In64a n := by
  intro n hn
  simp at hn
  rcases hn with rfl | rfl
  · exact ha
  · exact hb
theorem spaced_two (a b : Int) (ha : In64a a) (hb : In64a b) (w W : World) (ht : TabW w) (hW : Below w.heap.size w W) :
    Calls Tryz.prog 277 #[.slice (some ⟨W.heap.size, 0, none⟩) 2 2] (W.alloc (.cells #[.int .i64 a, .int .i64 b] 3)) fun e w' => e = .returned (.string ⟨(spacedB [a, b]).toArray⟩) ∧ Below w.heap.size w w' := by
  have h1 : Below w.heap.size w (W.alloc (.cells #[.int .i64 a, .int .i64 b] 3)) := hW.alloc hW.size _
  refine (spaced_any [a, b] W.heap.size 0 2 _ (tab_below ht h1) (two_in ha hb) (by simp) (nums_at (heap_alloc_new W (.cells #[.int .i64 a, .int .i64 b] 3))) (by simp)).mono ?_
  rintro e w' ⟨rfl, h2⟩
  exact ⟨rfl, h1.trans (h2.mono h1.size)⟩
def rowTx (has : Bool) (t v : Int) : List UInt8 := if has then spacedB [t, v] else [45]
theorem rowTx_len (has : Bool) (t v : Int) (ht : In64a t) (hv : In64a v) : (rowTx has t v).length ≤ 44 := by
  unfold rowTx
  split
  · have := spacedB_len [t, v] (two_in ht hv)
    simpa using this
  · simp
theorem tellRow_any (has : Bool) (k t v : Int) (w : World) (ht : TabW w) (h1 : In64a t) (h2 : In64a v) :
    Calls Tryz.prog 278 #[.bool has, .agg #[.int .i64 k, .int .i64 t, .int .i64 v]] w fun e w' => e = .returned (.string ⟨(rowTx has t v).toArray⟩) ∧ Below w.heap.size w w' := by
  cases has
  · go_enter Tryz.func278, Tryz.ntmps278
    go_wp2
    go_ret
    exact ⟨rfl, Go.Joins.below_alloc1 _ _⟩
  · have HS : Hid (Calls Tryz.prog 277 #[.slice (some ⟨(w.alloc (.cells #[.int .i64 k, .int .i64 t, .int .i64 v] 37)).heap.size, 0, none⟩) 2 2] ((w.alloc (.cells #[.int .i64 k, .int .i64 t, .int .i64 v] 37)).alloc (.cells #[.int .i64 t, .int .i64 v] 3)) fun e w' => e = .returned (.string ⟨(spacedB [t, v]).toArray⟩) ∧ Below w.heap.size w w') := spaced_two t v h1 h2 w _ ht (Go.Joins.below_alloc1 _ _)
    simp only [World.size_alloc] at HS
    clear ht h1 h2
    go_enter Tryz.func278, Tryz.ntmps278
    go_wp2_with (first
      | (go_at_call 277; refine HS.out.mono ?_; rintro e w' ⟨rfl, hb⟩)
      | fail)
    go_ret
    exact ⟨rfl, hb⟩
def outTx (o : O) : List UInt8 := Lib.itoa o.k ++ [58, 32] ++ rowTx o.hl o.lt o.lv ++ [32] ++ rowTx o.hr o.rt o.rv
structure Fits (o : O) : Prop where
  k : In64a o.k
  lt : In64a o.lt
  lv : In64a o.lv
  rt : In64a o.rt
  rv : In64a o.rv
theorem outTx_len (o : O) (h : Fits o) : (outTx o).length ≤ 112 := by
  unfold outTx
  have h1 := Lib.itoa_length_le o.k h.k.1 h.k.2
  have h2 := rowTx_len o.hl o.lt o.lv h.lt h.lv
  have h3 := rowTx_len o.hr o.rt o.rv h.rt h.rv
  simp only [List.length_append, List.length_cons, List.length_nil]
  omega
abbrev boxP (o : O) : Obj := .cells #[.int .i64 o.k, .int .i64 o.lk, .int .i64 o.lt, .int .i64 o.lv, .int .i64 o.rk, .int .i64 o.rt, .int .i64 o.rv, .bool o.hl, .bool o.hr] 89
abbrev CellsP (b : Nat) (o : O) (W : World) : Prop := W.cell? ⟨b, 0, none⟩ = some (.int .i64 o.k) ∧ W.cell? ⟨b, 1, none⟩ = some (.int .i64 o.lk) ∧ W.cell? ⟨b, 2, none⟩ = some (.int .i64 o.lt) ∧ W.cell? ⟨b, 3, none⟩ = some (.int .i64 o.lv) ∧ W.cell? ⟨b, 4, none⟩ = some (.int .i64 o.rk) ∧ W.cell? ⟨b, 5, none⟩ = some (.int .i64 o.rt) ∧ W.cell? ⟨b, 6, none⟩ = some (.int .i64 o.rv) ∧ W.cell? ⟨b, 7, none⟩ = some (.bool o.hl) ∧ W.cell? ⟨b, 8, none⟩ = some (.bool o.hr)
theorem cellsP {W : World} {b : Nat} {o : O} (h : W.heap[b]? = some (boxP o)) : CellsP b o W := by
  refine ⟨?_, ?_, ?_, ?_, ?_, ?_, ?_, ?_, ?_⟩ <;> (rw [Go.Joins.cell_of_block h]; rfl)
set_option maxHeartbeats 4000000 in
theorem tellOut_any (o : O) (w : World) (ht : TabW w) (hf : Fits o) : Calls Tryz.prog 216 #[vO o] w fun e w' => e = .returned (.string ⟨(outTx o).toArray⟩) ∧ Below w.heap.size w w' := by
  have h1 : Below w.heap.size w (w.alloc (boxP o)) := Go.Joins.below_alloc1 _ _
  have hbx := heap_alloc_new w (boxP o)
  have hz : w.heap.size < (w.alloc (boxP o)).heap.size := by simp
  obtain ⟨w1, hw1⟩ : ∃ w1, w1 = w.alloc (boxP o) := ⟨_, rfl⟩
  rw [← hw1] at h1 hbx hz
  have HF : Hid (∀ W, Below w1.heap.size w1 W → Below w.heap.size w W) := fun W hW => h1.trans (hW.mono h1.size)
  have HK : Hid (∀ W, Below w1.heap.size w1 W → Calls Tryz.prog 113 #[.int .i64 o.k] W fun e w' => e = .returned (.string ⟨(Lib.itoa o.k).toArray⟩) ∧ Below w1.heap.size w1 w') := fun W hW => (dk_itoa o.k hf.k.1 hf.k.2 W (tab_below ht (HF.out W hW))).mono fun e w' h => ⟨h.1, hW.trans (h.2.mono hW.size)⟩
  have HL : Hid (∀ b k t v W, In64a t ∧ In64a v → Below w1.heap.size w1 W → Calls Tryz.prog 278 #[.bool b, .agg #[.int .i64 k, .int .i64 t, .int .i64 v]] W fun e w' => e = .returned (.string ⟨(rowTx b t v).toArray⟩) ∧ Below w1.heap.size w1 w') := fun b k t v W hv hW => (tellRow_any b k t v W (tab_below ht (HF.out W hW)) hv.1 hv.2).mono fun e w' h => ⟨h.1, hW.trans (h.2.mono hW.size)⟩
  have HC : Hid (∀ W, Below w1.heap.size w1 W → CellsP w.heap.size o W) := fun W hW => cellsP ((hW.block _ hz).trans hbx)
  have F1 : Hid (In64a o.lt ∧ In64a o.lv) := ⟨hf.lt, hf.lv⟩
  have F2 : Hid (In64a o.rt ∧ In64a o.rv) := ⟨hf.rt, hf.rv⟩
  have l1 := Lib.itoa_length_le o.k hf.k.1 hf.k.2
  have l2 := rowTx_len o.hl o.lt o.lv hf.lt hf.lv
  have l3 := rowTx_len o.hr o.rt o.rv hf.rt hf.rv
  obtain ⟨k, lk, lt, lv, rk, rt, rv, hl, hr⟩ := o
  simp only at HC F1 F2 l1 l2 l3 HK hw1
  have s1 : ¬ 9223372036854775807 < (Lib.itoa k).length + 2 := by omega
  have s2 : ¬ 9223372036854775807 < (Lib.itoa k).length + 2 + (rowTx hl lt lv).length := by omega
  have s3 : ¬ 9223372036854775807 < (Lib.itoa k).length + 2 + (rowTx hl lt lv).length + 1 := by omega
  have s4 : ¬ 9223372036854775807 < (Lib.itoa k).length + 2 + (rowTx hl lt lv).length + 1 + (rowTx hr rt rv).length := by omega
  have B1 : Hid (Below w1.heap.size w1 w1.drew) := (Below.refl _ _).drew
  have c1 : CellsP w.heap.size ⟨k, lk, lt, lv, rk, rt, rv, hl, hr⟩ w1 := HC.out _ (Below.refl _ _)
  clear hf ht h1 hbx hz l1 l2 l3
  simp only [CellsP] at HC c1
  simp only [vO]
  go_enter Tryz.func216, Tryz.ntmps216
  go_wp2
  rw [← hw1]
  clear hw1
  go_region_held3 (fun W => CellsP w.heap.size ⟨k, lk, lt, lv, rk, rt, rv, hl, hr⟩ W) (first | exact c1 | exact HC.out _ B3.out | exact HC.out _ B2.out | fail) (first
    | (go_at_call 113; refine (HK.out _ B1.out).mono ?_; rintro e w2 ⟨rfl, hb2⟩; have B2 : Hid (Below w1.heap.size w1 w2) := hb2; clear hb2)
    | (go_at_call 278; refine (HL.out _ _ _ _ _ (by first | exact F1.out | exact F2.out) (by first | exact B3.out | exact B2.out)).mono ?_; rintro e w3 ⟨rfl, hb3⟩; have B3 : Hid (Below w1.heap.size w1 w3) := hb3; clear hb3)
    | fail)
  go_wp2
  go_ret
  refine ⟨?_, HF.out _ B3.out⟩
  congr 2
def chTx (c : Ch) : List UInt8 := (if c.g then 45 else 43) :: outTx c.x
theorem chTx_len (c : Ch) (h : Fits c.x) : (chTx c).length ≤ 113 := by
  unfold chTx
  have := outTx_len c.x h
  simp only [List.length_cons]
  omega
set_option maxHeartbeats 1000000 in
theorem tellChange_any (c : Ch) (w : World) (ht : TabW w) (hf : Fits c.x) : Calls Tryz.prog 276 #[vC c.x c.g] w fun e w' => e = .returned (.string ⟨(chTx c).toArray⟩) ∧ Below w.heap.size w w' := by
  obtain ⟨x, g⟩ := c
  simp only at hf ⊢
  have l := outTx_len x hf
  have s1 : ¬ 9223372036854775807 < 1 + (outTx x).length := by omega
  have HO : Hid (∀ W, Below w.heap.size w W → Calls Tryz.prog 216 #[vO x] W fun e w' => e = .returned (.string ⟨(outTx x).toArray⟩) ∧ Below w.heap.size w w') := fun W hW => (tellOut_any x W (tab_below ht hW) hf).mono fun e w' h => ⟨h.1, hW.trans (h.2.mono hW.size)⟩
  have HB : Hid (∀ o, Below w.heap.size w (w.alloc o)) := fun o => Go.Joins.below_alloc1 _ _
  clear l ht hf
  obtain ⟨k, lk, lt, lv, rk, rt, rv, hl, hr⟩ := x
  simp only [vO] at HO
  simp only [vC]
  cases g
  · go_enter Tryz.func276, Tryz.ntmps276
    go_wp2_with (first
      | (go_at_call 216; refine (HO.out _ (HB.out _)).mono ?_; rintro e w' ⟨rfl, hb⟩)
      | fail)
    go_ret
    refine ⟨?_, hb⟩
    congr 2
  · go_enter Tryz.func276, Tryz.ntmps276
    go_wp2_with (first
      | (go_at_call 216; refine (HO.out _ (HB.out _)).mono ?_; rintro e w' ⟨rfl, hb⟩)
      | fail)
    go_ret
    refine ⟨?_, hb⟩
    congr 2
def errTx (c : Int) : List UInt8 := [101, 114, 114, 111, 114, 32] ++ Lib.itoa c
theorem errTx_len (c : Int) (h : In64a c) : (errTx c).length ≤ 27 := by
  have := Lib.itoa_length_le c h.1 h.2
  unfold errTx
  simp only [List.length_append, List.length_cons, List.length_nil]
  omega
theorem list_own {base : Nat} (X : List (List UInt8)) (v : Value) (wr : World) (h : wr.ownsRow base 9 1 v X.length (X.map sV)) (hN : X.length ≤ 140737488355328) (hlen : (Lib.join X [44, 32]).length ≤ 140737488355328) :
    Calls Tryz.prog 217 #[v] wr fun e w' => e = .returned (.string ⟨(Lib.join X [44, 32]).toArray⟩) ∧ Below wr.heap.size wr w' := by
  have H : Hid (Calls Tryz.prog 114 #[v, .string ⟨#[44, 32]⟩] wr fun e w' => e = .returned (.string ⟨(Lib.join X [44, 32]).toArray⟩) ∧ Below wr.heap.size wr w') := join_own X v ⟨#[44, 32]⟩ wr h hN hlen
  clear h hN hlen
  go_enter Tryz.func217, Tryz.ntmps217
  go_wp2_with (first
    | (go_at_call 114; refine H.out.mono ?_; rintro e w' ⟨rfl, hb⟩)
    | fail)
  go_ret
  exact ⟨rfl, hb⟩
end Go.Proofs.YthfpipieboophaaGreatDoor
