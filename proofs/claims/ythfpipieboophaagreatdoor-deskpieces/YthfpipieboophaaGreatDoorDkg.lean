/- An engine of a session: what it is asked. -/
import Derived.Test.YthfpipieboophaaGreatDoorDkf
import Derived.Test.YthfpipieboophaaGreatDoorDke
namespace Go.Proofs.YthfpipieboophaaGreatDoor
open Go.RowKit Go.Sort Go.Shelf
set_option maxRecDepth 100000
def planC (lo hi mode : Int) : Int := if ¬ (-1048576 ≤ lo ∧ lo ≤ 1048576) ∨ ¬ (-1048576 ≤ hi ∧ hi ≤ 1048576) then 2 else if hi < lo then 10 else if ¬ (0 ≤ mode ∧ mode ≤ 3) then 1 else 0
theorem planC_ok {lo hi mode : Int} (h : planOk lo hi mode) : planC lo hi mode = 0 := by
  unfold planOk at h
  unfold planC
  rw [if_neg (by omega), if_neg (by omega), if_neg (by omega)]
theorem planC_zero {lo hi mode : Int} (h : planC lo hi mode = 0) : planOk lo hi mode := by
  unfold planC at h
  split at h
  · cases h
  · split at h
    · cases h
    · split at h
      · cases h
      · unfold planOk; omega
set_option maxHeartbeats 1000000 in
theorem check_code (lo hi mode : Int) (w : World) (h : ¬ planOk lo hi mode) : Calls Tryz.prog 109 #[.agg #[.int .i64 lo, .int .i64 hi, .int .i64 mode]] w fun e w' => e = .returned (.iface 24 (.int .i64 (planC lo hi mode))) ∧ w' = w.alloc (.cells #[.int .i64 lo, .int .i64 hi, .int .i64 mode] 45) := by
  by_cases h1 : -1048576 ≤ lo ∧ lo ≤ 1048576
  · have d1 : Hid (decide (-1048576 ≤ lo ∧ lo ≤ 1048576) = true) := by show _ = _; simp; omega
    by_cases h2 : -1048576 ≤ hi ∧ hi ≤ 1048576
    · have d2 : Hid (decide (-1048576 ≤ hi ∧ hi ≤ 1048576) = true) := by show _ = _; simp; omega
      by_cases h3 : hi < lo
      · have hp : planC lo hi mode = 10 := by unfold planC; rw [if_neg (by omega), if_pos h3]
        rw [hp]
        clear h h1 h2 hp
        go_enter Tryz.func109, Tryz.ntmps109
        go_wp2_with (first
          | (go_at_call 183; refine (isSpan_any _ _).mono ?_; rintro e w' ⟨rfl, rfl⟩; first | rw [d1.out] | rw [d2.out])
          | fail)
        go_ret
        exact ⟨rfl, rfl⟩
      · have h4 : ¬ (0 ≤ mode ∧ mode ≤ 3) := fun h4 => h ⟨h1, h2, by omega, h4⟩
        have hp : planC lo hi mode = 1 := by unfold planC; rw [if_neg (by omega), if_neg h3, if_pos h4]
        rw [hp]
        clear h h1 h2 hp
        go_enter Tryz.func109, Tryz.ntmps109
        go_wp2_with (first
          | (go_at_call 183; refine (isSpan_any _ _).mono ?_; rintro e w' ⟨rfl, rfl⟩; first | rw [d1.out] | rw [d2.out])
          | (go_at_call 184; refine (isMode_no _ _ h4).mono ?_; rintro e w' ⟨rfl, rfl⟩)
          | fail)
        go_ret
        exact ⟨rfl, rfl⟩
    · have d2 : Hid (decide (-1048576 ≤ hi ∧ hi ≤ 1048576) = false) := by show _ = _; simp; omega
      have hp : planC lo hi mode = 2 := by unfold planC; rw [if_pos (.inr h2)]
      rw [hp]
      clear h h1 h2 hp
      go_enter Tryz.func109, Tryz.ntmps109
      go_wp2_with (first
        | (go_at_call 183; refine (isSpan_any _ _).mono ?_; rintro e w' ⟨rfl, rfl⟩; first | rw [d1.out] | rw [d2.out])
        | fail)
      go_ret
      exact ⟨rfl, rfl⟩
  · have d1 : Hid (decide (-1048576 ≤ lo ∧ lo ≤ 1048576) = false) := by show _ = _; simp; omega
    have hp : planC lo hi mode = 2 := by unfold planC; rw [if_pos (.inl h1)]
    rw [hp]
    clear h h1 hp
    go_enter Tryz.func109, Tryz.ntmps109
    go_wp2_with (first
      | (go_at_call 183; refine (isSpan_any _ _).mono ?_; rintro e w' ⟨rfl, rfl⟩; rw [d1.out])
      | fail)
    go_ret
    exact ⟨rfl, rfl⟩
set_option maxHeartbeats 1000000 in
theorem jnew_code (lo hi mode : Int) (w : World) (h : ¬ planOk lo hi mode) : Calls Tryz.prog 48 #[.agg #[.int .i64 lo, .int .i64 hi, .int .i64 mode]] w fun e w' => e = .returned (.tuple #[.pointer none, .iface 24 (.int .i64 (planC lo hi mode))]) ∧ Below w.heap.size w w' := by
  have hck := fun W => check_code lo hi mode W h
  have HB : Hid (Below w.heap.size w ((w.alloc (.cells #[.int .i64 lo, .int .i64 hi, .int .i64 mode] 45)).alloc (.cells #[.int .i64 lo, .int .i64 hi, .int .i64 mode] 45))) := Go.Joins.below_alloc2 _ _ _
  clear h
  generalize planC lo hi mode = c at *
  have hq := ne_err c
  go_enter Tryz.func48, Tryz.ntmps48
  go_wp2_with (first
    | (go_at_call 109; refine (hck _).mono ?_; rintro e w' ⟨rfl, rfl⟩)
    | fail)
  exact bodyPost_ret (v := .tuple #[.pointer none, .iface 24 (.int .i64 c)]) (by simp [results, Tryz.results48, go_sem]) rfl ⟨rfl, HB.out⟩
set_option maxHeartbeats 1000000 in
theorem enew_code (lo hi mode : Int) (w : World) (h : ¬ planOk lo hi mode) : Calls Tryz.prog 13 #[.agg #[.int .i64 lo, .int .i64 hi, .int .i64 mode]] w fun e w' => e = .returned (.tuple #[.pointer none, .iface 24 (.int .i64 (planC lo hi mode))]) ∧ Below w.heap.size w w' := by
  have hck := fun W => jnew_code lo hi mode W h
  have HB : Hid (Below w.heap.size w (w.alloc (planE lo hi mode))) := Go.Joins.below_alloc1 _ _
  clear h
  generalize planC lo hi mode = c at *
  have hq := ne_err c
  go_enter Tryz.func13, Tryz.ntmps13
  go_wp2_with (first
    | (go_at_call 48; refine (hck _).mono ?_; rintro e w1 ⟨rfl, hb1⟩; have HB1 : Hid (Below w.heap.size w w1) := HB.out.trans (hb1.mono HB.out.size); clear hb1)
    | fail)
  exact bodyPost_ret (v := .tuple #[.pointer none, .iface 24 (.int .i64 c)]) (by simp [results, Tryz.results13, go_sem]) rfl ⟨rfl, HB1.out⟩
section
variable {be bj bm : Nat} {v0 v1 : Value} {f0 f1 : Int} {om : Option Nat} {Sg : Nat → Prop} {x : J} {L Lg : List O} {w : World}
theorem eheld0 (h : EngIn w be bj bm v0 v1 f0 f1 om Sg x L Lg) : Calls Tryz.prog 19 #[.pointer (some ⟨be, 0, none⟩), .int .i64 0] w fun e w' => e = .returned (.int .i64 x.R0.length) ∧ w' = w := by
  have H : Hid (Calls Tryz.prog 63 #[.pointer (some ⟨bj, 0, none⟩), .int .i64 0] w fun e w' => e = .returned (.int .i64 x.R0.length) ∧ w' = w) := jheld0 0 bj bm v0 v1 x w h.join
  have hc := h.cells.2.2.2.1
  have hlt := h.blt
  clear h
  go_enter Tryz.func19, Tryz.ntmps19
  go_wp2_with (first
    | (go_at_call 63; refine H.out.mono ?_; rintro e w' ⟨rfl, hw⟩; have hw := hw.symm; subst hw)
    | fail)
  go_ret
  exact ⟨rfl, rfl⟩
theorem eheld1 (h : EngIn w be bj bm v0 v1 f0 f1 om Sg x L Lg) : Calls Tryz.prog 19 #[.pointer (some ⟨be, 0, none⟩), .int .i64 1] w fun e w' => e = .returned (.int .i64 x.R1.length) ∧ w' = w := by
  have H : Hid (Calls Tryz.prog 63 #[.pointer (some ⟨bj, 0, none⟩), .int .i64 1] w fun e w' => e = .returned (.int .i64 x.R1.length) ∧ w' = w) := jheld1 0 bj bm v0 v1 x w h.join
  have hc := h.cells.2.2.2.1
  have hlt := h.blt
  clear h
  go_enter Tryz.func19, Tryz.ntmps19
  go_wp2_with (first
    | (go_at_call 63; refine H.out.mono ?_; rintro e w' ⟨rfl, hw⟩; have hw := hw.symm; subst hw)
    | fail)
  go_ret
  exact ⟨rfl, rfl⟩
theorem efed0 (h : EngIn w be bj bm v0 v1 f0 f1 om Sg x L Lg) : Calls Tryz.prog 21 #[.pointer (some ⟨be, 0, none⟩), .int .i64 0] w fun e w' => e = .returned (.int .i64 f0) ∧ w' = w := by
  have hc := h.cells.2.2.2.2.1
  have hlt := h.blt
  clear h
  go_enter Tryz.func21, Tryz.ntmps21
  go_wp2
  go_ret
  exact ⟨rfl, rfl⟩
theorem efed1 (h : EngIn w be bj bm v0 v1 f0 f1 om Sg x L Lg) : Calls Tryz.prog 21 #[.pointer (some ⟨be, 0, none⟩), .int .i64 1] w fun e w' => e = .returned (.int .i64 f1) ∧ w' = w := by
  have hc := h.cells.2.2.2.2.2.1
  have hlt := h.blt
  clear h
  go_enter Tryz.func21, Tryz.ntmps21
  go_wp2
  go_ret
  exact ⟨rfl, rfl⟩
end
theorem both_any (f : Nat) (rcv : Value) (a b : Int) (ha : In64a a) (hb : In64a b) (w : World) (ht : TabW w) (eg : ∀ args W, (callFunc f args).run Tryz.prog W = .ok (.enter f args) W)
    (h0 : Calls Tryz.prog f #[rcv, .int .i64 0] w fun e w' => e = .returned (.int .i64 a) ∧ w' = w) (h1 : Calls Tryz.prog f #[rcv, .int .i64 1] w fun e w' => e = .returned (.int .i64 b) ∧ w' = w) :
    Calls Tryz.prog 215 #[.func (.func f) #[rcv] #[]] w fun e w' => e = .returned (.string ⟨(spacedB [a, b]).toArray⟩) ∧ Below w.heap.size w w' := by
  have HS : Hid (Calls Tryz.prog 277 #[.slice (some ⟨w.heap.size, 0, none⟩) 2 2] (w.alloc (.cells #[.int .i64 a, .int .i64 b] 3)) fun e w' => e = .returned (.string ⟨(spacedB [a, b]).toArray⟩) ∧ Below w.heap.size w w') := spaced_two a b ha hb w w ht (Below.refl _ _)
  have H0 : Hid (Calls Tryz.prog f #[rcv, .int .i64 0] w fun e w' => e = .returned (.int .i64 a) ∧ w' = w) := h0
  have H1 : Hid (Calls Tryz.prog f #[rcv, .int .i64 1] w fun e w' => e = .returned (.int .i64 b) ∧ w' = w) := h1
  clear h0 h1 ha hb ht
  go_enter Tryz.func215, Tryz.ntmps215
  go_wp2_with fail
  refine H0.out.mono ?_
  rintro e w' ⟨rfl, hw⟩
  have hw := hw.symm
  subst hw
  go_wp2_with fail
  refine H1.out.mono ?_
  rintro e w' ⟨rfl, hw⟩
  have hw := hw.symm
  subst hw
  go_wp2_with (first
    | (go_at_call 277; refine HS.out.mono ?_; rintro e w2 ⟨rfl, hb⟩)
    | fail)
  go_ret
  exact ⟨rfl, hb⟩
/-! What a group is told as. -/
structure GrQ where
  key : Int
  count : Int
  sum : Int
  least : Int
  most : Int
  some : Bool
def grTx (q : GrQ) : List UInt8 := Lib.itoa q.key ++ [58, 32] ++ spacedB [q.count, q.sum] ++ (if q.some then 32 :: spacedB [q.least, q.most] else [])
structure FitsG (q : GrQ) : Prop where
  key : In64a q.key
  count : In64a q.count
  sum : In64a q.sum
  least : In64a q.least
  most : In64a q.most
abbrev boxG (q : GrQ) : Obj := .cells #[.int .i64 q.key, .int .i64 q.count, .int .i64 q.sum, .int .i64 q.least, .int .i64 q.most, .bool q.some] 140
abbrev CellsG (b : Nat) (q : GrQ) (W : World) : Prop := W.cell? ⟨b, 0, none⟩ = some (.int .i64 q.key) ∧ W.cell? ⟨b, 1, none⟩ = some (.int .i64 q.count) ∧ W.cell? ⟨b, 2, none⟩ = some (.int .i64 q.sum) ∧ W.cell? ⟨b, 3, none⟩ = some (.int .i64 q.least) ∧ W.cell? ⟨b, 4, none⟩ = some (.int .i64 q.most) ∧ W.cell? ⟨b, 5, none⟩ = some (.bool q.some)
theorem cellsG {W : World} {b : Nat} {q : GrQ} (h : W.heap[b]? = some (boxG q)) : CellsG b q W := by
  refine ⟨?_, ?_, ?_, ?_, ?_, ?_⟩ <;> (rw [Go.Joins.cell_of_block h]; rfl)
theorem spacedTwo_len (a b : Int) (ha : In64a a) (hb : In64a b) : (spacedB [a, b]).length ≤ 44 := by
  have := spacedB_len [a, b] (two_in ha hb)
  simpa using this
theorem grTx_len (q : GrQ) (h : FitsG q) : (grTx q).length ≤ 112 := by
  unfold grTx
  have h1 := Lib.itoa_length_le q.key h.key.1 h.key.2
  have h2 := spacedTwo_len q.count q.sum h.count h.sum
  have h3 := spacedTwo_len q.least q.most h.least h.most
  simp only [List.length_append, List.length_cons, List.length_nil]
  split
  · simp only [List.length_cons]; omega
  · simp only [List.length_nil]; omega
set_option maxHeartbeats 4000000 in
theorem tellGroup_any (q : GrQ) (w : World) (ht : TabW w) (hf : FitsG q) : Calls Tryz.prog 218 #[.agg #[.int .i64 q.key, .int .i64 q.count, .int .i64 q.sum, .int .i64 q.least, .int .i64 q.most, .bool q.some]] w fun e w' => e = .returned (.string ⟨(grTx q).toArray⟩) ∧ Below w.heap.size w w' := by
  have h1 : Below w.heap.size w (w.alloc (boxG q)) := Go.Joins.below_alloc1 _ _
  have hbx := heap_alloc_new w (boxG q)
  have hz : w.heap.size < (w.alloc (boxG q)).heap.size := by simp
  obtain ⟨w1, hw1⟩ : ∃ w1, w1 = w.alloc (boxG q) := ⟨_, rfl⟩
  rw [← hw1] at h1 hbx hz
  have HF : Hid (∀ W, Below w1.heap.size w1 W → Below w.heap.size w W) := fun W hW => h1.trans (hW.mono h1.size)
  have HK : Hid (∀ W, Below w1.heap.size w1 W → Calls Tryz.prog 113 #[.int .i64 q.key] W fun e w' => e = .returned (.string ⟨(Lib.itoa q.key).toArray⟩) ∧ Below w1.heap.size w1 w' ∧ Below W.heap.size W w') := fun W hW => (dk_itoa q.key hf.key.1 hf.key.2 W (tab_below ht (HF.out W hW))).mono fun e w' h => ⟨h.1, hW.trans (h.2.mono hW.size), h.2⟩
  have HL : Hid (∀ a b g W, In64a a ∧ In64a b → Below w1.heap.size w1 W → W.heap[g]? = some (.cells #[.int .i64 a, .int .i64 b] 3) → Calls Tryz.prog 277 #[.slice (some ⟨g, 0, none⟩) 2 2] W fun e w' => e = .returned (.string ⟨(spacedB [a, b]).toArray⟩) ∧ Below w1.heap.size w1 w') := fun a b g W hv hW hg => (spaced_any [a, b] g 0 2 W (tab_below ht (HF.out W hW)) (two_in hv.1 hv.2) (Array.getElem?_eq_some_iff.1 hg).1 (nums_at hg) (by simp)).mono fun e w' h => ⟨h.1, hW.trans (h.2.mono hW.size)⟩
  have HC : Hid (∀ W, Below w1.heap.size w1 W → CellsG w.heap.size q W) := fun W hW => cellsG ((hW.block _ hz).trans hbx)
  have F1 : Hid (In64a q.count ∧ In64a q.sum) := ⟨hf.count, hf.sum⟩
  have F2 : Hid (In64a q.least ∧ In64a q.most) := ⟨hf.least, hf.most⟩
  have l1 := Lib.itoa_length_le q.key hf.key.1 hf.key.2
  have l2 := spacedTwo_len q.count q.sum hf.count hf.sum
  have l3 := spacedTwo_len q.least q.most hf.least hf.most
  obtain ⟨k, c, s, l, m, b⟩ := q
  simp only at HC F1 F2 l1 l2 l3 HK hw1 ⊢
  have s1 : ¬ 9223372036854775807 < (Lib.itoa k).length + 2 := by omega
  have s2 : ¬ 9223372036854775807 < (Lib.itoa k).length + 2 + (spacedB [c, s]).length := by omega
  have s3 : ¬ 9223372036854775807 < 1 + (spacedB [l, m]).length := by omega
  have s4 : ¬ 9223372036854775807 < (Lib.itoa k).length + 2 + (spacedB [c, s]).length + (1 + (spacedB [l, m]).length) := by omega
  have B1 : Hid (Below w1.heap.size w1 w1.drew) := (Below.refl _ _).drew
  have c1 : CellsG w.heap.size ⟨k, c, s, l, m, b⟩ w1 := HC.out _ (Below.refl _ _)
  clear hf ht h1 hbx hz l1 l2 l3
  simp only [CellsG] at HC c1
  go_enter Tryz.func218, Tryz.ntmps218
  go_wp2
  rw [← hw1]
  clear hw1
  go_region_held3 (fun W => CellsG w.heap.size ⟨k, c, s, l, m, b⟩ W) (first | exact c1 | exact HC.out _ B3.out | exact HC.out _ B2.out | exact HC.out _ (B2.out.alloc B2.out.size _) | exact HC.out _ (B1.out.alloc B1.out.size _) | fail) (first
    | (go_at_call 113; refine (HK.out _ ?_).mono ?_; (first | exact B1.out | exact B1.out.alloc B1.out.size _); rintro e w2 ⟨rfl, hb2, hk2⟩; have B2 : Hid (Below w1.heap.size w1 w2) := hb2; clear hb2)
    | (go_at_call 277; refine (HL.out _ _ _ _ F1.out ?_ ?_).mono ?_; (first | exact B2.out | exact B2.out.alloc B2.out.size _); (first | exact heap_alloc_new _ _ | exact (hk2.block _ (by simp)).trans (heap_alloc_new _ _)); rintro e w3 ⟨rfl, hb3⟩; have B3 : Hid (Below w1.heap.size w1 w3) := hb3; clear hb3)
    | fail)
  all_goals
    have c3 : CellsG w.heap.size ⟨k, c, s, l, m, b⟩ w3 := HC.out _ B3.out
    clear hk2 HK c1 B1 B2
    cases b
    · go_wp2
      go_ret
      refine ⟨?_, HF.out _ B3.out⟩
      first | rfl | (congr 2; done) | (congr 2; apply ByteArray.ext; simp [grTx, ByteArray.data_append]; done) | (simp only [grTx, ↓reduceIte, Bool.false_eq_true, List.append_nil]; congr 2; done)
    · go_wp2_with (first
        | (go_at_call 277; refine (HL.out _ _ _ _ F2.out ?_ ?_).mono ?_; (exact B3.out.alloc B3.out.size _); (exact heap_alloc_new _ _); rintro e w4 ⟨rfl, hb4⟩; have B4 : Hid (Below w1.heap.size w1 w4) := hb4; clear hb4)
        | fail)
      go_ret
      refine ⟨?_, HF.out _ B4.out⟩
      first | rfl | (congr 2; done) | (congr 2; apply ByteArray.ext; simp [grTx, ByteArray.data_append]; done) | (simp only [grTx, ↓reduceIte, Bool.false_eq_true, List.append_nil]; congr 2; done)
theorem tellWrong_any (c : Int) (hc : In64a c) (w : World) (ht : TabW w) (hg : w.cell? ⟨2, 0, none⟩ = some errT) : Calls Tryz.prog 75 #[.iface 24 (.int .i64 c)] w fun e w' => e = .returned (.string ⟨(errTx c).toArray⟩) ∧ Below w.heap.size w w' := by
  have HT : Hid (Calls Tryz.prog 46 #[.iface 24 (.int .i64 c)] w fun e w' => e = .returned (.int .i64 c) ∧ Hid (Below w.heap.size w w' ∧ TabW w')) := (tell_err c w hg).mono fun e w' h => ⟨h.1, h.2, tab_below ht h.2⟩
  have HI : Hid (∀ W, Hid (Below w.heap.size w W ∧ TabW W) → Calls Tryz.prog 113 #[.int .i64 c] W fun e w' => e = .returned (.string ⟨(Lib.itoa c).toArray⟩) ∧ Hid (Below w.heap.size w w')) := fun W hW => (dk_itoa c hc.1 hc.2 W hW.out.2).mono fun e w' h => ⟨h.1, hW.out.1.trans (h.2.mono hW.out.1.size)⟩
  have l1 := Lib.itoa_length_le c hc.1 hc.2
  have s1 : ¬ 9223372036854775807 < 6 + (Lib.itoa c).length := by omega
  clear hc ht hg l1
  go_enter Tryz.func75, Tryz.ntmps75
  go_wp2_with (first
    | (go_at_call 46; refine HT.out.mono ?_; rintro e w2 ⟨rfl, h2⟩)
    | (go_at_call 113; refine (HI.out _ h2).mono ?_; rintro e w3 ⟨rfl, h3⟩)
    | fail)
  go_ret
  refine ⟨?_, h3.out⟩
  congr 2
end Go.Proofs.YthfpipieboophaaGreatDoor
