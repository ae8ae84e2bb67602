/- Package bag's small functions: Many, Size, put, take, Apply. -/
import Derived.Test.YtfldfnphidehlaaDoorBagm
import Derived.Maps.OwnOps
import Derived.BigQuiet
namespace Go.Proofs.YtfldfnphidehlaaDoor
open Go.RowKit Go.Sort
set_option maxRecDepth 100000

theorem eq_some (bm : Nat) (w : World) : (binOp .eql 23 (.map (some bm)) (.map none)).run Tryd.prog w = .ok (.bool false) w := by kernel_rfl
theorem eq_none (w : World) : (binOp .eql 23 (.map none) (.map none)).run Tryd.prog w = .ok (.bool true) w := by kernel_rfl

theorem nilLook (W : World) (x : O) (hx : x.wf) : (Instr.lookup 23 (.map none) (vO x) false).run Tryd.prog W = .ok (.int .i64 0) W :=
  Maps.look_nil (w := W) false keyed Tryd.underlying23 (zero3 _) (key_of x hx)

theorem size_any (b m : Nat) (om : Option Nat) (L : List O) (w : World) (h : BagAt w b om m L) :
    Calls Tryd.prog 10 #[.pointer (some ⟨b, 0, none⟩)] w fun e w' => e = .returned (.int .i64 L.length) ∧ w' = w := by
  have hc := h.cells
  go_enter Tryd.func10, Tryd.ntmps10
  go_wp2
  go_ret
  exact ⟨rfl, rfl⟩

theorem box27 (w : World) (x : O) (j : Nat) (v : Value) (h : (encO x)[j]? = some v) : (w.alloc (.cells (encO x).toArray 37)).cell? ⟨w.heap.size, j, none⟩ = some v := by
  rw [World.cell?_alloc_at _ _ _ _ rfl]; simpa using h

set_option maxRecDepth 20000 in
set_option maxHeartbeats 400000 in
theorem many_any (b m : Nat) (om : Option Nat) (L : List O) (w : World) (h : BagAt w b om m L) (x : O) (hx : x.wf) :
    Calls Tryd.prog 8 #[.pointer (some ⟨b, 0, none⟩), vO x] w fun e w' => e = .returned (.int .i64 (L.count x)) ∧ Below w.heap.size w w' := by
  have hc := h.cells
  have hlt := h.lt
  have hrun : (Instr.lookup 23 (.map om) (vO x) false).run Tryd.prog (w.alloc (.cells (encO x).toArray 37)).drew = .ok (.int .i64 (L.count x)) (w.alloc (.cells (encO x).toArray 37)).drew := by
    rcases h.map with ⟨rfl, rfl⟩ | ⟨bm, n, D, rfl, hn, hown, hcn⟩
    · exact nilLook _ x hx
    · exact look (hown.alloc _).drew hcn x hx
  simp only [vO, encO] at hrun ⊢
  clear h
  go_enter Tryd.func8, Tryd.ntmps8
  go_wp2
  go_region
  all_goals (try go_wp2)
  all_goals go_ret
  all_goals exact ⟨rfl, (Go.Joins.below_alloc1 _ _).drew⟩

theorem wf_nat (n : Nat) (h : n < 1000000000) : (Lit.int .i64 (n : Int)).wf = true := WalkArith.wf_i64 (by omega)

/-- Behind a store at the map's entry and one into the bag's size. -/
theorem bag_after {w w2 : World} {b bm m n : Nat} {L : List O} {D' : DataW Unit} {L' : List O} (o : Obj) (h : BagAt w b (some bm) m L)
    (hown2 : w2.ownsMap Tryd.prog 37 (plainElem (H := Unit) Tryd.prog 3) bm n D') (hn : n ≤ m + 1) (hg : (w.alloc o).drew.grownBy w2 (some bm)) (hc : Cnt D' L') :
    BagAt (w2.setCell ⟨b, 1, none⟩ (.int .i64 L'.length)) b (some bm) (m + 1) L' ∧ Keep b (some bm) w (w2.setCell ⟨b, 1, none⟩ (.int .i64 L'.length)) ∧ w2.cell? ⟨b, 1, none⟩ = some (.int .i64 L.length) ∧ w2.frozen? ⟨b, 1, none⟩ = false := by
  have hne := (h.ne rfl).1
  have hb2 : w2.heap[b]? = some (.cells #[.map (some bm), .int .i64 L.length] 25) := by
    rw [hg.block b (by have := h.lt; simp; omega) (by simp; exact fun e => hne e.symm)]
    exact (Below.heap_alloc w o b h.lt).trans h.blk
  refine ⟨⟨?_, .inr ⟨bm, n, D', rfl, hn, hown2.setCell hne _, hc⟩⟩, ⟨hg.os, hg.tape, hg.output, ?_, fun k hk hkb hkm => ?_⟩, ?_, Go.Joins.unfrozen_of_block hb2 1⟩
  · rw [Go.Joins.block_setCell hb2]; rfl
  · have := hg.size; simp at this ⊢; omega
  · rw [Below.heap_setCell _ _ _ _ (by simpa using hkb), hg.block k (by simp; omega) (fun e => hkm e.symm)]
    exact Below.heap_alloc w o k hk
  · rw [Go.Joins.cell_of_block hb2]; rfl

set_option maxRecDepth 20000 in
set_option maxHeartbeats 400000 in
theorem put_some (b bm m : Nat) (L : List O) (w : World) (h : BagAt w b (some bm) m L) (x : O) (hx : x.wf) (hm : m < 100000000) (hL : L.length < 100000000) :
    Calls Tryd.prog 21 #[.pointer (some ⟨b, 0, none⟩), vO x] w fun e w' => e = .returned (.tuple #[]) ∧ BagAt w' b (some bm) (m + 1) (x :: L) ∧ Keep b (some bm) w w' := by
  have hc := h.cells
  have hlt := h.lt
  rcases h.map with ⟨h0, _⟩ | ⟨bm', n, D, h0, hn, hown, hcn⟩
  · cases h0
  cases h0
  have hrun := look ((hown.alloc (.cells (encO x).toArray 37)).drew) hcn x hx
  have hle : L.count x ≤ L.length := List.count_le_length
  obtain ⟨v0, st, W1, W2, he1, he2, hown2, hg⟩ := entry ((hown.alloc (.cells (encO x).toArray 37)).drew) (by omega) x hx (L.count x + 1 : Nat) (wf_nat _ (by omega))
  have hrun1 := look_entry ((hown.alloc (.cells (encO x).toArray 37)).drew) hcn (by omega) x hx he1
  obtain ⟨hB, hK, c2, f2⟩ := bag_after _ h hown2 (by omega) hg (hcn.put x hx)
  have e1 : ((L.count x + 1 : Nat) : Int) = (L.count x : Int) + 1 := by omega
  rw [e1] at he2
  have e2 : (((x :: L).length : Nat) : Int) = (L.length : Int) + 1 := by simp
  rw [e2] at hB hK
  have HB : Hid _ := hB
  have HK : Hid _ := hK
  simp only [vO, encO] at hrun hrun1 he1 he2 ⊢
  have hle' : (L.count x : Int) < 100000000 := by omega
  have hL' : (L.length : Int) < 100000000 := by omega
  have hq := eq_some bm
  clear h hown hown2 hg hB hK hcn e1 e2
  go_enter Tryd.func21, Tryd.ntmps21
  go_wp2
  go_region
  all_goals (try go_wp2)
  all_goals go_end0
  all_goals exact ⟨rfl, HB.out, HK.out⟩

/-- .. the same, the bag as it lies there. -/
theorem bag_after' {w w2 : World} {b bm m n : Nat} {L : List O} {D' : DataW Unit} {L' : List O} (h : BagAt w b (some bm) m L)
    (hown2 : w2.ownsMap Tryd.prog 37 (plainElem (H := Unit) Tryd.prog 3) bm n D') (hn : n ≤ m + 1) (hg : w.drew.grownBy w2 (some bm)) (hc : Cnt D' L') :
    BagAt (w2.setCell ⟨b, 1, none⟩ (.int .i64 L'.length)) b (some bm) (m + 1) L' ∧ Keep b (some bm) w (w2.setCell ⟨b, 1, none⟩ (.int .i64 L'.length)) ∧ w2.cell? ⟨b, 1, none⟩ = some (.int .i64 L.length) ∧ w2.frozen? ⟨b, 1, none⟩ = false := by
  have hne := (h.ne rfl).1
  have hb2 : w2.heap[b]? = some (.cells #[.map (some bm), .int .i64 L.length] 25) := by
    rw [hg.block b h.lt (by simp; exact fun e => hne e.symm)]
    exact h.blk
  refine ⟨⟨?_, .inr ⟨bm, n, D', rfl, hn, hown2.setCell hne _, hc⟩⟩, ⟨hg.os, hg.tape, hg.output, ?_, fun k hk hkb hkm => ?_⟩, ?_, Go.Joins.unfrozen_of_block hb2 1⟩
  · rw [Go.Joins.block_setCell hb2]; rfl
  · have := hg.size; simp at this ⊢; omega
  · rw [Below.heap_setCell _ _ _ _ (by simpa using hkb), hg.block k hk (fun e => hkm e.symm)]
    rfl
  · rw [Go.Joins.cell_of_block hb2]; rfl

/-- The world in which 'put' has made the map. -/
def madeW (w : World) (b : Nat) (x : O) : World := ((w.setCell ⟨b, 0, none⟩ (.map (some (w.heap.size + 1)))).alloc (.cells (encO x).toArray 37)).alloc (.map #[] 0)

theorem made_bag {w : World} {b m : Nat} {L : List O} (x : O) (h : BagAt w b none m L) : BagAt (madeW w b x) b (some (w.heap.size + 1)) m [] ∧ L = [] ∧ (∀ k, k < w.heap.size → k ≠ b → (madeW w b x).heap[k]? = w.heap[k]?) := by
  have hlt := h.lt
  have hL : L = [] := by
    rcases h.map with ⟨_, h⟩ | ⟨_, _, _, h, _⟩
    · exact h
    · cases h
  have hb := h.blk
  subst hL
  refine ⟨⟨?_, .inr ⟨_, 0, .map [], rfl, Nat.zero_le _, ?_, cnt_nil⟩⟩, rfl, fun k hk hkb => ?_⟩
  · unfold madeW
    rw [Below.heap_alloc _ _ _ (by simp; omega), Below.heap_alloc _ _ _ (by simpa using hlt), Go.Joins.block_setCell hb]; rfl
  · have := World.ownsMap_made (H := Unit) ((w.setCell ⟨b, 0, none⟩ (.map (some (w.heap.size + 1)))).alloc (.cells (encO x).toArray 37)) Tryd.prog 37 (plainElem Tryd.prog 3)
    unfold madeW
    simpa using this
  · unfold madeW
    rw [Below.heap_alloc _ _ _ (by simp; omega), Below.heap_alloc _ _ _ (by simpa using hk), Below.heap_setCell _ _ _ _ (by simpa using hkb)]

theorem made_size (w : World) (b : Nat) (x : O) : (madeW w b x).heap.size = w.heap.size + 1 + 1 := by unfold madeW; simp

set_option maxRecDepth 20000 in
set_option maxHeartbeats 400000 in
theorem put_none (b m : Nat) (L : List O) (w : World) (h : BagAt w b none m L) (x : O) (hx : x.wf) (hm : m < 100000000) :
    Calls Tryd.prog 21 #[.pointer (some ⟨b, 0, none⟩), vO x] w fun e w' => e = .returned (.tuple #[]) ∧ BagAt w' b (some (w.heap.size + 1)) (m + 1) (x :: L) ∧ Keep b none w w' := by
  have hc := h.cells
  have hlt := h.lt
  obtain ⟨h0, rfl, hkeep⟩ := made_bag x h
  have hsz := made_size w b x
  rcases h0.map with ⟨h1, _⟩ | ⟨bm', n, D, h1, hn, hown, hcn⟩
  · cases h1
  cases h1
  have hrun := look hown.drew hcn x hx
  obtain ⟨v0, st, W1, W2, he1, he2, hown2, hg⟩ := entry hown.drew (by omega) x hx 1 (by decide)
  have hrun1 := look_entry hown.drew hcn (by omega) x hx he1
  obtain ⟨hB, hK, c2, f2⟩ := bag_after' (m := m) h0 hown2 (by omega) hg (hcn.put x hx)
  have HB : Hid (BagAt (W2.setCell ⟨b, 1, none⟩ (.int .i64 1)) b (some (w.heap.size + 1)) (m + 1) [x]) := hB
  have HK : Hid (Keep b none w (W2.setCell ⟨b, 1, none⟩ (.int .i64 1))) := ⟨hK.os, hK.tape, hK.output, Nat.le_trans (by omega) hK.size, fun k hk hkb _ => (hK.block k (by omega) hkb (by intro e; cases e; omega)).trans (hkeep k hk hkb)⟩
  have hc0 := h0.cells
  simp only [vO, encO, madeW, List.count_nil, Int.natCast_zero] at hrun hrun1 he1 he2 hc0 ⊢
  have hq := eq_none
  have hmm := @run_makeMap Tryd.prog
  clear h h0 hown hown2 hg hB hK hcn hkeep hsz
  go_enter Tryd.func21, Tryd.ntmps21
  go_wp2
  go_region
  all_goals (try go_wp2)
  all_goals go_end0
  all_goals exact ⟨rfl, HB.out, HK.out⟩

end Go.Proofs.YtfldfnphidehlaaDoor
