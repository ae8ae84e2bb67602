/- The last line that is read. -/
import Derived.Test.YthfpipieboophaaGreatDoorLds
namespace Go.Proofs.YthfpipieboophaaGreatDoor
open Go.RowKit Go.Sort
set_option maxRecDepth 100000
set_option maxHeartbeats 8000000 in
theorem read_end (bm : Nat) (w : World) (hK : Known w bm) (hbm : bm < w.heap.size)
    (HSp : ∀ (s sep : ByteArray) (W : World), Below w.heap.size w W → s.size < 4294967281 → 1 ≤ sep.size → Calls Tryz.prog 80 #[.string s, .string sep] W fun e w' => e = .returned (.slice (some ⟨W.heap.size, 0, none⟩) (Lib.countB s sep + 1) (Lib.countB s sep + 1)) ∧ w' = W.alloc (.cells ((Lib.splitB sep 0 (Lib.countB s sep) s).map Value.string).toArray 9)) :
    Calls Tryz.prog 91 #[.string ⟨#[101, 110, 100]⟩, .map (some bm)] w fun e w' => ∃ g, e = .returned (.tuple #[.agg #[.string ⟨#[101, 110, 100]⟩, .slice (some ⟨g, 0, none⟩) 0 0], .bool true]) ∧ w'.heap[g]? = some (.cells #[] 3) ∧ w.heap.size ≤ g ∧ Below w.heap.size w w' := by
  have hS := HSp ⟨#[101, 110, 100]⟩ ⟨#[32]⟩ (w.alloc zL) (Go.Joins.below_alloc1 _ _) (by decide) (by decide)
  have e1 : Lib.countB ⟨#[101, 110, 100]⟩ ⟨#[32]⟩ = 0 := countB_words [101, 110, 100] [] (by decide) (by simp)
  have e2 : Lib.splitB ⟨#[32]⟩ 0 0 ⟨#[101, 110, 100]⟩ = [⟨#[101, 110, 100]⟩] := rfl
  rw [e1, e2] at hS
  obtain ⟨zk, hzk, hmk⟩ : ∃ zk : Array Value, Hid (zk = (List.replicate 0 (Value.int .i64 0)).toArray) ∧ ∀ W : World, (Instr.makeSlice 84 (.int .i64 (0 : Nat)) (.int .i64 (0 : Nat))).run Tryz.prog W = .ok (.slice (some ⟨W.heap.size, 0, none⟩) 0 0) (W.alloc (.cells zk 3)) := mk_nums 0 (by omega)
  have hmk' : ∀ W : World, (Instr.makeSlice 84 (.int .i64 0) (.int .i64 0)).run Tryz.prog W = .ok (.slice (some ⟨W.heap.size, 0, none⟩) 0 0) (W.alloc (.cells zk 3)) := hmk
  clear hmk e1 e2
  go_enter Tryz.func91, Tryz.ntmps91
  go_wp2_with fail
  refine hS.mono ?_
  rintro e w1 ⟨rfl, rfl⟩
  obtain ⟨w1, hw1⟩ : ∃ w1, (w.alloc zL).alloc (.cells (List.map Value.string [(⟨#[101, 110, 100]⟩ : ByteArray)]).toArray 9) = w1 := ⟨_, rfl⟩
  rw [hw1]
  have hlt1 : w.heap.size + 1 < w1.heap.size := by rw [← hw1]; simp
  have hlt0 : w.heap.size < w1.heap.size := by rw [← hw1]; simp; omega
  have hB1 : Below w.heap.size w w1 := by rw [← hw1]; exact Go.Joins.below_alloc2 _ _ _
  have hz1 : w1.heap[w.heap.size]? = some zL := by rw [← hw1]; exact (two_blocks _ _ _).1
  have hg1 : w1.heap[w.heap.size + 1]? = some (.cells (List.map Value.string [(⟨#[101, 110, 100]⟩ : ByteArray)]).toArray 9) := by rw [← hw1]; exact (two_blocks _ _ _).2
  have hc0 : w1.cell? ⟨w.heap.size + 1, 0, none⟩ = some (.string ⟨#[101, 110, 100]⟩) := by rw [Go.Joins.cell_of_block hg1]; rfl
  have hlk : (Instr.lookup 152 (.map (some bm)) (.string ⟨#[101, 110, 100]⟩) true).run Tryz.prog w1 = .ok (.tuple #[.int .i64 0, .bool true]) w1 := known_look (hK.still (hB1.block bm hbm)) .fin
  have HB : Hid (Below w.heap.size w w1 ∧ w1.heap[w.heap.size]? = some zL) := ⟨hB1, hz1⟩
  clear hw1 hB1 hz1 hg1
  simp only [World.size_alloc] at *
  clear hS
  go_wp2
  go_region
  · have hb : Below w1.heap.size w1 (((w1.alloc (.cells zk 3)).alloc (.cells #[.string ⟨#[101, 110, 100]⟩, .slice (some ⟨w1.heap.size, 0, none⟩) 0 0] 169)).drew) := (Go.Joins.below_alloc2 _ _ _).drew
    have hgs : (((w1.alloc (.cells zk 3)).alloc (.cells #[.string ⟨#[101, 110, 100]⟩, .slice (some ⟨w1.heap.size, 0, none⟩) 0 0] 169)).drew).heap[w1.heap.size]? = some (.cells #[] 3) := by
      show (((w1.alloc (.cells zk 3)).alloc (.cells #[.string ⟨#[101, 110, 100]⟩, .slice (some ⟨w1.heap.size, 0, none⟩) 0 0] 169))).heap[w1.heap.size]? = _
      rw [(two_blocks w1 _ _).1, hzk.out]
      rfl
    have hbl : (((w1.alloc (.cells zk 3)).alloc (.cells #[.string ⟨#[101, 110, 100]⟩, .slice (some ⟨w1.heap.size, 0, none⟩) 0 0] 169)).drew).heap[(w1.heap.size + 1)]? = some (.cells #[.string ⟨#[101, 110, 100]⟩, .slice (some ⟨w1.heap.size, 0, none⟩) 0 0] 169) := (two_blocks w1 _ _).2
    have hres := (hb.block _ hlt0).trans HB.out.2
    have hlow := HB.out.1.trans (hb.mono HB.out.1.size)
    have hge : w.heap.size ≤ w1.heap.size := by omega
    have hne : w1.heap.size ≠ w.heap.size := by omega
    clear HB hlk hzk hmk' hc0 hb
    revert hgs hbl hres hlow
    generalize (((w1.alloc (.cells zk 3)).alloc (.cells #[.string ⟨#[101, 110, 100]⟩, .slice (some ⟨w1.heap.size, 0, none⟩) 0 0] 169)).drew) = w2
    generalize (w1.heap.size + 1) = bl at *
    generalize w1.heap.size = gs at *
    intro hgs hbl hres hlow
    clear hlt0 hlt1
    have c0 : w2.cell? ⟨bl, 0, none⟩ = some (.string ⟨#[101, 110, 100]⟩) := by rw [Go.Joins.cell_of_block hbl]; rfl
    have c1 : w2.cell? ⟨bl, 1, none⟩ = some (.slice (some ⟨gs, 0, none⟩) 0 0) := by rw [Go.Joins.cell_of_block hbl]; rfl
    have d0 : w2.cell? ⟨w.heap.size, 0, none⟩ = some (.string ⟨#[]⟩) := by rw [Go.Joins.cell_of_block hres]; rfl
    have d1 : w2.cell? ⟨w.heap.size, 1, none⟩ = some (.slice none 0 0) := by rw [Go.Joins.cell_of_block hres]; rfl
    have f0 : w2.frozen? ⟨w.heap.size, 0, none⟩ = false := Go.Joins.unfrozen_of_block hres 0
    have f1 : w2.frozen? ⟨w.heap.size, 1, none⟩ = false := Go.Joins.unfrozen_of_block hres 1
    have HF : Hid (∀ u v, (((w2.setCell ⟨w.heap.size, 0, none⟩ u).setCell ⟨w.heap.size, 1, none⟩ v).heap[gs]? = some (.cells #[] 3)) ∧ w.heap.size ≤ gs ∧ Below w.heap.size w ((w2.setCell ⟨w.heap.size, 0, none⟩ u).setCell ⟨w.heap.size, 1, none⟩ v)) := by
      intro u v
      refine ⟨?_, hge, (hlow.setCell (p := ⟨w.heap.size, 0, none⟩) (Nat.le_refl _) _).setCell (p := ⟨w.heap.size, 1, none⟩) (Nat.le_refl _) _⟩
      rw [Below.heap_setCell _ _ _ _ hne, Below.heap_setCell _ _ _ _ hne, hgs]
    clear hgs hbl hres hlow hge hne
    go_wp2
    go_loopg [60] 0 (fun _ s60 wr => s60 = .int .i64 0 ∧ wr = w2)
    case atStart => exact ⟨rfl, rfl⟩
    case round =>
      obtain ⟨rfl, hw⟩ := hrel
      have hw := hw.symm
      subst hw
      go_wp2
      have hx0 : ((w2.setCell ⟨w.heap.size, 0, none⟩ (.string ⟨#[101, 110, 100]⟩)).setCell ⟨w.heap.size, 1, none⟩ (.slice (some ⟨gs, 0, none⟩) 0 0)).cell? ⟨w.heap.size, 0, none⟩ = some (.string ⟨#[101, 110, 100]⟩) := by
        rw [World.cell?_setCell_other _ _ _ _ (by simp)]
        exact World.cell?_setCell_same' _ _ _ (by rw [d0]; rfl)
      have hx1 : ((w2.setCell ⟨w.heap.size, 0, none⟩ (.string ⟨#[101, 110, 100]⟩)).setCell ⟨w.heap.size, 1, none⟩ (.slice (some ⟨gs, 0, none⟩) 0 0)).cell? ⟨w.heap.size, 1, none⟩ = some (.slice (some ⟨gs, 0, none⟩) 0 0) :=
        World.cell?_setCell_same' _ _ _ (by rw [World.cell?_setCell_other _ _ _ _ (by simp), d1]; rfl)
      refine bodyPost_ret (v := .tuple #[.agg #[.string ⟨#[101, 110, 100]⟩, .slice (some ⟨gs, 0, none⟩) 0 0], .bool true]) (by simp [results, Tryz.results91, go_sem, hx0, hx1]) rfl ⟨gs, rfl, HF.out _ _⟩
  · have hb : Below w1.heap.size w1 (((w1.alloc (.cells #[.string ⟨#[101, 110, 100]⟩, .slice (some ⟨w1.heap.size + 1, 0, none⟩) 0 0] 169)).alloc (.cells zk 3)).drew) := (Go.Joins.below_alloc2 _ _ _).drew
    have hgs : (((w1.alloc (.cells #[.string ⟨#[101, 110, 100]⟩, .slice (some ⟨w1.heap.size + 1, 0, none⟩) 0 0] 169)).alloc (.cells zk 3)).drew).heap[(w1.heap.size + 1)]? = some (.cells #[] 3) := by
      show (((w1.alloc (.cells #[.string ⟨#[101, 110, 100]⟩, .slice (some ⟨w1.heap.size + 1, 0, none⟩) 0 0] 169)).alloc (.cells zk 3))).heap[(w1.heap.size + 1)]? = _
      rw [(two_blocks w1 _ _).2, hzk.out]
      rfl
    have hbl : (((w1.alloc (.cells #[.string ⟨#[101, 110, 100]⟩, .slice (some ⟨w1.heap.size + 1, 0, none⟩) 0 0] 169)).alloc (.cells zk 3)).drew).heap[w1.heap.size]? = some (.cells #[.string ⟨#[101, 110, 100]⟩, .slice (some ⟨(w1.heap.size + 1), 0, none⟩) 0 0] 169) := (two_blocks w1 _ _).1
    have hres := (hb.block _ hlt0).trans HB.out.2
    have hlow := HB.out.1.trans (hb.mono HB.out.1.size)
    have hge : w.heap.size ≤ (w1.heap.size + 1) := by omega
    have hne : (w1.heap.size + 1) ≠ w.heap.size := by omega
    clear HB hlk hzk hmk' hc0 hb
    revert hgs hbl hres hlow
    generalize (((w1.alloc (.cells #[.string ⟨#[101, 110, 100]⟩, .slice (some ⟨w1.heap.size + 1, 0, none⟩) 0 0] 169)).alloc (.cells zk 3)).drew) = w2
    generalize (w1.heap.size + 1) = gs at *
    generalize w1.heap.size = bl at *
    intro hgs hbl hres hlow
    clear hlt0 hlt1
    have c0 : w2.cell? ⟨bl, 0, none⟩ = some (.string ⟨#[101, 110, 100]⟩) := by rw [Go.Joins.cell_of_block hbl]; rfl
    have c1 : w2.cell? ⟨bl, 1, none⟩ = some (.slice (some ⟨gs, 0, none⟩) 0 0) := by rw [Go.Joins.cell_of_block hbl]; rfl
    have d0 : w2.cell? ⟨w.heap.size, 0, none⟩ = some (.string ⟨#[]⟩) := by rw [Go.Joins.cell_of_block hres]; rfl
    have d1 : w2.cell? ⟨w.heap.size, 1, none⟩ = some (.slice none 0 0) := by rw [Go.Joins.cell_of_block hres]; rfl
    have f0 : w2.frozen? ⟨w.heap.size, 0, none⟩ = false := Go.Joins.unfrozen_of_block hres 0
    have f1 : w2.frozen? ⟨w.heap.size, 1, none⟩ = false := Go.Joins.unfrozen_of_block hres 1
    have HF : Hid (∀ u v, (((w2.setCell ⟨w.heap.size, 0, none⟩ u).setCell ⟨w.heap.size, 1, none⟩ v).heap[gs]? = some (.cells #[] 3)) ∧ w.heap.size ≤ gs ∧ Below w.heap.size w ((w2.setCell ⟨w.heap.size, 0, none⟩ u).setCell ⟨w.heap.size, 1, none⟩ v)) := by
      intro u v
      refine ⟨?_, hge, (hlow.setCell (p := ⟨w.heap.size, 0, none⟩) (Nat.le_refl _) _).setCell (p := ⟨w.heap.size, 1, none⟩) (Nat.le_refl _) _⟩
      rw [Below.heap_setCell _ _ _ _ hne, Below.heap_setCell _ _ _ _ hne, hgs]
    clear hgs hbl hres hlow hge hne
    go_wp2
    go_loopg [60] 0 (fun _ s60 wr => s60 = .int .i64 0 ∧ wr = w2)
    case atStart => exact ⟨rfl, rfl⟩
    case round =>
      obtain ⟨rfl, hw⟩ := hrel
      have hw := hw.symm
      subst hw
      go_wp2
      have hx0 : ((w2.setCell ⟨w.heap.size, 0, none⟩ (.string ⟨#[101, 110, 100]⟩)).setCell ⟨w.heap.size, 1, none⟩ (.slice (some ⟨gs, 0, none⟩) 0 0)).cell? ⟨w.heap.size, 0, none⟩ = some (.string ⟨#[101, 110, 100]⟩) := by
        rw [World.cell?_setCell_other _ _ _ _ (by simp)]
        exact World.cell?_setCell_same' _ _ _ (by rw [d0]; rfl)
      have hx1 : ((w2.setCell ⟨w.heap.size, 0, none⟩ (.string ⟨#[101, 110, 100]⟩)).setCell ⟨w.heap.size, 1, none⟩ (.slice (some ⟨gs, 0, none⟩) 0 0)).cell? ⟨w.heap.size, 1, none⟩ = some (.slice (some ⟨gs, 0, none⟩) 0 0) :=
        World.cell?_setCell_same' _ _ _ (by rw [World.cell?_setCell_other _ _ _ _ (by simp), d1]; rfl)
      refine bodyPost_ret (v := .tuple #[.agg #[.string ⟨#[101, 110, 100]⟩, .slice (some ⟨gs, 0, none⟩) 0 0], .bool true]) (by simp [results, Tryz.results91, go_sem, hx0, hx1]) rfl ⟨gs, rfl, HF.out _ _⟩
end Go.Proofs.YthfpipieboophaaGreatDoor
