/- A line that is read. -/
import Derived.Test.YthfpipieboophaaGreatDoorLdz
import Derived.Lib.AppendZerosOnto
import Derived.Deep.RegionHeld3
namespace Go.Proofs.YthfpipieboophaaGreatDoor
open Go.RowKit Go.Sort
set_option maxRecDepth 100000
abbrev bW (x : List UInt8) : ByteArray := ⟨x.toArray⟩
abbrev zL : Obj := .cells #[.string ⟨#[]⟩, .slice none 0 0] 169
theorem infoI : (Tryz.prog.info? 3).map (fun i => (i.zero, i.size, i.bytes)) = some (some (.int .i64 0), 1, 8) := by kernel_rfl
theorem mk_nums (k : Nat) (hk : k ≤ 100) : ∃ zk : Array Value, zk = (List.replicate k (Value.int .i64 0)).toArray ∧ ∀ W : World, (Instr.makeSlice 84 (.int .i64 k) (.int .i64 k)).run Tryz.prog W = .ok (.slice (some ⟨W.heap.size, 0, none⟩) k k) (W.alloc (.cells zk 3)) := by
  obtain ⟨i0, hi, hz0, hz1, hz2⟩ := info_parts infoI
  refine ⟨_, rfl, fun W => ?_⟩
  have h := run_makeSlice (P := Tryz.prog) (w := W) 84 3 i0 (.int .i64 0) Tryz.underlying84 hi hz0 .i64 .i64 (k : Int) (k : Int) (by omega) (by omega) (by rw [hz1]; omega) (by rw [hz2]; omega) (by omega)
  rw [h, hz1]
  simp only [Int.toNat_natCast, Nat.mul_one]
  congr 3
  apply Array.ext
  · simp [madeCells]
  · intro j h1 h2
    simp [madeCells, Value.cells, Nat.mod_one]
structure Rd (w : World) (gw off gs bl : Nat) (hd : ByteArray) (k : Nat) (ns : List Int) (i : Nat) (W : World) : Prop where
  low : Below w.heap.size w W
  res : W.heap[w.heap.size]? = some zL
  wrd : ∀ j n, ns[j]? = some n → W.cell? ⟨gw, off + (j + 1), none⟩ = some (.string (bW (Lib.itoa n)))
  nums : W.heap[gs]? = some (.cells ((ns.take i).map (Value.int .i64) ++ List.replicate (k - i) (Value.int .i64 0)).toArray 3)
  line : W.heap[bl]? = some (.cells #[.string hd, .slice (some ⟨gs, 0, none⟩) k k] 169)
  ge : w.heap.size ≤ gs
  ngw : gw ≠ gs
theorem two_blocks (w : World) (a b : Obj) : ((w.alloc a).alloc b).heap[w.heap.size]? = some a ∧ ((w.alloc a).alloc b).heap[w.heap.size + 1]? = some b := by
  refine ⟨(Below.heap_alloc _ _ _ (by simp)).trans (heap_alloc_new w _), ?_⟩
  have := heap_alloc_new (w.alloc a) b
  rwa [World.size_alloc] at this
section
variable {w : World} {gw off gs bl : Nat} {hd : ByteArray} {k : Nat} {ns : List Int} {i : Nat} {W W' : World}
theorem Rd.lts (h : Rd w gw off gs bl hd k ns i W) : w.heap.size < W.heap.size ∧ gs < W.heap.size ∧ bl < W.heap.size := ⟨(Array.getElem?_eq_some_iff.1 h.res).1, (Array.getElem?_eq_some_iff.1 h.nums).1, (Array.getElem?_eq_some_iff.1 h.line).1⟩
theorem Rd.nes (h : Rd w gw off gs bl hd k ns i W) : w.heap.size ≠ gs ∧ bl ≠ gs := by
  refine ⟨fun e => ?_, fun e => ?_⟩
  · have h1 := h.res
    rw [e, h.nums] at h1
    simp at h1
  · have h1 := h.line
    rw [e, h.nums] at h1
    simp at h1
theorem Rd.below (h : Rd w gw off gs bl hd k ns i W) (hb : Below W.heap.size W W') : Rd w gw off gs bl hd k ns i W' :=
  ⟨h.low.trans (hb.mono h.low.size), (hb.block _ h.lts.1).trans h.res, fun j n hj => (hb.cell (p := ⟨gw, off + (j + 1), none⟩) (World.block_lt_of_cell? _ _ (h.wrd j n hj))).trans (h.wrd j n hj), (hb.block _ h.lts.2.1).trans h.nums, (hb.block _ h.lts.2.2).trans h.line, h.ge, h.ngw⟩
theorem Rd.cells (h : Rd w gw off gs bl hd k ns i W) (hl : ns.length = k) : W.cell? ⟨bl, 0, none⟩ = some (.string hd) ∧ W.cell? ⟨bl, 1, none⟩ = some (.slice (some ⟨gs, 0, none⟩) k k) ∧ W.cell? ⟨w.heap.size, 0, none⟩ = some (.string ⟨#[]⟩) ∧ W.cell? ⟨w.heap.size, 1, none⟩ = some (.slice none 0 0) ∧ W.frozen? ⟨w.heap.size, 0, none⟩ = false ∧ W.frozen? ⟨w.heap.size, 1, none⟩ = false ∧ W.frozen? ⟨gs, i, none⟩ = false ∧ (i < k → W.cell? ⟨gs, i, none⟩ = some (.int .i64 0)) := by
  refine ⟨by rw [Go.Joins.cell_of_block h.line]; rfl, by rw [Go.Joins.cell_of_block h.line]; rfl, by rw [Go.Joins.cell_of_block h.res]; rfl, by rw [Go.Joins.cell_of_block h.res]; rfl, Go.Joins.unfrozen_of_block h.res 0, Go.Joins.unfrozen_of_block h.res 1, Go.Joins.unfrozen_of_block h.nums i, fun hlt => ?_⟩
  rw [Go.Joins.cell_of_block h.nums, List.getElem?_toArray, List.getElem?_append_right (by simp; omega), List.getElem?_replicate, if_pos (by simp; omega)]
theorem Rd.store (h : Rd w gw off gs bl hd k ns i W) (hl : ns.length = k) {n : Int} (hn : ns[i]? = some n) : Rd w gw off gs bl hd k ns (i + 1) (W.setCell ⟨gs, i, none⟩ (.int .i64 n)) := by
  have hi : i < ns.length := (List.getElem?_eq_some_iff.1 hn).1
  have hs : ∀ j, j ≠ gs → (W.setCell ⟨gs, i, none⟩ (.int .i64 n)).heap[j]? = W.heap[j]? := fun j e => Below.heap_setCell _ _ _ _ e
  refine ⟨h.low.setCell (p := ⟨gs, i, none⟩) h.ge _, (hs _ h.nes.1).trans h.res, fun j m hj => (World.cell?_of_block (w := W) (a := ⟨gw, off + (j + 1), none⟩) (hs gw h.ngw)).trans (h.wrd j m hj), ?_, (hs _ h.nes.2).trans h.line, h.ge, h.ngw⟩
  rw [Go.Joins.block_setCell h.nums]
  congr 2
  simp only [List.setIfInBounds_toArray]
  congr 1
  rw [List.take_add_one, hn, List.set_append_right _ _ (by simp; omega)]
  simp only [List.map_append, List.append_assoc, Option.toList_some, List.map_cons, List.map_nil, List.length_map, List.length_take, List.singleton_append]
  congr 1
  obtain ⟨r, hr⟩ : ∃ r, k - i = r + 1 := ⟨k - i - 1, by omega⟩
  rw [hr, show i - min i ns.length = 0 by omega, List.replicate_succ, List.set_cons_zero, show k - (i + 1) = r by omega]
end
set_option maxHeartbeats 8000000 in
theorem read_plain (hd : List UInt8) (k : Nat) (hk : HeadN (bW hd) k) (hk1 : 1 ≤ k) (h32 : (32 : UInt8) ∉ hd) (ho : hd ≠ [111, 117, 116]) (ns : List Int) (hl : ns.length = k) (h64 : ∀ n ∈ ns, -9223372036854775808 ≤ n ∧ n ≤ 9223372036854775807) (bm : Nat) (w : World) (hK : Known w bm) (hbm : bm < w.heap.size)
    (HSp : ∀ (s sep : ByteArray) (W : World), Below w.heap.size w W → s.size < 4294967281 → 1 ≤ sep.size → Calls Tryz.prog 80 #[.string s, .string sep] W fun e w' => e = .returned (.slice (some ⟨W.heap.size, 0, none⟩) (Lib.countB s sep + 1) (Lib.countB s sep + 1)) ∧ w' = W.alloc (.cells ((Lib.splitB sep 0 (Lib.countB s sep) s).map Value.string).toArray 9))
    (HAt : ∀ (n : Int) (W : World), -9223372036854775808 ≤ n ∧ n ≤ 9223372036854775807 → Calls Tryz.prog 161 #[.string (bW (Lib.itoa n))] W fun e w' => e = .returned (.tuple #[.int .i64 n, .nilIface]) ∧ Below W.heap.size W w') (hsz : (joinW hd (ns.map Lib.itoa)).length < 4294967281) :
    Calls Tryz.prog 91 #[.string (bW (joinW hd (ns.map Lib.itoa))), .map (some bm)] w fun e w' => ∃ g, e = .returned (.tuple #[.agg #[.string (bW hd), .slice (some ⟨g, 0, none⟩) k k], .bool true]) ∧ w'.heap[g]? = some (.cells (ns.map (Value.int .i64)).toArray 3) ∧ w.heap.size ≤ g ∧ Below w.heap.size w w' := by
  have hk6 : k ≤ 6 := by cases hk <;> omega
  have h0 : (0 : Int) < (k : Int) := by omega
  have hk0 : k ≠ 0 := by omega
  have h6 : (k : Int) ≤ 6 := by omega
  have hw : ∀ x ∈ ns.map Lib.itoa, (32 : UInt8) ∉ x := fun x hx => by
    obtain ⟨n, _, rfl⟩ := List.mem_map.1 hx
    exact itoa_no n 32 (by decide)
  have hS := HSp (bW (joinW hd (ns.map Lib.itoa))) ⟨#[32]⟩ (w.alloc zL) (Go.Joins.below_alloc1 _ _) (by show (joinW hd (ns.map Lib.itoa)).toArray.size < _; simpa using hsz) (by decide)
  rw [countB_words hd _ h32 hw, split_words _ hd h32 hw, List.length_map, hl] at hS
  have hne : (hd == [111, 117, 116]) = false := by simpa using ho
  obtain ⟨zk, hzk, hmk⟩ : ∃ zk : Array Value, Hid (zk = (List.replicate k (Value.int .i64 0)).toArray) ∧ ∀ W : World, (Instr.makeSlice 84 (.int .i64 k) (.int .i64 k)).run Tryz.prog W = .ok (.slice (some ⟨W.heap.size, 0, none⟩) k k) (W.alloc (.cells zk 3)) := mk_nums k (by omega)
  go_enter Tryz.func91, Tryz.ntmps91
  go_wp2_with fail
  refine hS.mono ?_
  rintro e w1 ⟨rfl, rfl⟩
  obtain ⟨w1, hw1⟩ : ∃ w1, (w.alloc zL).alloc (.cells (List.map Value.string (List.map (fun x => (⟨x.toArray⟩ : ByteArray)) (hd :: List.map Lib.itoa ns))).toArray 9) = w1 := ⟨_, rfl⟩
  rw [hw1]
  have hlt1 : w.heap.size + 1 < w1.heap.size := by rw [← hw1]; simp
  have hlt0 : w.heap.size < w1.heap.size := by rw [← hw1]; simp; omega
  have hB1 : Below w.heap.size w w1 := by rw [← hw1]; exact Go.Joins.below_alloc2 _ _ _
  have hz1 : w1.heap[w.heap.size]? = some zL := by rw [← hw1]; exact (Below.heap_alloc _ _ _ (by simp)).trans (heap_alloc_new w _)
  have hg1 : w1.heap[w.heap.size + 1]? = some (.cells (List.map Value.string (List.map (fun x => (⟨x.toArray⟩ : ByteArray)) (hd :: List.map Lib.itoa ns))).toArray 9) := by
    rw [← hw1]
    have := heap_alloc_new (w.alloc zL) (.cells (List.map Value.string (List.map (fun x => (⟨x.toArray⟩ : ByteArray)) (hd :: List.map Lib.itoa ns))).toArray 9)
    rwa [World.size_alloc] at this
  have hc0 : w1.cell? ⟨w.heap.size + 1, 0, none⟩ = some (.string (bW hd)) := by rw [Go.Joins.cell_of_block hg1]; simp
  have hlk := known_look (hK.still (hB1.block bm hbm)) hk
  have H1 : Hid (Below w.heap.size w w1 ∧ w1.heap[w.heap.size]? = some zL ∧ ∀ j n, ns[j]? = some n → w1.cell? ⟨w.heap.size + 1, 0 + (j + 1), none⟩ = some (.string (bW (Lib.itoa n)))) := by
    refine ⟨hB1, hz1, fun j n hj => ?_⟩
    rw [Go.Joins.cell_of_block hg1, Nat.zero_add]
    simp [hj]
  clear hw1 hB1 hz1 hg1
  simp only [World.size_alloc] at *
  clear hS ho hk hw
  go_wp2
  go_region
  · have R0 : Rd w (w.heap.size + 1) 0 w1.heap.size (w1.heap.size + 1) (bW hd) k ns 0 (((w1.alloc (.cells zk 3)).alloc (.cells #[.string (bW hd), .slice (some ⟨w1.heap.size, 0, none⟩) k k] 169)).drew) := by
      have hb : Below w1.heap.size w1 (((w1.alloc (.cells zk 3)).alloc (.cells #[.string (bW hd), .slice (some ⟨w1.heap.size, 0, none⟩) k k] 169)).drew) := (Go.Joins.below_alloc2 _ _ _).drew
      obtain ⟨a1, a2, a3⟩ := H1.out
      refine ⟨a1.trans (hb.mono a1.size), (hb.block _ hlt0).trans a2, fun j n hj => (hb.cell (p := ⟨w.heap.size + 1, 0 + (j + 1), none⟩) hlt1).trans (a3 j n hj), ?_, ?_, by omega, by omega⟩
      · show (((w1.alloc (.cells zk 3)).alloc (.cells #[.string (bW hd), .slice (some ⟨w1.heap.size, 0, none⟩) k k] 169))).heap[w1.heap.size]? = _
        rw [(two_blocks w1 _ _).1, hzk.out]
        simp
      · show (((w1.alloc (.cells zk 3)).alloc (.cells #[.string (bW hd), .slice (some ⟨w1.heap.size, 0, none⟩) k k] 169))).heap[(w1.heap.size + 1)]? = _
        exact (two_blocks w1 _ _).2
    clear H1 hlk hzk hmk hc0
    revert R0
    generalize (((w1.alloc (.cells zk 3)).alloc (.cells #[.string (bW hd), .slice (some ⟨w1.heap.size, 0, none⟩) k k] 169)).drew) = w2
    generalize hbl : (w1.heap.size + 1) = bl
    generalize hgs : w1.heap.size = gs
    intro R0
    clear hgs hbl hlt0 hlt1
    have L := R0.lts
    have hc := R0.cells hl
    have RR : Hid (Rd w (w.heap.size + 1) 0 gs bl (bW hd) k ns 0 w2) := R0
    clear R0
    go_wp2
    go_loopg [60] k (fun gg s60 wr => ∃ i : Nat, i ≤ k ∧ gg = k - i ∧ s60 = .int .i64 i ∧ Hid (Rd w (w.heap.size + 1) 0 gs bl (bW hd) k ns i wr))
    case atStart => exact ⟨0, Nat.zero_le _, rfl, rfl, RR⟩
    case round =>
      obtain ⟨i, hile, hgk, rfl, I⟩ := hrel
      have HG : Hid (gk = k - i) := hgk
      clear hgk RR hc L
      by_cases hlt2 : i < k
      · obtain ⟨n, hin⟩ : ∃ n, ns[i]? = some n := ⟨_, List.getElem?_eq_getElem (by omega)⟩
        have hcw := I.out.wrd i n hin
        rw [show 0 + (i + 1) = 1 + i by omega] at hcw
        have j1 : (0 : Int) ≤ (i : Int) := by omega
        have j2 : (i : Int) < (k : Int) := by omega
        have j3 : (i : Int) + 1 < (k : Int) + 1 := by omega
        have HA : Hid (Calls Tryz.prog 161 #[.string (bW (Lib.itoa n))] wr fun e w' => e = .returned (.tuple #[.int .i64 n, .nilIface]) ∧ (w'.cell? ⟨bl, 1, none⟩ = some (.slice (some ⟨gs, 0, none⟩) k k) ∧ w'.cell? ⟨gs, i, none⟩ = some (.int .i64 0) ∧ w'.frozen? ⟨gs, i, none⟩ = false) ∧ Hid (Rd w (w.heap.size + 1) 0 gs bl (bW hd) k ns i w')) := by
          refine (HAt n wr (h64 n (List.mem_of_getElem? hin))).mono ?_
          rintro e w' ⟨rfl, hb⟩
          have I2 := I.out.below hb
          have c2 := I2.cells hl
          exact ⟨rfl, ⟨c2.2.1, c2.2.2.2.2.2.2.2 hlt2, c2.2.2.2.2.2.2.1⟩, I2⟩
        have HS : Hid (∀ w', Hid (Rd w (w.heap.size + 1) 0 gs bl (bW hd) k ns i w') → Rd w (w.heap.size + 1) 0 gs bl (bW hd) k ns (i + 1) (w'.setCell ⟨gs, i, none⟩ (.int .i64 n))) := fun w' hI => hI.out.store hl hin
        clear I hin
        go_wp2_with (first
          | (go_at_call 161; refine HA.out.mono ?_; rintro e w3 ⟨rfl, hc3, h3⟩)
          | fail)
        go_roundg (k - (i + 1))
        all_goals first
          | (have := HG.out; omega)
          | exact ⟨i + 1, by omega, rfl, by first | rfl | (congr 1; omega) | go_num, HS.out _ h3⟩
      · have j2 : ¬ ((i : Int) < (k : Int)) := by omega
        obtain rfl : i = k := by omega
        have I2 := I.out
        have c2 := I2.cells hl
        clear I
        have HF : Hid (∀ u v, (((wr.setCell ⟨w.heap.size, 0, none⟩ u).setCell ⟨w.heap.size, 1, none⟩ v).heap[gs]? = some (.cells (ns.map (Value.int .i64)).toArray 3)) ∧ w.heap.size ≤ gs ∧ Below w.heap.size w ((wr.setCell ⟨w.heap.size, 0, none⟩ u).setCell ⟨w.heap.size, 1, none⟩ v)) := by
          intro u v
          refine ⟨?_, I2.ge, (I2.low.setCell (p := ⟨w.heap.size, 0, none⟩) (Nat.le_refl _) _).setCell (p := ⟨w.heap.size, 1, none⟩) (Nat.le_refl _) _⟩
          rw [Below.heap_setCell _ _ _ _ (Ne.symm I2.nes.1), Below.heap_setCell _ _ _ _ (Ne.symm I2.nes.1), I2.nums, ← hl, List.take_length]
          simp
        have l2 := I2.lts
        clear I2
        go_wp2
        have hx0 : ((wr.setCell ⟨w.heap.size, 0, none⟩ (.string (bW hd))).setCell ⟨w.heap.size, 1, none⟩ (.slice (some ⟨gs, 0, none⟩) i i)).cell? ⟨w.heap.size, 0, none⟩ = some (.string (bW hd)) := by
          rw [World.cell?_setCell_other _ _ _ _ (by simp)]
          exact World.cell?_setCell_same' _ _ _ (by rw [c2.2.2.1]; rfl)
        have hx1 : ((wr.setCell ⟨w.heap.size, 0, none⟩ (.string (bW hd))).setCell ⟨w.heap.size, 1, none⟩ (.slice (some ⟨gs, 0, none⟩) i i)).cell? ⟨w.heap.size, 1, none⟩ = some (.slice (some ⟨gs, 0, none⟩) i i) := by
          exact World.cell?_setCell_same' _ _ _ (by rw [World.cell?_setCell_other _ _ _ _ (by simp), c2.2.2.2.1]; rfl)
        refine bodyPost_ret (v := .tuple #[.agg #[.string (bW hd), .slice (some ⟨gs, 0, none⟩) i i], .bool true]) (by simp [results, Tryz.results91, go_sem, hx0, hx1]) rfl ⟨gs, rfl, HF.out _ _⟩
  · have R0 : Rd w (w.heap.size + 1) 0 (w1.heap.size + 1) w1.heap.size (bW hd) k ns 0 (((w1.alloc (.cells #[.string (bW hd), .slice (some ⟨w1.heap.size + 1, 0, none⟩) k k] 169)).alloc (.cells zk 3)).drew) := by
      have hb : Below w1.heap.size w1 (((w1.alloc (.cells #[.string (bW hd), .slice (some ⟨w1.heap.size + 1, 0, none⟩) k k] 169)).alloc (.cells zk 3)).drew) := (Go.Joins.below_alloc2 _ _ _).drew
      obtain ⟨a1, a2, a3⟩ := H1.out
      refine ⟨a1.trans (hb.mono a1.size), (hb.block _ hlt0).trans a2, fun j n hj => (hb.cell (p := ⟨w.heap.size + 1, 0 + (j + 1), none⟩) hlt1).trans (a3 j n hj), ?_, ?_, by omega, by omega⟩
      · show (((w1.alloc (.cells #[.string (bW hd), .slice (some ⟨w1.heap.size + 1, 0, none⟩) k k] 169)).alloc (.cells zk 3))).heap[(w1.heap.size + 1)]? = _
        rw [(two_blocks w1 _ _).2, hzk.out]
        simp
      · show (((w1.alloc (.cells #[.string (bW hd), .slice (some ⟨w1.heap.size + 1, 0, none⟩) k k] 169)).alloc (.cells zk 3))).heap[w1.heap.size]? = _
        exact (two_blocks w1 _ _).1
    clear H1 hlk hzk hmk hc0
    revert R0
    generalize (((w1.alloc (.cells #[.string (bW hd), .slice (some ⟨w1.heap.size + 1, 0, none⟩) k k] 169)).alloc (.cells zk 3)).drew) = w2
    generalize hgs : (w1.heap.size + 1) = gs
    generalize hbl : w1.heap.size = bl
    intro R0
    clear hgs hbl hlt0 hlt1
    have L := R0.lts
    have hc := R0.cells hl
    have RR : Hid (Rd w (w.heap.size + 1) 0 gs bl (bW hd) k ns 0 w2) := R0
    clear R0
    go_wp2
    go_loopg [60] k (fun gg s60 wr => ∃ i : Nat, i ≤ k ∧ gg = k - i ∧ s60 = .int .i64 i ∧ Hid (Rd w (w.heap.size + 1) 0 gs bl (bW hd) k ns i wr))
    case atStart => exact ⟨0, Nat.zero_le _, rfl, rfl, RR⟩
    case round =>
      obtain ⟨i, hile, hgk, rfl, I⟩ := hrel
      have HG : Hid (gk = k - i) := hgk
      clear hgk RR hc L
      by_cases hlt2 : i < k
      · obtain ⟨n, hin⟩ : ∃ n, ns[i]? = some n := ⟨_, List.getElem?_eq_getElem (by omega)⟩
        have hcw := I.out.wrd i n hin
        rw [show 0 + (i + 1) = 1 + i by omega] at hcw
        have j1 : (0 : Int) ≤ (i : Int) := by omega
        have j2 : (i : Int) < (k : Int) := by omega
        have j3 : (i : Int) + 1 < (k : Int) + 1 := by omega
        have HA : Hid (Calls Tryz.prog 161 #[.string (bW (Lib.itoa n))] wr fun e w' => e = .returned (.tuple #[.int .i64 n, .nilIface]) ∧ (w'.cell? ⟨bl, 1, none⟩ = some (.slice (some ⟨gs, 0, none⟩) k k) ∧ w'.cell? ⟨gs, i, none⟩ = some (.int .i64 0) ∧ w'.frozen? ⟨gs, i, none⟩ = false) ∧ Hid (Rd w (w.heap.size + 1) 0 gs bl (bW hd) k ns i w')) := by
          refine (HAt n wr (h64 n (List.mem_of_getElem? hin))).mono ?_
          rintro e w' ⟨rfl, hb⟩
          have I2 := I.out.below hb
          have c2 := I2.cells hl
          exact ⟨rfl, ⟨c2.2.1, c2.2.2.2.2.2.2.2 hlt2, c2.2.2.2.2.2.2.1⟩, I2⟩
        have HS : Hid (∀ w', Hid (Rd w (w.heap.size + 1) 0 gs bl (bW hd) k ns i w') → Rd w (w.heap.size + 1) 0 gs bl (bW hd) k ns (i + 1) (w'.setCell ⟨gs, i, none⟩ (.int .i64 n))) := fun w' hI => hI.out.store hl hin
        clear I hin
        go_wp2_with (first
          | (go_at_call 161; refine HA.out.mono ?_; rintro e w3 ⟨rfl, hc3, h3⟩)
          | fail)
        go_roundg (k - (i + 1))
        all_goals first
          | (have := HG.out; omega)
          | exact ⟨i + 1, by omega, rfl, by first | rfl | (congr 1; omega) | go_num, HS.out _ h3⟩
      · have j2 : ¬ ((i : Int) < (k : Int)) := by omega
        obtain rfl : i = k := by omega
        have I2 := I.out
        have c2 := I2.cells hl
        clear I
        have HF : Hid (∀ u v, (((wr.setCell ⟨w.heap.size, 0, none⟩ u).setCell ⟨w.heap.size, 1, none⟩ v).heap[gs]? = some (.cells (ns.map (Value.int .i64)).toArray 3)) ∧ w.heap.size ≤ gs ∧ Below w.heap.size w ((wr.setCell ⟨w.heap.size, 0, none⟩ u).setCell ⟨w.heap.size, 1, none⟩ v)) := by
          intro u v
          refine ⟨?_, I2.ge, (I2.low.setCell (p := ⟨w.heap.size, 0, none⟩) (Nat.le_refl _) _).setCell (p := ⟨w.heap.size, 1, none⟩) (Nat.le_refl _) _⟩
          rw [Below.heap_setCell _ _ _ _ (Ne.symm I2.nes.1), Below.heap_setCell _ _ _ _ (Ne.symm I2.nes.1), I2.nums, ← hl, List.take_length]
          simp
        have l2 := I2.lts
        clear I2
        go_wp2
        have hx0 : ((wr.setCell ⟨w.heap.size, 0, none⟩ (.string (bW hd))).setCell ⟨w.heap.size, 1, none⟩ (.slice (some ⟨gs, 0, none⟩) i i)).cell? ⟨w.heap.size, 0, none⟩ = some (.string (bW hd)) := by
          rw [World.cell?_setCell_other _ _ _ _ (by simp)]
          exact World.cell?_setCell_same' _ _ _ (by rw [c2.2.2.1]; rfl)
        have hx1 : ((wr.setCell ⟨w.heap.size, 0, none⟩ (.string (bW hd))).setCell ⟨w.heap.size, 1, none⟩ (.slice (some ⟨gs, 0, none⟩) i i)).cell? ⟨w.heap.size, 1, none⟩ = some (.slice (some ⟨gs, 0, none⟩) i i) := by
          exact World.cell?_setCell_same' _ _ _ (by rw [World.cell?_setCell_other _ _ _ _ (by simp), c2.2.2.2.1]; rfl)
        refine bodyPost_ret (v := .tuple #[.agg #[.string (bW hd), .slice (some ⟨gs, 0, none⟩) i i], .bool true]) (by simp [results, Tryz.results91, go_sem, hx0, hx1]) rfl ⟨gs, rfl, HF.out _ _⟩
set_option maxHeartbeats 8000000 in
theorem read_out (d : UInt8) (hd32 : d ≠ 32) (k : Nat) (hk : HeadN (bW [111, 117, 116, 32, d]) k) (hk1 : 1 ≤ k) (ns : List Int) (hl : ns.length = k) (h64 : ∀ n ∈ ns, -9223372036854775808 ≤ n ∧ n ≤ 9223372036854775807) (bm : Nat) (w : World) (hK : Known w bm) (hbm : bm < w.heap.size)
    (HSp : ∀ (s sep : ByteArray) (W : World), Below w.heap.size w W → s.size < 4294967281 → 1 ≤ sep.size → Calls Tryz.prog 80 #[.string s, .string sep] W fun e w' => e = .returned (.slice (some ⟨W.heap.size, 0, none⟩) (Lib.countB s sep + 1) (Lib.countB s sep + 1)) ∧ w' = W.alloc (.cells ((Lib.splitB sep 0 (Lib.countB s sep) s).map Value.string).toArray 9))
    (HAt : ∀ (n : Int) (W : World), -9223372036854775808 ≤ n ∧ n ≤ 9223372036854775807 → Calls Tryz.prog 161 #[.string (bW (Lib.itoa n))] W fun e w' => e = .returned (.tuple #[.int .i64 n, .nilIface]) ∧ Below W.heap.size W w') (hsz : (joinW [111, 117, 116] ([d] :: ns.map Lib.itoa)).length < 4294967281) :
    Calls Tryz.prog 91 #[.string (bW (joinW [111, 117, 116] ([d] :: ns.map Lib.itoa))), .map (some bm)] w fun e w' => ∃ g, e = .returned (.tuple #[.agg #[.string (bW [111, 117, 116, 32, d]), .slice (some ⟨g, 0, none⟩) k k], .bool true]) ∧ w'.heap[g]? = some (.cells (ns.map (Value.int .i64)).toArray 3) ∧ w.heap.size ≤ g ∧ Below w.heap.size w w' := by
  have hk6 : k ≤ 6 := by cases hk <;> omega
  have h0 : (0 : Int) < (k : Int) := by omega
  have hk0 : k ≠ 0 := by omega
  have h6 : (k : Int) ≤ 6 := by omega
  have h32 : (32 : UInt8) ∉ [111, 117, 116] := by decide
  have hw : ∀ x ∈ [d] :: ns.map Lib.itoa, (32 : UInt8) ∉ x := fun x hx => by
    rcases List.mem_cons.1 hx with rfl | hx
    · simpa using Ne.symm hd32
    · obtain ⟨n, _, rfl⟩ := List.mem_map.1 hx
      exact itoa_no n 32 (by decide)
  have hS := HSp (bW (joinW [111, 117, 116] ([d] :: ns.map Lib.itoa))) ⟨#[32]⟩ (w.alloc zL) (Go.Joins.below_alloc1 _ _) (by show (joinW [111, 117, 116] ([d] :: ns.map Lib.itoa)).toArray.size < _; simpa using hsz) (by decide)
  rw [countB_words _ _ h32 hw, split_words _ _ h32 hw, List.length_cons, List.length_map, hl] at hS
  obtain ⟨zk, hzk, hmk⟩ : ∃ zk : Array Value, Hid (zk = (List.replicate k (Value.int .i64 0)).toArray) ∧ ∀ W : World, (Instr.makeSlice 84 (.int .i64 k) (.int .i64 k)).run Tryz.prog W = .ok (.slice (some ⟨W.heap.size, 0, none⟩) k k) (W.alloc (.cells zk 3)) := mk_nums k (by omega)
  go_enter Tryz.func91, Tryz.ntmps91
  go_wp2_with fail
  refine hS.mono ?_
  rintro e w1 ⟨rfl, rfl⟩
  obtain ⟨w1, hw1⟩ : ∃ w1, (w.alloc zL).alloc (.cells (List.map Value.string (List.map (fun x => (⟨x.toArray⟩ : ByteArray)) ([111, 117, 116] :: [d] :: List.map Lib.itoa ns))).toArray 9) = w1 := ⟨_, rfl⟩
  rw [hw1]
  have hlt1 : w.heap.size + 1 < w1.heap.size := by rw [← hw1]; simp
  have hlt0 : w.heap.size < w1.heap.size := by rw [← hw1]; simp; omega
  have hB1 : Below w.heap.size w w1 := by rw [← hw1]; exact Go.Joins.below_alloc2 _ _ _
  have hz1 : w1.heap[w.heap.size]? = some zL := by rw [← hw1]; exact (Below.heap_alloc _ _ _ (by simp)).trans (heap_alloc_new w _)
  have hg1 : w1.heap[w.heap.size + 1]? = some (.cells (List.map Value.string (List.map (fun x => (⟨x.toArray⟩ : ByteArray)) ([111, 117, 116] :: [d] :: List.map Lib.itoa ns))).toArray 9) := by
    rw [← hw1]
    have := heap_alloc_new (w.alloc zL) (.cells (List.map Value.string (List.map (fun x => (⟨x.toArray⟩ : ByteArray)) ([111, 117, 116] :: [d] :: List.map Lib.itoa ns))).toArray 9)
    rwa [World.size_alloc] at this
  have hc0 : w1.cell? ⟨w.heap.size + 1, 0, none⟩ = some (.string ⟨#[111, 117, 116]⟩) := by rw [Go.Joins.cell_of_block hg1]; rfl
  have hc1 : w1.cell? ⟨w.heap.size + 1, 1, none⟩ = some (.string ⟨#[d]⟩) := by rw [Go.Joins.cell_of_block hg1]; rfl
  have hf1 : w1.frozen? ⟨w.heap.size + 1, 1, none⟩ = false := Go.Joins.unfrozen_of_block hg1 1
  have k1 : (1 : Int) < (k : Int) + 1 + 1 := by omega
  clear hw1
  simp only [World.size_alloc] at *
  clear hS hw
  have ec : ((⟨#[111, 117, 116, 32]⟩ : ByteArray) ++ ⟨#[d]⟩) = bW [111, 117, 116, 32, d] := bytes_eq (by simp)
  have hs2 : ∀ j, j ≠ w.heap.size + 1 → (w1.setCell ⟨w.heap.size + 1, 1, none⟩ (.string (bW [111, 117, 116, 32, d]))).heap[j]? = w1.heap[j]? := fun j e => Below.heap_setCell _ _ _ _ e
  have hg2 := Go.Joins.block_setCell (i := 1) hg1 (.string (bW [111, 117, 116, 32, d]))
  have hB2 : Below w.heap.size w (w1.setCell ⟨w.heap.size + 1, 1, none⟩ (.string (bW [111, 117, 116, 32, d]))) := hB1.setCell (p := ⟨w.heap.size + 1, 1, none⟩) (by simp) _
  have hz2 := (hs2 w.heap.size (by omega)).trans hz1
  have hsz2 : (w1.setCell ⟨w.heap.size + 1, 1, none⟩ (.string (bW [111, 117, 116, 32, d]))).heap.size = w1.heap.size := by simp
  have hlk2 := known_look (hK.still (hB2.block bm hbm)) hk
  go_wp2
  clear hc0 hc1 hf1 ec hB1 hz1 hg1 hs2 hlk2
  revert hg2 hB2 hz2 hsz2
  generalize (w1.setCell ⟨w.heap.size + 1, 1, none⟩ (.string (bW [111, 117, 116, 32, d]))) = w2
  intro hg2 hB2 hz2 hsz2
  have l1 : w.heap.size + 1 < w2.heap.size := by omega
  have l0 : w.heap.size < w2.heap.size := by omega
  clear hsz2 hlt0 hlt1
  have hlt1 := l1
  have hlt0 := l0
  clear l1 l0
  have hc0 : w2.cell? ⟨w.heap.size + 1, 1, none⟩ = some (.string (bW [111, 117, 116, 32, d])) := by rw [Go.Joins.cell_of_block hg2]; simp
  have H1 : Hid (Below w.heap.size w w2 ∧ w2.heap[w.heap.size]? = some zL ∧ ∀ j n, ns[j]? = some n → w2.cell? ⟨w.heap.size + 1, 1 + (j + 1), none⟩ = some (.string (bW (Lib.itoa n)))) := by
    refine ⟨hB2, hz2, fun j n hj => ?_⟩
    rw [Go.Joins.cell_of_block hg2, show 1 + (j + 1) = j + 1 + 1 by omega]
    simp [hj]
  clear hB2 hz2 hg2 hk
  go_region
  · have R0 : Rd w (w.heap.size + 1) 1 w2.heap.size (w2.heap.size + 1) (bW [111, 117, 116, 32, d]) k ns 0 (((w2.alloc (.cells zk 3)).alloc (.cells #[.string (bW [111, 117, 116, 32, d]), .slice (some ⟨w2.heap.size, 0, none⟩) k k] 169)).drew) := by
      have hb : Below w2.heap.size w2 (((w2.alloc (.cells zk 3)).alloc (.cells #[.string (bW [111, 117, 116, 32, d]), .slice (some ⟨w2.heap.size, 0, none⟩) k k] 169)).drew) := (Go.Joins.below_alloc2 _ _ _).drew
      obtain ⟨a1, a2, a3⟩ := H1.out
      refine ⟨a1.trans (hb.mono a1.size), (hb.block _ hlt0).trans a2, fun j n hj => (hb.cell (p := ⟨w.heap.size + 1, 1 + (j + 1), none⟩) hlt1).trans (a3 j n hj), ?_, ?_, by omega, by omega⟩
      · show (((w2.alloc (.cells zk 3)).alloc (.cells #[.string (bW [111, 117, 116, 32, d]), .slice (some ⟨w2.heap.size, 0, none⟩) k k] 169))).heap[w2.heap.size]? = _
        rw [(two_blocks w2 _ _).1, hzk.out]
        simp
      · show (((w2.alloc (.cells zk 3)).alloc (.cells #[.string (bW [111, 117, 116, 32, d]), .slice (some ⟨w2.heap.size, 0, none⟩) k k] 169))).heap[(w2.heap.size + 1)]? = _
        exact (two_blocks w2 _ _).2
    clear H1 hzk hmk hc0
    revert R0
    generalize (((w2.alloc (.cells zk 3)).alloc (.cells #[.string (bW [111, 117, 116, 32, d]), .slice (some ⟨w2.heap.size, 0, none⟩) k k] 169)).drew) = w3
    generalize hbl : (w2.heap.size + 1) = bl
    generalize hgs : w2.heap.size = gs
    intro R0
    clear hgs hbl hlt0 hlt1
    have L := R0.lts
    have hc := R0.cells hl
    have RR : Hid (Rd w (w.heap.size + 1) 1 gs bl (bW [111, 117, 116, 32, d]) k ns 0 w3) := R0
    clear R0
    go_wp2
    go_loopg [60] k (fun gg s60 wr => ∃ i : Nat, i ≤ k ∧ gg = k - i ∧ s60 = .int .i64 i ∧ Hid (Rd w (w.heap.size + 1) 1 gs bl (bW [111, 117, 116, 32, d]) k ns i wr))
    case atStart => exact ⟨0, Nat.zero_le _, rfl, rfl, RR⟩
    case round =>
      obtain ⟨i, hile, hgk, rfl, I⟩ := hrel
      have HG : Hid (gk = k - i) := hgk
      clear hgk RR hc L
      by_cases hlt2 : i < k
      · obtain ⟨n, hin⟩ : ∃ n, ns[i]? = some n := ⟨_, List.getElem?_eq_getElem (by omega)⟩
        have hcw := I.out.wrd i n hin
        rw [show 1 + (i + 1) = 2 + i by omega] at hcw
        have j1 : (0 : Int) ≤ (i : Int) := by omega
        have j2 : (i : Int) < (k : Int) := by omega
        have j3 : (i : Int) + 1 < (k : Int) + 1 := by omega
        have HA : Hid (Calls Tryz.prog 161 #[.string (bW (Lib.itoa n))] wr fun e w' => e = .returned (.tuple #[.int .i64 n, .nilIface]) ∧ (w'.cell? ⟨bl, 1, none⟩ = some (.slice (some ⟨gs, 0, none⟩) k k) ∧ w'.cell? ⟨gs, i, none⟩ = some (.int .i64 0) ∧ w'.frozen? ⟨gs, i, none⟩ = false) ∧ Hid (Rd w (w.heap.size + 1) 1 gs bl (bW [111, 117, 116, 32, d]) k ns i w')) := by
          refine (HAt n wr (h64 n (List.mem_of_getElem? hin))).mono ?_
          rintro e w' ⟨rfl, hb⟩
          have I2 := I.out.below hb
          have c2 := I2.cells hl
          exact ⟨rfl, ⟨c2.2.1, c2.2.2.2.2.2.2.2 hlt2, c2.2.2.2.2.2.2.1⟩, I2⟩
        have HS : Hid (∀ w', Hid (Rd w (w.heap.size + 1) 1 gs bl (bW [111, 117, 116, 32, d]) k ns i w') → Rd w (w.heap.size + 1) 1 gs bl (bW [111, 117, 116, 32, d]) k ns (i + 1) (w'.setCell ⟨gs, i, none⟩ (.int .i64 n))) := fun w' hI => hI.out.store hl hin
        clear I hin
        go_wp2_with (first
          | (go_at_call 161; refine HA.out.mono ?_; rintro e w3 ⟨rfl, hc3, h3⟩)
          | fail)
        go_roundg (k - (i + 1))
        all_goals first
          | (have := HG.out; omega)
          | exact ⟨i + 1, by omega, rfl, by first | rfl | (congr 1; omega) | go_num, HS.out _ h3⟩
      · have j2 : ¬ ((i : Int) < (k : Int)) := by omega
        obtain rfl : i = k := by omega
        have I2 := I.out
        have c2 := I2.cells hl
        clear I
        have HF : Hid (∀ u v, (((wr.setCell ⟨w.heap.size, 0, none⟩ u).setCell ⟨w.heap.size, 1, none⟩ v).heap[gs]? = some (.cells (ns.map (Value.int .i64)).toArray 3)) ∧ w.heap.size ≤ gs ∧ Below w.heap.size w ((wr.setCell ⟨w.heap.size, 0, none⟩ u).setCell ⟨w.heap.size, 1, none⟩ v)) := by
          intro u v
          refine ⟨?_, I2.ge, (I2.low.setCell (p := ⟨w.heap.size, 0, none⟩) (Nat.le_refl _) _).setCell (p := ⟨w.heap.size, 1, none⟩) (Nat.le_refl _) _⟩
          rw [Below.heap_setCell _ _ _ _ (Ne.symm I2.nes.1), Below.heap_setCell _ _ _ _ (Ne.symm I2.nes.1), I2.nums, ← hl, List.take_length]
          simp
        have l2 := I2.lts
        clear I2
        go_wp2
        have hx0 : ((wr.setCell ⟨w.heap.size, 0, none⟩ (.string (bW [111, 117, 116, 32, d]))).setCell ⟨w.heap.size, 1, none⟩ (.slice (some ⟨gs, 0, none⟩) i i)).cell? ⟨w.heap.size, 0, none⟩ = some (.string (bW [111, 117, 116, 32, d])) := by
          rw [World.cell?_setCell_other _ _ _ _ (by simp)]
          exact World.cell?_setCell_same' _ _ _ (by rw [c2.2.2.1]; rfl)
        have hx1 : ((wr.setCell ⟨w.heap.size, 0, none⟩ (.string (bW [111, 117, 116, 32, d]))).setCell ⟨w.heap.size, 1, none⟩ (.slice (some ⟨gs, 0, none⟩) i i)).cell? ⟨w.heap.size, 1, none⟩ = some (.slice (some ⟨gs, 0, none⟩) i i) := by
          exact World.cell?_setCell_same' _ _ _ (by rw [World.cell?_setCell_other _ _ _ _ (by simp), c2.2.2.2.1]; rfl)
        refine bodyPost_ret (v := .tuple #[.agg #[.string (bW [111, 117, 116, 32, d]), .slice (some ⟨gs, 0, none⟩) i i], .bool true]) (by simp [results, Tryz.results91, go_sem, hx0, hx1]) rfl ⟨gs, rfl, HF.out _ _⟩
  · have R0 : Rd w (w.heap.size + 1) 1 (w2.heap.size + 1) w2.heap.size (bW [111, 117, 116, 32, d]) k ns 0 (((w2.alloc (.cells #[.string (bW [111, 117, 116, 32, d]), .slice (some ⟨w2.heap.size + 1, 0, none⟩) k k] 169)).alloc (.cells zk 3)).drew) := by
      have hb : Below w2.heap.size w2 (((w2.alloc (.cells #[.string (bW [111, 117, 116, 32, d]), .slice (some ⟨w2.heap.size + 1, 0, none⟩) k k] 169)).alloc (.cells zk 3)).drew) := (Go.Joins.below_alloc2 _ _ _).drew
      obtain ⟨a1, a2, a3⟩ := H1.out
      refine ⟨a1.trans (hb.mono a1.size), (hb.block _ hlt0).trans a2, fun j n hj => (hb.cell (p := ⟨w.heap.size + 1, 1 + (j + 1), none⟩) hlt1).trans (a3 j n hj), ?_, ?_, by omega, by omega⟩
      · show (((w2.alloc (.cells #[.string (bW [111, 117, 116, 32, d]), .slice (some ⟨w2.heap.size + 1, 0, none⟩) k k] 169)).alloc (.cells zk 3))).heap[(w2.heap.size + 1)]? = _
        rw [(two_blocks w2 _ _).2, hzk.out]
        simp
      · show (((w2.alloc (.cells #[.string (bW [111, 117, 116, 32, d]), .slice (some ⟨w2.heap.size + 1, 0, none⟩) k k] 169)).alloc (.cells zk 3))).heap[w2.heap.size]? = _
        exact (two_blocks w2 _ _).1
    clear H1 hzk hmk hc0
    revert R0
    generalize (((w2.alloc (.cells #[.string (bW [111, 117, 116, 32, d]), .slice (some ⟨w2.heap.size + 1, 0, none⟩) k k] 169)).alloc (.cells zk 3)).drew) = w3
    generalize hgs : (w2.heap.size + 1) = gs
    generalize hbl : w2.heap.size = bl
    intro R0
    clear hgs hbl hlt0 hlt1
    have L := R0.lts
    have hc := R0.cells hl
    have RR : Hid (Rd w (w.heap.size + 1) 1 gs bl (bW [111, 117, 116, 32, d]) k ns 0 w3) := R0
    clear R0
    go_wp2
    go_loopg [60] k (fun gg s60 wr => ∃ i : Nat, i ≤ k ∧ gg = k - i ∧ s60 = .int .i64 i ∧ Hid (Rd w (w.heap.size + 1) 1 gs bl (bW [111, 117, 116, 32, d]) k ns i wr))
    case atStart => exact ⟨0, Nat.zero_le _, rfl, rfl, RR⟩
    case round =>
      obtain ⟨i, hile, hgk, rfl, I⟩ := hrel
      have HG : Hid (gk = k - i) := hgk
      clear hgk RR hc L
      by_cases hlt2 : i < k
      · obtain ⟨n, hin⟩ : ∃ n, ns[i]? = some n := ⟨_, List.getElem?_eq_getElem (by omega)⟩
        have hcw := I.out.wrd i n hin
        rw [show 1 + (i + 1) = 2 + i by omega] at hcw
        have j1 : (0 : Int) ≤ (i : Int) := by omega
        have j2 : (i : Int) < (k : Int) := by omega
        have j3 : (i : Int) + 1 < (k : Int) + 1 := by omega
        have HA : Hid (Calls Tryz.prog 161 #[.string (bW (Lib.itoa n))] wr fun e w' => e = .returned (.tuple #[.int .i64 n, .nilIface]) ∧ (w'.cell? ⟨bl, 1, none⟩ = some (.slice (some ⟨gs, 0, none⟩) k k) ∧ w'.cell? ⟨gs, i, none⟩ = some (.int .i64 0) ∧ w'.frozen? ⟨gs, i, none⟩ = false) ∧ Hid (Rd w (w.heap.size + 1) 1 gs bl (bW [111, 117, 116, 32, d]) k ns i w')) := by
          refine (HAt n wr (h64 n (List.mem_of_getElem? hin))).mono ?_
          rintro e w' ⟨rfl, hb⟩
          have I2 := I.out.below hb
          have c2 := I2.cells hl
          exact ⟨rfl, ⟨c2.2.1, c2.2.2.2.2.2.2.2 hlt2, c2.2.2.2.2.2.2.1⟩, I2⟩
        have HS : Hid (∀ w', Hid (Rd w (w.heap.size + 1) 1 gs bl (bW [111, 117, 116, 32, d]) k ns i w') → Rd w (w.heap.size + 1) 1 gs bl (bW [111, 117, 116, 32, d]) k ns (i + 1) (w'.setCell ⟨gs, i, none⟩ (.int .i64 n))) := fun w' hI => hI.out.store hl hin
        clear I hin
        go_wp2_with (first
          | (go_at_call 161; refine HA.out.mono ?_; rintro e w3 ⟨rfl, hc3, h3⟩)
          | fail)
        go_roundg (k - (i + 1))
        all_goals first
          | (have := HG.out; omega)
          | exact ⟨i + 1, by omega, rfl, by first | rfl | (congr 1; omega) | go_num, HS.out _ h3⟩
      · have j2 : ¬ ((i : Int) < (k : Int)) := by omega
        obtain rfl : i = k := by omega
        have I2 := I.out
        have c2 := I2.cells hl
        clear I
        have HF : Hid (∀ u v, (((wr.setCell ⟨w.heap.size, 0, none⟩ u).setCell ⟨w.heap.size, 1, none⟩ v).heap[gs]? = some (.cells (ns.map (Value.int .i64)).toArray 3)) ∧ w.heap.size ≤ gs ∧ Below w.heap.size w ((wr.setCell ⟨w.heap.size, 0, none⟩ u).setCell ⟨w.heap.size, 1, none⟩ v)) := by
          intro u v
          refine ⟨?_, I2.ge, (I2.low.setCell (p := ⟨w.heap.size, 0, none⟩) (Nat.le_refl _) _).setCell (p := ⟨w.heap.size, 1, none⟩) (Nat.le_refl _) _⟩
          rw [Below.heap_setCell _ _ _ _ (Ne.symm I2.nes.1), Below.heap_setCell _ _ _ _ (Ne.symm I2.nes.1), I2.nums, ← hl, List.take_length]
          simp
        have l2 := I2.lts
        clear I2
        go_wp2
        have hx0 : ((wr.setCell ⟨w.heap.size, 0, none⟩ (.string (bW [111, 117, 116, 32, d]))).setCell ⟨w.heap.size, 1, none⟩ (.slice (some ⟨gs, 0, none⟩) i i)).cell? ⟨w.heap.size, 0, none⟩ = some (.string (bW [111, 117, 116, 32, d])) := by
          rw [World.cell?_setCell_other _ _ _ _ (by simp)]
          exact World.cell?_setCell_same' _ _ _ (by rw [c2.2.2.1]; rfl)
        have hx1 : ((wr.setCell ⟨w.heap.size, 0, none⟩ (.string (bW [111, 117, 116, 32, d]))).setCell ⟨w.heap.size, 1, none⟩ (.slice (some ⟨gs, 0, none⟩) i i)).cell? ⟨w.heap.size, 1, none⟩ = some (.slice (some ⟨gs, 0, none⟩) i i) := by
          exact World.cell?_setCell_same' _ _ _ (by rw [World.cell?_setCell_other _ _ _ _ (by simp), c2.2.2.2.1]; rfl)
        refine bodyPost_ret (v := .tuple #[.agg #[.string (bW [111, 117, 116, 32, d]), .slice (some ⟨gs, 0, none⟩) i i], .bool true]) (by simp [results, Tryz.results91, go_sem, hx0, hx1]) rfl ⟨gs, rfl, HF.out _ _⟩
end Go.Proofs.YthfpipieboophaaGreatDoor
