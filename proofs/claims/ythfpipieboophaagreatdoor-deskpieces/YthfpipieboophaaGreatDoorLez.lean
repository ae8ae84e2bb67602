/- Lez: several texts in one. -/
import Derived.Test.YthfpipieboophaaGreatDoorLdy
import Derived.Test.YthfpipieboophaaGreatDoorLds
import Derived.Test.YthfpipieboophaaGreatDoorEnz
import Derived.Test.YthfpipieboophaaGreatDoorSvy
import Derived.Test.YthfpipieboophaaGreatDoorVwz
import Derived.Test.YthfpipieboophaaGreatDoorJnz
import Derived.Deep.RegionHeld3
import Derived.Lib.QuietBelow
import Derived.Test.YthfpipieboophaaGreatDoorLde
import Derived.Test.YthfpipieboophaaGreatDoorLdx
import Derived.Test.YthfpipieboophaaGreatDoorLdz
import Derived.RangeFuncStops
import Derived.Test.YthfpipieboophaaGreatDoorLdb
import Derived.Test.YthfpipieboophaaGreatDoorEvy
import Derived.Lib.AtoiAllCases
import Derived.Test.YthfpipieboophaaGreatDoorLsa
/- A plan that may not be: Check, New, start. -/
namespace Go.Proofs.YthfpipieboophaaGreatDoor
open Go.RowKit Go.Sort
set_option maxRecDepth 100000
theorem isMode_no (n : Int) (w : World) (h : ¬ (0 ≤ n ∧ n ≤ 3)) : Calls Tryz.prog 184 #[.int .i64 n] w fun e w' => e = .returned (.bool false) ∧ w' = w := by
  have d0 : (n == 0) = false := by simp; omega
  have d1 : (n == 1) = false := by simp; omega
  have d2 : (n == 2) = false := by simp; omega
  have d3 : (n == 3) = false := by simp; omega
  clear h
  go_enter Tryz.func184, Tryz.ntmps184
  go_wp2
  go_ret
  exact ⟨rfl, rfl⟩
end Go.Proofs.YthfpipieboophaaGreatDoor

/- Load's pieces, for whatever engine, where they may refuse. -/
namespace Go.Proofs.YthfpipieboophaaGreatDoor
open Go.RowKit Go.Sort
set_option maxRecDepth 100000
end Go.Proofs.YthfpipieboophaaGreatDoor

/- Load's pieces that refuse: how many were fed; an Out. -/
namespace Go.Proofs.YthfpipieboophaaGreatDoor
open Go.RowKit Go.Sort Go.Shelf
set_option maxRecDepth 100000
end Go.Proofs.YthfpipieboophaaGreatDoor

/- Load's pieces, for whatever engine: its marks, where they may refuse. -/
namespace Go.Proofs.YthfpipieboophaaGreatDoor
open Go.RowKit Go.Sort
set_option maxRecDepth 100000
end Go.Proofs.YthfpipieboophaaGreatDoor

/- A line that is read, whatever it is: what is known of its head. -/
namespace Go.Proofs.YthfpipieboophaaGreatDoor
open Go.RowKit Go.Sort
set_option maxRecDepth 100000
theorem key9b (s : ByteArray) (hs : s.size ≤ 2000000) : keyOf Tryz.prog 9 (.string s) = some (.string s.data.toList) := by
  simp [keyOf, Tryz.underlying9, mapKey]
  unfold maxLen
  omega
end Go.Proofs.YthfpipieboophaaGreatDoor

/- A line that is read, whatever it is. -/
namespace Go.Proofs.YthfpipieboophaaGreatDoor
open Go.RowKit Go.Sort
set_option maxRecDepth 100000
abbrev N64 (n : Int) : Prop := -9223372036854775808 ≤ n ∧ n ≤ 9223372036854775807
structure Rda (w : World) (gw off gs bl : Nat) (hd : ByteArray) (k : Nat) (vs : List (List UInt8)) (ns : List Int) (W : World) : Prop where
  low : Below w.heap.size w W
  res : W.heap[w.heap.size]? = some zL
  wrd : ∀ j x, vs[j]? = some x → W.cell? ⟨gw, off + (j + 1), none⟩ = some (.string (bW x))
  nums : W.heap[gs]? = some (.cells (ns.map (Value.int .i64) ++ List.replicate (k - ns.length) (Value.int .i64 0)).toArray 3)
  line : W.heap[bl]? = some (.cells #[.string hd, .slice (some ⟨gs, 0, none⟩) k k] 169)
  ge : w.heap.size ≤ gs
  ngw : gw ≠ gs
  all : ∀ n ∈ ns, N64 n
section
variable {w : World} {gw off gs bl : Nat} {hd : ByteArray} {k : Nat} {vs : List (List UInt8)} {ns : List Int} {W W' : World}
theorem Rda.lts (h : Rda w gw off gs bl hd k vs ns W) : w.heap.size < W.heap.size ∧ gs < W.heap.size ∧ bl < W.heap.size := ⟨(Array.getElem?_eq_some_iff.1 h.res).1, (Array.getElem?_eq_some_iff.1 h.nums).1, (Array.getElem?_eq_some_iff.1 h.line).1⟩
theorem Rda.nes (h : Rda w gw off gs bl hd k vs ns W) : w.heap.size ≠ gs ∧ bl ≠ gs := by
  refine ⟨fun e => ?_, fun e => ?_⟩
  · have h1 := h.res
    rw [e, h.nums] at h1
    simp at h1
  · have h1 := h.line
    rw [e, h.nums] at h1
    simp at h1
theorem Rda.below (h : Rda w gw off gs bl hd k vs ns W) (hb : Below W.heap.size W W') : Rda w gw off gs bl hd k vs ns W' :=
  ⟨h.low.trans (hb.mono h.low.size), (hb.block _ h.lts.1).trans h.res, fun j n hj => (hb.cell (p := ⟨gw, off + (j + 1), none⟩) (World.block_lt_of_cell? _ _ (h.wrd j n hj))).trans (h.wrd j n hj), (hb.block _ h.lts.2.1).trans h.nums, (hb.block _ h.lts.2.2).trans h.line, h.ge, h.ngw, h.all⟩
theorem Rda.cells (h : Rda w gw off gs bl hd k vs ns W) : W.cell? ⟨bl, 0, none⟩ = some (.string hd) ∧ W.cell? ⟨bl, 1, none⟩ = some (.slice (some ⟨gs, 0, none⟩) k k) ∧ W.cell? ⟨w.heap.size, 0, none⟩ = some (.string ⟨#[]⟩) ∧ W.cell? ⟨w.heap.size, 1, none⟩ = some (.slice none 0 0) ∧ W.frozen? ⟨w.heap.size, 0, none⟩ = false ∧ W.frozen? ⟨w.heap.size, 1, none⟩ = false ∧ W.frozen? ⟨gs, ns.length, none⟩ = false ∧ (ns.length < k → W.cell? ⟨gs, ns.length, none⟩ = some (.int .i64 0)) := by
  refine ⟨by rw [Go.Joins.cell_of_block h.line]; rfl, by rw [Go.Joins.cell_of_block h.line]; rfl, by rw [Go.Joins.cell_of_block h.res]; rfl, by rw [Go.Joins.cell_of_block h.res]; rfl, Go.Joins.unfrozen_of_block h.res 0, Go.Joins.unfrozen_of_block h.res 1, Go.Joins.unfrozen_of_block h.nums ns.length, fun hlt => ?_⟩
  rw [Go.Joins.cell_of_block h.nums, List.getElem?_toArray, List.getElem?_append_right (by simp), List.getElem?_replicate, if_pos (by simp; omega)]
theorem Rda.store (h : Rda w gw off gs bl hd k vs ns W) (hlt : ns.length < k) {n : Int} (hn : N64 n) : Rda w gw off gs bl hd k vs (ns ++ [n]) (W.setCell ⟨gs, ns.length, none⟩ (.int .i64 n)) := by
  have hs : ∀ j, j ≠ gs → (W.setCell ⟨gs, ns.length, none⟩ (.int .i64 n)).heap[j]? = W.heap[j]? := fun j e => Below.heap_setCell _ _ _ _ e
  refine ⟨h.low.setCell (p := ⟨gs, ns.length, none⟩) h.ge _, (hs _ h.nes.1).trans h.res, fun j m hj => (World.cell?_of_block (w := W) (a := ⟨gw, off + (j + 1), none⟩) (hs gw h.ngw)).trans (h.wrd j m hj), ?_, (hs _ h.nes.2).trans h.line, h.ge, h.ngw, fun m hm => ?_⟩
  · rw [Go.Joins.block_setCell h.nums]
    congr 2
    simp only [List.setIfInBounds_toArray]
    congr 1
    rw [List.set_append_right _ _ (by simp)]
    simp only [List.map_append, List.append_assoc, List.map_cons, List.map_nil, List.length_map, List.singleton_append, List.length_append, List.length_cons, List.length_nil]
    congr 1
    obtain ⟨r, hr⟩ : ∃ r, k - ns.length = r + 1 := ⟨k - ns.length - 1, by omega⟩
    rw [hr, Nat.sub_self, List.replicate_succ, List.set_cons_zero, show k - (ns.length + (0 + 1)) = r by omega]
  · rcases List.mem_append.1 hm with g | g
    · exact h.all m g
    · simp at g; rw [g]; exact hn
end
abbrev NoLine (w w' : World) (e : Ending) : Prop := e = .returned (.tuple #[.agg #[.string ⟨#[]⟩, .slice none 0 0], .bool false]) ∧ Below w.heap.size w w'
abbrev SomeLine (w w' : World) (e : Ending) (hd : ByteArray) (k : Nat) : Prop := ∃ (ns : List Int) (g : Nat), ns.length = k ∧ (∀ n ∈ ns, N64 n) ∧ e = .returned (.tuple #[.agg #[.string hd, .slice (some ⟨g, 0, none⟩) k k], .bool true]) ∧ w'.heap[g]? = some (.cells (ns.map (Value.int .i64)).toArray 3) ∧ w.heap.size ≤ g ∧ Below w.heap.size w w'
end Go.Proofs.YthfpipieboophaaGreatDoor

/- A line that is read, whatever it is: refused. -/
namespace Go.Proofs.YthfpipieboophaaGreatDoor
open Go.RowKit Go.Sort
set_option maxRecDepth 100000
variable {bm : Nat}
end Go.Proofs.YthfpipieboophaaGreatDoor

/- A line of an Out that is read, whatever it is. -/
namespace Go.Proofs.YthfpipieboophaaGreatDoor
open Go.RowKit Go.Sort
set_option maxRecDepth 100000
end Go.Proofs.YthfpipieboophaaGreatDoor

/- A line of an Out that is read, whatever it is. -/
namespace Go.Proofs.YthfpipieboophaaGreatDoor
open Go.RowKit Go.Sort
set_option maxRecDepth 100000
end Go.Proofs.YthfpipieboophaaGreatDoor

/- A line that is read, whatever it is: all ways. -/
namespace Go.Proofs.YthfpipieboophaaGreatDoor
open Go.RowKit Go.Sort
set_option maxRecDepth 100000
end Go.Proofs.YthfpipieboophaaGreatDoor

/- Whatever a line tells: the engine stands as one may, or the line is refused. -/
namespace Go.Proofs.YthfpipieboophaaGreatDoor
open Go.RowKit Go.Sort Go.Shelf
set_option maxRecDepth 100000
set_option maxHeartbeats 1000000 in
theorem emove_err (be bj bm : Nat) (v0 v1 : Value) (f0 f1 : Int) (om : Option Nat) (Sg : Nat → Prop) (x : J) (L Lg : List O) (s t : Int) (w : World) (h : EngIn w be bj bm v0 v1 f0 f1 om Sg x L Lg) (he : moveE x.m0 x.m1 s t ≠ 0) :
    Calls Tryz.prog 15 #[.pointer (some ⟨be, 0, none⟩), .int .i64 s, .int .i64 t] w fun e w' => e = .returned (.iface 24 (.int .i64 (moveE x.m0 x.m1 s t))) ∧ Below w.heap.size w w' := by
  have HJ : Hid (∀ W, Below w.heap.size w W → Calls Tryz.prog 51 #[.pointer (some ⟨bj, 0, none⟩), .int .i64 s, .int .i64 t] W fun e w' => e = .returned (.iface 24 (.int .i64 (moveE x.m0 x.m1 s t))) ∧ w'.cell? ⟨be, 3, none⟩ = some (.pointer (some ⟨bj, 0, none⟩)) ∧ Hid (Below w.heap.size w w')) := by
    intro W hW
    refine (jmove_err 0 bj bm v0 v1 x s t W (h.below hW).join he).mono ?_
    rintro e w' ⟨rfl, hb⟩
    have hb2 := hW.trans (hb.mono hW.size)
    exact ⟨rfl, (h.below hb2).cells.2.2.2.1, hb2⟩
  have hc := h.cells.2.2.2.1
  have hlt := h.blt
  have B0 : Hid (Below w.heap.size w w ∧ Below w.heap.size w w.drew) := ⟨Below.refl _ _, (Below.refl _ _).drew⟩
  generalize moveE x.m0 x.m1 s t = ke at *
  clear h he
  go_enter Tryz.func15, Tryz.ntmps15
  first
    | (go_wp2_with (first
        | (go_at_call 51; refine (HJ.out _ B0.out.1).mono ?_; rintro e w1 ⟨rfl, hc1, h1⟩)
        | fail)
       go_ret
       exact ⟨rfl, h1.out⟩)
    | (go_wp2
       go_region_held3 (fun W => W.cell? ⟨be, 3, none⟩ = some (.pointer (some ⟨bj, 0, none⟩))) (first | (go_keep; done) | fail) (first
        | (go_at_call 51; refine (HJ.out _ B0.out.2).mono ?_; rintro e w1 ⟨rfl, hc1, h1⟩)
        | fail)
       go_wp2
       go_ret
       exact ⟨rfl, h1.out⟩)
structure Vld (st : Sx) (i : Nat) : Prop where
  sv : SvOk st.x st.f0 st.f1
  tell : ∀ o ∈ st.L, TellO o
  len : st.L.length ≤ i
theorem Vld.more {st : Sx} {i j : Nat} (h : Vld st i) (hj : i ≤ j) : Vld st j := ⟨h.sv, h.tell, Nat.le_trans h.len hj⟩
abbrev LineEnd (i be : Nat) (S : Nat → Prop) (W w' : World) (e : Ending) : Prop := (e = .returned (.bool false) ∧ Turned S W w') ∨ (e = .returned (.bool true) ∧ ∃ S', (∃ st', PE st' be S' w' ∧ Vld st' (i + 1)) ∧ (∀ k, S' k → (S k ∨ W.heap.size ≤ k) ∧ k < w'.heap.size) ∧ Turned S W w')
section
variable {st : Sx} {i be g : Nat} {S : Nat → Prop} {W : World}
end
end Go.Proofs.YthfpipieboophaaGreatDoor

/- A range over the lines of a text whose rounds may leave it. -/
namespace Go.Proofs.YthfpipieboophaaGreatDoor
open Go.RowKit Go.Shelf
set_option maxRecDepth 100000
def lineStop (bs bp bv D l : Nat) (I Ix : World → Prop) (W : World) : Exit → Act → World → Prop
  | .normal, _, W' => I W' ∧ W.heap.size ≤ W'.heap.size ∧ ∀ k, k = bs ∨ k = bp ∨ k = bv ∨ k = D ∨ k = l → W'.heap[k]? = W.heap[k]?
  | .ret, _, W' => Ix W' ∧ ∀ k, k = D ∨ k = l → W'.heap[k]? = W.heap[k]?
  | _, _, _ => False
end Go.Proofs.YthfpipieboophaaGreatDoor

/- An engine that is put together out of whatever lines: it stands, or is refused. -/
namespace Go.Proofs.YthfpipieboophaaGreatDoor
open Go.RowKit Go.Sort Go.Shelf
set_option maxRecDepth 100000
attribute [local go_sem] Oper.semAt_some
def Ixs (w : World) (W : World) : Prop := Below w.heap.size w W ∧ W.heap[w.heap.size]? = some (.cells #[.pointer none] 27) ∧ W.heap[w.heap.size + 1]? = some (.cells #[.bool false] 4)
theorem Bd.leave {w : World} {kb bm : Nat} {ve : Value} {W : World} (h : Bd w kb bm ve W) : Ixs w ((W.setCell ⟨w.heap.size, 0, none⟩ (.pointer none)).setCell ⟨w.heap.size + 1, 0, none⟩ (.bool false)) := by
  refine ⟨(h.low.setCell (p := ⟨w.heap.size, 0, none⟩) (Nat.le_refl _) _).setCell (p := ⟨w.heap.size + 1, 0, none⟩) (by show w.heap.size ≤ w.heap.size + 1; omega) _, ?_, ?_⟩
  · rw [Below.heap_setCell _ _ _ _ (by simp), Go.Joins.block_setCell h.r1]
    rfl
  · rw [Go.Joins.block_setCell ((Below.heap_setCell _ _ _ _ (by simp)).trans h.r2)]
    rfl
end Go.Proofs.YthfpipieboophaaGreatDoor

/- Whatever a line tells: rows, Outs, all lines; whatever text is put together. -/
namespace Go.Proofs.YthfpipieboophaaGreatDoor
open Go.RowKit Go.Sort Go.Shelf
set_option maxRecDepth 100000
section
variable {st : Sx} {i be g : Nat} {S : Nat → Prop} {W : World}
end
end Go.Proofs.YthfpipieboophaaGreatDoor

/- Load of whatever text: it is one that Saved tells, or is refused. -/
namespace Go.Proofs.YthfpipieboophaaGreatDoor
open Go.RowKit Go.Sort Go.Shelf
set_option maxRecDepth 100000
def ToldOf (s : ByteArray) (x : J) (f0 f1 : Int) (Z : List O) : Prop := SvOk x f0 f1 ∧ (∀ o ∈ Z, TellO o) ∧ InOrder Z ∧ Z.length ≤ 5000 ∧ (savedB x f0 f1 Z).length ≤ 60000 ∧ s = ⟨(savedB x f0 f1 Z).toArray⟩
end Go.Proofs.YthfpipieboophaaGreatDoor

/- An engine: what it says of what may not be. -/
namespace Go.Proofs.YthfpipieboophaaGreatDoor
open Go.RowKit Go.Sort Go.Shelf
set_option maxRecDepth 100000
set_option maxHeartbeats 8000000 in
theorem efeed_arg (be bj bm : Nat) (v0 v1 : Value) (f0 f1 : Int) (om : Option Nat) (Sg : Nat → Prop) (x : J) (L Lg : List O) (s k t v : Int) (w : World) (hg0 : w.cell? ⟨2, 0, none⟩ = some errT) (h : EngIn w be bj bm v0 v1 f0 f1 om Sg x L Lg)
    (hno : sideB s = false ∨ goodI k t v = false) :
    Calls Tryz.prog 11 #[.pointer (some ⟨be, 0, none⟩), .int .i64 s, .agg #[.int .i64 k, .int .i64 t, .int .i64 v]] w fun e w' => e = .returned (.tuple #[.slice none 0 0, .iface 24 (.int .i64 1)]) ∧ Below w.heap.size w w' := by
  have HJ : Hid (∀ W, Below w.heap.size w W → W.heap[w.heap.size]? = some (rowE k t v) → Calls Tryz.prog 45 #[.pointer (some ⟨bj, 0, none⟩), .int .i64 s, .agg #[.int .i64 k, .int .i64 t, .int .i64 v]] W fun e w' => e = .returned (.tuple #[.slice none 0 0, .iface 24 (.int .i64 1)]) ∧ (w'.cell? ⟨be, 3, none⟩ = some (.pointer (some ⟨bj, 0, none⟩)) ∧ w'.cell? ⟨w.heap.size, 0, none⟩ = some (.int .i64 k) ∧ w'.cell? ⟨w.heap.size, 1, none⟩ = some (.int .i64 t) ∧ w'.cell? ⟨w.heap.size, 2, none⟩ = some (.int .i64 v)) ∧ Hid (w'.cell? ⟨2, 0, none⟩ = some errT ∧ Below w.heap.size w w')) := by
    intro W hW hbx
    refine (feed_arg bj s k t v W hno).mono ?_
    rintro e w' ⟨rfl, h3⟩
    have hB : Below w.heap.size w w' := hW.trans (h3.mono hW.size)
    have hE2 := h.below hB
    have hz : 2 < w.heap.size := World.block_lt_of_cell? _ _ hg0
    exact ⟨rfl, ⟨hE2.cells.2.2.2.1, rowE_cells ((h3.block _ (Array.getElem?_eq_some_iff.1 hbx).1).trans hbx)⟩, (hB.cell (p := ⟨2, 0, none⟩) hz).trans hg0, hB⟩
  have hc0 := h.cells
  have hlt := h.blt
  have hq := ne_err55 1
  clear h hno hg0
  go_enter Tryz.func11, Tryz.ntmps11
  go_wp2
  have B1 : Hid (Below w.heap.size w (w.alloc (rowE k t v)).drew ∧ (w.alloc (rowE k t v)).drew.heap[w.heap.size]? = some (rowE k t v)) := ⟨(Go.Joins.below_alloc1 _ _).drew, heap_alloc_new w (rowE k t v)⟩
  have hc1 : (w.alloc (rowE k t v)).cell? ⟨be, 3, none⟩ = some (.pointer (some ⟨bj, 0, none⟩)) ∧ (w.alloc (rowE k t v)).cell? ⟨w.heap.size, 0, none⟩ = some (.int .i64 k) ∧ (w.alloc (rowE k t v)).cell? ⟨w.heap.size, 1, none⟩ = some (.int .i64 t) ∧ (w.alloc (rowE k t v)).cell? ⟨w.heap.size, 2, none⟩ = some (.int .i64 v) := ⟨((Go.Joins.below_alloc1 w (rowE k t v)).cell (p := ⟨be, 3, none⟩) hlt).trans hc0.2.2.2.1, rowE_cells (heap_alloc_new w (rowE k t v))⟩
  clear hc0
  go_region_held3 (fun W => W.cell? ⟨be, 3, none⟩ = some (.pointer (some ⟨bj, 0, none⟩)) ∧ W.cell? ⟨w.heap.size, 0, none⟩ = some (.int .i64 k) ∧ W.cell? ⟨w.heap.size, 1, none⟩ = some (.int .i64 t) ∧ W.cell? ⟨w.heap.size, 2, none⟩ = some (.int .i64 v)) (first | exact hc1 | exact hc2 | fail) (first
    | (go_at_call 45; refine (HJ.out _ B1.out.1 B1.out.2).mono ?_; rintro e w1 ⟨rfl, hc2, h1⟩)
    | fail)
  clear hc1 hc2 B1 HJ
  go_wp2_with (first
    | (go_at_call 46; refine (tell_err _ _ h1.out.1).mono ?_; rintro e w2 ⟨rfl, hb2⟩; have E2 : Hid (Below w.heap.size w w2) := h1.out.2.trans (hb2.mono h1.out.2.size); clear hb2)
    | fail)
  exact bodyPost_ret (v := .tuple #[.slice none 0 0, .iface 24 (.int .i64 1)]) (by simp [results, Tryz.results11, go_sem]) rfl ⟨rfl, E2.out⟩
theorem pe_arg {st : Sx} {be : Nat} {S : Nat → Prop} {W : World} (hP : PE st be S W) (hg0 : W.cell? ⟨2, 0, none⟩ = some errT) (s k t v : Int) (hno : sideB s = false ∨ goodI k t v = false) :
    Calls Tryz.prog 11 #[.pointer (some ⟨be, 0, none⟩), .int .i64 s, .agg #[.int .i64 k, .int .i64 t, .int .i64 v]] W fun e w' => e = .returned (.tuple #[.slice none 0 0, .iface 24 (.int .i64 1)]) ∧ Below W.heap.size W w' := by
  obtain ⟨bj, bm, v0, v1, om, Sg, h, hS⟩ := hP
  exact efeed_arg be bj bm v0 v1 st.f0 st.f1 om Sg st.x st.L st.L s k t v W hg0 h hno
theorem pe_move_err {st : Sx} {be : Nat} {S : Nat → Prop} {W : World} (hP : PE st be S W) (s t : Int) (he : moveE st.x.m0 st.x.m1 s t ≠ 0) :
    Calls Tryz.prog 15 #[.pointer (some ⟨be, 0, none⟩), .int .i64 s, .int .i64 t] W fun e w' => e = .returned (.iface 24 (.int .i64 (moveE st.x.m0 st.x.m1 s t))) ∧ Below W.heap.size W w' := by
  obtain ⟨bj, bm, v0, v1, om, Sg, h, hS⟩ := hP
  exact emove_err be bj bm v0 v1 st.f0 st.f1 om Sg st.x st.L st.L s t W h he
section
variable {be bj bm : Nat} {v0 v1 : Value} {f0 f1 : Int} {om : Option Nat} {Sg : Nat → Prop} {x : J} {L Lg : List O} {w : World}
end
end Go.Proofs.YthfpipieboophaaGreatDoor
