/- An engine: rows that are late, sides that are full, marks. -/
import Derived.Test.YthfpipieboophaaGreatDoorEne
import Derived.Test.YthfpipieboophaaGreatDoorTel
import Derived.Test.YthfpipieboophaaGreatDoorVwz
namespace Go.Proofs.YthfpipieboophaaGreatDoor
open Go.RowKit Go.Sort
set_option maxRecDepth 100000
theorem ne_glob {w : World} {b : Nat} {k : Int} (hg : w.cell? ⟨2, 0, none⟩ = some errT) (h : w.cell? ⟨b, 0, none⟩ = some (.int .i64 k)) : b ≠ 2 := by
  intro e
  subst e
  rw [hg] at h
  simp [errT] at h
theorem tell_err (c : Int) (w : World) (hg : w.cell? ⟨2, 0, none⟩ = some errT) : Calls Tryz.prog 46 #[.iface 24 (.int .i64 c)] w fun e w' => e = .returned (.int .i64 c) ∧ Below w.heap.size w w' :=
  tell_some c w hg (Nat.lt_of_le_of_lt (Nat.zero_le _) (World.block_lt_of_cell? _ _ hg))
set_option maxHeartbeats 8000000 in
theorem efeed_late0 (be bj bm : Nat) (v0 v1 : Value) (f0 f1 : Int) (om : Option Nat) (Sg : Nat → Prop) (x x' : J) (L Lg : List O) (k t v : Int) (w : World) (hg0 : w.cell? ⟨2, 0, none⟩ = some errT) (h : EngIn w be bj bm v0 v1 f0 f1 om Sg x L Lg)
    (hx : x'.lo = x.lo ∧ x'.hi = x.hi ∧ x'.mode = x.mode)
    (hJ : ∀ W, JoinAt W 0 bj bm v0 v1 x → Calls Tryz.prog 45 #[.pointer (some ⟨bj, 0, none⟩), .int .i64 0, .agg #[.int .i64 k, .int .i64 t, .int .i64 v]] W fun e w' => e = .returned (.tuple #[.slice none 0 0, .iface 24 (.int .i64 10)]) ∧ JoinAt w' 0 bj bm v0 v1 x' ∧ Turned (fun j => j = bj) W w') :
    Calls Tryz.prog 11 #[.pointer (some ⟨be, 0, none⟩), .int .i64 0, .agg #[.int .i64 k, .int .i64 t, .int .i64 v]] w fun e w' => e = .returned (.tuple #[.slice none 0 0, .iface 24 (.int .i64 10)]) ∧ EngIn w' be bj bm v0 v1 (satI f0) f1 om Sg x' L Lg ∧ Turned (footE bj bm v0 v1 om Sg) w w' := by
  have hbj : bj ≠ 2 := ne_glob hg0 h.join.cells.1
  have HJ : Hid (∀ W, Below w.heap.size w W → W.heap[w.heap.size]? = some (rowE k t v) → Calls Tryz.prog 45 #[.pointer (some ⟨bj, 0, none⟩), .int .i64 0, .agg #[.int .i64 k, .int .i64 t, .int .i64 v]] W fun e w' => e = .returned (.tuple #[.slice none 0 0, .iface 24 (.int .i64 10)]) ∧ (w'.cell? ⟨be, 3, none⟩ = some (.pointer (some ⟨bj, 0, none⟩)) ∧ w'.cell? ⟨w.heap.size, 0, none⟩ = some (.int .i64 k) ∧ w'.cell? ⟨w.heap.size, 1, none⟩ = some (.int .i64 t) ∧ w'.cell? ⟨w.heap.size, 2, none⟩ = some (.int .i64 v)) ∧ Hid (w'.cell? ⟨2, 0, none⟩ = some errT ∧ EngIn w' be bj bm v0 v1 f0 f1 om Sg x' L Lg ∧ Turned (footE bj bm v0 v1 om Sg) w w')) := by
    intro W hW hbx
    have hE := h.below hW
    refine (hJ W hE.join).mono ?_
    rintro e w' ⟨rfl, h1, h3⟩
    have h3' : Turned (footJ bj bm v0 v1) W w' := h3.mono (fun k e => .inl e)
    have hE2 := hE.joined h1 hx h3' (fun k e => .inl e)
    have hz : 2 < w.heap.size := World.block_lt_of_cell? _ _ hg0
    refine ⟨rfl, ⟨hE2.cells.2.2.2.1, rowE_cells ((h3.block _ (Array.getElem?_eq_some_iff.1 hbx).1 (fun e => by have := h.join.lt; omega)).trans hbx)⟩, ?_, hE2, (Turned.of_below (S := footE bj bm v0 v1 om Sg) hW).trans h3' (fun _ _ e => .inl e)⟩
    exact (World.cell?_of_block (w := w) (a := ⟨2, 0, none⟩) ((h3.block 2 (Nat.lt_of_lt_of_le hz hW.size) (fun e => hbj e.symm)).trans (hW.block 2 hz))).trans hg0
  have HZ : Hid (∀ w2, EngIn w2 be bj bm v0 v1 f0 f1 om Sg x' L Lg → Turned (footE bj bm v0 v1 om Sg) w w2 → EngIn (w2.setCell ⟨be, 4, none⟩ (.int .i64 (satI f0))).drew be bj bm v0 v1 (satI f0) f1 om Sg x' L Lg ∧ Turned (footE bj bm v0 v1 om Sg) w (w2.setCell ⟨be, 4, none⟩ (.int .i64 (satI f0))).drew) := by
    intro w2 h2 ht
    refine ⟨(h2.setf 4 _ _ _ (.inl ⟨rfl, rfl, rfl⟩) (satI_in h.r0)).below ((Below.refl _ _).drew), (ht.trans (turned_cell (b := be) (o := 4) (u := .int .i64 (satI f0))) (fun k _ e => .inr (.inr (by rw [e]; exact h.inS)))).trans (Turned.of_below (S := fun _ => False) ((Below.refl _ _).drew)) (fun _ _ e => e.elim)⟩
  have HM : Hid (max f0 (wrap64 (f0 + 1)) = satI f0) := satI_max h.r0
  have hc0 := h.cells
  have hlt := h.blt
  have hq := ne_err55 10
  clear h hJ hx hg0
  go_enter Tryz.func11, Tryz.ntmps11
  go_wp2
  have B1 : Hid (Below w.heap.size w (w.alloc (rowE k t v)).drew ∧ (w.alloc (rowE k t v)).drew.heap[w.heap.size]? = some (rowE k t v)) := ⟨(Go.Joins.below_alloc1 _ _).drew, heap_alloc_new w (rowE k t v)⟩
  have hc1 : (w.alloc (rowE k t v)).cell? ⟨be, 3, none⟩ = some (.pointer (some ⟨bj, 0, none⟩)) ∧ (w.alloc (rowE k t v)).cell? ⟨w.heap.size, 0, none⟩ = some (.int .i64 k) ∧ (w.alloc (rowE k t v)).cell? ⟨w.heap.size, 1, none⟩ = some (.int .i64 t) ∧ (w.alloc (rowE k t v)).cell? ⟨w.heap.size, 2, none⟩ = some (.int .i64 v) := ⟨((Go.Joins.below_alloc1 w (rowE k t v)).cell (p := ⟨be, 3, none⟩) hlt).trans hc0.2.2.2.1, rowE_cells (heap_alloc_new w (rowE k t v))⟩
  clear hc0
  go_region_held3 (fun W => W.cell? ⟨be, 3, none⟩ = some (.pointer (some ⟨bj, 0, none⟩)) ∧ W.cell? ⟨w.heap.size, 0, none⟩ = some (.int .i64 k) ∧ W.cell? ⟨w.heap.size, 1, none⟩ = some (.int .i64 t) ∧ W.cell? ⟨w.heap.size, 2, none⟩ = some (.int .i64 v)) (first | exact hc1 | exact hc2 | fail) (first
    | (go_at_call 45; refine (HJ.out _ B1.out.1 B1.out.2).mono ?_; rintro e w1 ⟨rfl, hc2, h1⟩)
    | fail)
  clear hc1 hc2 B1 HJ
  go_wp2_with (first
    | (go_at_call 46; refine (tell_err _ _ h1.out.1).mono ?_; rintro e w2 ⟨rfl, hb2⟩; have E2 : Hid (EngIn w2 be bj bm v0 v1 f0 f1 om Sg x' L Lg ∧ Turned (footE bj bm v0 v1 om Sg) w w2) := ⟨h1.out.2.1.below hb2, h1.out.2.2.trans (Turned.of_below (S := fun _ => False) hb2) (fun _ _ e => e.elim)⟩; clear hb2)
    | fail)
  have hc4 : w2.cell? ⟨be, 4, none⟩ = some (.int .i64 f0) ∧ w2.frozen? ⟨be, 4, none⟩ = false ∧ be < w2.heap.size := by
    have hc := E2.out.1.cells
    exact ⟨hc.2.2.2.2.1, hc.2.2.2.2.2.2.1, E2.out.1.blt⟩
  go_region
  rw [HM.out]
  have Z := HZ.out w2 E2.out.1 E2.out.2
  have Z2 : Hid (EngIn (w2.setCell ⟨be, 4, none⟩ (.int .i64 (satI f0))).drew be bj bm v0 v1 (satI f0) f1 om Sg x' L Lg ∧ Turned (footE bj bm v0 v1 om Sg) w (w2.setCell ⟨be, 4, none⟩ (.int .i64 (satI f0))).drew) := Z
  clear Z HZ E2 h1
  revert Z2
  generalize (w2.setCell ⟨be, 4, none⟩ (.int .i64 (satI f0))).drew = w3
  intro Z2
  go_wp2
  exact bodyPost_ret (v := .tuple #[.slice none 0 0, .iface 24 (.int .i64 10)]) (by simp [results, Tryz.results11, go_sem]) rfl ⟨rfl, Z2.out⟩
set_option maxHeartbeats 8000000 in
theorem efeed_late1 (be bj bm : Nat) (v0 v1 : Value) (f0 f1 : Int) (om : Option Nat) (Sg : Nat → Prop) (x x' : J) (L Lg : List O) (k t v : Int) (w : World) (hg0 : w.cell? ⟨2, 0, none⟩ = some errT) (h : EngIn w be bj bm v0 v1 f0 f1 om Sg x L Lg)
    (hx : x'.lo = x.lo ∧ x'.hi = x.hi ∧ x'.mode = x.mode)
    (hJ : ∀ W, JoinAt W 0 bj bm v0 v1 x → Calls Tryz.prog 45 #[.pointer (some ⟨bj, 0, none⟩), .int .i64 1, .agg #[.int .i64 k, .int .i64 t, .int .i64 v]] W fun e w' => e = .returned (.tuple #[.slice none 0 0, .iface 24 (.int .i64 10)]) ∧ JoinAt w' 0 bj bm v0 v1 x' ∧ Turned (fun j => j = bj) W w') :
    Calls Tryz.prog 11 #[.pointer (some ⟨be, 0, none⟩), .int .i64 1, .agg #[.int .i64 k, .int .i64 t, .int .i64 v]] w fun e w' => e = .returned (.tuple #[.slice none 0 0, .iface 24 (.int .i64 10)]) ∧ EngIn w' be bj bm v0 v1 f0 (satI f1) om Sg x' L Lg ∧ Turned (footE bj bm v0 v1 om Sg) w w' := by
  have hbj : bj ≠ 2 := ne_glob hg0 h.join.cells.1
  have HJ : Hid (∀ W, Below w.heap.size w W → W.heap[w.heap.size]? = some (rowE k t v) → Calls Tryz.prog 45 #[.pointer (some ⟨bj, 0, none⟩), .int .i64 1, .agg #[.int .i64 k, .int .i64 t, .int .i64 v]] W fun e w' => e = .returned (.tuple #[.slice none 0 0, .iface 24 (.int .i64 10)]) ∧ (w'.cell? ⟨be, 3, none⟩ = some (.pointer (some ⟨bj, 0, none⟩)) ∧ w'.cell? ⟨w.heap.size, 0, none⟩ = some (.int .i64 k) ∧ w'.cell? ⟨w.heap.size, 1, none⟩ = some (.int .i64 t) ∧ w'.cell? ⟨w.heap.size, 2, none⟩ = some (.int .i64 v)) ∧ Hid (w'.cell? ⟨2, 0, none⟩ = some errT ∧ EngIn w' be bj bm v0 v1 f0 f1 om Sg x' L Lg ∧ Turned (footE bj bm v0 v1 om Sg) w w')) := by
    intro W hW hbx
    have hE := h.below hW
    refine (hJ W hE.join).mono ?_
    rintro e w' ⟨rfl, h1, h3⟩
    have h3' : Turned (footJ bj bm v0 v1) W w' := h3.mono (fun k e => .inl e)
    have hE2 := hE.joined h1 hx h3' (fun k e => .inl e)
    have hz : 2 < w.heap.size := World.block_lt_of_cell? _ _ hg0
    refine ⟨rfl, ⟨hE2.cells.2.2.2.1, rowE_cells ((h3.block _ (Array.getElem?_eq_some_iff.1 hbx).1 (fun e => by have := h.join.lt; omega)).trans hbx)⟩, ?_, hE2, (Turned.of_below (S := footE bj bm v0 v1 om Sg) hW).trans h3' (fun _ _ e => .inl e)⟩
    exact (World.cell?_of_block (w := w) (a := ⟨2, 0, none⟩) ((h3.block 2 (Nat.lt_of_lt_of_le hz hW.size) (fun e => hbj e.symm)).trans (hW.block 2 hz))).trans hg0
  have HZ : Hid (∀ w2, EngIn w2 be bj bm v0 v1 f0 f1 om Sg x' L Lg → Turned (footE bj bm v0 v1 om Sg) w w2 → EngIn (w2.setCell ⟨be, 5, none⟩ (.int .i64 (satI f1))).drew be bj bm v0 v1 f0 (satI f1) om Sg x' L Lg ∧ Turned (footE bj bm v0 v1 om Sg) w (w2.setCell ⟨be, 5, none⟩ (.int .i64 (satI f1))).drew) := by
    intro w2 h2 ht
    refine ⟨(h2.setf 5 _ _ _ (.inr ⟨rfl, rfl, rfl⟩) (satI_in h.r1)).below ((Below.refl _ _).drew), (ht.trans (turned_cell (b := be) (o := 5) (u := .int .i64 (satI f1))) (fun k _ e => .inr (.inr (by rw [e]; exact h.inS)))).trans (Turned.of_below (S := fun _ => False) ((Below.refl _ _).drew)) (fun _ _ e => e.elim)⟩
  have HM : Hid (max f1 (wrap64 (f1 + 1)) = satI f1) := satI_max h.r1
  have hc0 := h.cells
  have hlt := h.blt
  have hq := ne_err55 10
  clear h hJ hx hg0
  go_enter Tryz.func11, Tryz.ntmps11
  go_wp2
  have B1 : Hid (Below w.heap.size w (w.alloc (rowE k t v)).drew ∧ (w.alloc (rowE k t v)).drew.heap[w.heap.size]? = some (rowE k t v)) := ⟨(Go.Joins.below_alloc1 _ _).drew, heap_alloc_new w (rowE k t v)⟩
  have hc1 : (w.alloc (rowE k t v)).cell? ⟨be, 3, none⟩ = some (.pointer (some ⟨bj, 0, none⟩)) ∧ (w.alloc (rowE k t v)).cell? ⟨w.heap.size, 0, none⟩ = some (.int .i64 k) ∧ (w.alloc (rowE k t v)).cell? ⟨w.heap.size, 1, none⟩ = some (.int .i64 t) ∧ (w.alloc (rowE k t v)).cell? ⟨w.heap.size, 2, none⟩ = some (.int .i64 v) := ⟨((Go.Joins.below_alloc1 w (rowE k t v)).cell (p := ⟨be, 3, none⟩) hlt).trans hc0.2.2.2.1, rowE_cells (heap_alloc_new w (rowE k t v))⟩
  clear hc0
  go_region_held3 (fun W => W.cell? ⟨be, 3, none⟩ = some (.pointer (some ⟨bj, 0, none⟩)) ∧ W.cell? ⟨w.heap.size, 0, none⟩ = some (.int .i64 k) ∧ W.cell? ⟨w.heap.size, 1, none⟩ = some (.int .i64 t) ∧ W.cell? ⟨w.heap.size, 2, none⟩ = some (.int .i64 v)) (first | exact hc1 | exact hc2 | fail) (first
    | (go_at_call 45; refine (HJ.out _ B1.out.1 B1.out.2).mono ?_; rintro e w1 ⟨rfl, hc2, h1⟩)
    | fail)
  clear hc1 hc2 B1 HJ
  go_wp2_with (first
    | (go_at_call 46; refine (tell_err _ _ h1.out.1).mono ?_; rintro e w2 ⟨rfl, hb2⟩; have E2 : Hid (EngIn w2 be bj bm v0 v1 f0 f1 om Sg x' L Lg ∧ Turned (footE bj bm v0 v1 om Sg) w w2) := ⟨h1.out.2.1.below hb2, h1.out.2.2.trans (Turned.of_below (S := fun _ => False) hb2) (fun _ _ e => e.elim)⟩; clear hb2)
    | fail)
  have hc4 : w2.cell? ⟨be, 5, none⟩ = some (.int .i64 f1) ∧ w2.frozen? ⟨be, 5, none⟩ = false ∧ be < w2.heap.size := by
    have hc := E2.out.1.cells
    exact ⟨hc.2.2.2.2.2.1, hc.2.2.2.2.2.2.2, E2.out.1.blt⟩
  go_region
  rw [HM.out]
  have Z := HZ.out w2 E2.out.1 E2.out.2
  have Z2 : Hid (EngIn (w2.setCell ⟨be, 5, none⟩ (.int .i64 (satI f1))).drew be bj bm v0 v1 f0 (satI f1) om Sg x' L Lg ∧ Turned (footE bj bm v0 v1 om Sg) w (w2.setCell ⟨be, 5, none⟩ (.int .i64 (satI f1))).drew) := Z
  clear Z HZ E2 h1
  revert Z2
  generalize (w2.setCell ⟨be, 5, none⟩ (.int .i64 (satI f1))).drew = w3
  intro Z2
  go_wp2
  exact bodyPost_ret (v := .tuple #[.slice none 0 0, .iface 24 (.int .i64 10)]) (by simp [results, Tryz.results11, go_sem]) rfl ⟨rfl, Z2.out⟩
set_option maxHeartbeats 8000000 in
theorem efeed_full0 (be bj bm : Nat) (v0 v1 : Value) (f0 f1 : Int) (om : Option Nat) (Sg : Nat → Prop) (x : J) (L Lg : List O) (k t v : Int) (w : World) (hg0 : w.cell? ⟨2, 0, none⟩ = some errT) (h : EngIn w be bj bm v0 v1 f0 f1 om Sg x L Lg)
    (hJ : ∀ W, JoinAt W 0 bj bm v0 v1 x → Calls Tryz.prog 45 #[.pointer (some ⟨bj, 0, none⟩), .int .i64 0, .agg #[.int .i64 k, .int .i64 t, .int .i64 v]] W fun e w' => e = .returned (.tuple #[.slice none 0 0, .iface 24 (.int .i64 12)]) ∧ Below W.heap.size W w') :
    Calls Tryz.prog 11 #[.pointer (some ⟨be, 0, none⟩), .int .i64 0, .agg #[.int .i64 k, .int .i64 t, .int .i64 v]] w fun e w' => e = .returned (.tuple #[.slice none 0 0, .iface 24 (.int .i64 12)]) ∧ Below w.heap.size w w' := by
  have HJ : Hid (∀ W, Below w.heap.size w W → W.heap[w.heap.size]? = some (rowE k t v) → Calls Tryz.prog 45 #[.pointer (some ⟨bj, 0, none⟩), .int .i64 0, .agg #[.int .i64 k, .int .i64 t, .int .i64 v]] W fun e w' => e = .returned (.tuple #[.slice none 0 0, .iface 24 (.int .i64 12)]) ∧ (w'.cell? ⟨be, 3, none⟩ = some (.pointer (some ⟨bj, 0, none⟩)) ∧ w'.cell? ⟨w.heap.size, 0, none⟩ = some (.int .i64 k) ∧ w'.cell? ⟨w.heap.size, 1, none⟩ = some (.int .i64 t) ∧ w'.cell? ⟨w.heap.size, 2, none⟩ = some (.int .i64 v)) ∧ Hid (w'.cell? ⟨2, 0, none⟩ = some errT ∧ Below w.heap.size w w')) := by
    intro W hW hbx
    have hE := h.below hW
    refine (hJ W hE.join).mono ?_
    rintro e w' ⟨rfl, h3⟩
    have hB : Below w.heap.size w w' := hW.trans (h3.mono hW.size)
    have hE2 := h.below hB
    have hz : 2 < w.heap.size := World.block_lt_of_cell? _ _ hg0
    exact ⟨rfl, ⟨hE2.cells.2.2.2.1, rowE_cells ((h3.block _ (Array.getElem?_eq_some_iff.1 hbx).1).trans hbx)⟩, (hB.cell (p := ⟨2, 0, none⟩) hz).trans hg0, hB⟩
  have hc0 := h.cells
  have hlt := h.blt
  have hq := ne_err55 12
  clear h hJ hg0
  go_enter Tryz.func11, Tryz.ntmps11
  go_wp2
  have B1 : Hid (Below w.heap.size w (w.alloc (rowE k t v)).drew ∧ (w.alloc (rowE k t v)).drew.heap[w.heap.size]? = some (rowE k t v)) := ⟨(Go.Joins.below_alloc1 _ _).drew, heap_alloc_new w (rowE k t v)⟩
  have hc1 : (w.alloc (rowE k t v)).cell? ⟨be, 3, none⟩ = some (.pointer (some ⟨bj, 0, none⟩)) ∧ (w.alloc (rowE k t v)).cell? ⟨w.heap.size, 0, none⟩ = some (.int .i64 k) ∧ (w.alloc (rowE k t v)).cell? ⟨w.heap.size, 1, none⟩ = some (.int .i64 t) ∧ (w.alloc (rowE k t v)).cell? ⟨w.heap.size, 2, none⟩ = some (.int .i64 v) := ⟨((Go.Joins.below_alloc1 w (rowE k t v)).cell (p := ⟨be, 3, none⟩) hlt).trans hc0.2.2.2.1, rowE_cells (heap_alloc_new w (rowE k t v))⟩
  clear hc0
  go_region_held3 (fun W => W.cell? ⟨be, 3, none⟩ = some (.pointer (some ⟨bj, 0, none⟩)) ∧ W.cell? ⟨w.heap.size, 0, none⟩ = some (.int .i64 k) ∧ W.cell? ⟨w.heap.size, 1, none⟩ = some (.int .i64 t) ∧ W.cell? ⟨w.heap.size, 2, none⟩ = some (.int .i64 v)) (first | exact hc1 | exact hc2 | fail) (first
    | (go_at_call 45; refine (HJ.out _ B1.out.1 B1.out.2).mono ?_; rintro e w1 ⟨rfl, hc2, h1⟩)
    | fail)
  clear hc1 hc2 B1 HJ
  go_wp2_with (first
    | (go_at_call 46; refine (tell_err _ _ h1.out.1).mono ?_; rintro e w2 ⟨rfl, hb2⟩; have E2 : Hid (Below w.heap.size w w2) := h1.out.2.trans (hb2.mono h1.out.2.size); clear hb2)
    | fail)
  exact bodyPost_ret (v := .tuple #[.slice none 0 0, .iface 24 (.int .i64 12)]) (by simp [results, Tryz.results11, go_sem]) rfl ⟨rfl, E2.out⟩
set_option maxHeartbeats 8000000 in
theorem efeed_full1 (be bj bm : Nat) (v0 v1 : Value) (f0 f1 : Int) (om : Option Nat) (Sg : Nat → Prop) (x : J) (L Lg : List O) (k t v : Int) (w : World) (hg0 : w.cell? ⟨2, 0, none⟩ = some errT) (h : EngIn w be bj bm v0 v1 f0 f1 om Sg x L Lg)
    (hJ : ∀ W, JoinAt W 0 bj bm v0 v1 x → Calls Tryz.prog 45 #[.pointer (some ⟨bj, 0, none⟩), .int .i64 1, .agg #[.int .i64 k, .int .i64 t, .int .i64 v]] W fun e w' => e = .returned (.tuple #[.slice none 0 0, .iface 24 (.int .i64 12)]) ∧ Below W.heap.size W w') :
    Calls Tryz.prog 11 #[.pointer (some ⟨be, 0, none⟩), .int .i64 1, .agg #[.int .i64 k, .int .i64 t, .int .i64 v]] w fun e w' => e = .returned (.tuple #[.slice none 0 0, .iface 24 (.int .i64 12)]) ∧ Below w.heap.size w w' := by
  have HJ : Hid (∀ W, Below w.heap.size w W → W.heap[w.heap.size]? = some (rowE k t v) → Calls Tryz.prog 45 #[.pointer (some ⟨bj, 0, none⟩), .int .i64 1, .agg #[.int .i64 k, .int .i64 t, .int .i64 v]] W fun e w' => e = .returned (.tuple #[.slice none 0 0, .iface 24 (.int .i64 12)]) ∧ (w'.cell? ⟨be, 3, none⟩ = some (.pointer (some ⟨bj, 0, none⟩)) ∧ w'.cell? ⟨w.heap.size, 0, none⟩ = some (.int .i64 k) ∧ w'.cell? ⟨w.heap.size, 1, none⟩ = some (.int .i64 t) ∧ w'.cell? ⟨w.heap.size, 2, none⟩ = some (.int .i64 v)) ∧ Hid (w'.cell? ⟨2, 0, none⟩ = some errT ∧ Below w.heap.size w w')) := by
    intro W hW hbx
    have hE := h.below hW
    refine (hJ W hE.join).mono ?_
    rintro e w' ⟨rfl, h3⟩
    have hB : Below w.heap.size w w' := hW.trans (h3.mono hW.size)
    have hE2 := h.below hB
    have hz : 2 < w.heap.size := World.block_lt_of_cell? _ _ hg0
    exact ⟨rfl, ⟨hE2.cells.2.2.2.1, rowE_cells ((h3.block _ (Array.getElem?_eq_some_iff.1 hbx).1).trans hbx)⟩, (hB.cell (p := ⟨2, 0, none⟩) hz).trans hg0, hB⟩
  have hc0 := h.cells
  have hlt := h.blt
  have hq := ne_err55 12
  clear h hJ hg0
  go_enter Tryz.func11, Tryz.ntmps11
  go_wp2
  have B1 : Hid (Below w.heap.size w (w.alloc (rowE k t v)).drew ∧ (w.alloc (rowE k t v)).drew.heap[w.heap.size]? = some (rowE k t v)) := ⟨(Go.Joins.below_alloc1 _ _).drew, heap_alloc_new w (rowE k t v)⟩
  have hc1 : (w.alloc (rowE k t v)).cell? ⟨be, 3, none⟩ = some (.pointer (some ⟨bj, 0, none⟩)) ∧ (w.alloc (rowE k t v)).cell? ⟨w.heap.size, 0, none⟩ = some (.int .i64 k) ∧ (w.alloc (rowE k t v)).cell? ⟨w.heap.size, 1, none⟩ = some (.int .i64 t) ∧ (w.alloc (rowE k t v)).cell? ⟨w.heap.size, 2, none⟩ = some (.int .i64 v) := ⟨((Go.Joins.below_alloc1 w (rowE k t v)).cell (p := ⟨be, 3, none⟩) hlt).trans hc0.2.2.2.1, rowE_cells (heap_alloc_new w (rowE k t v))⟩
  clear hc0
  go_region_held3 (fun W => W.cell? ⟨be, 3, none⟩ = some (.pointer (some ⟨bj, 0, none⟩)) ∧ W.cell? ⟨w.heap.size, 0, none⟩ = some (.int .i64 k) ∧ W.cell? ⟨w.heap.size, 1, none⟩ = some (.int .i64 t) ∧ W.cell? ⟨w.heap.size, 2, none⟩ = some (.int .i64 v)) (first | exact hc1 | exact hc2 | fail) (first
    | (go_at_call 45; refine (HJ.out _ B1.out.1 B1.out.2).mono ?_; rintro e w1 ⟨rfl, hc2, h1⟩)
    | fail)
  clear hc1 hc2 B1 HJ
  go_wp2_with (first
    | (go_at_call 46; refine (tell_err _ _ h1.out.1).mono ?_; rintro e w2 ⟨rfl, hb2⟩; have E2 : Hid (Below w.heap.size w w2) := h1.out.2.trans (hb2.mono h1.out.2.size); clear hb2)
    | fail)
  exact bodyPost_ret (v := .tuple #[.slice none 0 0, .iface 24 (.int .i64 12)]) (by simp [results, Tryz.results11, go_sem]) rfl ⟨rfl, E2.out⟩
set_option maxHeartbeats 2000000 in
theorem emove_any (be bj bm : Nat) (v0 v1 : Value) (f0 f1 : Int) (om : Option Nat) (Sg : Nat → Prop) (x x' : J) (L Lg : List O) (s t : Int) (w : World) (h : EngIn w be bj bm v0 v1 f0 f1 om Sg x L Lg)
    (hx : x'.lo = x.lo ∧ x'.hi = x.hi ∧ x'.mode = x.mode)
    (hJ : ∀ W, JoinAt W 0 bj bm v0 v1 x → Calls Tryz.prog 51 #[.pointer (some ⟨bj, 0, none⟩), .int .i64 s, .int .i64 t] W fun e w' => e = .returned .nilIface ∧ ∃ v0' v1', JoinAt w' 0 bj bm v0' v1' x' ∧ Turned (footJ bj bm v0 v1) W w' ∧ v0'.ownBlock = v0.ownBlock ∧ v1'.ownBlock = v1.ownBlock) :
    Calls Tryz.prog 15 #[.pointer (some ⟨be, 0, none⟩), .int .i64 s, .int .i64 t] w fun e w' => e = .returned .nilIface ∧ ∃ v0' v1', EngIn w' be bj bm v0' v1' f0 f1 om Sg x' L Lg ∧ Turned (footE bj bm v0 v1 om Sg) w w' ∧ v0'.ownBlock = v0.ownBlock ∧ v1'.ownBlock = v1.ownBlock := by
  have HJ : Hid (∀ W, Below w.heap.size w W → Calls Tryz.prog 51 #[.pointer (some ⟨bj, 0, none⟩), .int .i64 s, .int .i64 t] W fun e w' => e = .returned .nilIface ∧ w'.cell? ⟨be, 3, none⟩ = some (.pointer (some ⟨bj, 0, none⟩)) ∧ Hid (∃ v0' v1', EngIn w' be bj bm v0' v1' f0 f1 om Sg x' L Lg ∧ Turned (footE bj bm v0 v1 om Sg) w w' ∧ v0'.ownBlock = v0.ownBlock ∧ v1'.ownBlock = v1.ownBlock)) := by
    intro W hW
    have hE := h.below hW
    refine (hJ W hE.join).mono ?_
    rintro e w' ⟨rfl, v0', v1', h1, h2, h3, h4⟩
    have hE2 := hE.joined h1 hx h2 (footJ_new (.inl h3) (.inl h4))
    exact ⟨rfl, hE2.cells.2.2.2.1, v0', v1', hE2, (Turned.of_below (S := footE bj bm v0 v1 om Sg) hW).trans h2 (fun _ _ e => .inl e), h3, h4⟩
  have hc0 := h.cells.2.2.2.1
  have hlt := h.blt
  clear h hJ hx
  have B0 : Hid (Below w.heap.size w w ∧ Below w.heap.size w w.drew) := ⟨Below.refl _ _, (Below.refl _ _).drew⟩
  go_enter Tryz.func15, Tryz.ntmps15
  go_wp2_with (first
    | (go_at_call 51; refine (HJ.out _ (by first | exact B0.out.1 | exact B0.out.2)).mono ?_; rintro e w1 ⟨rfl, hc1, h1⟩)
    | fail)
  go_ret
  exact ⟨rfl, h1.out⟩
end Go.Proofs.YthfpipieboophaaGreatDoor
