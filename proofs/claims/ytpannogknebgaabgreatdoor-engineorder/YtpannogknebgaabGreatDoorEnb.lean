/- An engine: a change is laid upon its view, and upon its groups. -/
import Derived.Test.YtpannogknebgaabGreatDoorEna
namespace Go.Proofs.YtpannogknebgaabGreatDoor
open Go.RowKit Go.Sort
set_option maxRecDepth 100000

/-- A change in a block of its own. -/
abbrev boxE (o : O) (g : Bool) : Obj := .cells #[.int .i64 o.k, .int .i64 o.lk, .int .i64 o.lt, .int .i64 o.lv, .int .i64 o.rk, .int .i64 o.rt, .int .i64 o.rv, .bool o.hl, .bool o.hr, .bool g] 66
theorem boxE_cells {W : World} {b : Nat} {o : O} {g : Bool} (h : W.heap[b]? = some (boxE o g)) : W.cell? ⟨b, 0, none⟩ = some (.int .i64 o.k) ∧ W.cell? ⟨b, 1, none⟩ = some (.int .i64 o.lk) ∧ W.cell? ⟨b, 2, none⟩ = some (.int .i64 o.lt) ∧ W.cell? ⟨b, 3, none⟩ = some (.int .i64 o.lv) ∧ W.cell? ⟨b, 4, none⟩ = some (.int .i64 o.rk) ∧ W.cell? ⟨b, 5, none⟩ = some (.int .i64 o.rt) ∧ W.cell? ⟨b, 6, none⟩ = some (.int .i64 o.rv) ∧ W.cell? ⟨b, 7, none⟩ = some (.bool o.hl) ∧ W.cell? ⟨b, 8, none⟩ = some (.bool o.hr) ∧ W.cell? ⟨b, 9, none⟩ = some (.bool g) := by
  refine ⟨?_, ?_, ?_, ?_, ?_, ?_, ?_, ?_, ?_, ?_⟩ <;> (rw [Go.Joins.cell_of_block h]; rfl)

set_option maxHeartbeats 1000000 in
theorem eapply_any (be bj bm : Nat) (v0 v1 : Value) (f0 f1 : Int) (om : Option Nat) (Sg : Nat → Prop) (x : J) (L L' : List O) (o : O) (g : Bool) (w : World) (h : EngIn w be bj bm v0 v1 f0 f1 om Sg x L L)
    (hB : ∀ W, EngIn W be bj bm v0 v1 f0 f1 om Sg x L L → Calls Tryz.prog 82 #[.pointer (some ⟨be, 6, none⟩), vC o g] W fun e w' => (∃ r, e = .returned r) ∧ ∃ om' m', BagAt w' be 6 om' m' L' ∧ Keep be 6 om W w' ∧ Moves W om om')
    (hG : ∀ W om', EngIn W be bj bm v0 v1 f0 f1 om' Sg x L' L → Calls Tryz.prog 18 #[.pointer (some ⟨be, 8, none⟩), vC o g] W fun e w' => (∃ r, e = .returned r) ∧ ∃ m', Grp w' be 8 m' (More Sg W w') (absG L') ∧ Turn Sg be 8 W w') :
    Calls Tryz.prog 50 #[.pointer (some ⟨be, 0, none⟩), vC o g] w fun e w' => e = .returned (.tuple #[]) ∧ ∃ om' Sg', EngIn w' be bj bm v0 v1 f0 f1 om' Sg' x L' L' ∧ (∀ k, om' = some k → om = some k ∨ w.heap.size ≤ k) ∧ (∀ k, Sg' k → Sg k ∨ w.heap.size ≤ k) ∧ Turned (fun k => k = be ∨ om = some k ∨ Sg k) w w' := by
  have H1 : Hid (∀ W, Below w.heap.size w W → W.heap[w.heap.size]? = some (boxE o g) → Calls Tryz.prog 82 #[.pointer (some ⟨be, 6, none⟩), vC o g] W fun e w' => (∃ r, e = .returned r) ∧ w'.heap[w.heap.size]? = some (boxE o g) ∧ Hid (∃ om', EngIn w' be bj bm v0 v1 f0 f1 om' Sg x L' L ∧ (∀ k, om' = some k → om = some k ∨ w.heap.size ≤ k) ∧ Turned (fun k => k = be ∨ om = some k) w w')) := by
    intro W hW hbx
    have hE := h.below hW
    have hlt := h.blt
    refine (hB W hE).mono ?_
    rintro e w' ⟨hr, om', m', h1, h2, h3⟩
    refine ⟨hr, (h2.block _ (Array.getElem?_eq_some_iff.1 hbx).1 (by omega) (fun e => by have := (h.bag.ne e).2; omega)).trans hbx, om', hE.bagged h1 h2 h3, fun k e => ?_, (Turned.of_below (S := fun k => k = be ∨ om = some k) hW).trans (S' := fun k => k = be ∨ om = some k) ⟨h2.os, h2.tape, h2.output, h2.size, fun k hk hn => h2.block k hk (fun e => hn (.inl e)) (fun e => hn (.inr e))⟩ (fun _ _ e => e)⟩
    rcases h3 with rfl | ⟨j, rfl, hj⟩
    · exact .inl e
    · cases e
      exact .inr (Nat.le_trans hW.size hj)
  have H2 : Hid (∀ w1 W, Hid (∃ om', EngIn w1 be bj bm v0 v1 f0 f1 om' Sg x L' L ∧ (∀ k, om' = some k → om = some k ∨ w.heap.size ≤ k) ∧ Turned (fun k => k = be ∨ om = some k) w w1) → w1.heap[w.heap.size]? = some (boxE o g) → Below w1.heap.size w1 W → Calls Tryz.prog 18 #[.pointer (some ⟨be, 8, none⟩), vC o g] W fun e w' => (∃ r, e = .returned r) ∧ w'.heap[w.heap.size]? = some (boxE o g) ∧ Hid (∃ om' Sg', EngIn w' be bj bm v0 v1 f0 f1 om' Sg' x L' L' ∧ (∀ k, om' = some k → om = some k ∨ w.heap.size ≤ k) ∧ (∀ k, Sg' k → Sg k ∨ w.heap.size ≤ k) ∧ Turned (fun k => k = be ∨ om = some k ∨ Sg k) w w')) := by
    rintro w1 W ⟨om', h1, h2, h3⟩ hbx hW
    have hbx2 := (hW.block _ (Array.getElem?_eq_some_iff.1 hbx).1).trans hbx
    have hE := h1.below hW
    refine (hG W om' hE).mono ?_
    rintro e w' ⟨hr, m', g1, g2⟩
    refine ⟨hr, (g2.block _ (Array.getElem?_eq_some_iff.1 hbx2).1 (fun e => by have := h.grp.lt e; omega)).trans hbx2, om', _, hE.grouped g1 g2, h2, fun k e => ?_, ?_⟩
    · rcases e with e | e
      · exact .inl e
      · exact .inr (Nat.le_trans h3.size (Nat.le_trans hW.size e.1))
    · refine ((h3.mono (S' := fun k => k = be ∨ om = some k ∨ Sg k) (fun k e => e.elim .inl (fun e => .inr (.inl e)))).trans (Turned.of_below (S := fun _ => False) hW) (fun _ _ e => e.elim)).trans (S' := Sg) ⟨g2.os, g2.tape, g2.output, g2.size, fun k hk hn => g2.block k hk hn⟩ (fun k _ e => .inr (.inr e))
  have hlt := h.blt
  clear h hB hG
  simp only [vC] at H1 H2 ⊢
  go_enter Tryz.func50, Tryz.ntmps50
  go_wp2
  have B1 : Hid (Below w.heap.size w (w.alloc (boxE o g)).drew ∧ (w.alloc (boxE o g)).drew.heap[w.heap.size]? = some (boxE o g)) := ⟨(Go.Joins.below_alloc1 _ _).drew, heap_alloc_new w (boxE o g)⟩
  have hc1 := boxE_cells (heap_alloc_new w (boxE o g))
  go_region_held3 (fun W => W.cell? ⟨w.heap.size, 0, none⟩ = some (.int .i64 o.k) ∧ W.cell? ⟨w.heap.size, 1, none⟩ = some (.int .i64 o.lk) ∧ W.cell? ⟨w.heap.size, 2, none⟩ = some (.int .i64 o.lt) ∧ W.cell? ⟨w.heap.size, 3, none⟩ = some (.int .i64 o.lv) ∧ W.cell? ⟨w.heap.size, 4, none⟩ = some (.int .i64 o.rk) ∧ W.cell? ⟨w.heap.size, 5, none⟩ = some (.int .i64 o.rt) ∧ W.cell? ⟨w.heap.size, 6, none⟩ = some (.int .i64 o.rv) ∧ W.cell? ⟨w.heap.size, 7, none⟩ = some (.bool o.hl) ∧ W.cell? ⟨w.heap.size, 8, none⟩ = some (.bool o.hr) ∧ W.cell? ⟨w.heap.size, 9, none⟩ = some (.bool g)) (first | exact hc1 | exact boxE_cells hb1 | fail) (first
    | (go_at_call 82; refine (H1.out _ B1.out.1 B1.out.2).mono ?_; rintro e w1 ⟨⟨r1, rfl⟩, hb1, h1⟩)
    | fail)
  clear hc1
  have hc1 := boxE_cells hb1
  go_wp2
  have B2 : Hid (Below w1.heap.size w1 w1.drew) := (Below.refl _ _).drew
  go_region_held3 (fun W => W.cell? ⟨w.heap.size, 0, none⟩ = some (.int .i64 o.k) ∧ W.cell? ⟨w.heap.size, 1, none⟩ = some (.int .i64 o.lk) ∧ W.cell? ⟨w.heap.size, 2, none⟩ = some (.int .i64 o.lt) ∧ W.cell? ⟨w.heap.size, 3, none⟩ = some (.int .i64 o.lv) ∧ W.cell? ⟨w.heap.size, 4, none⟩ = some (.int .i64 o.rk) ∧ W.cell? ⟨w.heap.size, 5, none⟩ = some (.int .i64 o.rt) ∧ W.cell? ⟨w.heap.size, 6, none⟩ = some (.int .i64 o.rv) ∧ W.cell? ⟨w.heap.size, 7, none⟩ = some (.bool o.hl) ∧ W.cell? ⟨w.heap.size, 8, none⟩ = some (.bool o.hr) ∧ W.cell? ⟨w.heap.size, 9, none⟩ = some (.bool g)) (first | exact hc1 | exact hc2 | fail) (first
    | (go_at_call 18; refine (H2.out w1 _ h1 hb1 B2.out).mono ?_; rintro e w2 ⟨⟨r2, rfl⟩, hb2, h2⟩; have hc2 := boxE_cells hb2)
    | fail)
  go_wp2
  go_end0
  exact ⟨rfl, h2.out⟩

end Go.Proofs.YtpannogknebgaabGreatDoor
