/- A session in memory; its verbs. -/
import Derived.Test.YthfpipieboophaaGreatDoorDkg
namespace Go.Proofs.YthfpipieboophaaGreatDoor
open Go.RowKit Go.Sort Go.Shelf
set_option maxRecDepth 100000
structure Dk (w0 : World) (bs : Nat) (mv : Option Nat) (st : Sx) (be : Nat) (S P : Nat → Prop) (W : World) : Prop where
  blk : W.heap[bs]? = some (.cells #[.pointer (some ⟨be, 0, none⟩), .map mv] 225)
  eng : PE st be S W
  ns : ¬ S bs
  all : ∀ k, P k ↔ (S k ∨ k = bs)
  low : Below w0.heap.size w0 W
  ge : ∀ k, P k → w0.heap.size ≤ k
def Dsk (w0 : World) (bs : Nat) (mv : Option Nat) (st : Sx) (P : Nat → Prop) (W : World) : Prop := ∃ be S, Dk w0 bs mv st be S P W
abbrev DNext (w0 : World) (bs : Nat) (mv : Option Nat) (st : Sx) (P : Nat → Prop) (W w' : World) : Prop := ∃ P', Dsk w0 bs mv st P' w' ∧ Turned P W w' ∧ ∀ k, P' k → P k ∨ W.heap.size ≤ k
section
variable {w0 : World} {bs be : Nat} {mv : Option Nat} {st st' : Sx} {S S' P : Nat → Prop} {W W' w' : World}
theorem Dk.lt (h : Dk w0 bs mv st be S P W) : bs < W.heap.size := (Array.getElem?_eq_some_iff.1 h.blk).1
theorem Dk.plt (h : Dk w0 bs mv st be S P W) : ∀ k, P k → k < W.heap.size := fun k hk => by
  rcases (h.all k).1 hk with g | g
  · exact pe_foot h.eng k g
  · rw [g]; exact h.lt
theorem Dk.cell (h : Dk w0 bs mv st be S P W) : W.cell? ⟨bs, 0, none⟩ = some (.pointer (some ⟨be, 0, none⟩)) ∧ W.cell? ⟨bs, 1, none⟩ = some (.map mv) ∧ W.frozen? ⟨bs, 0, none⟩ = false := by
  refine ⟨?_, ?_, Go.Joins.unfrozen_of_block h.blk 0⟩ <;> (rw [Go.Joins.cell_of_block h.blk]; rfl)
theorem Dk.still (h : Dk w0 bs mv st be S P W) (hs : W.heap.size ≤ W'.heap.size) (hk : ∀ k, P k → W'.heap[k]? = W.heap[k]?) (hl : Below w0.heap.size w0 W') : Dk w0 bs mv st be S P W' :=
  ⟨(hk bs ((h.all bs).2 (.inr rfl))).trans h.blk, pe_steady st be S W W' h.eng hs (fun k e => hk k ((h.all k).2 (.inl e))), h.ns, h.all, hl, h.ge⟩
theorem Dk.below (h : Dk w0 bs mv st be S P W) (hb : Below W.heap.size W W') : Dk w0 bs mv st be S P W' :=
  h.still hb.size (fun k e => hb.block k (h.plt k e)) (h.low.trans (hb.mono h.low.size))
theorem low_turned {a b : World} (hl : Below w0.heap.size w0 a) (ht : Turned P a b) (hp : ∀ k, P k → w0.heap.size ≤ k) : Below w0.heap.size w0 b :=
  ⟨ht.os.trans hl.os, ht.tape.trans hl.tape, ht.output.trans hl.output, Nat.le_trans hl.size ht.size, fun k hk => (ht.block k (Nat.lt_of_lt_of_le hk hl.size) (fun e => by have := hp k e; omega)).trans (hl.block k hk)⟩
theorem Dk.same (h : Dk w0 bs mv st be S P W) (hb : Below W.heap.size W w') : DNext w0 bs mv st P W w' := ⟨P, ⟨be, S, h.below hb⟩, Turned.of_below hb, fun _ e => .inl e⟩
theorem Dk.goes (h : Dk w0 bs mv st be S P W) (hE : PE st' be S' w') (hF : FootTo S S' W w') : Dk w0 bs mv st' be S' (fun k => S' k ∨ k = bs) w' ∧ Turned P W w' ∧ ∀ k, (S' k ∨ k = bs) → P k ∨ W.heap.size ≤ k := by
  have hT : Turned P W w' := hF.2.mono (fun k e => (h.all k).2 (.inl e))
  refine ⟨⟨(hF.2.block bs h.lt h.ns).trans h.blk, hE, fun e => ?_, fun _ => Iff.rfl, low_turned h.low hT h.ge, fun k e => ?_⟩, hT, fun k e => ?_⟩
  · rcases (hF.1 bs e).1 with g | g
    · exact h.ns g
    · have := h.lt; omega
  · rcases e with e | e
    · rcases (hF.1 k e).1 with g | g
      · exact h.ge k ((h.all k).2 (.inl g))
      · have := h.low.size; omega
    · exact h.ge k ((h.all k).2 (.inr e))
  · rcases e with e | e
    · exact (hF.1 k e).1.imp (fun g => (h.all k).2 (.inl g)) id
    · exact .inl ((h.all k).2 (.inr e))
theorem DNext.go {P' : Nat → Prop} (h : Dk w0 bs mv st' be S' P' W') (hT : Turned P W W') (hp : ∀ k, P' k → P k ∨ W.heap.size ≤ k) (hb : Below W'.heap.size W' w') : DNext w0 bs mv st' P W w' :=
  ⟨P', ⟨be, S', h.below hb⟩, hT.trans (Turned.of_below (S := fun _ => False) hb) (fun _ _ e => e.elim), hp⟩
theorem Dk.taken (h : Dk w0 bs mv st be S P W) {be' : Nat} (hb : Below W.heap.size W W') (hE : PE st' be' S' W') (hS : ∀ k, S' k → W.heap.size ≤ k) : DNext w0 bs mv st' P W (W'.setCell ⟨bs, 0, none⟩ (.pointer (some ⟨be', 0, none⟩))) := by
  have h1 := h.below hb
  have hns : ¬ S' bs := fun e => by have := hS bs e; have := h.lt; omega
  have hse : ∀ k, k ≠ bs → (W'.setCell ⟨bs, 0, none⟩ (.pointer (some ⟨be', 0, none⟩))).heap[k]? = W'.heap[k]? := fun k e => Below.heap_setCell _ _ _ _ e
  have hT : Turned P W (W'.setCell ⟨bs, 0, none⟩ (.pointer (some ⟨be', 0, none⟩))) := (Turned.of_below (S := P) hb).trans (turned_cell (b := bs) (o := 0)) (fun k _ e => (h.all k).2 (.inr e))
  refine ⟨fun k => S' k ∨ k = bs, ⟨be', S', ?_, pe_steady st' be' S' W' _ hE (by simp) (fun k e => hse k (fun e2 => hns (e2 ▸ e))), hns, fun _ => Iff.rfl, low_turned h.low hT h.ge, fun k e => ?_⟩, hT, fun k e => ?_⟩
  · rw [Go.Joins.block_setCell h1.blk]; rfl
  · rcases e with e | e
    · have := hS k e; have := h.low.size; omega
    · exact h.ge k ((h.all k).2 (.inr e))
  · rcases e with e | e
    · exact .inr (hS k e)
    · exact .inl ((h.all k).2 (.inr e))
end
def outc (c : Int) (t : List UInt8) : Ending := if c = 0 then .returned (sV t) else thrown c
theorem three_nums {W : World} {g : Nat} {a b c : Int} (h : W.heap[g]? = some (.cells ([a, b, c].map (Value.int .i64)).toArray 3)) : W.cell? ⟨g, 0, none⟩ = some (.int .i64 a) ∧ W.cell? ⟨g, 1, none⟩ = some (.int .i64 b) ∧ W.cell? ⟨g, 2, none⟩ = some (.int .i64 c) := by
  refine ⟨?_, ?_, ?_⟩ <;> (rw [Go.Joins.cell_of_block h]; rfl)
set_option maxHeartbeats 4000000 in
theorem v_plan {w0 : World} {bs be : Nat} {mv : Option Nat} {st : Sx} {S P : Nat → Prop} {W : World} (h : Dk w0 bs mv st be S P W) (a b m : Int) (g : Nat) (hg : W.heap[g]? = some (.cells ([a, b, m].map (Value.int .i64)).toArray 3)) :
    Calls Tryz.prog 132 #[.pointer (some ⟨bs, 0, none⟩), .slice (some ⟨g, 0, none⟩) 3 3] W fun e w' => e = outc (planC a b m) [112, 108, 97, 110] ∧ DNext w0 bs mv (if planC a b m = 0 then Sx.new a b m else st) P W w' := by
  have hgl := (Array.getElem?_eq_some_iff.1 hg).1
  have c1 := three_nums hg
  have hlt := h.lt
  by_cases hp : planOk a b m
  · rw [planC_ok hp]
    have HN : Hid (∀ V, Below W.heap.size W V → Calls Tryz.prog 13 #[.agg #[.int .i64 a, .int .i64 b, .int .i64 m]] V fun e w' => ∃ be', e = .returned (.tuple #[.pointer (some ⟨be', 0, none⟩), .nilIface]) ∧ (w'.cell? ⟨g, 0, none⟩ = some (.int .i64 a) ∧ w'.cell? ⟨g, 1, none⟩ = some (.int .i64 b) ∧ w'.cell? ⟨g, 2, none⟩ = some (.int .i64 m)) ∧ (w'.cell? ⟨bs, 0, none⟩ = some (.pointer (some ⟨be, 0, none⟩)) ∧ w'.frozen? ⟨bs, 0, none⟩ = false ∧ bs < w'.heap.size) ∧ Hid (DNext w0 bs mv (Sx.new a b m) P W (w'.setCell ⟨bs, 0, none⟩ (.pointer (some ⟨be', 0, none⟩))))) := by
      intro V hV
      refine (pe_new a b m V hp).mono ?_
      rintro e w' ⟨be', S', rfl, h1, h2, h3⟩
      have hb : Below W.heap.size W w' := hV.trans (h3.mono hV.size)
      have h4 := h.below hb
      exact ⟨be', rfl, three_nums ((hb.block g hgl).trans hg), ⟨h4.cell.1, h4.cell.2.2, h4.lt⟩, h.taken hb h1 (fun k e => Nat.le_trans hV.size (h2 k e).1)⟩
    have B1 : Hid (Below W.heap.size W W.drew) := (Below.refl _ _).drew
    clear h hp hg
    go_enter Tryz.func132, Tryz.ntmps132
    go_wp2
    go_region_held3 (fun V => V.cell? ⟨g, 0, none⟩ = some (.int .i64 a) ∧ V.cell? ⟨g, 1, none⟩ = some (.int .i64 b) ∧ V.cell? ⟨g, 2, none⟩ = some (.int .i64 m)) (first | exact c1 | exact c2 | fail) (first
      | (go_at_call 13; refine (HN.out _ B1.out).mono ?_; rintro e w2 ⟨be', rfl, c2, c3, h2⟩)
      | fail)
    clear HN c1 c2
    go_wp2_with (first
      | (go_at_call 213; refine (check_nil _).mono ?_; rintro e w3 ⟨rfl, hw⟩; have hw := hw.symm; subst hw)
      | fail)
    go_ret
    exact ⟨rfl, h2.out⟩
  · have hz : planC a b m ≠ 0 := fun e => hp (planC_zero e)
    rw [if_neg hz]
    unfold outc
    rw [if_neg hz]
    have HN : Hid (∀ V, Below W.heap.size W V → Calls Tryz.prog 13 #[.agg #[.int .i64 a, .int .i64 b, .int .i64 m]] V fun e w' => e = .returned (.tuple #[.pointer none, .iface 24 (.int .i64 (planC a b m))]) ∧ (w'.cell? ⟨g, 0, none⟩ = some (.int .i64 a) ∧ w'.cell? ⟨g, 1, none⟩ = some (.int .i64 b) ∧ w'.cell? ⟨g, 2, none⟩ = some (.int .i64 m)) ∧ Hid (DNext w0 bs mv st P W w')) := by
      intro V hV
      refine (enew_code a b m V hp).mono ?_
      rintro e w' ⟨rfl, h3⟩
      have hb : Below W.heap.size W w' := hV.trans (h3.mono hV.size)
      exact ⟨rfl, three_nums ((hb.block g hgl).trans hg), h.same hb⟩
    have B1 : Hid (Below W.heap.size W W.drew) := (Below.refl _ _).drew
    clear h hp hg hz
    generalize planC a b m = c at *
    go_enter Tryz.func132, Tryz.ntmps132
    go_wp2
    go_region_held3 (fun V => V.cell? ⟨g, 0, none⟩ = some (.int .i64 a) ∧ V.cell? ⟨g, 1, none⟩ = some (.int .i64 b) ∧ V.cell? ⟨g, 2, none⟩ = some (.int .i64 m)) (first | exact c1 | exact c2 | fail) (first
      | (go_at_call 13; refine (HN.out _ B1.out).mono ?_; rintro e w2 ⟨rfl, c2, h2⟩)
      | fail)
    clear HN c1 c2
    go_wp2_with (first
      | (go_at_call 213; refine (check_err _ _).mono ?_; rintro e w3 ⟨rfl, hw⟩; have hw := hw.symm; subst hw)
      | fail)
    exact ⟨rfl, rfl, h2.out⟩
end Go.Proofs.YthfpipieboophaaGreatDoor
