/- A session under way: the desk's session, and the builder that holds the answers. -/
import Derived.Test.YthfpipieboophaaGreatDoorDkrz
import Derived.Test.YthfpipieboophaaGreatDoorDkt
import Derived.Test.YthfpipieboophaaGreatDoorDku
namespace Go.Proofs.YthfpipieboophaaGreatDoor
open Go.RowKit Go.Sort Go.Shelf
set_option maxRecDepth 100000
def FTo (F F' : Nat → Prop) (W w' : World) : Prop := Turned F W w' ∧ ∀ k, F' k → F k ∨ W.heap.size ≤ k
theorem FTo.trans {F F' F'' : Nat → Prop} {a b c : World} (h : FTo F F' a b) (h2 : FTo F' F'' b c) : FTo F F'' a c := by
  have hz := h.1.size
  refine ⟨h.1.trans h2.1 (fun k hk e => (h.2 k e).elim id (fun g => by omega)), fun k e => ?_⟩
  rcases h2.2 k e with g | g
  · exact h.2 k g
  · exact .inr (by omega)
structure Se (w0 : World) (bs bm bx bb : Nat) (st : Sx) (out : List UInt8) (be : Nat) (S P : Nat → Prop) (og : Option Nat) (F : Nat → Prop) (W : World) : Prop where
  dk : Dk w0 bs (some bm) st be S P W
  vm : VMap W bs bm
  nm : ¬ P bm
  box : W.heap[bx]? = some (.cells #[.pointer (some ⟨bs, 0, none⟩)] 145)
  nx : ¬ P bx
  bo : Bo w0.heap.size bb (Lib.byteCells out) og W
  nb : ¬ P bb
  ng : ∀ k, og = some k → ¬ P k ∧ k ≠ bm ∧ k ≠ bx
  bbm : bb ≠ bm
  bbx : bb ≠ bx
  gm : w0.heap.size ≤ bm
  gx : w0.heap.size ≤ bx
  all : ∀ k, F k ↔ (P k ∨ k = bm ∨ k = bx ∨ k = bb ∨ og = some k)
def Ses (w0 : World) (bs bm bx bb : Nat) (st : Sx) (out : List UInt8) (F : Nat → Prop) (W : World) : Prop := ∃ be S P og, Se w0 bs bm bx bb st out be S P og F W
section
variable {w0 : World} {bs bm bx bb : Nat} {st st' : Sx} {out : List UInt8} {be : Nat} {S P : Nat → Prop} {og : Option Nat} {F : Nat → Prop} {W W' w' : World}
theorem Se.flt (h : Se w0 bs bm bx bb st out be S P og F W) : ∀ k, F k → k < W.heap.size ∧ w0.heap.size ≤ k := fun k e => by
  rcases (h.all k).1 e with e | rfl | rfl | rfl | e
  · exact ⟨h.dk.plt k e, h.dk.ge k e⟩
  · exact ⟨h.vm.lt, h.gm⟩
  · exact ⟨(Array.getElem?_eq_some_iff.1 h.box).1, h.gx⟩
  · exact ⟨h.bo.lt.1, h.bo.ge⟩
  · exact ⟨(h.bo.lt.2 k e).2, (h.bo.lt.2 k e).1⟩
theorem Se.still (h : Se w0 bs bm bx bb st out be S P og F W) (hs : W.heap.size ≤ W'.heap.size) (hk : ∀ k, F k → W'.heap[k]? = W.heap[k]?) (hl : Below w0.heap.size w0 W') : Se w0 bs bm bx bb st out be S P og F W' :=
  ⟨h.dk.still hs (fun k e => hk k ((h.all k).2 (.inl e))) hl, h.vm.still (hk bm ((h.all bm).2 (.inr (.inl rfl)))), h.nm, (hk bx ((h.all bx).2 (.inr (.inr (.inl rfl))))).trans h.box, h.nx,
    h.bo.still (fun k e => hk k ((h.all k).2 (.inr (.inr (.inr e))))), h.nb, h.ng, h.bbm, h.bbx, h.gm, h.gx, h.all⟩
theorem Ses.still (h : Ses w0 bs bm bx bb st out F W) (hs : W.heap.size ≤ W'.heap.size) (hk : ∀ k, F k → W'.heap[k]? = W.heap[k]?) (hl : Below w0.heap.size w0 W') : Ses w0 bs bm bx bb st out F W' := by
  obtain ⟨be, S, P, og, h⟩ := h
  exact ⟨be, S, P, og, h.still hs hk hl⟩
theorem Ses.low (h : Ses w0 bs bm bx bb st out F W) : Below w0.heap.size w0 W := by
  obtain ⟨be, S, P, og, h⟩ := h
  exact h.dk.low
theorem Ses.flt (h : Ses w0 bs bm bx bb st out F W) : ∀ k, F k → k < W.heap.size ∧ w0.heap.size ≤ k := by
  obtain ⟨be, S, P, og, h⟩ := h
  exact h.flt
theorem Ses.box (h : Ses w0 bs bm bx bb st out F W) : W.cell? ⟨bx, 0, none⟩ = some (.pointer (some ⟨bs, 0, none⟩)) ∧ bx < W.heap.size := by
  obtain ⟨be, S, P, og, h⟩ := h
  exact ⟨by rw [Go.Joins.cell_of_block h.box]; rfl, (Array.getElem?_eq_some_iff.1 h.box).1⟩
theorem Se.answered (h : Se w0 bs bm bx bb st out be S P og F W) (hD : DNext w0 bs (some bm) st' P W w') : ∃ F', Ses w0 bs bm bx bb st' out F' w' ∧ FTo F F' W w' := by
  obtain ⟨P', ⟨be', S', hd⟩, hT, hP⟩ := hD
  have hz := hT.size
  have hn : ∀ k, k < W.heap.size → ¬ P k → ¬ P' k := fun k hk hp e => (hP k e).elim hp (fun g => by omega)
  have hkp : ∀ k, k < W.heap.size → ¬ P k → w'.heap[k]? = W.heap[k]? := fun k hk hp => hT.block k hk hp
  have l1 := h.vm.lt
  have l2 := (Array.getElem?_eq_some_iff.1 h.box).1
  have l3 := h.bo.lt
  refine ⟨fun k => P' k ∨ k = bm ∨ k = bx ∨ k = bb ∨ og = some k, ⟨be', S', P', og, hd, h.vm.still (hkp bm l1 h.nm), hn bm l1 h.nm, (hkp bx l2 h.nx).trans h.box, hn bx l2 h.nx, h.bo.still (fun k e => ?_), hn bb l3.1 h.nb, fun k e => ⟨hn k (l3.2 k e).2 (h.ng k e).1, (h.ng k e).2⟩, h.bbm, h.bbx, h.gm, h.gx, fun _ => Iff.rfl⟩, hT.mono (fun k e => (h.all k).2 (.inl e)), fun k e => ?_⟩
  · rcases e with rfl | e
    · exact hkp k l3.1 h.nb
    · exact hkp k (l3.2 k e).2 (h.ng k e).1
  · rcases e with e | e
    · exact (hP k e).imp (fun g => (h.all k).2 (.inl g)) id
    · exact .inl ((h.all k).2 (.inr e))
theorem Se.written (h : Se w0 bs bm bx bb st out be S P og F W) {out' : List UInt8} {og' : Option Nat} (hB : Bo w0.heap.size bb (Lib.byteCells out') og' w') (hT : Turned (fun k => k = bb ∨ og = some k) W w') (hg : ∀ k, og' = some k → og = some k ∨ W.heap.size ≤ k) : ∃ F', Ses w0 bs bm bx bb st out' F' w' ∧ FTo F F' W w' := by
  have hz := hT.size
  have l1 := h.vm.lt
  have l2 := (Array.getElem?_eq_some_iff.1 h.box).1
  have hkp : ∀ k, k < W.heap.size → k ≠ bb → (og ≠ some k) → w'.heap[k]? = W.heap[k]? := fun k hk h1 h2 => hT.block k hk (fun e => e.elim h1 h2)
  have hPk : ∀ k, P k → k ≠ bb ∧ og ≠ some k := fun k e => ⟨fun e2 => h.nb (e2 ▸ e), fun e2 => (h.ng k e2).1 e⟩
  have hT2 : Turned F W w' := hT.mono (fun k e => (h.all k).2 (.inr (.inr (.inr e))))
  refine ⟨fun k => P k ∨ k = bm ∨ k = bx ∨ k = bb ∨ og' = some k, ⟨be, S, P, og', h.dk.still hz (fun k e => hkp k (h.dk.plt k e) (hPk k e).1 (hPk k e).2) (low_turned h.dk.low hT2 (fun k e => (h.flt k e).2)), h.vm.still (hkp bm l1 (Ne.symm h.bbm) (fun e => (h.ng bm e).2.1 rfl)), h.nm, (hkp bx l2 (Ne.symm h.bbx) (fun e => (h.ng bx e).2.2 rfl)).trans h.box, h.nx, hB, h.nb, fun k e => ?_, h.bbm, h.bbx, h.gm, h.gx, fun _ => Iff.rfl⟩, hT2, fun k e => ?_⟩
  · rcases hg k e with g | g
    · exact h.ng k g
    · exact ⟨fun e2 => by have := h.dk.plt k e2; omega, by omega, by omega⟩
  · rcases e with e | e | e | e | e
    · exact .inl ((h.all k).2 (.inl e))
    · exact .inl ((h.all k).2 (.inr (.inl e)))
    · exact .inl ((h.all k).2 (.inr (.inr (.inl e))))
    · exact .inl ((h.all k).2 (.inr (.inr (.inr (.inl e)))))
    · exact (hg k e).imp (fun g => (h.all k).2 (.inr (.inr (.inr (.inr g))))) id
end
theorem ses_answer {w0 : World} {bs bm bx bb : Nat} {st : Sx} {out : List UInt8} {F : Nat → Prop} {W : World} (h : Ses w0 bs bm bx bb st out F W) (hG : GlobE w0) (line : List UInt8) (hl : line.length ≤ 1000000) {n : Nat} (hO : OkS n st) (hn : n ≤ 1600) :
    Calls Tryz.prog 79 #[.pointer (some ⟨bs, 0, none⟩), .string ⟨line.toArray⟩] W fun e w' => e = .returned (sV (sayOf st line).1) ∧ ∃ F', Ses w0 bs bm bx bb (sayOf st line).2 out F' w' ∧ FTo F F' W w' := by
  obtain ⟨be, S, P, og, h⟩ := h
  refine (answer_any h.dk h.vm hG line hl hO hn).mono ?_
  rintro e w' ⟨rfl, hD⟩
  exact ⟨rfl, h.answered hD⟩
theorem ses_write {w0 : World} {bs bm bx bb : Nat} {st : Sx} {out : List UInt8} {F : Nat → Prop} {W : World} (h : Ses w0 bs bm bx bb st out F W) (s : List UInt8) (hl : out.length + s.length ≤ 140737488355328) :
    Calls Tryz.prog 78 #[.pointer (some ⟨bb, 0, none⟩), .string ⟨s.toArray⟩] W fun e w' => e = .returned (.tuple #[.int .i64 s.length, .nilIface]) ∧ ∃ F', Ses w0 bs bm bx bb st (out ++ s) F' w' ∧ FTo F F' W w' := by
  obtain ⟨be, S, P, og, h⟩ := h
  refine (write_own w0.heap.size bb (Lib.byteCells out) og ⟨s.toArray⟩ W h.bo (by rw [Lib.byteCells_length]; simpa [ByteArray.size] using hl) h.dk.low.size).mono ?_
  rintro e w' ⟨rfl, og', hB, hT, hg⟩
  refine ⟨by simp [ByteArray.size], h.written (out' := out ++ s) ?_ hT hg⟩
  have hB2 : Bo w0.heap.size bb (Lib.byteCells out ++ Lib.byteCells s) og' w' := hB
  simpa [Lib.byteCells] using hB2
theorem ses_open {w w1 : World} {bs bm : Nat} {P : Nat → Prop} {st : Sx} (hD : Dsk w bs (some bm) st P w1) (hV : VMap w1 bs bm) (hn : ¬ P bm) (hm : w.heap.size ≤ bm) :
    ∃ F, Ses w bs bm w1.heap.size (w1.heap.size + 1) st [] F ((w1.alloc (.cells #[.pointer (some ⟨bs, 0, none⟩)] 145)).alloc (.cells #[.pointer none, .slice none 0 0] 126)) := by
  obtain ⟨be, S, hd⟩ := hD
  have l1 := hV.lt
  have hz := hd.low.size
  have hb : Below w1.heap.size w1 ((w1.alloc (.cells #[.pointer (some ⟨bs, 0, none⟩)] 145)).alloc (.cells #[.pointer none, .slice none 0 0] 126)) := Go.Joins.below_alloc2 _ _ _
  have hbo := Bo.made w.heap.size (w1.alloc (.cells #[.pointer (some ⟨bs, 0, none⟩)] 145)) (by simp; omega)
  rw [World.size_alloc] at hbo
  refine ⟨fun k => P k ∨ k = bm ∨ k = w1.heap.size ∨ k = w1.heap.size + 1 ∨ (none : Option Nat) = some k, be, S, P, none, hd.below hb, hV.still (hb.block _ l1), hn, (Below.heap_alloc _ _ _ (by simp)).trans (heap_alloc_new w1 _), fun e => ?_, hbo, fun e => ?_, fun k e => (by cases e), by omega, by omega, hm, hz, fun _ => Iff.rfl⟩
  · have := hd.plt _ e; omega
  · have := hd.plt _ e; omega
end Go.Proofs.YthfpipieboophaaGreatDoor
