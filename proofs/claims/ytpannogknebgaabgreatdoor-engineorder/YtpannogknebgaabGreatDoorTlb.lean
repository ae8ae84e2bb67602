/- A tale: what a row does to it (estuarykeep.tale.does, where it is taken), for every engine. -/
import Derived.Test.YtpannogknebgaabGreatDoorTla
namespace Go.Proofs.YtpannogknebgaabGreatDoor
open Go.RowKit Go.Sort
set_option maxRecDepth 100000

abbrev bits10 (c : Ch) : Array Value := #[.int .i64 c.x.k, .int .i64 c.x.lk, .int .i64 c.x.lt, .int .i64 c.x.lv, .int .i64 c.x.rk, .int .i64 c.x.rt, .int .i64 c.x.rv, .bool c.x.hl, .bool c.x.hr, .bool c.g]

/-- An engine of a footprint hangs on that footprint alone. -/
def Steady (Eng : (Nat → Prop) → World → Prop) : Prop := ∀ S W W', Eng S W → W.heap.size ≤ W'.heap.size → (∀ k, S k → W'.heap[k]? = W.heap[k]?) → Eng S W'

/-- Within the loop over what changes: i changes are laid. -/
structure Dl (Eng : (Nat → Prop) → World → Prop) (S S0 : Nat → Prop) (w : World) (base bt : Nat) (ve : Value) (lo hi mode a0 a1 : Int) (va vb : Value) (bf nF : Nat) (A B : List Rw) (F : List O) (C : List Ch) (B0 : Nat) (v9 : Value) (i : Nat) (wr : World) : Prop where
  tale : TaleAt wr base bt ve lo hi mode a0 a1 va vb bf (nF + i) A B (appC F (C.take i))
  eng : Eng S wr
  apart : ∀ k, S k → k < wr.heap.size ∧ k ≠ bt ∧ k ≠ bf ∧ va.ownBlock ≠ some k ∧ vb.ownBlock ≠ some k
  row : wr.ownsRow B0 66 10 v9 C.length (C.flatMap encC)
  turn : Turned S0 w wr

section
variable {Eng : (Nat → Prop) → World → Prop} {S S0 : Nat → Prop} {w : World} {base bt : Nat} {ve : Value} {lo hi mode a0 a1 : Int} {va vb : Value} {bf nF : Nat} {A B : List Rw} {F : List O} {C : List Ch} {B0 : Nat} {v9 : Value} {i : Nat} {wr : World}

theorem Dl.below (h : Dl Eng S S0 w base bt ve lo hi mode a0 a1 va vb bf nF A B F C B0 v9 i wr) (hst : Steady Eng) {W : World} (hb : Below wr.heap.size wr W) : Dl Eng S S0 w base bt ve lo hi mode a0 a1 va vb bf nF A B F C B0 v9 i W :=
  ⟨h.tale.below hb, hst S wr W h.eng hb.size (fun k hk => hb.block k (h.apart k hk).1), fun k hk => ⟨Nat.lt_of_lt_of_le (h.apart k hk).1 hb.size, (h.apart k hk).2⟩, kept_below h.row hb, h.turn.trans (Turned.of_below (S := fun _ => False) hb) (fun _ _ e => e.elim)⟩

/-- One change more: the fold alone is turned. -/
theorem Dl.step (h : Dl Eng S S0 w base bt ve lo hi mode a0 a1 va vb bf nF A B F C B0 v9 i wr) (hst : Steady Eng) {W : World} {n : Nat} {D : DataW Unit} (hg : wr.grownBy W (some bf)) (hn : n ≤ nF + (i + 1)) (hown : W.ownsMap Tryz.prog 50 (plainElem (H := Unit) Tryz.prog 3) bf n D) (hc : Cn0 D (appC F (C.take (i + 1)))) (hS0 : S0 bf) :
    Dl Eng S S0 w base bt ve lo hi mode a0 a1 va vb bf nF A B F C B0 v9 (i + 1) W := by
  have hk : ∀ k, k < wr.heap.size → k ≠ bf → W.heap[k]? = wr.heap[k]? := fun k hk hne => hg.block k hk (by simpa using hne)
  obtain ⟨n0, D0, hn0, hown0, hc0⟩ := h.tale.fold
  refine ⟨⟨(hk bt h.tale.lt (fun e => h.tale.nef e.symm)).trans h.tale.blk, own_still h.tale.r0 (fun g e => hk g (h.tale.r0.lt g e).2 (fun e2 => own_ne_map h.tale.r0 hown0 (by rw [← e2]; exact e))), own_still h.tale.r1 (fun g e => hk g (h.tale.r1.lt g e).2 (fun e2 => own_ne_map h.tale.r1 hown0 (by rw [← e2]; exact e))), h.tale.apart, n, D, hn, hown, hc⟩, ?_, fun k hk2 => ⟨Nat.lt_of_lt_of_le (h.apart k hk2).1 hg.size, (h.apart k hk2).2⟩, ?_, ?_⟩
  · exact hst S wr W h.eng hg.size (fun k hk2 => hk k (h.apart k hk2).1 (h.apart k hk2).2.2.1)
  · exact own_still h.row (fun g e => hk g (h.row.lt g e).2 (fun e2 => own_ne_map h.row hown0 (by rw [← e2]; exact e)))
  · exact h.turn.trans (Turned.of_grown (S := fun k => k = bf) hg (fun k e => by cases e; rfl)) (fun k _ e => by rw [e]; exact hS0)
end

theorem look_entry0 {W : World} {bm n : Nat} {D : DataW Unit} {L : List O} (hown : W.ownsMap Tryz.prog 50 (plainElem (H := Unit) Tryz.prog 3) bm n D) (hc : Cn0 D L) (hn : n < 1000000000) (x : O) (hx : x.wf) {v0 : Value} {W1 : World}
    (he : (Instr.mapEntry 36 (.map (some bm)) (vO x)).run Tryz.prog W = .ok v0 W1) : (Instr.lookup 36 (.map (some bm)) (vO x) false).run Tryz.prog W1 = .ok (.int .i64 (L.count x)) W1 := by
  have hkey := key_of x hx
  have hl := look0 hown hc x hx
  have hown0 := hown
  obtain ⟨w', hrun', hown', _⟩ := hown.update keyed Tryz.underlying36 (by unfold maxLen; omega) hkey (plainElem_int (H := Unit) (a := 0) Tryz.underlying3 (by decide))
  obtain ⟨es, clock, hb, F, hs, hD⟩ := hown
  rcases keyed.find W hkey es.toList F.keys with ⟨h1, h2⟩ | ⟨j, e0, h1, h2, h3⟩
  · have e1 : W1 = w' := by
      simp [Instr.mapEntry, run_underlying Tryz.underlying36, MapKept.run_getObj_map hb, keyed.check W false hkey, h1, MapKept.run_setObj_map _ hb, Result.andThen] at he
      simp [Instr.mapUpdate, run_underlying Tryz.underlying36, MapKept.run_getObj_map hb, keyed.check W false hkey, h1, MapKept.run_setObj_map _ hb, Result.andThen] at hrun'
      rw [← he.2, ← hrun']
    have h0 : (Instr.lookup 36 (.map (some bm)) (vO x) false).run Tryz.prog W = .ok (.int .i64 0) W := by
      simp [Instr.lookup, run_underlying Tryz.underlying36, MapKept.run_getObj_map hb, keyed.check W _ hkey, h1, Result.andThen]
    have h0 : (L.count x : Int) = 0 := by
      have h7 := hl.symm.trans h0
      simpa using h7
    subst e1
    obtain ⟨c, hrun, hat, _⟩ := hown'.lookup_int keyed Tryz.underlying36 Tryz.underlying3 (zero3 _) hkey
    rw [Maps.atKey_put_same hc.isMap (isKey x hx)] at hat
    have h6 : c = 0 := by simpa using hat.symm
    rw [hrun, h6, h0]
  · have hj : es[j]? = some e0 := by simpa using h2
    have e1 : W1.ownsMap Tryz.prog 50 (plainElem (H := Unit) Tryz.prog 3) bm n D := by
      simp [Instr.mapEntry, run_underlying Tryz.underlying36, MapKept.run_getObj_map hb, keyed.check W false hkey, h1, hj, h3, keyed.stays W hkey, MapKept.run_setObj_map _ hb, Result.andThen] at he
      have hsame : es.modify j (fun e => { e with key := vO x }) = es := by
        apply Array.ext'
        rw [Array.toList_modify, ChangeMaps.modify_eq_set _ _ _ _ h2]
        have : ({ e0 with key := vO x } : MapEntry) = e0 := by rw [← h3]
        rw [this]
        exact WideElems.set_self _ _ _ h2
      rw [hsame] at he
      refine ⟨es, clock, ?_, F, hs, hD⟩
      rw [← he.2]
      exact ChangeMaps.heap_setBlock_same hb _
    exact look0 e1 hc x hx

end Go.Proofs.YtpannogknebgaabGreatDoor
