/- A step's six cells; a tale in a world that lies above. -/
import Derived.Test.YtmmbjbgimpgcfaaGreatDoorEvd
namespace Go.Proofs.YtmmbjbgimpgcfaaGreatDoor
open Go.RowKit Go.Sort
set_option maxRecDepth 100000

/-- A step's six cells. -/
def Cells6 (W : World) (g o : Nat) (s : List Int) : Prop := ∃ a b c d e f, s = [a, b, c, d, e, f] ∧ W.cell? ⟨g, o, none⟩ = some (.int .i64 a) ∧ W.cell? ⟨g, o + 1, none⟩ = some (.int .i64 b) ∧ W.cell? ⟨g, o + 2, none⟩ = some (.int .i64 c) ∧ W.cell? ⟨g, o + 3, none⟩ = some (.int .i64 d) ∧ W.cell? ⟨g, o + 4, none⟩ = some (.int .i64 e) ∧ W.cell? ⟨g, o + 5, none⟩ = some (.int .i64 f)
theorem Cells6.below {w W : World} {g o : Nat} {s : List Int} (h : Cells6 w g o s) (hb : Below w.heap.size w W) (hg : g < w.heap.size) : Cells6 W g o s := by
  obtain ⟨a, b, c, d, e, f, hs, h1, h2, h3, h4, h5, h6⟩ := h
  have key := fun (j : Nat) => hb.cell (p := ⟨g, j, none⟩) hg
  exact ⟨a, b, c, d, e, f, hs, (key _).trans h1, (key _).trans h2, (key _).trans h3, (key _).trans h4, (key _).trans h5, (key _).trans h6⟩

theorem Full.below {EngAt : Nat → J → List O → (Nat → Prop) → World → Prop} (E : EngFeeds EngAt) {w0 : World} {bt : Nat} {lo hi mode : Int} {n : Nat} {w w' : World} {be bf nF : Nat} {a0 a1 : Int} {va vb : Value} {A B : List Rw} {F L : List O} {x : J} {S : Nat → Prop} (h : Full EngAt w0 bt lo hi mode n w be bf nF a0 a1 va vb A B F L x S) (hb : Below w.heap.size w w') : Full EngAt w0 bt lo hi mode n w' be bf nF a0 a1 va vb A B F L x S :=
  ⟨h.tale.below hb, E.steady _ _ _ S w w' h.eng hb.size (fun k hk => hb.block k (E.foot _ _ _ _ _ h.eng k hk)), h.foot, h.holds, h.lv, h.fv, h.plan, h.ok, h.jok, h.late, h.marks, h.len, h.nf, h.sa, h.sb, h.bt0, h.bf0, h.low.trans (hb.mono h.low.size), h.lowm⟩

end Go.Proofs.YtmmbjbgimpgcfaaGreatDoor
