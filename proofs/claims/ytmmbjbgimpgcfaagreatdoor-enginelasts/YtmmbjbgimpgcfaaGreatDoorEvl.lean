/- The engine meets: what met feeds. -/
import Derived.Test.YtmmbjbgimpgcfaaGreatDoorEvi
namespace Go.Proofs.YtmmbjbgimpgcfaaGreatDoor
open Go.RowKit Go.Sort
set_option maxRecDepth 100000

def jM0 : J := ⟨0, 5, 1, -1099511627777, -1099511627777, 0, [], []⟩
def jM1 : J := jM0.fed0 1 10 3
def jM2 : J := jM1.fed1 1 12 4
def rA : Rw := ⟨1, 10, 3⟩
def rB : Rw := ⟨1, 12, 4⟩
def oL : O := ⟨1, 1, 10, 3, 0, 0, 0, true, false⟩
def oP : O := ⟨1, 1, 10, 3, 1, 12, 4, true, true⟩
theorem cA : cF0 jM0 rA = [⟨oL, false⟩] := by decide +kernel
theorem cB : cF1 jM1 rB = [⟨oL, true⟩, ⟨oP, false⟩] := by decide +kernel
theorem aA : appC [] (cF0 jM0 rA) = [oL] := by rw [cA]; rfl
theorem aB : appC [oL] (cF1 jM1 rB) = [oP] := by rw [cB]; decide +kernel
theorem okA : okC [] (cF0 jM0 rA) := by rw [cA]; simp [okC]
theorem okB : okC [oL] (cF1 jM1 rB) := by rw [cB]; simp [okC, oL]
theorem wfL : oL.wf := by unfold oL; constructor <;> decide +kernel
theorem wfP : oP.wf := by unfold oP; constructor <;> decide +kernel
theorem wA : ∀ c ∈ cF0 jM0 rA, c.x.wf := by rw [cA]; simp; exact wfL
theorem wB : ∀ c ∈ cF1 jM1 rB, c.x.wf := by rw [cB]; simp; exact ⟨wfL, wfP⟩
theorem rM1 : jM1.R0 = [⟨1, 10, 3, 0⟩] ∧ jM1.R1 = [] := by decide +kernel
theorem jokM0 : JOk jM0 := ⟨by decide, by decide, by decide, by decide, by simp [jM0, SortedR], by simp [jM0, SortedR], by decide, by decide, by simp [jM0], by simp [jM0], by decide⟩
theorem jokM1 : JOk jM1 := by
  have h := rM1
  exact ⟨by decide, by decide, by decide, by decide, by rw [h.1]; simp [SortedR], by rw [h.2]; simp [SortedR], by rw [h.1]; decide, by rw [h.2]; decide, by rw [h.1]; simp, by rw [h.2]; simp, by decide⟩

def CellsC (W : World) (g o : Nat) (c : Ch) : Prop := W.cell? ⟨g, o, none⟩ = some (.int .i64 c.x.k) ∧ W.cell? ⟨g, o + 1, none⟩ = some (.int .i64 c.x.lk) ∧ W.cell? ⟨g, o + 2, none⟩ = some (.int .i64 c.x.lt) ∧ W.cell? ⟨g, o + 3, none⟩ = some (.int .i64 c.x.lv) ∧ W.cell? ⟨g, o + 4, none⟩ = some (.int .i64 c.x.rk) ∧ W.cell? ⟨g, o + 5, none⟩ = some (.int .i64 c.x.rt) ∧ W.cell? ⟨g, o + 6, none⟩ = some (.int .i64 c.x.rv) ∧ W.cell? ⟨g, o + 7, none⟩ = some (.bool c.x.hl) ∧ W.cell? ⟨g, o + 8, none⟩ = some (.bool c.x.hr) ∧ W.cell? ⟨g, o + 9, none⟩ = some (.bool c.g)

/-- What a row of the left side leads to lies apart from the engine. -/
structure EngApart (EngAt : Nat → J → List O → (Nat → Prop) → World → Prop) : Prop where
  feed0 : ∀ be x L S W (r : Rw), EngAt be x L S W → JOk x → goodI r.k r.t r.v = true → x.m0 < r.t → (x.m1 < r.t + x.hi → x.R0.length < 300) → okC L (cF0 x r) → (∀ c ∈ cF0 x r, c.x.wf) → L.length ≤ 1000000 →
    Calls Tryz.prog 25 #[.pointer (some ⟨be, 0, none⟩), .int .i64 0, .agg #[.int .i64 r.k, .int .i64 r.t, .int .i64 r.v]] W fun e w' => ∃ v9 S', e = .returned (.tuple #[v9, .nilIface]) ∧ w'.ownsRow W.heap.size 66 10 v9 (cF0 x r).length ((cF0 x r).flatMap encC) ∧ EngAt be (x.fed0 r.k r.t r.v) (appC L (cF0 x r)) S' w' ∧ FootTo S S' W w' ∧ ∀ k, v9.ownBlock = some k → ¬ S' k

theorem feedA {EngAt : Nat → J → List O → (Nat → Prop) → World → Prop} (E : EngApart EngAt) (be : Nat) (S : Nat → Prop) (W : World) (h : EngAt be jM0 [] S W) :
    Calls Tryz.prog 25 #[.pointer (some ⟨be, 0, none⟩), .int .i64 0, .agg #[.int .i64 1, .int .i64 10, .int .i64 3]] W fun e w' => ∃ g c S', e = .returned (.tuple #[.slice (some ⟨g, 0, none⟩) 1 c, .nilIface]) ∧ W.heap.size ≤ g ∧ g < w'.heap.size ∧ CellsC w' g 0 ⟨oL, false⟩ ∧ EngAt be jM1 [oL] S' w' ∧ FootTo S S' W w' ∧ ¬ S' g := by
  refine (E.feed0 be jM0 [] S W rA h jokM0 (by decide +kernel) (by decide +kernel) (fun _ => by decide +kernel) okA wA (by simp)).mono ?_
  rintro e w' ⟨v9, S', rfl, hr, he, hf, hn⟩
  rw [aA] at he
  rw [cA] at hr
  obtain ⟨g, c, rfl⟩ := Go.Joins.ownsRow_form hr (by simp)
  have hc := ch_cells hr 0 ⟨oL, false⟩ rfl
  simp only [Nat.zero_mul] at hc
  exact ⟨g, c, S', rfl, (hr.lt g rfl).1, (hr.lt g rfl).2, hc, he, hf, hn g rfl⟩
theorem feedB {EngAt : Nat → J → List O → (Nat → Prop) → World → Prop} (E : EngFeeds EngAt) (be : Nat) (S : Nat → Prop) (W : World) (h : EngAt be jM1 [oL] S W) :
    Calls Tryz.prog 25 #[.pointer (some ⟨be, 0, none⟩), .int .i64 1, .agg #[.int .i64 1, .int .i64 12, .int .i64 4]] W fun e w' => ∃ g c S', e = .returned (.tuple #[.slice (some ⟨g, 0, none⟩) 2 c, .nilIface]) ∧ W.heap.size ≤ g ∧ g < w'.heap.size ∧ CellsC w' g 0 ⟨oL, true⟩ ∧ CellsC w' g 10 ⟨oP, false⟩ ∧ EngAt be jM2 [oP] S' w' ∧ FootTo S S' W w' := by
  refine (E.feed1 be jM1 [oL] S W rB h jokM1 (by decide +kernel) (by decide +kernel) (fun _ => by decide +kernel) okB wB (by simp)).mono ?_
  rintro e w' ⟨v9, S', rfl, hr, he, hf⟩
  rw [aB] at he
  rw [cB] at hr
  obtain ⟨g, c, rfl⟩ := Go.Joins.ownsRow_form hr (by simp)
  have hc := ch_cells hr 0 ⟨oL, true⟩ rfl
  have hd := ch_cells hr 1 ⟨oP, false⟩ rfl
  simp only [Nat.zero_mul] at hc
  simp only [Nat.one_mul] at hd
  exact ⟨g, c, S', rfl, (hr.lt g rfl).1, (hr.lt g rfl).2, hc, hd, he, hf⟩
end Go.Proofs.YtmmbjbgimpgcfaaGreatDoor
