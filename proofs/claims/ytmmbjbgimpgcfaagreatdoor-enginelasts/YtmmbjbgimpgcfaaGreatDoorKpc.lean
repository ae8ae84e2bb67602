/- What all rows should come to (estuarykeep.should): groundwork. -/
import Derived.Test.YtmmbjbgimpgcfaaGreatDoorTlc
import Derived.OwnWalk
namespace Go.Proofs.YtmmbjbgimpgcfaaGreatDoor
open Go.RowKit Go.Sort
set_option maxRecDepth 100000

theorem encRw_len (x : Rw) : (encRw x).length = 3 := rfl
theorem flatRw_get (xs : List Rw) (k j : Nat) (x : Rw) (hx : xs[k]? = some x) (hj : j < 3) : (xs.flatMap encRw)[k * 3 + j]? = (encRw x)[j]? := by
  induction xs generalizing k with
  | nil => simp at hx
  | cons a r ih =>
    rw [List.flatMap_cons]
    cases k with
    | zero =>
      simp at hx
      subst hx
      rw [List.getElem?_append_left (by rw [encRw_len]; omega)]
      congr 1; omega
    | succ k =>
      rw [List.getElem?_append_right (by rw [encRw_len]; omega), encRw_len, show (k + 1) * 3 + j - 3 = k * 3 + j by omega]
      exact ih k (by simpa using hx)
theorem rws_cells {W : World} {base gs n ck : Nat} {xs : List Rw} (h : W.ownsRow base 48 3 (.slice (some ⟨gs, 0, none⟩) n ck) n (xs.flatMap encRw)) (k : Nat) (x : Rw) (hx : xs[k]? = some x) :
    W.cell? ⟨gs, k * 3, none⟩ = some (.int .i64 x.k) ∧ W.cell? ⟨gs, k * 3 + 1, none⟩ = some (.int .i64 x.t) ∧ W.cell? ⟨gs, k * 3 + 2, none⟩ = some (.int .i64 x.v) := by
  have key := fun (j : Nat) (v : Value) (hj : j < 3) (hv : (encRw x)[j]? = some v) => h.cells (g := gs) rfl (k * 3 + j) v ((flatRw_get xs k j x hx hj).trans hv)
  simp only [add_at] at key
  exact ⟨key 0 _ (by omega) rfl, key 1 _ (by omega) rfl, key 2 _ (by omega) rfl⟩

/-- A row whose numbers are small. -/
def Rw.small (r : Rw) : Prop := (-1099511627776 ≤ r.k ∧ r.k ≤ 1099511627776) ∧ (-1099511627776 ≤ r.t ∧ r.t ≤ 1099511627776) ∧ (-1099511627776 ≤ r.v ∧ r.v ≤ 1099511627776)
theorem wf40 {n : Int} (h : -1099511627776 ≤ n ∧ n ≤ 1099511627776) : (Lit.int .i64 n).wf = true := WalkArith.wf_i64 (by omega)
theorem pairRw_wf {a b : Rw} (ha : a.small) (hb : b.small) : (pairRw a b).wf := ⟨wf40 ha.1, wf40 ha.1, wf40 ha.2.1, wf40 ha.2.2, wf40 hb.1, wf40 hb.2.1, wf40 hb.2.2⟩
theorem leftRw_wf {a : Rw} (ha : a.small) : (leftRw a).wf := ⟨wf40 ha.1, wf40 ha.1, wf40 ha.2.1, wf40 ha.2.2, wf40 (n := 0) (by omega), wf40 (n := 0) (by omega), wf40 (n := 0) (by omega)⟩
theorem rightRw_wf {a : Rw} (ha : a.small) : (rightRw a).wf := ⟨wf40 ha.1, wf40 (n := 0) (by omega), wf40 (n := 0) (by omega), wf40 (n := 0) (by omega), wf40 ha.1, wf40 ha.2.1, wf40 ha.2.2⟩

/-- The bools of the first n numbers. -/
def boolsOf (fl : Nat → Bool) (n : Nat) : List Value := (List.range n).map fun k => .bool (fl k)
theorem boolsOf_get (fl : Nat → Bool) (n k : Nat) (hk : k < n) : (boolsOf fl n)[k]? = some (.bool (fl k)) := by simp [boolsOf, hk]
theorem boolsOf_set (fl : Nat → Bool) (n k : Nat) (b : Bool) : (boolsOf fl n).set k (.bool b) = boolsOf (fun j => if j = k then b else fl j) n := by
  apply List.ext_getElem?
  intro j
  rw [List.getElem?_set]
  by_cases hj : j < n
  · by_cases e : k = j
    · subst e; simp [boolsOf, hj]
    · rw [if_neg e]; simp [boolsOf, hj, Ne.symm e]
  · have h1 : (boolsOf fl n)[j]? = none := by simp [boolsOf]; omega
    have h2 : (boolsOf (fun j => if j = k then b else fl j) n)[j]? = none := by simp [boolsOf]; omega
    rw [h1, h2]
    split
    · have : ¬ k < (boolsOf fl n).length := by simp [boolsOf]; omega
      simp [this]
    · rfl

/-- What is told so far (X, the last one first), and which of the other side have met one (fl). -/
structure Sh (w : World) (gm nb : Nat) (X : List O) (fl : Nat → Bool) (wr : World) : Prop where
  low : Below w.heap.size w wr
  map : ∃ n D, n ≤ X.length ∧ wr.ownsMap Tryz.prog 50 (plainElem (H := Unit) Tryz.prog 3) w.heap.size n D ∧ Cnt D X
  met : wr.ownsRow w.heap.size 4 1 (.slice (some ⟨gm, 0, none⟩) nb nb) nb (boolsOf fl nb)

theorem Sh.below {w wr W : World} {gm nb : Nat} {X : List O} {fl : Nat → Bool} (h : Sh w gm nb X fl wr) (hb : Below wr.heap.size wr W) : Sh w gm nb X fl W := by
  obtain ⟨n, D, h1, h2, h3⟩ := h.map
  exact ⟨h.low.trans (hb.mono h.low.size), ⟨n, D, h1, own_map_kept h2 (hb.block _ h2.lt), h3⟩, kept_below h.met hb⟩
theorem Sh.gm_lt {w wr : World} {gm nb : Nat} {X : List O} {fl : Nat → Bool} (h : Sh w gm nb X fl wr) : w.heap.size ≤ gm ∧ gm < wr.heap.size := h.met.lt gm rfl
theorem Sh.gm_ne {w wr : World} {gm nb : Nat} {X : List O} {fl : Nat → Bool} (h : Sh w gm nb X fl wr) : gm ≠ w.heap.size := fun e => by
  obtain ⟨n, D, h1, h2, h3⟩ := h.map
  exact own_ne_map h.met h2 (by rw [e]; rfl)

/-- One Out more is told: 'out[x]++'. -/
theorem Sh.inc {w W : World} {gm nb : Nat} {X : List O} {fl : Nat → Bool} (h : Sh w gm nb X fl W) (x : O) (hx : x.wf) (hX : X.length ≤ 10000000) :
    ∃ v0 st W1 W2, (Instr.lookup 36 (.map (some w.heap.size)) (vO x) false).run Tryz.prog W = .ok (.int .i64 (X.count x)) W ∧ (Instr.mapEntry 36 (.map (some w.heap.size)) (vO x)).run Tryz.prog W = .ok (.tuple #[v0, .int .i64 st]) W1 ∧
      (Instr.lookup 36 (.map (some w.heap.size)) (vO x) false).run Tryz.prog W1 = .ok (.int .i64 (X.count x)) W1 ∧ (Instr.entryStore 36 (.map (some w.heap.size)) (.int .i64 st) (.int .i64 ((X.count x : Int) + 1))).run Tryz.prog W1 = .ok () W2 ∧
      Sh w gm nb (x :: X) fl W2 ∧ W.grownBy W2 (some w.heap.size) ∧ (0 : Int) ≤ (X.count x : Int) ∧ (X.count x : Int) ≤ 10000000 := by
  obtain ⟨n, D, hn, hown, hc⟩ := h.map
  have hle : X.count x ≤ X.length := List.count_le_length
  have hrun := look hown hc x hx
  obtain ⟨v0, st, W1, W2, he1, he2, hown2, hg⟩ := entry hown (by omega) x hx (X.count x + 1 : Nat) (wf_nat _ (by omega))
  have hrun1 := look_entry hown hc (by omega) x hx he1
  have e1 : ((X.count x + 1 : Nat) : Int) = (X.count x : Int) + 1 := by omega
  rw [e1] at he2
  refine ⟨v0, st, W1, W2, hrun, he1, hrun1, he2, ⟨h.low.grown hg h.low.size (fun k e => by cases e; exact Nat.le_refl _), ⟨n + 1, _, by simp; omega, hown2, hc.put x hx⟩, ?_⟩, hg, by omega, by omega⟩
  exact own_still h.met (fun g e => hg.block g (h.met.lt g e).2 (fun e2 => h.gm_ne (by
    have : gm = g := by simpa [Value.ownBlock] using e
    rw [this]; simpa using e2)))

/-- One of the other side has met one: 'met[k] = true'. -/
theorem Sh.mark {w W : World} {gm nb k : Nat} {X : List O} {fl : Nat → Bool} (h : Sh w gm nb X fl W) : Sh w gm nb X (fun j => if j = k then true else fl j) (W.setCell ⟨gm, k, none⟩ (.bool true)) := by
  obtain ⟨n, D, hn, hown, hc⟩ := h.map
  refine ⟨h.low.setCell h.gm_lt.1 _, ⟨n, D, hn, hown.setCell (fun e => h.gm_ne (by simpa using e.symm)) _, hc⟩, ?_⟩
  rw [← boolsOf_set]
  exact own_setCell h.met k _

theorem Sh.flag {w W : World} {gm nb k : Nat} {X : List O} {fl : Nat → Bool} (h : Sh w gm nb X fl W) (hk : k < nb) : W.cell? ⟨gm, k, none⟩ = some (.bool (fl k)) ∧ W.frozen? ⟨gm, k, none⟩ = false := by
  have h1 := h.met.cells (g := gm) rfl k _ (boolsOf_get fl nb k hk)
  rw [add_at] at h1
  refine ⟨h1, ?_⟩
  rcases h.met.2 with ⟨h2, _⟩ | ⟨g, cap, cur, h2, _, hg, _⟩
  · cases h2
  · cases h2
    exact Go.Joins.unfrozen_of_block hg k

end Go.Proofs.YtmmbjbgimpgcfaaGreatDoor
