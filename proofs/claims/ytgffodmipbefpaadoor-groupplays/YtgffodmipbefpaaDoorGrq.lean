/- Package group: put where the tally is not there yet. -/
import Derived.Test.YtgffodmipbefpaaDoorGro
namespace Go.Proofs.YtgffodmipbefpaaDoor
open Go.RowKit Go.Sort
set_option maxRecDepth 100000

/-- The world in which put has turned a new tally's count and sum. -/
def putV (W : World) (x : O) (t : Nat) : World :=
  if x.hl then ((W.setCell ⟨t, 0, none⟩ (.int .i64 1)).setCell ⟨t, 1, none⟩ (.int .i64 (wrap64 x.lv))).drew
  else W.setCell ⟨t, 0, none⟩ (.int .i64 1)

abbrev τ0 : Tl := ⟨0, 0, []⟩

theorem putV_at {W : World} {t r : Nat} (x : O) (h : W.heap[t]? = some (.cells #[.int .i64 0, .int .i64 0, .map (some r)] 167)) :
    (putV W x t).heap[t]? = some (.cells #[.int .i64 (putT τ0 x).c, .int .i64 (putT τ0 x).s, .map (some r)] 167) ∧ (putV W x t).heap.size = W.heap.size ∧
    (∀ j, j ≠ t → (putV W x t).heap[j]? = W.heap[j]?) ∧ (putV W x t).os = W.os ∧ (putV W x t).tape = W.tape ∧ (putV W x t).output = W.output := by
  have hb1 : (W.setCell ⟨t, 0, none⟩ (.int .i64 1)).heap[t]? = some (.cells #[.int .i64 1, .int .i64 0, .map (some r)] 167) := by
    rw [Go.Joins.block_setCell h]; rfl
  have ho : ∀ j, j ≠ t → (W.setCell ⟨t, 0, none⟩ (.int .i64 1)).heap[j]? = W.heap[j]? := fun j hne => Below.heap_setCell _ _ _ _ hne
  unfold putV
  cases hl : x.hl
  · simp only [Bool.false_eq_true, if_false]
    refine ⟨?_, by simp, ho, rfl, rfl, rfl⟩
    rw [hb1]; simp [putT, hl]
  · simp only [if_true]
    refine ⟨?_, by simp, fun j hne => ?_, rfl, rfl, rfl⟩
    · refine (Go.Joins.block_setCell hb1 _).trans ?_
      simp [putT, hl]
    · refine (Below.heap_setCell _ _ _ _ hne).trans ?_
      exact ho j hne

/-- A tally is made, and laid into the map. -/
def newV (V : World) : World := ((V.alloc (.map #[] 0)).alloc (.cells #[.int .i64 0, .int .i64 0, .map (some V.heap.size)] 167)).drew

structure NewAt (V W2 : World) (bm n : Nat) (D : DataW Value) (k : Int) : Prop where
  own : W2.ownsMap Tryd.prog 3 gR bm (n + 1) (D.put (gi k) (.held (tp (V.heap.size + 1))))
  size : W2.heap.size = V.heap.size + 2
  block : ∀ j, j < V.heap.size → j ≠ bm → W2.heap[j]? = V.heap[j]?
  rb : W2.heap[V.heap.size]? = some (.map #[] 0)
  tb : W2.heap[V.heap.size + 1]? = some (.cells #[.int .i64 0, .int .i64 0, .map (some V.heap.size)] 167)
  os : W2.os = V.os
  tape : W2.tape = V.tape
  output : W2.output = V.output

theorem new_at {V : World} {b bm m n : Nat} {tal : Int → Nat × Nat} {G : Int → Option Tl} {D : DataW Value} (h : GMap V b bm tal m G n D) {k : Int} (hw : (gi k).wf = true) (hm : m < 100000000) :
    ∃ W2, (Instr.mapUpdate 82 (.map (some bm)) (.int .i64 k) (tp (V.heap.size + 1))).run Tryd.prog (newV V) = .ok () W2 ∧ NewAt V W2 bm n D k := by
  have hlt := h.own.lt
  have hsz : (newV V).heap.size = V.heap.size + 2 := by unfold newV; simp
  have hb : ∀ j, j < V.heap.size → (newV V).heap[j]? = V.heap[j]? := fun j hj => by
    unfold newV
    refine (Below.heap_alloc _ _ j (by simp; omega)).trans (Below.heap_alloc _ _ j hj)
  have hown : (newV V).ownsMap Tryd.prog 3 gR bm n D := ownsMap_at h.own (hb bm hlt)
  have hr : (newV V).heap[V.heap.size]? = some (.map #[] 0) := by
    unfold newV
    refine (Below.heap_alloc _ _ _ (by simp)).trans ?_
    exact (MapKept.heap_alloc V _).1
  have ht : (newV V).heap[V.heap.size + 1]? = some (.cells #[.int .i64 0, .int .i64 0, .map (some V.heap.size)] 167) := by
    have := (MapKept.heap_alloc (V.alloc (.map #[] 0)) (.cells #[.int .i64 0, .int .i64 0, .map (some V.heap.size)] 167)).1
    have e : (V.alloc (.map #[] 0)).heap.size = V.heap.size + 1 := by simp
    rw [e] at this
    exact this
  obtain ⟨W2, hrun, hown2, htn⟩ := hown.store gkeyed Tryd.underlying82 (by have := h.le; unfold maxLen; omega) (gkey hw) (val := tp (V.heap.size + 1)) (d := .held (tp (V.heap.size + 1))) (ps := []) rfl
  have hg := htn.grown
  have hs2 : W2.heap.size = V.heap.size + 2 := by
    obtain ⟨_, _, _, _, _, rfl⟩ := htn
    simp [ChangeMaps.setBlock, hsz]
  refine ⟨W2, hrun, hown2, hs2, fun j hj hne => ?_, ?_, ?_, hg.os, hg.tape, hg.output⟩
  · rw [hg.block j (by omega) (fun e => hne (by injection e))]; exact hb j hj
  · rw [hg.block _ (by omega) (fun e => by injection e; omega)]; exact hr
  · rw [hg.block _ (by omega) (fun e => by injection e; omega)]; exact ht

/-- What put leaves behind where the tally was not there: V: the world at which it looked. -/
def Ends (V W' : World) (b bm m n : Nat) (tal : Int → Nat × Nat) (G : Int → Option Tl) (D : DataW Value) (x : O) : Prop :=
  GMap W' b bm (setTal tal x.k (V.heap.size + 1, V.heap.size)) (m + 1) (setG G x.k (some (putT τ0 x))) (n + 1) (D.put (gi x.k) (.held (tp (V.heap.size + 1)))) ∧
  (∀ j, j < V.heap.size → j ≠ bm → W'.heap[j]? = V.heap[j]?) ∧ V.heap.size ≤ W'.heap.size ∧ W'.os = V.os ∧ W'.tape = V.tape ∧ W'.output = V.output

theorem ends0 {V W2 : World} {b bm m n : Nat} {tal : Int → Nat × Nat} {G : Int → Option Tl} {D : DataW Value} (h : GMap V b bm tal m G n D) (hb : b < V.heap.size) (x : O) (hx : x.wf) (hk : G x.k = none) (hN : NewAt V W2 bm n D x.k) (hr : x.hr = false) :
    Ends V (putV W2 x (V.heap.size + 1)) b bm m n tal G D x := by
  obtain ⟨p1, p2, p3, p4, p5, p6⟩ := putV_at x hN.tb
  have hbm := h.own.lt
  have hs := hN.size
  refine ⟨h.new hx.k hk hb (by omega) (by omega) (ownsMap_at hN.own (p3 _ (by omega))) ?_ (fun j hj _ hne => (p3 j (by omega)).trans (hN.block j hj hne)), fun j hj hne => (p3 j (by omega)).trans (hN.block j hj hne), by omega, p4.trans hN.os, p5.trans hN.tape, p6.trans hN.output⟩
  refine ⟨p1, ⟨0, .map [], by omega, ?_, ?_⟩, by simp [putT], by simp [putT], by simp [putT, hr]⟩
  · have h0 := World.ownsMap_made (H := Unit) V Tryd.prog 3 (plainElem Tryd.prog 3)
    refine ownsMap_at h0 ?_
    rw [(MapKept.heap_alloc V _).1, p3 _ (by omega), hN.rb]
  · have : (putT τ0 x).R = [] := by simp [putT, hr]
    rw [this]; exact gcnt_nil

theorem ends1 {V W2 : World} {b bm m n : Nat} {tal : Int → Nat × Nat} {G : Int → Option Tl} {D : DataW Value} (h : GMap V b bm tal m G n D) (hb : b < V.heap.size) (x : O) (hx : x.wf) (hk : G x.k = none) (hN : NewAt V W2 bm n D x.k) (hr : x.hr = true) :
    ∃ W3, (Instr.lookup 165 (.map (some V.heap.size)) (.int .i64 x.rv) false).run Tryd.prog (putV W2 x (V.heap.size + 1)).drew = .ok (.int .i64 0) (putV W2 x (V.heap.size + 1)).drew ∧
      (Instr.mapUpdate 165 (.map (some V.heap.size)) (.int .i64 x.rv) (.int .i64 1)).run Tryd.prog (putV W2 x (V.heap.size + 1)).drew = .ok () W3 ∧ Ends V W3 b bm m n tal G D x := by
  obtain ⟨p1, p2, p3, p4, p5, p6⟩ := putV_at x hN.tb
  have hbm := h.own.lt
  have hs := hN.size
  have h0 : (putV W2 x (V.heap.size + 1)).drew.ownsMap Tryd.prog 3 (plainElem (H := Unit) Tryd.prog 3) V.heap.size 0 (.map []) := by
    refine ownsMap_at (World.ownsMap_made (H := Unit) V Tryd.prog 3 (plainElem Tryd.prog 3)) ?_
    rw [(MapKept.heap_alloc V _).1]
    exact (p3 _ (by omega)).trans hN.rb
  have hl := glook h0 gcnt_nil x.rv hx.rv
  obtain ⟨W3, hrun, hown3, htn⟩ := h0.store gkeyed Tryd.underlying165 (by unfold maxLen; omega) (gkey hx.rv) (plainElem_int (H := Unit) (a := 1) Tryd.underlying3 (by decide))
  have hg := htn.grown
  have q : ∀ j, j < W2.heap.size → j ≠ V.heap.size → W3.heap[j]? = (putV W2 x (V.heap.size + 1)).heap[j]? := fun j hj hne => hg.block j (by show j < (putV W2 x (V.heap.size + 1)).heap.size; omega) (fun e => hne (by injection e))
  have hs3 : (putV W2 x (V.heap.size + 1)).heap.size ≤ W3.heap.size := hg.size
  refine ⟨W3, hl, hrun, h.new hx.k hk hb (by omega) (by omega) (ownsMap_at hN.own ((q _ (by omega) (by omega)).trans (p3 _ (by omega)))) ?_ (fun j hj _ hne => (q j (by omega) (by omega)).trans ((p3 j (by omega)).trans (hN.block j hj hne))), fun j hj hne => (q j (by omega) (by omega)).trans ((p3 j (by omega)).trans (hN.block j hj hne)), by omega, hg.os.trans (p4.trans hN.os), hg.tape.trans (p5.trans hN.tape), hg.output.trans (p6.trans hN.output)⟩
  refine ⟨(q _ (by omega) (by omega)).trans p1, ⟨0 + 1, _, by omega, hown3, ?_⟩, by simp [putT], by simp [putT], by simp [putT, hr]⟩
  have : (putT τ0 x).R = [x.rv] := by simp [putT, hr]
  rw [this]
  exact gcnt_nil.put x.rv hx.rv

end Go.Proofs.YtgffodmipbefpaaDoor
