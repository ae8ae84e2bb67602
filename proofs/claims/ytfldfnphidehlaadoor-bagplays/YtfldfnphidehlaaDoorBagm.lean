/- A bag in memory: its map, and how many there are of each. -/
import Derived.Test.YtfldfnphidehlaaDoorBase
import Derived.Lib.SmallJoins
namespace Go.Proofs.YtfldfnphidehlaaDoor
open Go.RowKit Go.Sort
set_option maxRecDepth 100000

abbrev i64 (n : Int) : DataW Unit := .lit (.int .i64 n)

/-- The map's datum holds how many there are of each of L. -/
structure Cnt (D : DataW Unit) (L : List O) : Prop where
  isMap : Maps.IsMap D
  wf : ∀ x ∈ L, x.wf
  at_ : ∀ x, x.wf → D.atKey (kL x) (i64 0) = i64 (L.count x)
  has : ∀ x, x.wf → Maps.has D (kL x) = decide (x ∈ L)
  keys : ∀ l, Maps.has D l = true → ∃ x ∈ L, l = kL x

theorem cnt_nil : Cnt (.map []) [] :=
  ⟨Maps.isMap_empty, by simp, fun x _ => rfl, fun x _ => rfl, fun l h => by cases h⟩

theorem isKey (x : O) (h : x.wf) : WideAt.IsKeyLit (kL x) := keyed.key (key_of x h)
theorem kL_ne {x y : O} (hx : x.wf) (hy : y.wf) (h : x ≠ y) : kL x ≠ kL y := fun e => h (kL_inj hx hy e)

theorem Cnt.put {D : DataW Unit} {L : List O} (h : Cnt D L) (x : O) (hx : x.wf) : Cnt (D.put (kL x) (i64 (L.count x + 1))) (x :: L) := by
  refine ⟨h.isMap.put _ _, fun y hy => ?_, fun y hy => ?_, fun y hy => ?_, fun l hl => ?_⟩
  · rcases List.mem_cons.1 hy with rfl | hy
    · exact hx
    · exact h.wf y hy
  · by_cases e : y = x
    · subst e; rw [Maps.atKey_put_same h.isMap (isKey y hy)]; simp
    · rw [Maps.atKey_put_other (kL_ne hy hx e), h.at_ y hy, List.count_cons_of_ne (Ne.symm e)]
  · by_cases e : y = x
    · subst e; rw [Maps.has_put_same h.isMap (isKey y hy)]; simp
    · rw [Maps.has_put_other (kL_ne hy hx e), h.has y hy]; simp [e]
  · by_cases e : l = kL x
    · exact ⟨x, by simp, e⟩
    · rw [Maps.has_put_other e] at hl
      obtain ⟨y, hy, rfl⟩ := h.keys l hl
      exact ⟨y, by simp [hy], rfl⟩

theorem Cnt.less {D : DataW Unit} {L : List O} (h : Cnt D L) (x : O) (hx : x.wf) (h2 : 2 ≤ L.count x) : Cnt (D.put (kL x) (i64 (L.count x - 1))) (L.erase x) := by
  have hmem : x ∈ L.erase x := by rw [← List.count_pos_iff, List.count_erase_self]; omega
  refine ⟨h.isMap.put _ _, fun y hy => h.wf y (List.mem_of_mem_erase hy), fun y hy => ?_, fun y hy => ?_, fun l hl => ?_⟩
  · by_cases e : y = x
    · subst e; rw [Maps.atKey_put_same h.isMap (isKey y hy), List.count_erase_self]; congr 2; omega
    · rw [Maps.atKey_put_other (kL_ne hy hx e), h.at_ y hy, List.count_erase_of_ne e]
  · by_cases e : y = x
    · subst e; rw [Maps.has_put_same h.isMap (isKey y hy)]; simp [hmem]
    · rw [Maps.has_put_other (kL_ne hy hx e), h.has y hy]; simp [List.mem_erase_of_ne e]
  · by_cases e : l = kL x
    · exact ⟨x, hmem, e⟩
    · rw [Maps.has_put_other e] at hl
      obtain ⟨y, hy, rfl⟩ := h.keys l hl
      exact ⟨y, (List.mem_erase_of_ne (fun e' => e (by rw [e']))).2 hy, rfl⟩

theorem Cnt.del {D : DataW Unit} {L : List O} (h : Cnt D L) (x : O) (hx : x.wf) (h1 : L.count x = 1) : Cnt (D.del (kL x)) (L.erase x) := by
  have hno : x ∉ L.erase x := by rw [← List.count_eq_zero, List.count_erase_self]; omega
  refine ⟨h.isMap.del _, fun y hy => h.wf y (List.mem_of_mem_erase hy), fun y hy => ?_, fun y hy => ?_, fun l hl => ?_⟩
  · by_cases e : y = x
    · subst e; rw [Maps.atKey_del_same, List.count_erase_self, h1]; rfl
    · rw [Maps.atKey_del_other (kL_ne hy hx e), h.at_ y hy, List.count_erase_of_ne e]
  · by_cases e : y = x
    · subst e; rw [Maps.has_del_same]; simp [hno]
    · rw [Maps.has_del_other (kL_ne hy hx e), h.has y hy]; simp [List.mem_erase_of_ne e]
  · by_cases e : l = kL x
    · subst e; rw [Maps.has_del_same] at hl; cases hl
    · rw [Maps.has_del_other e] at hl
      obtain ⟨y, hy, rfl⟩ := h.keys l hl
      exact ⟨y, (List.mem_erase_of_ne (fun e' => e (by rw [e']))).2 hy, rfl⟩

theorem zero3 (w : World) : (zeroValue 3).run Tryd.prog w = .ok (.int .i64 0) w := by kernel_rfl

/-- Block b is a bag's: its map (none yet, or at block bm), how many there are of all. At most m entries. -/
structure BagAt (w : World) (b : Nat) (om : Option Nat) (m : Nat) (L : List O) : Prop where
  blk : w.heap[b]? = some (.cells #[.map om, .int .i64 L.length] 25)
  map : (om = none ∧ L = []) ∨ ∃ bm n D, om = some bm ∧ n ≤ m ∧ w.ownsMap Tryd.prog 37 (plainElem (H := Unit) Tryd.prog 3) bm n D ∧ Cnt D L

/-- All blocks but the bag's two are as they were. -/
structure Keep (b : Nat) (om : Option Nat) (w w' : World) : Prop where
  os : w'.os = w.os
  tape : w'.tape = w.tape
  output : w'.output = w.output
  size : w.heap.size ≤ w'.heap.size
  block : ∀ k, k < w.heap.size → k ≠ b → om ≠ some k → w'.heap[k]? = w.heap[k]?

theorem Keep.refl (b : Nat) (om : Option Nat) (w : World) : Keep b om w w := ⟨rfl, rfl, rfl, Nat.le_refl _, fun _ _ _ _ => rfl⟩
theorem Keep.trans {b : Nat} {om om' : Option Nat} {u v w : World} (h : Keep b om u v) (k : Keep b om' v w) (ho : om' = om ∨ ∃ j, om' = some j ∧ u.heap.size ≤ j) : Keep b om u w :=
  ⟨k.os.trans h.os, k.tape.trans h.tape, k.output.trans h.output, Nat.le_trans h.size k.size, fun j hj hb hm => (k.block j (Nat.lt_of_lt_of_le hj h.size) hb (by
    rcases ho with rfl | ⟨i, rfl, hi⟩
    · exact hm
    · intro e; cases e; omega)).trans (h.block j hj hb hm)⟩
theorem Keep.of_below {b : Nat} {om : Option Nat} {w w' : World} (h : Below w.heap.size w w') : Keep b om w w' := ⟨h.os, h.tape, h.output, h.size, fun k hk _ _ => h.block k hk⟩
theorem Keep.below {b B : Nat} {om : Option Nat} {w w' : World} (h : Keep b om w w') (hB : B ≤ w.heap.size) (hb : B ≤ b) (ho : ∀ k, om = some k → B ≤ k) : Below B w w' :=
  ⟨h.os, h.tape, h.output, h.size, fun k hk => h.block k (by omega) (by omega) (fun e => by have := ho k e; omega)⟩

theorem BagAt.lt {w : World} {b m : Nat} {om : Option Nat} {L : List O} (h : BagAt w b om m L) : b < w.heap.size := by
  rcases Nat.lt_or_ge b w.heap.size with h' | h'
  · exact h'
  · have := h.blk; rw [Array.getElem?_eq_none h'] at this; cases this
theorem BagAt.cells {w : World} {b m : Nat} {om : Option Nat} {L : List O} (h : BagAt w b om m L) :
    w.cell? ⟨b, 0, none⟩ = some (.map om) ∧ w.cell? ⟨b, 1, none⟩ = some (.int .i64 L.length) ∧ w.frozen? ⟨b, 0, none⟩ = false ∧ w.frozen? ⟨b, 1, none⟩ = false := by
  refine ⟨?_, ?_, Go.Joins.unfrozen_of_block h.blk 0, Go.Joins.unfrozen_of_block h.blk 1⟩
  · rw [Go.Joins.cell_of_block h.blk]; rfl
  · rw [Go.Joins.cell_of_block h.blk]; rfl
theorem BagAt.wf {w : World} {b m : Nat} {om : Option Nat} {L : List O} (h : BagAt w b om m L) : ∀ x ∈ L, x.wf := by
  rcases h.map with ⟨_, rfl⟩ | ⟨bm, n, D, rfl, hn, hown, hc⟩
  · simp
  · exact hc.wf
/-- The map's block is no bag's. -/
theorem BagAt.ne {w : World} {b m : Nat} {om : Option Nat} {L : List O} (h : BagAt w b om m L) {bm : Nat} (ho : om = some bm) : bm ≠ b ∧ bm < w.heap.size := by
  rcases h.map with ⟨h1, _⟩ | ⟨bm', n, D, h1, hn, hown, hc⟩
  · rw [h1] at ho; cases ho
  · rw [h1] at ho; cases ho
    refine ⟨fun e => ?_, hown.lt⟩
    obtain ⟨es, c, hb, _⟩ := hown
    rw [e, h.blk] at hb; cases hb
/-- A bag that nobody touched. -/
theorem BagAt.kept {w w' : World} {b m : Nat} {om : Option Nat} {L : List O} (h : BagAt w b om m L) (h1 : w'.heap[b]? = w.heap[b]?) (h2 : ∀ bm, om = some bm → w'.heap[bm]? = w.heap[bm]?) : BagAt w' b om m L := by
  refine ⟨h1.trans h.blk, ?_⟩
  rcases h.map with hm | ⟨bm, n, D, h1, hn, hown, hc⟩
  · exact .inl hm
  · right
    obtain ⟨es, c, hb, hr⟩ := hown
    exact ⟨bm, n, D, h1, hn, ⟨es, c, (h2 bm h1).trans hb, hr⟩, hc⟩
theorem BagAt.below {w w' : World} {b m : Nat} {om : Option Nat} {L : List O} (h : BagAt w b om m L) (hb : Below w.heap.size w w') : BagAt w' b om m L :=
  h.kept (hb.block _ h.lt) (fun _ e => hb.block _ (h.ne e).2)
theorem BagAt.mono {w : World} {b m m' : Nat} {om : Option Nat} {L : List O} (h : BagAt w b om m L) (hm : m ≤ m') : BagAt w b om m' L := by
  refine ⟨h.blk, ?_⟩
  rcases h.map with hx | ⟨bm, n, D, h1, hn, hown, hc⟩
  · exact .inl hx
  · exact .inr ⟨bm, n, D, h1, Nat.le_trans hn hm, hown, hc⟩

/-- 'm[x]'. -/
theorem look {W : World} {bm n : Nat} {D : DataW Unit} {L : List O} (hown : W.ownsMap Tryd.prog 37 (plainElem (H := Unit) Tryd.prog 3) bm n D) (hc : Cnt D L) (x : O) (hx : x.wf) :
    (Instr.lookup 23 (.map (some bm)) (vO x) false).run Tryd.prog W = .ok (.int .i64 (L.count x)) W := by
  obtain ⟨c, hrun, hat, _⟩ := hown.lookup_int keyed Tryd.underlying23 Tryd.underlying3 (zero3 _) (key_of x hx)
  rw [hc.at_ x hx] at hat
  injection hat with h1; injection h1 with _ h2
  rw [hrun, h2]

/-- 'm[x] = c', by its entry. -/
theorem entry {W : World} {bm n : Nat} {D : DataW Unit} (hown : W.ownsMap Tryd.prog 37 (plainElem (H := Unit) Tryd.prog 3) bm n D) (hn : n < 1000000000) (x : O) (hx : x.wf) (c : Int) (hc : (Lit.int .i64 c).wf = true) :
    ∃ v0 st W1 W2, (Instr.mapEntry 23 (.map (some bm)) (vO x)).run Tryd.prog W = .ok (.tuple #[v0, .int .i64 st]) W1 ∧
      (Instr.entryStore 23 (.map (some bm)) (.int .i64 st) (.int .i64 c)).run Tryd.prog W1 = .ok () W2 ∧
      W2.ownsMap Tryd.prog 37 (plainElem (H := Unit) Tryd.prog 3) bm (n + 1) (D.put (kL x) (i64 c)) ∧ W.grownBy W2 (some bm) := by
  obtain ⟨w', hrun', hown', hg⟩ := hown.update keyed Tryd.underlying23 (by unfold maxLen; omega) (key_of x hx) (plainElem_int Tryd.underlying3 hc)
  obtain ⟨es, clock, hb, F, hs, rfl⟩ := hown
  obtain ⟨v0, st, es1, clock1, h1, _, h3⟩ := WideElems.entry_then_store law Tryd.underlying23 (fun u => zero3 u) hb F (key_of x hx)
  obtain ⟨es', clock', h4, h5⟩ := h3 _ (.int .i64 c) (ChangeMaps.heap_setBlock_same hb _)
  refine ⟨v0, st, _, _, h1, h4, ?_, ?_⟩
  · rw [h5] at hrun'
    injection hrun' with _ e
    obtain ⟨es2, c2, hb2, hr2⟩ := hown'
    refine ⟨es2, c2, ?_, hr2⟩
    rw [← hb2, ← e, ChangeMaps.heap_setBlock_same (ChangeMaps.heap_setBlock_same hb _) _, ChangeMaps.heap_setBlock_same hb _]
  · rw [h5] at hrun'
    injection hrun' with _ e
    refine ⟨rfl, rfl, rfl, by simp [ChangeMaps.setBlock], fun i _ hi => ?_⟩
    rw [ChangeMaps.heap_setBlock_other (ChangeMaps.heap_setBlock_same hb _) _ (fun e => hi (by rw [e])), ChangeMaps.heap_setBlock_other hb _ (fun e => hi (by rw [e]))]

/-- 'm[x]', read where its entry has been made already: the same. -/
theorem look_entry {W : World} {bm n : Nat} {D : DataW Unit} {L : List O} (hown : W.ownsMap Tryd.prog 37 (plainElem (H := Unit) Tryd.prog 3) bm n D) (hc : Cnt D L) (hn : n < 1000000000) (x : O) (hx : x.wf) {v0 : Value} {W1 : World}
    (he : (Instr.mapEntry 23 (.map (some bm)) (vO x)).run Tryd.prog W = .ok v0 W1) : (Instr.lookup 23 (.map (some bm)) (vO x) false).run Tryd.prog W1 = .ok (.int .i64 (L.count x)) W1 := by
  have hkey := key_of x hx
  have hl := look hown hc x hx
  have hown0 := hown
  obtain ⟨w', hrun', hown', _⟩ := hown.update keyed Tryd.underlying23 (by unfold maxLen; omega) hkey (plainElem_int (H := Unit) (a := 0) Tryd.underlying3 (by decide))
  obtain ⟨es, clock, hb, F, hs, hD⟩ := hown
  rcases keyed.find W hkey es.toList F.keys with ⟨h1, h2⟩ | ⟨j, e0, h1, h2, h3⟩
  · have e1 : W1 = w' := by
      simp [Instr.mapEntry, run_underlying Tryd.underlying23, MapKept.run_getObj_map hb, keyed.check W false hkey, h1, MapKept.run_setObj_map _ hb, Result.andThen] at he
      simp [Instr.mapUpdate, run_underlying Tryd.underlying23, MapKept.run_getObj_map hb, keyed.check W false hkey, h1, MapKept.run_setObj_map _ hb, Result.andThen] at hrun'
      rw [← he.2, ← hrun']
    have h0 : (Instr.lookup 23 (.map (some bm)) (vO x) false).run Tryd.prog W = .ok (.int .i64 0) W := by
      simp [Instr.lookup, run_underlying Tryd.underlying23, MapKept.run_getObj_map hb, keyed.check W _ hkey, h1, Result.andThen]
    have h0 : (L.count x : Int) = 0 := by
      have h7 := hl.symm.trans h0
      simpa using h7
    subst e1
    obtain ⟨c, hrun, hat, _⟩ := hown'.lookup_int keyed Tryd.underlying23 Tryd.underlying3 (zero3 _) hkey
    rw [Maps.atKey_put_same hc.isMap (isKey x hx)] at hat
    have h6 : c = 0 := by simpa using hat.symm
    rw [hrun, h6, h0]
  · have hj : es[j]? = some e0 := by simpa using h2
    have e1 : W1.ownsMap Tryd.prog 37 (plainElem (H := Unit) Tryd.prog 3) bm n D := by
      simp [Instr.mapEntry, run_underlying Tryd.underlying23, MapKept.run_getObj_map hb, keyed.check W false hkey, h1, hj, h3, keyed.stays W hkey, MapKept.run_setObj_map _ hb, Result.andThen] at he
      have hsame : es.modify j (fun e => { e with key := vO x }) = es := by
        apply Array.ext'
        rw [Array.toList_modify, ChangeMaps.modify_eq_set _ _ _ _ h2]
        have : ({ e0 with key := vO x } : MapEntry) = e0 := by rw [← h3]
        rw [this]
        exact WideElems.set_self _ _ _ h2
      rw [hsame] at he
      refine ⟨es, clock, ?_, F, hs, hD⟩
      rw [← he.2]
      exact ChangeMaps.heap_setBlock_same hb _
    exact look e1 hc x hx

end Go.Proofs.YtfldfnphidehlaaDoor
