/- Groups in memory: a map from keys to tallies, each with its right values counted in a map of its own. -/
import Derived.Test.YtgffodmipbefpaaDoorBase
import Derived.Maps.OwnSet
import Derived.Lib.SmallJoins
namespace Go.Proofs.YtgffodmipbefpaaDoor
open Go.RowKit Go.Sort
set_option maxRecDepth 100000

abbrev gi (n : Int) : Lit := .int .i64 n
abbrev gd (n : Int) : DataW Unit := .lit (.int .i64 n)
theorem gkeyed : Maps.Keyed Tryd.prog 3 := Maps.int_keyed Tryd.underlying3
theorem gkey {x : Int} (h : (gi x).wf = true) : keyOf Tryd.prog 3 (.int .i64 x) = some (gi x) := Maps.keyOf_int_mk Tryd.underlying3 h
theorem gkey_inv {v : Value} {l : Lit} (h : keyOf Tryd.prog 3 v = some l) : ∃ x, v = .int .i64 x ∧ l = gi x ∧ (gi x).wf = true := by
  cases v <;> simp [keyOf, Tryd.underlying3, mapKey] at h
  obtain ⟨⟨rfl, hw⟩, rfl⟩ := h
  exact ⟨_, rfl, rfl, hw⟩
theorem gisKey {x : Int} (h : (gi x).wf = true) : WideAt.IsKeyLit (gi x) := gkeyed.key (gkey h)
theorem gi_ne {x y : Int} (h : x ≠ y) : gi x ≠ gi y := fun e => h (by injection e)
theorem gzero3 (w : World) : (zeroValue 3).run Tryd.prog w = .ok (.int .i64 0) w := by kernel_rfl
theorem gzero84 (w : World) : (zeroValue 126).run Tryd.prog w = .ok (.pointer none) w := by kernel_rfl

/-- The map's datum holds how often each number is among R. -/
structure GCnt (D : DataW Unit) (R : List Int) : Prop where
  isMap : Maps.IsMap D
  wf : ∀ x ∈ R, (gi x).wf = true
  at_ : ∀ x, (gi x).wf = true → D.atKey (gi x) (gd 0) = gd (R.count x)
  has : ∀ x, (gi x).wf = true → Maps.has D (gi x) = decide (x ∈ R)
  keys : ∀ l, Maps.has D l = true → ∃ x ∈ R, l = gi x

theorem gcnt_nil : GCnt (.map []) [] :=
  ⟨Maps.isMap_empty, by simp, fun x _ => rfl, fun x _ => rfl, fun l h => by cases h⟩

theorem GCnt.perm {D : DataW Unit} {R R' : List Int} (h : GCnt D R) (p : R.Perm R') : GCnt D R' :=
  ⟨h.isMap, fun x hx => h.wf x (p.mem_iff.2 hx), fun x hx => by rw [h.at_ x hx, p.count_eq], fun x hx => by rw [h.has x hx]; simp [p.mem_iff],
    fun l hl => by obtain ⟨x, hx, e⟩ := h.keys l hl; exact ⟨x, p.mem_iff.1 hx, e⟩⟩

theorem GCnt.put {D : DataW Unit} {R : List Int} (h : GCnt D R) (x : Int) (hx : (gi x).wf = true) : GCnt (D.put (gi x) (gd (R.count x + 1))) (x :: R) := by
  refine ⟨h.isMap.put _ _, fun y hy => ?_, fun y hy => ?_, fun y hy => ?_, fun l hl => ?_⟩
  · rcases List.mem_cons.1 hy with rfl | hy
    · exact hx
    · exact h.wf y hy
  · by_cases e : y = x
    · subst e; rw [Maps.atKey_put_same h.isMap (gisKey hy)]; simp
    · rw [Maps.atKey_put_other (gi_ne e), h.at_ y hy, List.count_cons_of_ne (Ne.symm e)]
  · by_cases e : y = x
    · subst e; rw [Maps.has_put_same h.isMap (gisKey hy)]; simp
    · rw [Maps.has_put_other (gi_ne e), h.has y hy]; simp [e]
  · by_cases e : l = gi x
    · exact ⟨x, by simp, e⟩
    · rw [Maps.has_put_other e] at hl
      obtain ⟨y, hy, rfl⟩ := h.keys l hl
      exact ⟨y, by simp [hy], rfl⟩

theorem GCnt.less {D : DataW Unit} {R : List Int} (h : GCnt D R) (x : Int) (hx : (gi x).wf = true) (h2 : 2 ≤ R.count x) : GCnt (D.put (gi x) (gd (R.count x - 1))) (R.erase x) := by
  have hmem : x ∈ R.erase x := by rw [← List.count_pos_iff, List.count_erase_self]; omega
  refine ⟨h.isMap.put _ _, fun y hy => h.wf y (List.mem_of_mem_erase hy), fun y hy => ?_, fun y hy => ?_, fun l hl => ?_⟩
  · by_cases e : y = x
    · subst e; rw [Maps.atKey_put_same h.isMap (gisKey hy), List.count_erase_self]; congr 2; omega
    · rw [Maps.atKey_put_other (gi_ne e), h.at_ y hy, List.count_erase_of_ne e]
  · by_cases e : y = x
    · subst e; rw [Maps.has_put_same h.isMap (gisKey hy)]; simp [hmem]
    · rw [Maps.has_put_other (gi_ne e), h.has y hy]; simp [List.mem_erase_of_ne e]
  · by_cases e : l = gi x
    · exact ⟨x, hmem, e⟩
    · rw [Maps.has_put_other e] at hl
      obtain ⟨y, hy, rfl⟩ := h.keys l hl
      exact ⟨y, (List.mem_erase_of_ne (fun e' => e (by rw [e']))).2 hy, rfl⟩

theorem GCnt.del {D : DataW Unit} {R : List Int} (h : GCnt D R) (x : Int) (h1 : R.count x = 1) : GCnt (D.del (gi x)) (R.erase x) := by
  have hno : x ∉ R.erase x := by rw [← List.count_eq_zero, List.count_erase_self]; omega
  refine ⟨h.isMap.del _, fun y hy => h.wf y (List.mem_of_mem_erase hy), fun y hy => ?_, fun y hy => ?_, fun l hl => ?_⟩
  · by_cases e : y = x
    · subst e; rw [Maps.atKey_del_same, List.count_erase_self, h1]; rfl
    · rw [Maps.atKey_del_other (gi_ne e), h.at_ y hy, List.count_erase_of_ne e]
  · by_cases e : y = x
    · subst e; rw [Maps.has_del_same]; simp [hno]
    · rw [Maps.has_del_other (gi_ne e), h.has y hy]; simp [List.mem_erase_of_ne e]
  · by_cases e : l = gi x
    · subst e; rw [Maps.has_del_same] at hl; cases hl
    · rw [Maps.has_del_other e] at hl
      obtain ⟨y, hy, rfl⟩ := h.keys l hl
      exact ⟨y, (List.mem_erase_of_ne (fun e' => e (by rw [e']))).2 hy, rfl⟩

/-- 'm[x]' of a tally's map. -/
theorem glook {W : World} {r n : Nat} {D : DataW Unit} {R : List Int} (hown : W.ownsMap Tryd.prog 3 (plainElem (H := Unit) Tryd.prog 3) r n D) (hc : GCnt D R) (x : Int) (hx : (gi x).wf = true) :
    (Instr.lookup 165 (.map (some r)) (.int .i64 x) false).run Tryd.prog W = .ok (.int .i64 (R.count x)) W := by
  obtain ⟨c, hrun, hat, _⟩ := hown.lookup_int gkeyed Tryd.underlying165 Tryd.underlying3 (gzero3 _) (gkey hx)
  rw [hc.at_ x hx] at hat
  injection hat with h1; injection h1 with _ h2
  rw [hrun, h2]

/-- 'm[x] = c' by its entry: the entry is made, what is read there is as it was, and what is stored lies there. -/
theorem gentry {W : World} {r n : Nat} {D : DataW Unit} {R : List Int} (hown : W.ownsMap Tryd.prog 3 (plainElem (H := Unit) Tryd.prog 3) r n D) (hc : GCnt D R) (hn : n < 1000000000) (x : Int) (hx : (gi x).wf = true) (c : Int) (hcw : (gi c).wf = true) :
    ∃ v0 st W1 W2, (Instr.mapEntry 165 (.map (some r)) (.int .i64 x)).run Tryd.prog W = .ok (.tuple #[v0, .int .i64 st]) W1 ∧
      (Instr.lookup 165 (.map (some r)) (.int .i64 x) false).run Tryd.prog W1 = .ok (.int .i64 (R.count x)) W1 ∧
      (Instr.entryStore 165 (.map (some r)) (.int .i64 st) (.int .i64 c)).run Tryd.prog W1 = .ok () W2 ∧
      W2.ownsMap Tryd.prog 3 (plainElem (H := Unit) Tryd.prog 3) r (n + 1) (D.put (gi x) (gd c)) ∧ W.grownBy W1 (some r) ∧ W.grownBy W2 (some r) ∧ W1.heap.size = W.heap.size ∧ W2.heap.size = W.heap.size := by
  have hkey := gkey hx
  have hl := glook hown hc x hx
  obtain ⟨w0, hrun0, hown0, _⟩ := hown.update gkeyed Tryd.underlying165 (by unfold maxLen; omega) hkey (plainElem_int (H := Unit) (a := 0) Tryd.underlying3 (by decide))
  obtain ⟨w', hrun', hown', _⟩ := hown.update gkeyed Tryd.underlying165 (by unfold maxLen; omega) hkey (plainElem_int (H := Unit) Tryd.underlying3 hcw)
  have hownS := hown
  obtain ⟨es, clock, hb, F, hs, hD⟩ := hown
  obtain ⟨s1, s2, _⟩ := F.stamped
  have hgrow : ∀ (o o' : Obj), W.grownBy (ChangeMaps.setBlock (ChangeMaps.setBlock W r o) r o') (some r) := fun o o' =>
    ⟨rfl, rfl, rfl, by simp [ChangeMaps.setBlock], fun i _ hi => by
      have : i ≠ r := fun e => hi (by rw [e])
      simp [ChangeMaps.setBlock, this.symm]⟩
  have hgrow1 : ∀ (o : Obj), W.grownBy (ChangeMaps.setBlock W r o) (some r) := fun o =>
    ⟨rfl, rfl, rfl, by simp [ChangeMaps.setBlock], fun i _ hi => by
      have : i ≠ r := fun e => hi (by rw [e])
      simp [ChangeMaps.setBlock, this.symm]⟩
  rcases gkeyed.find W hkey es.toList F.keys with ⟨h1, h2⟩ | ⟨j, e0, h1, h2, h3⟩
  · have hb1 : (ChangeMaps.setBlock W r (.map (es.push ⟨.int .i64 x, .int .i64 0, clock⟩) (clock + 1))).heap[r]? = some (.map (es.push ⟨.int .i64 x, .int .i64 0, clock⟩) (clock + 1)) := ChangeMaps.heap_setBlock_same hb _
    have hidx : (es.push ⟨.int .i64 x, .int .i64 0, clock⟩).findIdx? (fun e => ((e.born : Nat) : Int) == ((clock : Nat) : Int)) = some es.size := by
      rw [WideElems.findIdx_arr]
      have h8 : (es.push ⟨.int .i64 x, .int .i64 0, clock⟩).toList[es.size]? = some (⟨.int .i64 x, .int .i64 0, clock⟩ : MapEntry) := by simp
      refine WideElems.findIdx_born ?_ h8
      simp only [Array.toList_push, List.map_append, List.map_cons, List.map_nil]
      refine List.nodup_append.2 ⟨s2, by simp, fun a ha d hd e1 => ?_⟩
      simp only [List.mem_singleton] at hd
      obtain ⟨y, hy, rfl⟩ := List.mem_map.1 ha
      have := s1 y hy
      omega
    have hmod : (es.push ⟨.int .i64 x, .int .i64 0, clock⟩).modify es.size (fun e => { e with val := .int .i64 c }) = es.push ⟨.int .i64 x, .int .i64 c, clock⟩ := by
      apply Array.ext'
      rw [Array.toList_modify, Array.toList_push, Array.toList_push, ← Array.length_toList, WideElems.modify_last]
    have e0 : w0 = ChangeMaps.setBlock W r (.map (es.push ⟨.int .i64 x, .int .i64 0, clock⟩) (clock + 1)) := by
      simp [Instr.mapUpdate, run_underlying Tryd.underlying165, MapKept.run_getObj_map hb, gkeyed.check W false hkey, h1, MapKept.run_setObj_map _ hb, Result.andThen] at hrun0
      rw [← hrun0]; rfl
    have e1 : w' = ChangeMaps.setBlock W r (.map (es.push ⟨.int .i64 x, .int .i64 c, clock⟩) (clock + 1)) := by
      simp [Instr.mapUpdate, run_underlying Tryd.underlying165, MapKept.run_getObj_map hb, gkeyed.check W false hkey, h1, MapKept.run_setObj_map _ hb, Result.andThen] at hrun'
      rw [← hrun']; rfl
    have h0 : (Instr.lookup 165 (.map (some r)) (.int .i64 x) false).run Tryd.prog W = .ok (.int .i64 0) W := by
      simp [Instr.lookup, run_underlying Tryd.underlying165, MapKept.run_getObj_map hb, gkeyed.check W _ hkey, h1, Result.andThen]
    have hzero : (R.count x : Int) = 0 := by
      have h7 := hl.symm.trans h0
      simpa using h7
    have hst : ∀ W2 : World, W2.heap[r]? = some (.map (es.push ⟨.int .i64 x, .int .i64 0, clock⟩) (clock + 1)) → (Instr.entryStore 165 (.map (some r)) (.int .i64 clock) (.int .i64 c)).run Tryd.prog W2 = .ok () (ChangeMaps.setBlock W2 r (.map (es.push ⟨.int .i64 x, .int .i64 c, clock⟩) (clock + 1))) := fun W2 hw2 => by
      simp [Instr.entryStore, MapKept.run_getObj_map hw2, asInt, asIntOf, hidx, hmod, MapKept.run_setObj_map _ hw2, Result.andThen, ChangeMaps.setBlock]
    refine ⟨.int .i64 0, clock, ChangeMaps.setBlock W r (.map (es.push ⟨.int .i64 x, .int .i64 0, clock⟩) (clock + 1)), ChangeMaps.setBlock (ChangeMaps.setBlock W r (.map (es.push ⟨.int .i64 x, .int .i64 0, clock⟩) (clock + 1))) r (.map (es.push ⟨.int .i64 x, .int .i64 c, clock⟩) (clock + 1)), ?_, ?_, hst _ hb1, ?_, hgrow1 _, hgrow _ _, by simp [ChangeMaps.setBlock], by simp [ChangeMaps.setBlock]⟩
    · simp [Instr.mapEntry, run_underlying Tryd.underlying165, MapKept.run_getObj_map hb, gkeyed.check W false hkey, h1, MapKept.run_setObj_map _ hb, Result.andThen, ChangeMaps.setBlock, goInt]
    · rw [e0] at hown0
      obtain ⟨d, hrun, hat, _⟩ := hown0.lookup_int gkeyed Tryd.underlying165 Tryd.underlying3 (gzero3 _) hkey
      rw [Maps.atKey_put_same hc.isMap (gisKey hx)] at hat
      have h6 : d = 0 := by simpa using hat.symm
      rw [hrun, h6, hzero]
    · rw [e1] at hown'
      obtain ⟨es2, c2, hb2, hr2⟩ := hown'
      refine ⟨es2, c2, ?_, hr2⟩
      rw [← hb2, ChangeMaps.heap_setBlock_same hb1 _, ChangeMaps.heap_setBlock_same hb _]
  · have hj : es[j]? = some e0 := by simpa using h2
    have hsame : es.modify j (fun e => { e with key := .int .i64 x }) = es := by
      apply Array.ext'
      rw [Array.toList_modify, ChangeMaps.modify_eq_set _ _ _ _ h2]
      have : ({ e0 with key := .int .i64 x } : MapEntry) = e0 := by rw [← h3]
      rw [this]
      exact WideElems.set_self _ _ _ h2
    have hb1 : (ChangeMaps.setBlock W r (.map es clock)).heap[r]? = some (.map es clock) := ChangeMaps.heap_setBlock_same hb _
    have hidx : es.findIdx? (fun e => ((e.born : Nat) : Int) == ((e0.born : Nat) : Int)) = some j := by
      rw [WideElems.findIdx_arr]
      exact WideElems.findIdx_born s2 h2
    have hmod : es.modify j (fun e => { e with val := .int .i64 c }) = es.modify j (fun e' => { e' with key := .int .i64 x, val := .int .i64 c }) := by
      apply Array.ext'
      rw [Array.toList_modify, Array.toList_modify, ChangeMaps.modify_eq_set _ _ _ _ h2, ChangeMaps.modify_eq_set _ _ _ _ h2, ← h3]
    have e1 : w' = ChangeMaps.setBlock W r (.map (es.modify j (fun e' => { e' with key := .int .i64 x, val := .int .i64 c })) clock) := by
      simp [Instr.mapUpdate, run_underlying Tryd.underlying165, MapKept.run_getObj_map hb, gkeyed.check W false hkey, h1, hj, h3, gkeyed.stays W hkey, MapKept.run_setObj_map _ hb, Result.andThen] at hrun'
      rw [← hrun']; rfl
    have hst : ∀ W2 : World, W2.heap[r]? = some (.map es clock) → (Instr.entryStore 165 (.map (some r)) (.int .i64 e0.born) (.int .i64 c)).run Tryd.prog W2 = .ok () (ChangeMaps.setBlock W2 r (.map (es.modify j (fun e' => { e' with key := .int .i64 x, val := .int .i64 c })) clock)) := fun W2 hw2 => by
      simp [Instr.entryStore, MapKept.run_getObj_map hw2, asInt, asIntOf, hidx, hmod, MapKept.run_setObj_map _ hw2, Result.andThen, ChangeMaps.setBlock]
    refine ⟨e0.val, e0.born, ChangeMaps.setBlock W r (.map es clock), ChangeMaps.setBlock (ChangeMaps.setBlock W r (.map es clock)) r (.map (es.modify j (fun e' => { e' with key := .int .i64 x, val := .int .i64 c })) clock), ?_, ?_, hst _ hb1, ?_, hgrow1 _, hgrow _ _, by simp [ChangeMaps.setBlock], by simp [ChangeMaps.setBlock]⟩
    · simp [Instr.mapEntry, run_underlying Tryd.underlying165, MapKept.run_getObj_map hb, gkeyed.check W false hkey, h1, hj, h3, gkeyed.stays W hkey, hsame, MapKept.run_setObj_map _ hb, Result.andThen, ChangeMaps.setBlock, goInt]
    · exact glook ⟨es, clock, hb1, F, hs, hD⟩ hc x hx
    · rw [e1] at hown'
      obtain ⟨es2, c2, hb2, hr2⟩ := hown'
      refine ⟨es2, c2, ?_, hr2⟩
      rw [← hb2, ChangeMaps.heap_setBlock_same hb1 _, ChangeMaps.heap_setBlock_same hb _]

end Go.Proofs.YtgffodmipbefpaaDoor
