/- A line's numbers, read. -/
import Derived.Test.YthfpipieboophaaGreatDoorDkd
namespace Go.Proofs.YthfpipieboophaaGreatDoor
open Go.RowKit Go.Sort Go.Shelf
set_option maxRecDepth 100000
theorem parse_ok {y : List UInt8} {v : Int} (h : Lib.parseIntB 64 y = .ok v) (hs : y.length ≤ 1000000) (W : World) : Calls Tryz.prog 85 #[.string ⟨y.toArray⟩, .int .i64 10, .int .i64 64] W fun e w' => e = .returned (.tuple #[.int .i64 v, .nilIface]) ∧ Below W.heap.size W w' := by
  refine (Tryz.strconv_ParseInt_10_at64_ok ⟨y.toArray⟩ (by show y.toArray.size ≤ _; simp; omega) v h W).mono ?_
  rintro e w' ⟨rfl, rfl | ⟨t, rfl⟩⟩
  · exact ⟨rfl, Below.refl _ _⟩
  · exact ⟨rfl, Go.Joins.below_bytesWorld _ _ _ _ (Nat.le_refl _)⟩
theorem parse_err {y : List UInt8} (h : ∀ v, Lib.parseIntB 64 y ≠ .ok v) (hs : y.length ≤ 1000000) (W : World) (hG : GlobE W) : Calls Tryz.prog 85 #[.string ⟨y.toArray⟩, .int .i64 10, .int .i64 64] W fun e w' => ∃ n t u, e = .returned (.tuple #[.int .i64 n, .iface t u]) ∧ Below W.heap.size W w' := by
  have h1 : (ByteArray.mk y.toArray).size ≤ 281474976710656 := by show y.toArray.size ≤ _; simp; omega
  obtain ⟨v5, a5, b5⟩ := hG.e5
  obtain ⟨v6, a6, b6⟩ := hG.e6
  cases hr : Lib.parseIntB 64 y with
  | ok v => exact absurd hr (h v)
  | «syntax» =>
    refine (Tryz.strconv_ParseInt_10_at64_syntax ⟨y.toArray⟩ h1 hr v5 W a5 b5).mono ?_
    rintro e w' ⟨N, rfl, _, _, hb⟩
    exact ⟨_, _, _, rfl, hb⟩
  | range =>
    refine (Tryz.strconv_ParseInt_10_at64_range ⟨y.toArray⟩ h1 hr v6 W a6 b6).mono ?_
    rintro e w' ⟨N, rfl, _, _, hb⟩
    exact ⟨_, _, _, rfl, hb⟩
theorem format_any {v : Int} (h : In64a v) (W : World) (ht : TabW W) : Calls Tryz.prog 86 #[.int .i64 v, .int .i64 10] W fun e w' => e = .returned (.string ⟨(Lib.itoa v).toArray⟩) ∧ Below W.heap.size W w' := by
  refine (Tryz.strconv_FormatInt_10 v h.1 h.2 W ht).mono ?_
  rintro e w' ⟨rfl, k, os, rfl⟩
  exact ⟨rfl, dk_grow W k os⟩
structure Nb (w : World) (gw off gs k : Nat) (vs : List (List UInt8)) (ns : List Int) (W : World) : Prop where
  low : Below w.heap.size w W
  wrd : ∀ j y, vs[j]? = some y → W.cell? ⟨gw, off + j, none⟩ = some (sV y)
  nums : W.heap[gs]? = some (.cells (ns.map (Value.int .i64) ++ List.replicate (k - ns.length) (Value.int .i64 0)).toArray 3)
  ge : w.heap.size ≤ gs
  ngw : gw < w.heap.size
  got : (vs.take ns.length).map numOf = ns.map some
section
variable {w : World} {gw off gs k : Nat} {vs : List (List UInt8)} {ns : List Int} {W W' : World}
theorem Nb.lt (h : Nb w gw off gs k vs ns W) : gs < W.heap.size := (Array.getElem?_eq_some_iff.1 h.nums).1
theorem Nb.below (h : Nb w gw off gs k vs ns W) (hb : Below W.heap.size W W') : Nb w gw off gs k vs ns W' :=
  ⟨h.low.trans (hb.mono h.low.size), fun j n hj => (hb.cell (p := ⟨gw, off + j, none⟩) (World.block_lt_of_cell? _ _ (h.wrd j n hj))).trans (h.wrd j n hj), (hb.block _ h.lt).trans h.nums, h.ge, h.ngw, h.got⟩
theorem Nb.cells (h : Nb w gw off gs k vs ns W) (hlt : ns.length < k) : W.cell? ⟨gs, ns.length, none⟩ = some (.int .i64 0) ∧ W.frozen? ⟨gs, ns.length, none⟩ = false := by
  refine ⟨?_, Go.Joins.unfrozen_of_block h.nums ns.length⟩
  rw [Go.Joins.cell_of_block h.nums, List.getElem?_toArray, List.getElem?_append_right (by simp), List.getElem?_replicate, if_pos (by simp; omega)]
theorem Nb.store (h : Nb w gw off gs k vs ns W) (hlt : ns.length < k) {n : Int} {y : List UInt8} (hy : vs[ns.length]? = some y) (hn : numOf y = some n) : Nb w gw off gs k vs (ns ++ [n]) (W.setCell ⟨gs, ns.length, none⟩ (.int .i64 n)) := by
  have hs : ∀ j, j ≠ gs → (W.setCell ⟨gs, ns.length, none⟩ (.int .i64 n)).heap[j]? = W.heap[j]? := fun j e => Below.heap_setCell _ _ _ _ e
  have hne : gw ≠ gs := by have := h.ge; have := h.ngw; omega
  refine ⟨h.low.setCell (p := ⟨gs, ns.length, none⟩) h.ge _, fun j m hj => (World.cell?_of_block (w := W) (a := ⟨gw, off + j, none⟩) (hs gw hne)).trans (h.wrd j m hj), ?_, h.ge, h.ngw, ?_⟩
  · rw [Go.Joins.block_setCell h.nums]
    congr 2
    simp only [List.setIfInBounds_toArray]
    congr 1
    rw [List.set_append_right _ _ (by simp)]
    simp only [List.map_append, List.append_assoc, List.map_cons, List.map_nil, List.length_map, List.singleton_append, List.length_append, List.length_cons, List.length_nil]
    congr 1
    obtain ⟨r, hr⟩ : ∃ r, k - ns.length = r + 1 := ⟨k - ns.length - 1, by omega⟩
    rw [hr, Nat.sub_self, List.replicate_succ, List.set_cons_zero, show k - (ns.length + (0 + 1)) = r by omega]
  · rw [List.length_append, List.length_singleton, List.take_add_one, hy]
    simp [h.got, hn]
end
def NumsSay (vs : List (List UInt8)) (base : Nat) (e : Ending) (w' : World) : Prop :=
  match numsOf vs with
  | some ns => ∃ g, base ≤ g ∧ e = .returned (.slice (some ⟨g, 0, none⟩) ns.length ns.length) ∧ w'.heap[g]? = some (.cells (ns.map (Value.int .i64)).toArray 3)
  | none => e = thrown 3
set_option maxHeartbeats 8000000 in
theorem numbers_any (vs : List (List UInt8)) (gw off c : Nat) (oa : Option Addr) (w : World) (hG : GlobE w) (hl : vs.length ≤ 100) (hsz : ∀ y ∈ vs, y.length ≤ 1000000) (hgw : gw < w.heap.size) (hc : ∀ j y, vs[j]? = some y → w.cell? ⟨gw, off + j, none⟩ = some (sV y)) (hoa : vs ≠ [] → oa = some ⟨gw, off, none⟩) :
    Calls Tryz.prog 150 #[.slice oa vs.length c] w fun e w' => NumsSay vs w.heap.size e w' ∧ Below w.heap.size w w' := by
  obtain ⟨zk, hzk, hmk⟩ : ∃ zk : Array Value, Hid (zk = (List.replicate vs.length (Value.int .i64 0)).toArray) ∧ ∀ W : World, (Instr.makeSlice 84 (.int .i64 vs.length) (.int .i64 vs.length)).run Tryz.prog W = .ok (.slice (some ⟨W.heap.size, 0, none⟩) vs.length vs.length) (W.alloc (.cells zk 3)) := mk_nums vs.length hl
  have R0 : Nb w gw off w.heap.size vs.length vs [] (w.alloc (.cells zk 3)) := by
    refine ⟨Go.Joins.below_alloc1 _ _, fun j y hy => ((Go.Joins.below_alloc1 w (.cells zk 3)).cell (p := ⟨gw, off + j, none⟩) hgw).trans (hc j y hy), ?_, Nat.le_refl _, hgw, by simp⟩
    rw [heap_alloc_new, hzk.out]
    simp
  have i1 : (vs.length : Int) ≤ 100 := by omega
  clear hc hzk
  go_enter Tryz.func150, Tryz.ntmps150
  go_wp2
  have RR : Hid (Nb w gw off w.heap.size vs.length vs [] (w.alloc (.cells zk 3))) := R0
  clear R0
  revert RR
  generalize w.alloc (.cells zk 3) = w2
  intro RR
  clear hmk
  go_loopg [13] vs.length (fun gg s13 wr => ∃ ns : List Int, ns.length ≤ vs.length ∧ gg = vs.length - ns.length ∧ s13 = .int .i64 ns.length ∧ Hid (Nb w gw off w.heap.size vs.length vs ns wr))
  case atStart => exact ⟨[], Nat.zero_le _, rfl, rfl, RR⟩
  case round =>
    obtain ⟨ns, hile, hgk, rfl, I⟩ := hrel
    have HG : Hid (gk = vs.length - ns.length) := hgk
    clear hgk RR
    by_cases hlt : ns.length < vs.length
    · obtain ⟨y, hy⟩ : ∃ y, vs[ns.length]? = some y := ⟨_, List.getElem?_eq_getElem hlt⟩
      have hne : vs ≠ [] := fun e => by rw [e] at hlt; simp at hlt
      have ho := hoa hne
      subst ho
      have hcw := I.out.wrd ns.length y hy
      have hys := hsz y (List.mem_of_getElem? hy)
      have j1 : (0 : Int) ≤ (ns.length : Int) := by omega
      have j2 : (ns.length : Int) < (vs.length : Int) := by omega
      have hgr : gw < wr.heap.size := Nat.lt_of_lt_of_le hgw I.out.low.size
      have HGl := hG.below I.out.low
      cases hp : Lib.parseIntB 64 y with
      | ok v =>
        have hv := parse_bounds hp
        by_cases hq : Lib.itoa v = y
        · have hno : numOf y = some v := by unfold numOf; rw [hp]; simp [hq]
          have HP : Hid (Calls Tryz.prog 85 #[.string ⟨y.toArray⟩, .int .i64 10, .int .i64 64] wr fun e w' => e = .returned (.tuple #[.int .i64 v, .nilIface]) ∧ Hid (Nb w gw off w.heap.size vs.length vs ns w' ∧ TabW w')) := (parse_ok hp hys wr).mono fun e w' h => ⟨h.1, I.out.below h.2, tab_below HGl.g.tab h.2⟩
          have HF : Hid (∀ W, Hid (Nb w gw off w.heap.size vs.length vs ns W ∧ TabW W) → Calls Tryz.prog 86 #[.int .i64 v, .int .i64 10] W fun e w' => e = .returned (.string ⟨y.toArray⟩) ∧ (w'.cell? ⟨w.heap.size, ns.length, none⟩ = some (.int .i64 0) ∧ w'.frozen? ⟨w.heap.size, ns.length, none⟩ = false ∧ w.heap.size < w'.heap.size) ∧ Hid (Nb w gw off w.heap.size vs.length vs ns w')) := fun W hW => (format_any hv W hW.out.2).mono fun e w' h => by
            have h2 := hW.out.1.below h.2
            exact ⟨by rw [h.1, hq], ⟨(h2.cells hlt).1, (h2.cells hlt).2, h2.lt⟩, h2⟩
          have HS : Hid (∀ W, Hid (Nb w gw off w.heap.size vs.length vs ns W) → Nb w gw off w.heap.size vs.length vs (ns ++ [v]) (W.setCell ⟨w.heap.size, ns.length, none⟩ (.int .i64 v))) := fun W hW => hW.out.store hlt hy hno
          clear I hy hp hq hno HGl hv
          go_wp2_with (first
            | (go_at_call 85; refine HP.out.mono ?_; rintro e w3 ⟨rfl, h3⟩)
            | (go_at_call 86; refine (HF.out _ h3).mono ?_; rintro e w4 ⟨rfl, hc4, h4⟩)
            | fail)
          go_roundg (vs.length - (ns.length + 1))
          all_goals first
            | (have := HG.out; omega)
            | exact ⟨ns ++ [v], by simp; omega, by simp, by first | rfl | (simp; done) | (congr 1; simp) | (simp; omega), HS.out _ h4⟩
        · have hno : numsOf vs = none := numsOf_none vs ns.length y hy (by unfold numOf; rw [hp]; simp [hq])
          have HN : Hid (∀ W, NumsSay vs w.heap.size (thrown 3) W) := fun W => by unfold NumsSay; rw [hno]
          have HP : Hid (Calls Tryz.prog 85 #[.string ⟨y.toArray⟩, .int .i64 10, .int .i64 64] wr fun e w' => e = .returned (.tuple #[.int .i64 v, .nilIface]) ∧ Hid (Below w.heap.size w w' ∧ TabW w')) := (parse_ok hp hys wr).mono fun e w' h => ⟨h.1, I.out.low.trans (h.2.mono I.out.low.size), tab_below HGl.g.tab h.2⟩
          have HF : Hid (∀ W, Hid (Below w.heap.size w W ∧ TabW W) → Calls Tryz.prog 86 #[.int .i64 v, .int .i64 10] W fun e w' => e = .returned (.string ⟨(Lib.itoa v).toArray⟩) ∧ Hid (Below w.heap.size w w')) := fun W hW => (format_any hv W hW.out.2).mono fun e w' h => ⟨h.1, hW.out.1.trans (h.2.mono hW.out.1.size)⟩
          have hqb : (Lib.itoa v == y) = false := by simpa using hq
          have hqn : (Lib.itoa v != y) = true := by simpa using hq
          clear I hy hp hno HGl hv
          go_wp2_with (first
            | (go_at_call 85; refine HP.out.mono ?_; rintro e w3 ⟨rfl, h3⟩)
            | (go_at_call 86; refine (HF.out _ h3).mono ?_; rintro e w4 ⟨rfl, h4⟩)
            | fail)
          exact ⟨rfl, HN.out _, h4.out⟩
      | «syntax» =>
        have hpe : ∀ v, Lib.parseIntB 64 y ≠ .ok v := fun v e => by rw [hp] at e; cases e
        have hno : numsOf vs = none := numsOf_none vs ns.length y hy (by unfold numOf; rw [hp])
        have HN : Hid (∀ W, NumsSay vs w.heap.size (thrown 3) W) := fun W => by unfold NumsSay; rw [hno]
        have HP : Hid (Calls Tryz.prog 85 #[.string ⟨y.toArray⟩, .int .i64 10, .int .i64 64] wr fun e w' => ∃ n t u, e = .returned (.tuple #[.int .i64 n, .iface t u]) ∧ Hid (Below w.heap.size w w')) := (parse_err hpe hys wr HGl).mono fun e w' ⟨n, t, u, h1, h2⟩ => ⟨n, t, u, h1, I.out.low.trans (h2.mono I.out.low.size)⟩
        clear I hy hp hpe hno HGl
        go_wp2_with (first
          | (go_at_call 85; refine HP.out.mono ?_; rintro e w3 ⟨n, t, u, rfl, h3⟩)
          | fail)
        exact ⟨rfl, HN.out _, h3.out⟩
      | range =>
        have hpe : ∀ v, Lib.parseIntB 64 y ≠ .ok v := fun v e => by rw [hp] at e; cases e
        have hno : numsOf vs = none := numsOf_none vs ns.length y hy (by unfold numOf; rw [hp])
        have HN : Hid (∀ W, NumsSay vs w.heap.size (thrown 3) W) := fun W => by unfold NumsSay; rw [hno]
        have HP : Hid (Calls Tryz.prog 85 #[.string ⟨y.toArray⟩, .int .i64 10, .int .i64 64] wr fun e w' => ∃ n t u, e = .returned (.tuple #[.int .i64 n, .iface t u]) ∧ Hid (Below w.heap.size w w')) := (parse_err hpe hys wr HGl).mono fun e w' ⟨n, t, u, h1, h2⟩ => ⟨n, t, u, h1, I.out.low.trans (h2.mono I.out.low.size)⟩
        clear I hy hp hpe hno HGl
        go_wp2_with (first
          | (go_at_call 85; refine HP.out.mono ?_; rintro e w3 ⟨n, t, u, rfl, h3⟩)
          | fail)
        exact ⟨rfl, HN.out _, h3.out⟩
    · have j2 : ¬ ((ns.length : Int) < (vs.length : Int)) := by omega
      have e1 : ns.length = vs.length := by omega
      have hgot := I.out.got
      rw [e1, List.take_length] at hgot
      have hnm := I.out.nums
      rw [e1, Nat.sub_self, List.replicate_zero, List.append_nil] at hnm
      have HN : Hid (NumsSay vs w.heap.size (.returned (.slice (some ⟨w.heap.size, 0, none⟩) vs.length vs.length)) wr) := by
        show NumsSay vs w.heap.size (.returned (.slice (some ⟨w.heap.size, 0, none⟩) vs.length vs.length)) wr
        unfold NumsSay
        rw [numsOf_some vs ns hgot]
        exact ⟨w.heap.size, Nat.le_refl _, by rw [e1], hnm⟩
      have HB : Hid (Below w.heap.size w wr) := I.out.low
      clear I hgot hnm e1
      go_wp2
      go_ret
      exact ⟨HN.out, HB.out⟩
end Go.Proofs.YthfpipieboophaaGreatDoor
