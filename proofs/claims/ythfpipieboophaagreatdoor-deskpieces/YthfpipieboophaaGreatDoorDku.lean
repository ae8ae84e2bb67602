/- strings.Builder whose buffer's block is told. -/
import Derived.Test.YthfpipieboophaaGreatDoorBld
import Derived.Test.YthfpipieboophaaGreatDoorJnz
namespace Go.Proofs.YthfpipieboophaaGreatDoor
open Go.RowKit Go.Shelf
set_option maxRecDepth 100000
theorem append_block {P : Program} (w : World) (base : Nat) (t u ty e : TypeId) (i : TypeInfo) (ht : P.underlying t = some (.slice e)) (hu : P.underlying u = some .string) (hi : P.info? e = some i) (hz : i.zero = some (.int .u8 0)) (hsize : i.size = 1) (hby : i.bytes = 1)
    (v : Value) (n : Nat) (xs : List Value) (hown : w.ownsRowF base e 1 v n xs) (s : ByteArray) (h63 : n + s.size ≤ maxLen) (hbytes : n + s.size ≤ 140737488355328) {v' : Value} {w' : World}
    (hr : (Builtin.append_ #[t, u] ty #[v, .string s]).run P w = .ok v' w') : ∀ k, v'.ownBlock = some k → v.ownBlock = some k ∨ w.heap.size ≤ k := by
  intro k hk
  rcases hown.2 with ⟨rfl, rfl⟩ | ⟨g, cap, cur, fz, rfl, hbg, hg, hfz, hnc, hcm, hcs, htake⟩
  · obtain ⟨v2, w2, h1, h2, _, _⟩ := Lib.run_append_own_string (P := P) w w.heap.size t u ty e i ht hu hi hz hsize hby (.slice none 0 0) 0 xs ⟨hown.1, .inl ⟨rfl, rfl⟩⟩ s h63 hbytes (Nat.le_refl _)
    rw [h1] at hr
    injection hr with e1 _
    subst e1
    exact .inr ((World.ownsRowF_of h2).lt k hk).1
  · have hxl : xs.length = n := by simpa using hown.1
    by_cases hroom : n + s.size ≤ cap
    · have hcs' : cur.size = cap := by simpa using hcs
      have h1 := Lib.run_append_room_stringF (P := P) w t u ty e i ht hu hi hsize g n cap cur fz hg (by simpa using hfz) s hroom (by omega)
      rw [h1] at hr
      injection hr with e1 _
      subst e1
      exact .inl hk
    · have h1 := Lib.run_append_grow_string (P := P) w t u ty e i (.int .u8 0) ht hu hi hz ⟨g, 0, none⟩ n cap xs (by rw [hsize]; simpa using hxl) (hown.cells (g := g) rfl) s (by omega) (by simp only [maxLen] at h63; omega) (by rw [hby]; exact growslice_fits (by omega) (by omega))
      rw [h1] at hr
      injection hr with e1 _
      subst e1
      simp [Value.ownBlock] at hk
      exact .inr (by omega)
theorem wpList_append_blk {P : Program} {w : World} {ops : Array Oper} {rest : List Oper} {o : Oper} {a : Act} {Q : Exit → Act → World → Prop} (hgd : o.guard = none) (sl x : Operand) (t u : TypeId)
    (ho : o.op = .call { callee := .builtin .append, args := #[sl, x], argTypes := #[t, u] })
    (base : Nat) (e : TypeId) (i : TypeInfo) (ht : P.underlying t = some (.slice e)) (hu : P.underlying u = some .string) (hi : P.info? e = some i) (hz : i.zero = some (.int .u8 0)) (hsize : i.size = 1) (hby : i.bytes = 1)
    (v : Value) (n : Nat) (xs : List Value) (hs : a.eval sl = v) (hown : w.ownsRowF base e 1 v n xs) (s : ByteArray) (hx : a.eval x = .string s)
    (h63 : n + s.size ≤ maxLen) (hbytes : n + s.size ≤ 140737488355328) (hbase : base ≤ w.heap.size)
    (h : ∀ v' w', w'.ownsRowF base e 1 v' (n + s.size) (xs ++ Lib.strCells s) → w.grownBy w' v.ownBlock → (∀ k, v'.ownBlock = some k → v.ownBlock = some k ∨ w.heap.size ≤ k) → wpList P ops Q rest (a.put o.dst v') w') : wpList P ops Q (o :: rest) a w := by
  refine wpList_plain hgd fun K hK => ?_
  obtain ⟨v', w', hr, h2, h3, _⟩ := Lib.run_append_own_stringF (P := P) w base t u o.type e i ht hu hi hz hsize hby v n xs hown s h63 hbytes hbase
  have h4 := append_block w base t u o.type e i ht hu hi hz hsize hby v n xs hown s h63 hbytes hr
  unfold Oper.wp execOp
  simp only [ho, resolve, invoke, builtin, Sem.run_bind, Sem.run_pure, Result.andThen_ok, List.map_toArray, List.map_cons, List.map_nil, hs, hx, hr]
  exact hK _ _ (h v' w' h2 h3 h4)
structure Bo (B b : Nat) (bs : List Value) (og : Option Nat) (w : World) : Prop where
  ge : B ≤ b
  ex : ∃ p v, w.heap[b]? = some (.cells #[p, v] 126 (0, 0)) ∧ (p = .pointer none ∨ p = .pointer (some ⟨b, 0, none⟩)) ∧ w.ownsRowF B 5 1 v bs.length bs ∧ v.ownBlock = og
  ne : og ≠ some b
theorem Bo.isF {B b : Nat} {bs : List Value} {og : Option Nat} {w : World} (h : Bo B b bs og w) : Lib.IsBuilderF 126 5 B b bs w := by
  obtain ⟨h1, ⟨p, v, hb, hp, ho, hv⟩, hn⟩ := h
  rcases hp with rfl | rfl
  · exact .inl ⟨h1, v, hb, ho, by rw [hv]; exact hn⟩
  · exact .inr ⟨h1, v, hb, ho, by rw [hv]; exact hn⟩
theorem Bo.still {B b : Nat} {bs : List Value} {og : Option Nat} {w w' : World} (h : Bo B b bs og w) (hk : ∀ k, k = b ∨ og = some k → w'.heap[k]? = w.heap[k]?) : Bo B b bs og w' := by
  obtain ⟨h1, ⟨p, v, hb, hp, ho, hv⟩, hn⟩ := h
  refine ⟨h1, ⟨p, v, (hk b (.inl rfl)).trans hb, hp, ⟨ho.1, ?_⟩, hv⟩, hn⟩
  rcases ho.2 with e | ⟨g, cap, cur, fz, rfl, hbg, hg, rest⟩
  · exact .inl e
  · exact .inr ⟨g, cap, cur, fz, rfl, hbg, (hk g (.inr (by rw [← hv]; rfl))).trans hg, rest⟩
theorem Bo.lt {B b : Nat} {bs : List Value} {og : Option Nat} {w : World} (h : Bo B b bs og w) : b < w.heap.size ∧ ∀ k, og = some k → B ≤ k ∧ k < w.heap.size := by
  obtain ⟨h1, ⟨p, v, hb, hp, ho, hv⟩, hn⟩ := h
  exact ⟨(Array.getElem?_eq_some_iff.1 hb).1, fun k e => ho.lt k (hv.trans e)⟩
theorem Bo.made (B : Nat) (w : World) (hB : B ≤ w.heap.size) : Bo B w.heap.size [] none (w.alloc (.cells #[.pointer none, .slice none 0 0] 126)) :=
  ⟨hB, ⟨_, _, heap_alloc_new w _, .inl rfl, World.ownsRowF_nil _ _ _ _, rfl⟩, by simp⟩
theorem copyCheck_own (B b : Nat) (bs : List Value) (og : Option Nat) (w : World) (h : Bo B b bs og w) :
    Calls Tryz.prog 147 #[.pointer (some ⟨b, 0, none⟩)] w fun e w' => e = .returned (.tuple #[]) ∧ ∃ v, w'.heap[b]? = some (.cells #[.pointer (some ⟨b, 0, none⟩), v] 126 (0, 0)) ∧ w'.ownsRowF B 5 1 v bs.length bs ∧ v.ownBlock = og ∧ Turned (fun k => k = b) w w' := by
  obtain ⟨h1, ⟨p, v, hb, hp, ho, hv⟩, hn⟩ := h
  rcases hp with rfl | rfl
  · refine (copyCheck_fresh b w (by rw [Lib.cell_of_heap hb]; rfl) (by simp [World.shape?, hb]) (Lib.frozen_of_heap hb 0)).mono ?_
    rintro e w' ⟨rfl, rfl⟩
    refine ⟨rfl, v, ?_, ?_, hv, turned_cell (b := b) (o := 0)⟩
    · rw [Go.Joins.block_setCell hb]; rfl
    · refine ⟨ho.1, ?_⟩
      rcases ho.2 with e | ⟨g, cap, cur, fz, rfl, hbg, hg, rest⟩
      · exact .inl e
      · refine .inr ⟨g, cap, cur, fz, rfl, hbg, (Below.heap_setCell _ _ _ _ ?_).trans hg, rest⟩
        intro e
        apply hn
        rw [← hv, ← show g = b from e]
        rfl
  · refine (copyCheck_used b w (by rw [Lib.cell_of_heap hb]; rfl)).mono ?_
    rintro e w' ⟨rfl, rfl⟩
    exact ⟨rfl, v, hb, ho, hv, Turned.of_below (Below.refl _ _)⟩
set_option maxHeartbeats 2000000 in
theorem write_own (B b : Nat) (bs : List Value) (og : Option Nat) (s : ByteArray) (w : World) (h : Bo B b bs og w) (hlen : bs.length + s.size ≤ 140737488355328) (hBw : B ≤ w.heap.size) :
    Calls Tryz.prog 78 #[.pointer (some ⟨b, 0, none⟩), .string s] w fun e w' => e = .returned (.tuple #[.int .i64 s.size, .nilIface]) ∧ ∃ og', Bo B b (bs ++ Lib.strCells s) og' w' ∧ Turned (fun k => k = b ∨ og = some k) w w' ∧ ∀ k, og' = some k → og = some k ∨ w.heap.size ≤ k := by
  obtain ⟨i0, hi, hz0, hz1, hz2⟩ := info_parts infoByte
  have hB := h.ge
  have hnb := h.ne
  go_enter Tryz.func78, Tryz.ntmps78
  go_wp2_with (first
    | (go_at_call 147; refine (copyCheck_own B b bs og _ h).mono ?_)
    | fail)
  rintro e w1 ⟨rfl, v, hbk, hown, hv, hT⟩
  have c0 : w1.cell? ⟨b, 0, none⟩ = some (.pointer (some ⟨b, 0, none⟩)) := by rw [Lib.cell_of_heap hbk]; rfl
  have c1 : w1.cell? ⟨b, 1, none⟩ = some v := by rw [Lib.cell_of_heap hbk]; rfl
  go_wp2_with (at_builtin; refine wpList_append_blk rfl _ _ 124 9 rfl B 5 i0 Tryz.underlying124 Tryz.underlying9 hi hz0 hz1 hz2 _ _ _ rfl hown s rfl ?c3 ?c4 ?c5 ?_)
  case c3 => unfold maxLen; omega
  case c4 => omega
  case c5 => have := hT.size; omega
  intro v' w2 hown' hgrow hblk
  have hlt : b < w1.heap.size := (Array.getElem?_eq_some_iff.1 hbk).1
  have hb2 : w2.heap[b]? = some (.cells #[.pointer (some ⟨b, 0, none⟩), v] 126 (0, 0)) := by
    rw [hgrow.block b hlt (fun e => hnb e.symm)]
    exact hbk
  have d0 : w2.cell? ⟨b, 0, none⟩ = some (.pointer (some ⟨b, 0, none⟩)) := by rw [Lib.cell_of_heap hb2]; rfl
  have d1 : w2.cell? ⟨b, 1, none⟩ = some v := by rw [Lib.cell_of_heap hb2]; rfl
  have f1 : w2.frozen? ⟨b, 1, none⟩ = false := Lib.frozen_of_heap hb2 1
  obtain ⟨ao, n', cap, rfl⟩ : ∃ ao n' cap, v' = .slice ao n' cap := by
    rcases hown'.2 with ⟨hv, _⟩ | ⟨g, cap, cur, fz, hv, _⟩
    · exact ⟨_, _, _, hv⟩
    · exact ⟨_, _, _, hv⟩
  go_wp2
  go_ret2
  have hne2 : (Value.slice ao n' cap).ownBlock ≠ some b := fun e => by
    rcases hblk b e with g | g
    · exact hnb g
    · omega
  refine ⟨rfl, (Value.slice ao n' cap).ownBlock, ⟨hB, ⟨_, _, by rw [Go.Joins.block_setCell hb2]; rfl, .inr rfl, ⟨by rw [List.length_append, Lib.strCells_length, Nat.mul_one], ?_⟩, rfl⟩, hne2⟩, ?_, ?_⟩
  · rw [List.length_append, Lib.strCells_length]
    rcases hown'.2 with e | ⟨g, cap', cur, fz, e, hbg, hg, rest⟩
    · exact .inl e
    · refine .inr ⟨g, cap', cur, fz, e, hbg, (Below.heap_setCell _ _ _ _ ?_).trans hg, rest⟩
      intro e2
      apply hne2
      rw [e, ← show g = b from e2]
      rfl
  · refine ((hT.mono (fun k e => Or.inl e)).trans (Turned.of_grown (S := fun k => k = b ∨ og = some k) hgrow (fun k e => Or.inr e)) (fun k _ e => e)).trans (turned_cell (b := b) (o := 1)) (fun k _ e => Or.inl e)
  · intro k e
    have hz := hT.size
    rcases hblk k e with g | g
    · exact .inl g
    · exact .inr (by omega)
end Go.Proofs.YthfpipieboophaaGreatDoor
