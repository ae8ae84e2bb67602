/- Tlz: several texts in one. -/
import Derived.Test.YtmmbjbgimpgcfaaGreatDoorKpa
import Derived.Test.YtmmbjbgimpgcfaaGreatDoorVwz
/- A tale (estuarykeep.tale): an engine, and all rows that it took; what a row does. -/
namespace Go.Proofs.YtmmbjbgimpgcfaaGreatDoor
open Go.RowKit Go.Sort
set_option maxRecDepth 100000

/-- A number below n. -/
def pickN (a : Int) (n : Nat) : Nat := ((IntKind.u64.wrap a).tmod n).toNat
theorem wrap_nonneg (a : Int) : 0 ≤ IntKind.u64.wrap a := by simp [IntKind.wrap, IntKind.bits, IntKind.signed]; omega
theorem pickN_lt (a : Int) (n : Nat) (hn : 0 < n) : pickN a n < n ∧ ((pickN a n : Nat) : Int) = (IntKind.u64.wrap a).tmod n := by
  have h0 := wrap_nonneg a
  unfold pickN
  rw [Int.tmod_eq_emod_of_nonneg h0]
  have h1 := Int.emod_nonneg (IntKind.u64.wrap a) (b := (n : Int)) (by omega)
  have h2 := Int.emod_lt_of_pos (IntKind.u64.wrap a) (b := (n : Int)) (by omega)
  omega
theorem pick_any (a : Int) (n : Nat) (w : World) (hn : 0 < n) (h60 : n ≤ 1000) : Calls Tryz.prog 13 #[.int .i64 a, .int .i64 n] w fun e w' => e = .returned (.int .i64 (pickN a n)) ∧ w' = w := by
  obtain ⟨h1, h2⟩ := pickN_lt a n hn
  have h3 : wrap64 ((IntKind.u64.wrap a).tmod n) = (pickN a n : Int) := by rw [← h2]; unfold wrap64; omega
  clear h2
  go_enter Tryz.func13, Tryz.ntmps13
  go_wp2
  go_ret
  exact ⟨ret_int h3, rfl⟩

def encRw (r : Rw) : List Value := [.int .i64 r.k, .int .i64 r.t, .int .i64 r.v]
def zRw : Value := .agg #[.int .i64 0, .int .i64 0, .int .i64 0]
theorem infoRw : (Tryz.prog.info? 48).map (fun i => (i.zero, i.size, i.bytes)) = some (some zRw, 3, 24) := by kernel_rfl
theorem encRw_one (r : Rw) : ∀ u ∈ encRw r, u.oneCell' = true := by
  intro u hu; simp [encRw] at hu; rcases hu with rfl | rfl | rfl <;> rfl
theorem flatC_get (xs : List Ch) (k j : Nat) (x : Ch) (hx : xs[k]? = some x) (hj : j < 10) : (xs.flatMap encC)[k * 10 + j]? = (encC x)[j]? := by
  induction xs generalizing k with
  | nil => simp at hx
  | cons a r ih =>
    rw [List.flatMap_cons]
    cases k with
    | zero =>
      simp at hx
      subst hx
      rw [List.getElem?_append_left (by rw [encC_len]; omega)]
      congr 1; omega
    | succ k =>
      rw [List.getElem?_append_right (by rw [encC_len]; omega), encC_len, show (k + 1) * 10 + j - 10 = k * 10 + j by omega]
      exact ih k (by simpa using hx)
theorem ch_cells {W : World} {base gs n ck : Nat} {xs : List Ch} (h : W.ownsRow base 66 10 (.slice (some ⟨gs, 0, none⟩) n ck) n (xs.flatMap encC)) (k : Nat) (c : Ch) (hx : xs[k]? = some c) :
    W.cell? ⟨gs, k * 10, none⟩ = some (.int .i64 c.x.k) ∧ W.cell? ⟨gs, k * 10 + 1, none⟩ = some (.int .i64 c.x.lk) ∧ W.cell? ⟨gs, k * 10 + 2, none⟩ = some (.int .i64 c.x.lt) ∧ W.cell? ⟨gs, k * 10 + 3, none⟩ = some (.int .i64 c.x.lv) ∧ W.cell? ⟨gs, k * 10 + 4, none⟩ = some (.int .i64 c.x.rk) ∧ W.cell? ⟨gs, k * 10 + 5, none⟩ = some (.int .i64 c.x.rt) ∧ W.cell? ⟨gs, k * 10 + 6, none⟩ = some (.int .i64 c.x.rv) ∧ W.cell? ⟨gs, k * 10 + 7, none⟩ = some (.bool c.x.hl) ∧ W.cell? ⟨gs, k * 10 + 8, none⟩ = some (.bool c.x.hr) ∧ W.cell? ⟨gs, k * 10 + 9, none⟩ = some (.bool c.g) := by
  have key := fun (j : Nat) (v : Value) (hj : j < 10) (hv : (encC c)[j]? = some v) => h.cells (g := gs) rfl (k * 10 + j) v ((flatC_get xs k j c hx hj).trans hv)
  simp only [add_at] at key
  exact ⟨key 0 _ (by omega) rfl, key 1 _ (by omega) rfl, key 2 _ (by omega) rfl, key 3 _ (by omega) rfl, key 4 _ (by omega) rfl, key 5 _ (by omega) rfl, key 6 _ (by omega) rfl, key 7 _ (by omega) rfl, key 8 _ (by omega) rfl, key 9 _ (by omega) rfl⟩

theorem okC_at : ∀ (C : List Ch) (F : List O) (i : Nat) (c : Ch), okC F C → C[i]? = some c → c.g = true → c.x ∈ appC F (C.take i) ∧ (c.x.hl && c.x.hr) = false
  | [], _, i, c, _, h, _ => by simp at h
  | a :: C, F, 0, c, ho, h, hg => by
    simp at h
    subst h
    exact ho.1 hg
  | a :: C, F, i + 1, c, ho, h, hg => by
    rw [List.take_succ_cons, appC_cons]
    exact okC_at C _ i c ho.2 (by simpa using h) hg
theorem appC_take (C : List Ch) (F : List O) (i : Nat) (c : Ch) (h : C[i]? = some c) : appC F (C.take (i + 1)) = if c.g = true then (appC F (C.take i)).erase c.x else c.x :: appC F (C.take i) := by
  rw [List.take_add_one, h, appC_append]
  rfl
theorem appC_len : ∀ (C : List Ch) (F : List O), (appC F C).length ≤ F.length + C.length
  | [], F => Nat.le_refl _
  | c :: C, F => by
    rw [appC_cons]
    refine Nat.le_trans (appC_len C _) ?_
    split
    · have := List.length_erase_le (a := c.x) (l := F); simp; omega
    · simp; omega

/-- Block bt is a tale: ve its engine, va, vb the rows that it took, bf the fold. -/
structure TaleAt (w : World) (base bt : Nat) (ve : Value) (lo hi mode a0 a1 : Int) (va vb : Value) (bf nF : Nat) (A B : List Rw) (F : List O) : Prop where
  blk : w.heap[bt]? = some (.cells #[ve, .int .i64 lo, .int .i64 hi, .int .i64 mode, va, vb, .int .i64 a0, .int .i64 a1, .map (some bf)] 38)
  r0 : w.ownsRow base 48 3 va A.length (A.flatMap encRw)
  r1 : w.ownsRow base 48 3 vb B.length (B.flatMap encRw)
  apart : ∀ g, va.ownBlock = some g → vb.ownBlock ≠ some g
  fold : ∃ n D, n ≤ nF ∧ w.ownsMap Tryz.prog 50 (plainElem (H := Unit) Tryz.prog 3) bf n D ∧ Cn0 D F

theorem own_ne48 {w : World} {base n b T : Nat} {v : Value} {xs : List Value} {cs : Array Value} (h : w.ownsRow base 48 3 v n xs) (hb : w.heap[b]? = some (.cells cs T)) (hT : T ≠ 48) : v.ownBlock ≠ some b := by
  rcases h.2 with ⟨rfl, _⟩ | ⟨g, cap, cur, rfl, _, hg, _⟩
  · simp [Value.ownBlock]
  · intro e
    simp [Value.ownBlock] at e
    subst e
    rw [hb] at hg
    cases hg
    exact hT rfl
theorem own_ne_map {w : World} {base n e size bm nn : Nat} {v : Value} {xs : List Value} {D : DataW Unit} (h : w.ownsRow base e size v n xs) (hb : w.ownsMap Tryz.prog 50 (plainElem (H := Unit) Tryz.prog 3) bm nn D) : v.ownBlock ≠ some bm := by
  obtain ⟨es, c, h1, _⟩ := hb
  rcases h.2 with ⟨rfl, _⟩ | ⟨g, cap, cur, rfl, _, hg, _⟩
  · simp [Value.ownBlock]
  · intro e
    simp [Value.ownBlock] at e
    subst e
    rw [h1] at hg
    cases hg
section
variable {w w' : World} {base bt : Nat} {ve : Value} {lo hi mode a0 a1 : Int} {va vb : Value} {bf nF : Nat} {A B : List Rw} {F : List O}
theorem TaleAt.lt (h : TaleAt w base bt ve lo hi mode a0 a1 va vb bf nF A B F) : bt < w.heap.size := (Array.getElem?_eq_some_iff.1 h.blk).1
theorem TaleAt.ltf (h : TaleAt w base bt ve lo hi mode a0 a1 va vb bf nF A B F) : bf < w.heap.size := by obtain ⟨n, D, _, h1, _⟩ := h.fold; exact h1.lt
theorem TaleAt.nef (h : TaleAt w base bt ve lo hi mode a0 a1 va vb bf nF A B F) : bf ≠ bt := fun e => by
  obtain ⟨n, D, _, ⟨es, c, h1, _⟩, _⟩ := h.fold
  rw [e, h.blk] at h1
  cases h1
/-- Of whom the tale's blocks are as they were, it is that tale. -/
theorem TaleAt.kept (h : TaleAt w base bt ve lo hi mode a0 a1 va vb bf nF A B F) (hk : ∀ k, k < w.heap.size → (k = bt ∨ k = bf ∨ va.ownBlock = some k ∨ vb.ownBlock = some k) → w'.heap[k]? = w.heap[k]?) : TaleAt w' base bt ve lo hi mode a0 a1 va vb bf nF A B F := by
  refine ⟨(hk bt h.lt (Or.inl rfl)).trans h.blk, own_still h.r0 (fun g e => hk g (h.r0.lt g e).2 (Or.inr (Or.inr (Or.inl e)))), own_still h.r1 (fun g e => hk g (h.r1.lt g e).2 (Or.inr (Or.inr (Or.inr e)))), h.apart, ?_⟩
  obtain ⟨n, D, h1, h2, h3⟩ := h.fold
  exact ⟨n, D, h1, own_map_kept h2 (hk bf h.ltf (Or.inr (Or.inl rfl))), h3⟩
theorem TaleAt.below (h : TaleAt w base bt ve lo hi mode a0 a1 va vb bf nF A B F) (hb : Below w.heap.size w w') : TaleAt w' base bt ve lo hi mode a0 a1 va vb bf nF A B F := h.kept (fun k hk _ => hb.block k hk)
theorem TaleAt.cells (h : TaleAt w base bt ve lo hi mode a0 a1 va vb bf nF A B F) : w.cell? ⟨bt, 0, none⟩ = some ve ∧ w.cell? ⟨bt, 4, none⟩ = some va ∧ w.cell? ⟨bt, 5, none⟩ = some vb ∧ w.cell? ⟨bt, 8, none⟩ = some (.map (some bf)) ∧ w.frozen? ⟨bt, 4, none⟩ = false ∧ w.frozen? ⟨bt, 5, none⟩ = false := by
  refine ⟨?_, ?_, ?_, ?_, Go.Joins.unfrozen_of_block h.blk 4, Go.Joins.unfrozen_of_block h.blk 5⟩ <;> (rw [Go.Joins.cell_of_block h.blk]; rfl)
end

end Go.Proofs.YtmmbjbgimpgcfaaGreatDoor

/- A tale: what a row does to it (estuarykeep.tale.does, where it is taken), for every engine. -/
namespace Go.Proofs.YtmmbjbgimpgcfaaGreatDoor
open Go.RowKit Go.Sort
set_option maxRecDepth 100000

abbrev bits10 (c : Ch) : Array Value := #[.int .i64 c.x.k, .int .i64 c.x.lk, .int .i64 c.x.lt, .int .i64 c.x.lv, .int .i64 c.x.rk, .int .i64 c.x.rt, .int .i64 c.x.rv, .bool c.x.hl, .bool c.x.hr, .bool c.g]

/-- An engine of a footprint hangs on that footprint alone. -/
def Steady (Eng : (Nat → Prop) → World → Prop) : Prop := ∀ S W W', Eng S W → W.heap.size ≤ W'.heap.size → (∀ k, S k → W'.heap[k]? = W.heap[k]?) → Eng S W'

/-- Within the loop over what changes: i changes are laid. -/
structure Dl (Eng : (Nat → Prop) → World → Prop) (S S0 : Nat → Prop) (w : World) (base bt : Nat) (ve : Value) (lo hi mode a0 a1 : Int) (va vb : Value) (bf nF : Nat) (A B : List Rw) (F : List O) (C : List Ch) (B0 : Nat) (v9 : Value) (i : Nat) (wr : World) : Prop where
  tale : TaleAt wr base bt ve lo hi mode a0 a1 va vb bf (nF + i) A B (appC F (C.take i))
  eng : Eng S wr
  apart : ∀ k, S k → k < wr.heap.size ∧ k ≠ bt ∧ k ≠ bf ∧ va.ownBlock ≠ some k ∧ vb.ownBlock ≠ some k
  row : wr.ownsRow B0 66 10 v9 C.length (C.flatMap encC)
  turn : Turned S0 w wr

section
variable {Eng : (Nat → Prop) → World → Prop} {S S0 : Nat → Prop} {w : World} {base bt : Nat} {ve : Value} {lo hi mode a0 a1 : Int} {va vb : Value} {bf nF : Nat} {A B : List Rw} {F : List O} {C : List Ch} {B0 : Nat} {v9 : Value} {i : Nat} {wr : World}

theorem Dl.below (h : Dl Eng S S0 w base bt ve lo hi mode a0 a1 va vb bf nF A B F C B0 v9 i wr) (hst : Steady Eng) {W : World} (hb : Below wr.heap.size wr W) : Dl Eng S S0 w base bt ve lo hi mode a0 a1 va vb bf nF A B F C B0 v9 i W :=
  ⟨h.tale.below hb, hst S wr W h.eng hb.size (fun k hk => hb.block k (h.apart k hk).1), fun k hk => ⟨Nat.lt_of_lt_of_le (h.apart k hk).1 hb.size, (h.apart k hk).2⟩, kept_below h.row hb, h.turn.trans (Turned.of_below (S := fun _ => False) hb) (fun _ _ e => e.elim)⟩

/-- One change more: the fold alone is turned. -/
theorem Dl.step (h : Dl Eng S S0 w base bt ve lo hi mode a0 a1 va vb bf nF A B F C B0 v9 i wr) (hst : Steady Eng) {W : World} {n : Nat} {D : DataW Unit} (hg : wr.grownBy W (some bf)) (hn : n ≤ nF + (i + 1)) (hown : W.ownsMap Tryz.prog 50 (plainElem (H := Unit) Tryz.prog 3) bf n D) (hc : Cn0 D (appC F (C.take (i + 1)))) (hS0 : S0 bf) :
    Dl Eng S S0 w base bt ve lo hi mode a0 a1 va vb bf nF A B F C B0 v9 (i + 1) W := by
  have hk : ∀ k, k < wr.heap.size → k ≠ bf → W.heap[k]? = wr.heap[k]? := fun k hk hne => hg.block k hk (by simpa using hne)
  obtain ⟨n0, D0, hn0, hown0, hc0⟩ := h.tale.fold
  refine ⟨⟨(hk bt h.tale.lt (fun e => h.tale.nef e.symm)).trans h.tale.blk, own_still h.tale.r0 (fun g e => hk g (h.tale.r0.lt g e).2 (fun e2 => own_ne_map h.tale.r0 hown0 (by rw [← e2]; exact e))), own_still h.tale.r1 (fun g e => hk g (h.tale.r1.lt g e).2 (fun e2 => own_ne_map h.tale.r1 hown0 (by rw [← e2]; exact e))), h.tale.apart, n, D, hn, hown, hc⟩, ?_, fun k hk2 => ⟨Nat.lt_of_lt_of_le (h.apart k hk2).1 hg.size, (h.apart k hk2).2⟩, ?_, ?_⟩
  · exact hst S wr W h.eng hg.size (fun k hk2 => hk k (h.apart k hk2).1 (h.apart k hk2).2.2.1)
  · exact own_still h.row (fun g e => hk g (h.row.lt g e).2 (fun e2 => own_ne_map h.row hown0 (by rw [← e2]; exact e)))
  · exact h.turn.trans (Turned.of_grown (S := fun k => k = bf) hg (fun k e => by cases e; rfl)) (fun k _ e => by rw [e]; exact hS0)
end

theorem look_entry0 {W : World} {bm n : Nat} {D : DataW Unit} {L : List O} (hown : W.ownsMap Tryz.prog 50 (plainElem (H := Unit) Tryz.prog 3) bm n D) (hc : Cn0 D L) (hn : n < 1000000000) (x : O) (hx : x.wf) {v0 : Value} {W1 : World}
    (he : (Instr.mapEntry 36 (.map (some bm)) (vO x)).run Tryz.prog W = .ok v0 W1) : (Instr.lookup 36 (.map (some bm)) (vO x) false).run Tryz.prog W1 = .ok (.int .i64 (L.count x)) W1 := by
  have hkey := key_of x hx
  have hl := look0 hown hc x hx
  have hown0 := hown
  obtain ⟨w', hrun', hown', _⟩ := hown.update keyed Tryz.underlying36 (by unfold maxLen; omega) hkey (plainElem_int (H := Unit) (a := 0) Tryz.underlying3 (by decide))
  obtain ⟨es, clock, hb, F, hs, hD⟩ := hown
  rcases keyed.find W hkey es.toList F.keys with ⟨h1, h2⟩ | ⟨j, e0, h1, h2, h3⟩
  · have e1 : W1 = w' := by
      simp [Instr.mapEntry, run_underlying Tryz.underlying36, MapKept.run_getObj_map hb, keyed.check W false hkey, h1, MapKept.run_setObj_map _ hb, Result.andThen] at he
      simp [Instr.mapUpdate, run_underlying Tryz.underlying36, MapKept.run_getObj_map hb, keyed.check W false hkey, h1, MapKept.run_setObj_map _ hb, Result.andThen] at hrun'
      rw [← he.2, ← hrun']
    have h0 : (Instr.lookup 36 (.map (some bm)) (vO x) false).run Tryz.prog W = .ok (.int .i64 0) W := by
      simp [Instr.lookup, run_underlying Tryz.underlying36, MapKept.run_getObj_map hb, keyed.check W _ hkey, h1, Result.andThen]
    have h0 : (L.count x : Int) = 0 := by
      have h7 := hl.symm.trans h0
      simpa using h7
    subst e1
    obtain ⟨c, hrun, hat, _⟩ := hown'.lookup_int keyed Tryz.underlying36 Tryz.underlying3 (zero3 _) hkey
    rw [Maps.atKey_put_same hc.isMap (isKey x hx)] at hat
    have h6 : c = 0 := by simpa using hat.symm
    rw [hrun, h6, h0]
  · have hj : es[j]? = some e0 := by simpa using h2
    have e1 : W1.ownsMap Tryz.prog 50 (plainElem (H := Unit) Tryz.prog 3) bm n D := by
      simp [Instr.mapEntry, run_underlying Tryz.underlying36, MapKept.run_getObj_map hb, keyed.check W false hkey, h1, hj, h3, keyed.stays W hkey, MapKept.run_setObj_map _ hb, Result.andThen] at he
      have hsame : es.modify j (fun e => { e with key := vO x }) = es := by
        apply Array.ext'
        rw [Array.toList_modify, ChangeMaps.modify_eq_set _ _ _ _ h2]
        have : ({ e0 with key := vO x } : MapEntry) = e0 := by rw [← h3]
        rw [this]
        exact WideElems.set_self _ _ _ h2
      rw [hsame] at he
      refine ⟨es, clock, ?_, F, hs, hD⟩
      rw [← he.2]
      exact ChangeMaps.heap_setBlock_same hb _
    exact look0 e1 hc x hx

end Go.Proofs.YtmmbjbgimpgcfaaGreatDoor
