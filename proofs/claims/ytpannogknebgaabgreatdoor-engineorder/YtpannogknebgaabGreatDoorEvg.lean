/- Two tales side by side, and the steps that are left (EngineOrder). -/
import Derived.Test.YtpannogknebgaabGreatDoorEvf
namespace Go.Proofs.YtpannogknebgaabGreatDoor
open Go.RowKit Go.Sort
set_option maxRecDepth 100000

/-- A step. -/
structure St where
  wh : Int
  s : Int
  n : Int
  k : Int
  t : Int
  v : Int
  deriving DecidableEq, Inhabited
def encS (q : St) : List Value := [.int .i64 q.wh, .int .i64 q.s, .int .i64 q.n, .int .i64 q.k, .int .i64 q.t, .int .i64 q.v]
def zSt : Value := .agg #[.int .i64 0, .int .i64 0, .int .i64 0, .int .i64 0, .int .i64 0, .int .i64 0]
theorem infoSt : (Tryz.prog.info? 28).map (fun i => (i.zero, i.size, i.bytes)) = some (some zSt, 6, 48) := by kernel_rfl
theorem encS_len (q : St) : (encS q).length = 6 := rfl
theorem encS_one (q : St) : ∀ u ∈ encS q, u.oneCell' = true := by
  intro u hu; simp [encS] at hu; rcases hu with rfl | rfl | rfl | rfl | rfl | rfl <;> rfl
theorem flatS_len (xs : List St) : (xs.flatMap encS).length = xs.length * 6 := by
  induction xs with
  | nil => rfl
  | cons a r ih => rw [List.flatMap_cons, List.length_append, ih, encS_len, List.length_cons]; omega
theorem flatS_one (R : List St) : ∀ u ∈ R.flatMap encS, u.oneCell' = true := by
  intro u hu
  obtain ⟨x, _, h⟩ := List.mem_flatMap.1 hu
  exact encS_one x u h
theorem flatS_get (xs : List St) (k j : Nat) (x : St) (hx : xs[k]? = some x) (hj : j < 6) : (xs.flatMap encS)[k * 6 + j]? = (encS x)[j]? := by
  induction xs generalizing k with
  | nil => simp at hx
  | cons a r ih =>
    rw [List.flatMap_cons]
    cases k with
    | zero =>
      simp at hx
      subst hx
      rw [List.getElem?_append_left (by rw [encS_len]; omega)]
      congr 1; omega
    | succ k =>
      rw [List.getElem?_append_right (by rw [encS_len]; omega), encS_len, show (k + 1) * 6 + j - 6 = k * 6 + j by omega]
      exact ih k (by simpa using hx)
theorem st_cells {W : World} {base gs n ck : Nat} {xs : List St} (h : W.ownsRow base 28 6 (.slice (some ⟨gs, 0, none⟩) n ck) n (xs.flatMap encS)) (k : Nat) (q : St) (hx : xs[k]? = some q) :
    W.cell? ⟨gs, k * 6, none⟩ = some (.int .i64 q.wh) ∧ W.cell? ⟨gs, k * 6 + 1, none⟩ = some (.int .i64 q.s) ∧ W.cell? ⟨gs, k * 6 + 2, none⟩ = some (.int .i64 q.n) ∧ W.cell? ⟨gs, k * 6 + 3, none⟩ = some (.int .i64 q.k) ∧ W.cell? ⟨gs, k * 6 + 4, none⟩ = some (.int .i64 q.t) ∧ W.cell? ⟨gs, k * 6 + 5, none⟩ = some (.int .i64 q.v) := by
  have key := fun (j : Nat) (v : Value) (hj : j < 6) (hv : (encS q)[j]? = some v) => h.cells (g := gs) rfl (k * 6 + j) v ((flatS_get xs k j q hx hj).trans hv)
  simp only [add_at] at key
  exact ⟨key 0 _ (by omega) rfl, key 1 _ (by omega) rfl, key 2 _ (by omega) rfl, key 3 _ (by omega) rfl, key 4 _ (by omega) rfl, key 5 _ (by omega) rfl⟩

/-- The rows of a side that steps tell. -/
def rowsOf (s : Nat) (T : List St) : List Rw := (T.filter fun q => decide (pickN q.s 2 = s)).map fun q => rowOf q.k q.t q.v
theorem rowsOf_snoc (s : Nat) (T : List St) (q : St) : rowsOf s (T ++ [q]) = rowsOf s T ++ (if pickN q.s 2 = s then [rowOf q.k q.t q.v] else []) := by
  unfold rowsOf
  rw [List.filter_append, List.map_append]
  by_cases h : pickN q.s 2 = s <;> simp [h]
theorem rowsOf_len : ∀ T : List St, (rowsOf 0 T).length + (rowsOf 1 T).length ≤ T.length
  | [] => by simp [rowsOf]
  | q :: T => by
    have ih := rowsOf_len T
    unfold rowsOf at *
    simp only [List.filter_cons, List.length_cons, List.length_map] at *
    by_cases h0 : pickN q.s 2 = 0
    · simp [h0]; omega
    · by_cases h1 : pickN q.s 2 = 1
      · simp [h1]; omega
      · simp [h0, h1]; omega
theorem rowsOf_perm {s : Nat} {T T' : List St} (h : T.Perm T') : (rowsOf s T).Perm (rowsOf s T') := (h.filter _).map _

/-- A tale behind steps T, alone. -/
abbrev After (EngAt : Nat → J → List O → (Nat → Prop) → World → Prop) (base bt : Nat) (lo hi mode : Int) (T : List St) (P : Nat → Prop) (w : World) : Prop := OTale EngAt base bt lo hi mode (rowsOf 0 T) (rowsOf 1 T) P w

theorem after_step {EngAt : Nat → J → List O → (Nat → Prop) → World → Prop} (E : EngFeeds EngAt) {base bt : Nat} {lo hi mode : Int} {T : List St} {P : Nat → Prop} {w : World} (h : After EngAt base bt lo hi mode T P w) (hbase : base ≤ w.heap.size) (hn : T.length ≤ 60) (q : St) (hq : q.wh = 0) :
    Calls Tryz.prog 9 #[.pointer (some ⟨bt, 0, none⟩), .agg #[.int .i64 q.wh, .int .i64 q.s, .int .i64 q.n, .int .i64 q.k, .int .i64 q.t, .int .i64 q.v]] w fun e w' => e = .returned (.bool true) ∧ ∃ P', After EngAt base bt lo hi mode (T ++ [q]) P' w' ∧ Turned P w w' ∧ ∀ k, P' k → P k ∨ w.heap.size ≤ k := by
  have hp := (pickN_lt q.s 2 (by omega)).1
  have hl := rowsOf_len T
  unfold After
  rw [rowsOf_snoc, rowsOf_snoc, hq]
  have hp2 : pickN q.s 2 = 0 ∨ pickN q.s 2 = 1 := by omega
  rcases hp2 with h0 | h0
  · rw [h0, if_pos rfl, if_neg (by omega), List.append_nil]
    exact orow0 E h hbase (by omega) q.s q.n q.k q.t q.v h0
  · rw [h0, if_neg (by omega), if_pos rfl, List.append_nil]
    exact orow1 E h hbase (by omega) q.s q.n q.k q.t q.v h0

/-- Two tales, and the steps that are left. -/
structure Two (EngAt : Nat → J → List O → (Nat → Prop) → World → Prop) (w0 : World) (ba bb : Nat) (lo hi mode : Int) (Ta Tb : List St) (v : Value) (Q : List St) (w : World) : Prop where
  ex : ∃ Pa Pb : Nat → Prop, After EngAt w0.heap.size ba lo hi mode Ta Pa w ∧ After EngAt w0.heap.size bb lo hi mode Tb Pb w ∧ (∀ k, Pa k → ¬ Pb k) ∧ (∀ k, Pa k ∨ Pb k → w0.heap.size ≤ k ∧ v.ownBlock ≠ some k)
  row : w.ownsRow w0.heap.size 28 6 v Q.length (Q.flatMap encS)
  low : Below w0.heap.size w0 w

theorem Two.a {EngAt : Nat → J → List O → (Nat → Prop) → World → Prop} (E : EngFeeds EngAt) {w0 : World} {ba bb : Nat} {lo hi mode : Int} {Ta Tb : List St} {v : Value} {Q : List St} {w : World} (h : Two EngAt w0 ba bb lo hi mode Ta Tb v Q w) (hn : Ta.length ≤ 60) (q : St) (hq : q.wh = 0) :
    Calls Tryz.prog 9 #[.pointer (some ⟨ba, 0, none⟩), .agg #[.int .i64 q.wh, .int .i64 q.s, .int .i64 q.n, .int .i64 q.k, .int .i64 q.t, .int .i64 q.v]] w fun e w' => e = .returned (.bool true) ∧ Two EngAt w0 ba bb lo hi mode (Ta ++ [q]) Tb v Q w' := by
  obtain ⟨⟨Pa, Pb, h1, h2, h3, h4⟩, hr, hl⟩ := h
  refine (after_step E h1 hl.size hn q hq).mono ?_
  rintro e w' ⟨rfl, P', g1, g2, g3⟩
  have hlb := OTale.lt h2
  refine ⟨rfl, ⟨P', Pb, g1, OTale.steady E h2 g2.size (fun k hk => g2.block k (hlb k hk) (fun e => h3 k e hk)), fun k hk hb => ?_, fun k hk => ?_⟩, own_still hr (fun g e => g2.block g (hr.lt g e).2 (fun e2 => (h4 g (Or.inl e2)).2 e)), hl.trans (g2.below hl.size (fun k hk => (h4 k (Or.inl hk)).1))⟩
  · rcases g3 k hk with g | g
    · exact h3 k g hb
    · have := hlb k hb; omega
  · rcases hk with hk | hk
    · rcases g3 k hk with g | g
      · exact h4 k (Or.inl g)
      · have := hl.size
        exact ⟨by omega, fun e => by have := (hr.lt k e).2; omega⟩
    · exact h4 k (Or.inr hk)
theorem Two.b {EngAt : Nat → J → List O → (Nat → Prop) → World → Prop} (E : EngFeeds EngAt) {w0 : World} {ba bb : Nat} {lo hi mode : Int} {Ta Tb : List St} {v : Value} {Q : List St} {w : World} (h : Two EngAt w0 ba bb lo hi mode Ta Tb v Q w) (hn : Tb.length ≤ 60) (q : St) (hq : q.wh = 0) :
    Calls Tryz.prog 9 #[.pointer (some ⟨bb, 0, none⟩), .agg #[.int .i64 q.wh, .int .i64 q.s, .int .i64 q.n, .int .i64 q.k, .int .i64 q.t, .int .i64 q.v]] w fun e w' => e = .returned (.bool true) ∧ Two EngAt w0 ba bb lo hi mode Ta (Tb ++ [q]) v Q w' := by
  obtain ⟨⟨Pa, Pb, h1, h2, h3, h4⟩, hr, hl⟩ := h
  refine (after_step E h2 hl.size hn q hq).mono ?_
  rintro e w' ⟨rfl, P', g1, g2, g3⟩
  have hla := OTale.lt h1
  refine ⟨rfl, ⟨Pa, P', OTale.steady E h1 g2.size (fun k hk => g2.block k (hla k hk) (fun e => h3 k hk e)), g1, fun k hk hb => ?_, fun k hk => ?_⟩, own_still hr (fun g e => g2.block g (hr.lt g e).2 (fun e2 => (h4 g (Or.inr e2)).2 e)), hl.trans (g2.below hl.size (fun k hk => (h4 k (Or.inr hk)).1))⟩
  · rcases g3 k hb with g | g
    · exact h3 k hk g
    · have := hla k hk; omega
  · rcases hk with hk | hk
    · exact h4 k (Or.inl hk)
    · rcases g3 k hk with g | g
      · exact h4 k (Or.inr g)
      · have := hl.size
        exact ⟨by omega, fun e => by have := (hr.lt k e).2; omega⟩

end Go.Proofs.YtpannogknebgaabGreatDoor
