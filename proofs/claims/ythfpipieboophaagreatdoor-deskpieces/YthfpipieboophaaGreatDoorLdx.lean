/- Ldx: several texts in one. -/
import Derived.Test.YthfpipieboophaaGreatDoorLdy
import Derived.Test.YthfpipieboophaaGreatDoorSvy
import Derived.Test.YthfpipieboophaaGreatDoorEnh
import Derived.Test.YthfpipieboophaaGreatDoorLde
import Derived.Test.YthfpipieboophaaGreatDoorVwz
import Derived.Test.YthfpipieboophaaGreatDoorLdb
import Derived.Test.YthfpipieboophaaGreatDoorShl
/- What each line of a text does to an engine. -/
namespace Go.Proofs.YthfpipieboophaaGreatDoor
open Go.RowKit Go.Sort Go.Shelf
set_option maxRecDepth 100000
structure Sx where
  x : J
  f0 : Int
  f1 : Int
  L : List O
def PE (st : Sx) (be : Nat) (S : Nat → Prop) (W : World) : Prop :=
  ∃ bj bm v0 v1 om Sg, EngIn W be bj bm v0 v1 st.f0 st.f1 om Sg st.x st.L st.L ∧ ∀ k, S k ↔ footE bj bm v0 v1 om Sg k
theorem pe_steady (st : Sx) (be : Nat) : Steady (PE st be) := by
  rintro S W W' ⟨bj, bm, v0, v1, om, Sg, h, hS⟩ hs hk
  exact ⟨bj, bm, v0, v1, om, Sg, h.still hs (fun k e => hk k ((hS k).2 e)), hS⟩
abbrev Res (st : Sx) (be : Nat) (S : Nat → Prop) (W w' : World) : Prop := ∃ S', PE st be S' w' ∧ (∀ k, S' k → (S k ∨ W.heap.size ≤ k) ∧ k < w'.heap.size) ∧ Turned S W w'
theorem res_mk {st : Sx} {be bj bm : Nat} {v0 v1 v0' v1' : Value} {om om' : Option Nat} {Sg Sg' : Nat → Prop} {S : Nat → Prop} {W W1 w' : World} (hE : EngIn w' be bj bm v0' v1' st.f0 st.f1 om' Sg' st.x st.L st.L)
    (hS : ∀ k, S k ↔ footE bj bm v0 v1 om Sg k) (hb : Below W.heap.size W W1) (hT : Turned (footE bj bm v0 v1 om Sg) W1 w') (hF : ∀ k, footE bj bm v0' v1' om' Sg' k → footE bj bm v0 v1 om Sg k ∨ W1.heap.size ≤ k) : Res st be S W w' := by
  have hz := hb.size
  refine ⟨footE bj bm v0' v1' om' Sg', ⟨bj, bm, v0', v1', om', Sg', hE, fun _ => Iff.rfl⟩, fun k hk => ⟨?_, hE.lt hk⟩, (Turned.of_below (S := S) hb).trans hT (fun k _ e => (hS k).2 e)⟩
  rcases hF k hk with h | h
  · exact .inl ((hS k).2 h)
  · exact .inr (by omega)
theorem num_cell {W : World} {g : Nat} {ns : List Int} (h : W.heap[g]? = some (.cells (ns.map (Value.int .i64)).toArray 3)) (j : Nat) {n : Int} (hn : ns[j]? = some n) : W.cell? ⟨g, 0 + j, none⟩ = some (.int .i64 n) := by
  rw [Go.Joins.cell_of_block h, Nat.zero_add]
  simp [hn]
theorem step_fed {st : Sx} {be g : Nat} {S : Nat → Prop} {W : World} {a b d : Int} (hP : PE st be S W) (hg : W.heap[g]? = some (.cells ([a, b, d].map (Value.int .i64)).toArray 3)) (hn : ¬ S g)
    (ha : 0 ≤ a ∧ a ≤ 9223372036854775807) (hb : 0 ≤ b ∧ b ≤ 9223372036854775807) (hd : 0 ≤ d ∧ d ≤ 9223372036854775807) :
    Calls Tryz.prog 92 #[.pointer (some ⟨be, 0, none⟩), .agg #[.string ⟨#[102, 101, 100]⟩, .slice (some ⟨g, 0, none⟩) 3 3]] W fun e w' => e = .returned (.bool true) ∧ Res ⟨{ st.x with late := d }, a, b, st.L⟩ be S W w' := by
  obtain ⟨bj, bm, v0, v1, om, Sg, h, hS⟩ := hP
  have hgl := (Array.getElem?_eq_some_iff.1 hg).1
  have n1 : g ≠ be := fun e => hn ((hS g).2 (.inr (.inr (by rw [e]; exact h.inS))))
  have n2 : g ≠ bj := fun e => hn ((hS g).2 (.inl (.inl e)))
  refine restore_fed be g 0 3 _ W (fun W1 hW1 => ?_)
  have hg1 := (hW1.block g hgl).trans hg
  refine (restoreFed_ok be bj bm v0 v1 st.f0 st.f1 om Sg st.x st.L st.L g 0 3 a b d W1 (h.below hW1) ha hb hd (Nat.lt_of_lt_of_le hgl hW1.size) (num_cell hg1 0 rfl) (num_cell hg1 1 rfl) (num_cell hg1 2 rfl) n1 n2).mono ?_
  rintro e w' ⟨rfl, h1, h2⟩
  exact ⟨rfl, res_mk (st := ⟨{ st.x with late := d }, a, b, st.L⟩) h1 hS hW1 h2 (fun k e => .inl e)⟩
theorem step_end {st : Sx} {be g : Nat} {S : Nat → Prop} {W : World} (hP : PE st be S W) :
    Calls Tryz.prog 92 #[.pointer (some ⟨be, 0, none⟩), .agg #[.string ⟨#[101, 110, 100]⟩, .slice (some ⟨g, 0, none⟩) 0 0]] W fun e w' => e = .returned (.bool true) ∧ Res st be S W w' := by
  obtain ⟨bj, bm, v0, v1, om, Sg, h, hS⟩ := hP
  refine restore_end be g 0 0 _ W (fun W1 hW1 => ?_)
  exact res_mk (h.below hW1) hS hW1 (Turned.of_below (Below.refl _ _)) (fun k e => .inl e)
theorem step_out {st : Sx} {be : Nat} {S : Nat → Prop} {W : World} (hP : PE st be S W) (o : O) (hwf : o.wf) (hL : st.L.length ≤ 100000) (g1 : goodI o.lk o.lt o.lv = true) (g2 : goodI o.rk o.rt o.rv = true) (hk : o.hl = true → o.hr = true → o.lk = o.rk)
    (W1 : World) (hW1 : Below W.heap.size W W1) : Calls Tryz.prog 166 #[.pointer (some ⟨be, 0, none⟩), vO o] W1 fun e w' => e = .returned (.bool true) ∧ Res ⟨st.x, st.f0, st.f1, o :: st.L⟩ be S W w' := by
  obtain ⟨bj, bm, v0, v1, om, Sg, h, hS⟩ := hP
  refine (restoreOut_ok be bj bm v0 v1 st.f0 st.f1 om Sg st.x st.L o W1 (h.below hW1) hwf hL g1 g2 hk).mono ?_
  rintro e w' ⟨rfl, om', Sg', h1, h2, h3, h4⟩
  refine ⟨rfl, res_mk (st := ⟨st.x, st.f0, st.f1, o :: st.L⟩) h1 hS hW1 (h4.mono ?_) (fun k e => ?_)⟩
  · rintro k (e | e | e)
    · exact .inr (.inr (by rw [e]; exact h.inS))
    · exact .inr (.inl e)
    · exact .inr (.inr e)
  · rcases e with e | e | e
    · exact .inl (.inl e)
    · exact (h2 k e).imp (fun e => .inr (.inl e)) id
    · exact (h3 k e).imp (fun e => .inr (.inr e)) id
theorem step_row0 (HR : RowOfIs) {st : Sx} {be g : Nat} {S : Nat → Prop} {W : World} {k t v n : Int} (hP : PE st be S W) (hg : W.heap[g]? = some (.cells ([0, k, t, v, n].map (Value.int .i64)).toArray 3)) (hn : ¬ S g)
    (hs : SortedR st.x.R0) (hL : st.x.R0.length < 300) (hgd : goodI k t v = true) (hm : 0 ≤ n) :
    Calls Tryz.prog 92 #[.pointer (some ⟨be, 0, none⟩), .agg #[.string ⟨#[114, 111, 119]⟩, .slice (some ⟨g, 0, none⟩) 5 5]] W fun e w' => e = .returned (.bool true) ∧ Res ⟨{ st.x with R0 := insR st.x.R0 (posR k (t + 1) st.x.R0) ⟨k, t, v, n⟩ }, st.f0, st.f1, st.L⟩ be S W w' := by
  obtain ⟨bj, bm, v0, v1, om, Sg, h, hS⟩ := hP
  have hgl := (Array.getElem?_eq_some_iff.1 hg).1
  refine (restore_row HR be bj g 0 0 k t v n (fun w' => Res ⟨{ st.x with R0 := insR st.x.R0 (posR k (t + 1) st.x.R0) ⟨k, t, v, n⟩ }, st.f0, st.f1, st.L⟩ be S W w' ∧ (w'.cell? ⟨be, 3, none⟩ = some (.pointer (some ⟨bj, 0, none⟩)) ∧ w'.cell? ⟨g, 0, none⟩ = some (.int .i64 0) ∧ w'.cell? ⟨g, 0 + 4, none⟩ = some (.int .i64 n))) W hgl h.blt (num_cell hg 0 rfl) (num_cell hg 1 rfl) (num_cell hg 2 rfl) (num_cell hg 3 rfl) (num_cell hg 4 rfl) h.cells.2.2.2.1 (fun W hW => hW.2) (fun W1 hW1 => ?_)).mono (fun e w' h => ⟨h.1, h.2.1⟩)
  have h1 := h.below hW1
  refine (jput_ok0 0 bj bm v0 v1 st.x k t v n W1 h1.join (Nat.zero_le _) hs hL hgd hm).mono ?_
  rintro e w' ⟨rfl, v', j1, j2, j3⟩
  have hT : Turned (footJ bj bm v0 v1) W1 w' := j2.mono (fun k e => e.elim .inl (fun e => .inr (.inr (.inl e))))
  have hE := h1.joined j1 ⟨rfl, rfl, rfl⟩ hT (footJ_new j3 (.inl rfl))
  have hgw : w'.heap[g]? = W.heap[g]? := (hT.block g (Nat.lt_of_lt_of_le hgl hW1.size) (fun e => hn ((hS g).2 (.inl e)))).trans (hW1.block g hgl)
  have hg' := hgw.trans hg
  refine ⟨rfl, res_mk (st := ⟨{ st.x with R0 := insR st.x.R0 (posR k (t + 1) st.x.R0) ⟨k, t, v, n⟩ }, st.f0, st.f1, st.L⟩) hE hS hW1 (hT.mono (fun k e => .inl e)) (fun k e => ?_), hE.cells.2.2.2.1, num_cell hg' 0 rfl, num_cell hg' 4 rfl⟩
  rcases e with e | e
  · exact (footJ_new j3 (.inl rfl) k e).imp .inl id
  · exact .inl (.inr e)
theorem step_row1 (HR : RowOfIs) {st : Sx} {be g : Nat} {S : Nat → Prop} {W : World} {k t v n : Int} (hP : PE st be S W) (hg : W.heap[g]? = some (.cells ([1, k, t, v, n].map (Value.int .i64)).toArray 3)) (hn : ¬ S g)
    (hs : SortedR st.x.R1) (hL : st.x.R1.length < 300) (hgd : goodI k t v = true) (hm : 0 ≤ n) :
    Calls Tryz.prog 92 #[.pointer (some ⟨be, 0, none⟩), .agg #[.string ⟨#[114, 111, 119]⟩, .slice (some ⟨g, 0, none⟩) 5 5]] W fun e w' => e = .returned (.bool true) ∧ Res ⟨{ st.x with R1 := insR st.x.R1 (posR k (t + 1) st.x.R1) ⟨k, t, v, n⟩ }, st.f0, st.f1, st.L⟩ be S W w' := by
  obtain ⟨bj, bm, v0, v1, om, Sg, h, hS⟩ := hP
  have hgl := (Array.getElem?_eq_some_iff.1 hg).1
  refine (restore_row HR be bj g 0 1 k t v n (fun w' => Res ⟨{ st.x with R1 := insR st.x.R1 (posR k (t + 1) st.x.R1) ⟨k, t, v, n⟩ }, st.f0, st.f1, st.L⟩ be S W w' ∧ (w'.cell? ⟨be, 3, none⟩ = some (.pointer (some ⟨bj, 0, none⟩)) ∧ w'.cell? ⟨g, 0, none⟩ = some (.int .i64 1) ∧ w'.cell? ⟨g, 0 + 4, none⟩ = some (.int .i64 n))) W hgl h.blt (num_cell hg 0 rfl) (num_cell hg 1 rfl) (num_cell hg 2 rfl) (num_cell hg 3 rfl) (num_cell hg 4 rfl) h.cells.2.2.2.1 (fun W hW => hW.2) (fun W1 hW1 => ?_)).mono (fun e w' h => ⟨h.1, h.2.1⟩)
  have h1 := h.below hW1
  refine (jput_ok1 0 bj bm v0 v1 st.x k t v n W1 h1.join (Nat.zero_le _) hs hL hgd hm).mono ?_
  rintro e w' ⟨rfl, v', j1, j2, j3⟩
  have hT : Turned (footJ bj bm v0 v1) W1 w' := j2.mono (fun k e => e.elim .inl (fun e => .inr (.inr (.inr e))))
  have hE := h1.joined j1 ⟨rfl, rfl, rfl⟩ hT (footJ_new (.inl rfl) j3)
  have hgw : w'.heap[g]? = W.heap[g]? := (hT.block g (Nat.lt_of_lt_of_le hgl hW1.size) (fun e => hn ((hS g).2 (.inl e)))).trans (hW1.block g hgl)
  have hg' := hgw.trans hg
  refine ⟨rfl, res_mk (st := ⟨{ st.x with R1 := insR st.x.R1 (posR k (t + 1) st.x.R1) ⟨k, t, v, n⟩ }, st.f0, st.f1, st.L⟩) hE hS hW1 (hT.mono (fun k e => .inl e)) (fun k e => ?_), hE.cells.2.2.2.1, num_cell hg' 0 rfl, num_cell hg' 4 rfl⟩
  rcases e with e | e
  · exact (footJ_new (.inl rfl) j3 k e).imp .inl id
  · exact .inl (.inr e)
theorem step_marks {st : Sx} {be g : Nat} {S : Nat → Prop} {W : World} {a b : Int} (hP : PE st be S W) (hg : W.heap[g]? = some (.cells ([a, b].map (Value.int .i64)).toArray 3)) (hn : ¬ S g) (hpl : planOk st.x.lo st.x.hi st.x.mode)
    (hR : st.x.R0 = [] ∧ st.x.R1 = []) (hm : st.x.m0 = -1099511627777 ∧ st.x.m1 = -1099511627777)
    (ha : -1099511627777 ≤ a ∧ a ≤ 1099511627776) (hb : -1099511627777 ≤ b ∧ b ≤ 1099511627776) :
    Calls Tryz.prog 92 #[.pointer (some ⟨be, 0, none⟩), .agg #[.string ⟨#[109, 97, 114, 107, 115]⟩, .slice (some ⟨g, 0, none⟩) 2 2]] W fun e w' => e = .returned (.bool true) ∧ Res ⟨{ st.x with m0 := a, m1 := b }, st.f0, st.f1, st.L⟩ be S W w' := by
  obtain ⟨bj, bm, v0, v1, om, Sg, h, hS⟩ := hP
  have hgl := (Array.getElem?_eq_some_iff.1 hg).1
  have hgn : ¬ footE bj bm v0 v1 om Sg g := fun e => hn ((hS g).2 e)
  obtain ⟨⟨p1, p2⟩, ⟨p3, p4⟩, _⟩ := hpl
  refine restore_marks be g 0 2 _ W (fun W1 hW1 => ?_)
  have h1 := h.below hW1
  have hg1 := (hW1.block g hgl).trans hg
  -- behind i marks
  let xs : Nat → J := fun i => { st.x with m0 := if i = 0 then st.x.m0 else a, m1 := if i ≤ 1 then st.x.m1 else b }
  let St : Nat → World → Prop := fun i V => ∃ v0' v1', EngIn V be bj bm v0' v1' st.f0 st.f1 om Sg (xs i) st.L st.L ∧ Turned (footE bj bm v0 v1 om Sg) W1 V ∧ (v0'.ownBlock = v0.ownBlock ∧ v1'.ownBlock = v1.ownBlock) ∧ V.heap[g]? = W.heap[g]?
  refine (marks_ok be g 0 2 (fun i => if i = 0 then a else b) (fun _ => -1099511627777) St W1 ?_ ?_ ?_ ?_ ?_ ?_ ?_).mono ?_
  · exact ⟨v0, v1, h1, Turned.of_below (Below.refl _ _), ⟨rfl, rfl⟩, hW1.block g hgl⟩
  · rintro i V ⟨v0', v1', _, _, _, hq⟩
    exact (Array.getElem?_eq_some_iff.1 (hq.trans hg)).1
  · rintro i V V' ⟨v0', v1', q1, q2, q3, q4⟩ hb
    exact ⟨v0', v1', q1.below hb, q2.trans (Turned.of_below (S := fun _ => False) hb) (fun _ _ e => e.elim), q3, (hb.block g (Array.getElem?_eq_some_iff.1 (q4.trans hg)).1).trans q4⟩
  · rintro i j V ⟨v0', v1', q1, q2, q3, q4⟩ hj
    have hj2 : j = 0 ∨ j = 1 := by omega
    rcases hj2 with rfl | rfl
    · exact num_cell (q4.trans hg) 0 rfl
    · exact num_cell (q4.trans hg) 1 rfl
  · rintro i V hi ⟨v0', v1', q1, q2, q3, q4⟩
    have hi2 : i = 0 ∨ i = 1 := by omega
    have e1 : ofI (xs i).m0 (xs i).m1 (i : Int) = -1099511627777 := by
      rcases hi2 with rfl | rfl
      · simp [ofI, xs, hm.1]
      · simp [ofI, xs, hm.2]
    have := emark_any (s := (i : Int)) (h := q1)
    rw [e1] at this
    exact this
  · rintro i V hi hne ⟨v0', v1', q1, q2, q3, q4⟩
    have hi2 : i = 0 ∨ i = 1 := by omega
    have fin : ∀ (V' : World) (u0 u1 : Value) (x' : J), EngIn V' be bj bm u0 u1 st.f0 st.f1 om Sg x' st.L st.L → x' = xs (i + 1) → Turned (footE bj bm v0' v1' om Sg) V V' → u0.ownBlock = v0'.ownBlock → u1.ownBlock = v1'.ownBlock → St (i + 1) V' := by
      intro V' u0 u1 x' hE hx hT hu0 hu1
      subst hx
      have hT' : Turned (footE bj bm v0 v1 om Sg) V V' := by
        refine hT.mono (fun k e => ?_)
        unfold footE footJ at e ⊢
        rw [q3.1, q3.2] at e
        exact e
      exact ⟨u0, u1, hE, q2.trans hT' (fun _ _ e => e), ⟨hu0.trans q3.1, hu1.trans q3.2⟩, (hT'.block g (Array.getElem?_eq_some_iff.1 (q4.trans hg)).1 hgn).trans q4⟩
    rcases hi2 with rfl | rfl
    · have hne' : a ≠ -1099511627777 := by simpa using hne
      have he : moveE (xs 0).m0 (xs 0).m1 0 a = 0 := by
        unfold moveE
        rw [if_neg (by decide), if_neg (by omega), if_neg (by simp [ofI, xs, hm.1]; omega)]
      refine (emove_any be bj bm v0' v1' st.f0 st.f1 om Sg (xs 0) { xs 0 with m0 := a, R1 := keepR (fun y => decide (y.t ≤ a + (xs 0).lo)) (xs 0).R1 } st.L st.L 0 a V q1 ⟨rfl, rfl, rfl⟩ (fun W2 hW2 => ?_)).mono ?_
      · refine (jmove_ok0 0 bj bm v0' v1' (xs 0) a W2 hW2 he (by simp [xs, hR.2]) p1 p2 p3 p4).mono ?_
        rintro e w' ⟨rfl, v', j1, j2, j3⟩
        exact ⟨rfl, v0', v', j1, j2.mono (fun k e => e.elim .inl (fun e => e.elim (fun e => .inr (.inl e)) (fun e => .inr (.inr (.inr e))))), rfl, j3⟩
      · rintro e w' ⟨rfl, u0, u1, j1, j2, j3, j4⟩
        exact ⟨rfl, fin w' u0 u1 _ j1 (by simp [xs, hR.2, keepR]) j2 j3 j4⟩
    · have hne' : b ≠ -1099511627777 := by simpa using hne
      have he : moveE (xs 1).m0 (xs 1).m1 1 b = 0 := by
        unfold moveE
        rw [if_neg (by decide), if_neg (by omega), if_neg (by simp [ofI, xs, hm.2]; omega)]
      refine (emove_any be bj bm v0' v1' st.f0 st.f1 om Sg (xs 1) { xs 1 with m1 := b, R0 := keepR (fun y => decide (y.t ≤ b - (xs 1).hi)) (xs 1).R0 } st.L st.L 1 b V q1 ⟨rfl, rfl, rfl⟩ (fun W2 hW2 => ?_)).mono ?_
      · refine (jmove_ok1 0 bj bm v0' v1' (xs 1) b W2 hW2 he (by simp [xs, hR.1]) p3 p4).mono ?_
        rintro e w' ⟨rfl, v', j1, j2, j3⟩
        exact ⟨rfl, v', v1', j1, j2.mono (fun k e => e.elim .inl (fun e => e.elim (fun e => .inr (.inl e)) (fun e => .inr (.inr (.inl e))))), j3, rfl⟩
      · rintro e w' ⟨rfl, u0, u1, j1, j2, j3, j4⟩
        exact ⟨rfl, fin w' u0 u1 _ j1 (by simp [xs, hR.1, keepR]) j2 j3 j4⟩
  · rintro i V hi he ⟨v0', v1', q1, q2, q3, q4⟩
    have hi2 : i = 0 ∨ i = 1 := by omega
    have ex : xs i = xs (i + 1) := by
      rcases hi2 with rfl | rfl
      · have he' : a = -1099511627777 := by simpa using he
        simp [xs, hm.1, he']
      · have he' : b = -1099511627777 := by simpa using he
        simp [xs, hm.2, he']
    rw [ex] at q1
    exact ⟨v0', v1', q1, q2, q3, q4⟩
  · rintro e w' ⟨rfl, v0', v1', q1, q2, q3, q4⟩
    refine ⟨rfl, res_mk (st := ⟨{ st.x with m0 := a, m1 := b }, st.f0, st.f1, st.L⟩) q1 hS hW1 q2 (fun k e => .inl ?_)⟩
    unfold footE footJ at e ⊢
    rw [q3.1, q3.2] at e
    exact e
end Go.Proofs.YthfpipieboophaaGreatDoor

/- The lines of a text that Saved tells, and what they lead to. -/
namespace Go.Proofs.YthfpipieboophaaGreatDoor
open Go.RowKit Go.Sort Go.Shelf
set_option maxRecDepth 100000
abbrev Ln := ByteArray × List Int
def txL (p : Ln) : List UInt8 := p.1.data.toList ++ numsB p.2
def tailL (x : J) (f0 f1 : Int) (Z : List O) : List Ln := (bFed, [f0, f1, x.late]) :: (bMarks, [x.m0, x.m1]) :: ((x.R0.map fun y => (bRow, [0, y.k, y.t, y.v, y.n])) ++ ((x.R1.map fun y => (bRow, [1, y.k, y.t, y.v, y.n])) ++ ((Z.map fun o => (headO o, numsO o)) ++ [(bEnd, [])])))
def linesOf (x : J) (f0 f1 : Int) (Z : List O) : List Ln := (bPlan, [x.lo, x.hi, x.mode]) :: tailL x f0 f1 Z
theorem saved_lines (x : J) (f0 f1 : Int) (Z : List O) : savedB x f0 f1 Z = (linesOf x f0 f1 Z).flatMap fun p => txL p ++ [10] := by
  have e : ∀ (p : Ln), txL p ++ [10] = lineB p.1.data.toList p.2 := fun p => by unfold txL lineB; simp
  simp only [e]
  unfold savedB headB linesOf tailL rowsB outsB
  simp only [List.flatMap_cons, List.flatMap_append, List.flatMap_nil, List.flatMap_map, List.append_nil, List.append_assoc]
theorem numsB_no (ns : List Int) : (10 : UInt8) ∉ numsB ns := by
  unfold numsB
  rw [List.mem_flatMap]
  rintro ⟨n, _, h⟩
  rw [List.mem_cons] at h
  rcases h with h | h
  · exact absurd h (by decide)
  · exact itoa_no n 10 (by decide) h
theorem tx_no (p : Ln) (h : (10 : UInt8) ∉ p.1.data.toList) : (10 : UInt8) ∉ txL p := by
  unfold txL
  rw [List.mem_append]
  rintro (e | e)
  · exact h e
  · exact numsB_no _ e
inductive Stp : Sx → Ln → Sx → Prop
  | fed (st : Sx) (a b d : Int) : 0 ≤ a ∧ a ≤ 9223372036854775807 → 0 ≤ b ∧ b ≤ 9223372036854775807 → 0 ≤ d ∧ d ≤ 9223372036854775807 → Stp st (bFed, [a, b, d]) ⟨{ st.x with late := d }, a, b, st.L⟩
  | marks (st : Sx) (a b : Int) : planOk st.x.lo st.x.hi st.x.mode → st.x.R0 = [] ∧ st.x.R1 = [] → st.x.m0 = -1099511627777 ∧ st.x.m1 = -1099511627777 → -1099511627777 ≤ a ∧ a ≤ 1099511627776 → -1099511627777 ≤ b ∧ b ≤ 1099511627776 → Stp st (bMarks, [a, b]) ⟨{ st.x with m0 := a, m1 := b }, st.f0, st.f1, st.L⟩
  | row0 (st : Sx) (k t v n : Int) : SortedR st.x.R0 → st.x.R0.length < 300 → goodI k t v = true → 0 ≤ n ∧ n ≤ 9223372036854775807 → Stp st (bRow, [0, k, t, v, n]) ⟨{ st.x with R0 := insR st.x.R0 (posR k (t + 1) st.x.R0) ⟨k, t, v, n⟩ }, st.f0, st.f1, st.L⟩
  | row1 (st : Sx) (k t v n : Int) : SortedR st.x.R1 → st.x.R1.length < 300 → goodI k t v = true → 0 ≤ n ∧ n ≤ 9223372036854775807 → Stp st (bRow, [1, k, t, v, n]) ⟨{ st.x with R1 := insR st.x.R1 (posR k (t + 1) st.x.R1) ⟨k, t, v, n⟩ }, st.f0, st.f1, st.L⟩
  | out (st : Sx) (o : O) : TellO o → st.L.length ≤ 100000 → Stp st (headO o, numsO o) ⟨st.x, st.f0, st.f1, o :: st.L⟩
  | fin (st : Sx) : Stp st (bEnd, []) st
theorem good_in {k t v : Int} (h : goodI k t v = true) : (-1099511627776 ≤ k ∧ k ≤ 1099511627776) ∧ (-1099511627776 ≤ t ∧ t ≤ 1099511627776) ∧ (-1099511627776 ≤ v ∧ v ≤ 1099511627776) := by
  unfold goodI inI at h
  simp at h
  omega
theorem wf_small {n : Int} (h : -1099511627777 ≤ n ∧ n ≤ 1099511627777) : (Lit.int .i64 n).wf = true := by
  simp [Lit.wf, IntKind.min, IntKind.max, IntKind.signed, IntKind.bits]
  omega
theorem tell_wf {o : O} (h : TellO o) : o.wf := by
  cases h with
  | left k t v h =>
    have := good_in h
    constructor <;> (apply wf_small; simp [loneO]; try omega)
  | right k t v h =>
    have := good_in h
    constructor <;> (apply wf_small; simp [loneO]; try omega)
  | pair k t v t2 v2 h h2 =>
    have := good_in h
    have := good_in h2
    constructor <;> (apply wf_small; simp; try omega)
theorem step_line (HR : RowOfIs) {st st' : Sx} {p : Ln} (hs : Stp st p st') {be g : Nat} {S : Nat → Prop} {W : World} (hP : PE st be S W) (hg : W.heap[g]? = some (.cells (p.2.map (Value.int .i64)).toArray 3)) (hn : ¬ S g) :
    Calls Tryz.prog 92 #[.pointer (some ⟨be, 0, none⟩), .agg #[.string p.1, .slice (some ⟨g, 0, none⟩) p.2.length p.2.length]] W fun e w' => e = .returned (.bool true) ∧ Res st' be S W w' := by
  have hgl := (Array.getElem?_eq_some_iff.1 hg).1
  cases hs with
  | fed a b d ha hb hd => exact step_fed hP hg hn ha hb hd
  | marks a b h1 h2 h3 h4 h5 => exact step_marks hP hg hn h1 h2 h3 h4 h5
  | row0 k t v n h1 h2 h3 h4 => exact step_row0 HR hP hg hn h1 h2 h3 h4.1
  | row1 k t v n h1 h2 h3 h4 => exact step_row1 HR hP hg hn h1 h2 h3 h4.1
  | out o ho hL =>
    have hwf := tell_wf ho
    cases ho with
    | left k t v h => exact restore_left HR be g 0 k t v _ W hgl (num_cell hg 0 rfl) (num_cell hg 1 rfl) (num_cell hg 2 rfl) (fun W1 hW1 => step_out hP (loneO 0 k t v) hwf hL h (show goodI 0 0 0 = true by decide) (fun _ e => by simp [loneO] at e) W1 hW1)
    | right k t v h => exact restore_right HR be g 0 k t v _ W hgl (num_cell hg 0 rfl) (num_cell hg 1 rfl) (num_cell hg 2 rfl) (fun W1 hW1 => step_out hP (loneO 1 k t v) hwf hL (show goodI 0 0 0 = true by decide) h (fun e _ => by simp [loneO] at e) W1 hW1)
    | pair k t v t2 v2 h h2 => exact restore_pair HR be g 0 k t v k t2 v2 _ W hgl (num_cell hg 0 rfl) (num_cell hg 1 rfl) (num_cell hg 2 rfl) (num_cell hg 3 rfl) (num_cell hg 4 rfl) (num_cell hg 5 rfl) (fun W1 hW1 => step_out hP ⟨k, k, t, v, k, t2, v2, true, true⟩ hwf hL h h2 (fun _ _ => rfl) W1 hW1)
  | fin => exact step_end hP
/-! ### Line after line -/
def Run : Sx → List Ln → Sx → Prop
  | st, [], st' => st = st'
  | st, p :: ls, st' => ∃ s1, Stp st p s1 ∧ Run s1 ls st'
theorem Run.append {a b c : Sx} {l m : List Ln} (h : Run a l b) (h2 : Run b m c) : Run a (l ++ m) c := by
  induction l generalizing a with
  | nil => cases h; exact h2
  | cons p l ih =>
    obtain ⟨s1, h3, h4⟩ := h
    exact ⟨s1, h3, ih h4⟩
theorem Run.seq {a b : Sx} {l : List Ln} (h : Run a l b) : ∃ f : Nat → Sx, f 0 = a ∧ f l.length = b ∧ ∀ i p, l[i]? = some p → Stp (f i) p (f (i + 1)) := by
  induction l generalizing a with
  | nil => exact ⟨fun _ => a, rfl, h, fun i p e => by simp at e⟩
  | cons p l ih =>
    obtain ⟨s1, h3, h4⟩ := h
    obtain ⟨f, f0, f1, f2⟩ := ih h4
    refine ⟨fun i => match i with | 0 => a | i + 1 => f i, rfl, f1, ?_⟩
    intro i q e
    cases i with
    | zero =>
      simp at e
      subst e
      show Stp a p (f 0)
      rw [f0]
      exact h3
    | succ i => exact f2 i q (by simpa using e)
theorem ins_snoc (S : List D) (y : D) (h : SortedR (S ++ [y])) : insR S (posR y.k (y.t + 1) S) ⟨y.k, y.t, y.v, y.n⟩ = S ++ [y] := by
  have hall : posR y.k (y.t + 1) S = S.length := by
    unfold posR
    rw [List.countP_eq_length]
    intro x hx
    have := (List.pairwise_append.1 h).2.2 x hx y (by simp)
    simp only [aheadOf, decide_eq_true_eq]
    omega
  rw [hall]
  simp [insR]
theorem run_rows0 (x : J) (f0 f1 : Int) (L : List O) (T : List D) : ∀ (S : List D), SortedR (S ++ T) → (S ++ T).length ≤ 300 → (∀ y ∈ T, goodI y.k y.t y.v = true ∧ 0 ≤ y.n ∧ y.n ≤ 9223372036854775807) → Run ⟨{ x with R0 := S }, f0, f1, L⟩ (T.map fun y => (bRow, [0, y.k, y.t, y.v, y.n])) ⟨{ x with R0 := S ++ T }, f0, f1, L⟩ := by
  induction T with
  | nil => intro S _ _ _; simp [Run]
  | cons y T ih =>
    intro S hs hl hg
    have e : S ++ y :: T = (S ++ [y]) ++ T := by simp
    rw [e] at hs hl ⊢
    have hsy : SortedR (S ++ [y]) := (List.pairwise_append.1 hs).1
    have hS : SortedR S := (List.pairwise_append.1 hsy).1
    obtain ⟨g1, g2⟩ := hg y (by simp)
    refine ⟨⟨{ x with R0 := S ++ [y] }, f0, f1, L⟩, ?_, ih (S ++ [y]) hs hl (fun z hz => hg z (by simp [hz]))⟩
    have h1 := Stp.row0 ⟨{ x with R0 := S }, f0, f1, L⟩ y.k y.t y.v y.n hS (by simp at hl ⊢; omega) g1 g2
    rw [show ({ x with R0 := S } : J).R0 = S from rfl, ins_snoc S y hsy] at h1
    exact h1
theorem run_rows1 (x : J) (f0 f1 : Int) (L : List O) (T : List D) : ∀ (S : List D), SortedR (S ++ T) → (S ++ T).length ≤ 300 → (∀ y ∈ T, goodI y.k y.t y.v = true ∧ 0 ≤ y.n ∧ y.n ≤ 9223372036854775807) → Run ⟨{ x with R1 := S }, f0, f1, L⟩ (T.map fun y => (bRow, [1, y.k, y.t, y.v, y.n])) ⟨{ x with R1 := S ++ T }, f0, f1, L⟩ := by
  induction T with
  | nil => intro S _ _ _; simp [Run]
  | cons y T ih =>
    intro S hs hl hg
    have e : S ++ y :: T = (S ++ [y]) ++ T := by simp
    rw [e] at hs hl ⊢
    have hsy : SortedR (S ++ [y]) := (List.pairwise_append.1 hs).1
    have hS : SortedR S := (List.pairwise_append.1 hsy).1
    obtain ⟨g1, g2⟩ := hg y (by simp)
    refine ⟨⟨{ x with R1 := S ++ [y] }, f0, f1, L⟩, ?_, ih (S ++ [y]) hs hl (fun z hz => hg z (by simp [hz]))⟩
    have h1 := Stp.row1 ⟨{ x with R1 := S }, f0, f1, L⟩ y.k y.t y.v y.n hS (by simp at hl ⊢; omega) g1 g2
    rw [show ({ x with R1 := S } : J).R1 = S from rfl, ins_snoc S y hsy] at h1
    exact h1
theorem run_outs (x : J) (f0 f1 : Int) (T : List O) : ∀ (L : List O), (∀ o ∈ T, TellO o) → L.length + T.length ≤ 100000 → Run ⟨x, f0, f1, L⟩ (T.map fun o => (headO o, numsO o)) ⟨x, f0, f1, T.reverse ++ L⟩ := by
  induction T with
  | nil => intro L _ _; simp [Run]
  | cons o T ih =>
    intro L ho hl
    refine ⟨⟨x, f0, f1, o :: L⟩, Stp.out _ o (ho o (by simp)) (by simp at hl ⊢; omega), ?_⟩
    have := ih (o :: L) (fun z hz => ho z (by simp [hz])) (by simp at hl ⊢; omega)
    simpa using this
theorem run_saved (x : J) (f0 f1 : Int) (Z : List O) (hpl : planOk x.lo x.hi x.mode) (hm0 : -1099511627777 ≤ x.m0 ∧ x.m0 ≤ 1099511627776) (hm1 : -1099511627777 ≤ x.m1 ∧ x.m1 ≤ 1099511627776) (hl : 0 ≤ x.late ∧ x.late ≤ 9223372036854775807)
    (h0 : 0 ≤ f0 ∧ f0 ≤ 9223372036854775807) (h1 : 0 ≤ f1 ∧ f1 ≤ 9223372036854775807) (s0 : SortedR x.R0) (s1 : SortedR x.R1) (l0 : x.R0.length ≤ 300) (l1 : x.R1.length ≤ 300)
    (g0 : ∀ y ∈ x.R0, goodI y.k y.t y.v = true ∧ 0 ≤ y.n ∧ y.n ≤ 9223372036854775807) (g1 : ∀ y ∈ x.R1, goodI y.k y.t y.v = true ∧ 0 ≤ y.n ∧ y.n ≤ 9223372036854775807) (hZ : ∀ o ∈ Z, TellO o) (hZl : Z.length ≤ 100000) :
    Run ⟨⟨x.lo, x.hi, x.mode, -1099511627777, -1099511627777, 0, [], []⟩, 0, 0, []⟩ (tailL x f0 f1 Z) ⟨x, f0, f1, Z.reverse⟩ := by
  refine ⟨_, Stp.fed _ f0 f1 x.late h0 h1 hl, _, Stp.marks _ x.m0 x.m1 hpl ⟨rfl, rfl⟩ ⟨rfl, rfl⟩ hm0 hm1, ?_⟩
  have r0 := run_rows0 ⟨x.lo, x.hi, x.mode, x.m0, x.m1, x.late, [], []⟩ f0 f1 [] x.R0 [] (by simpa using s0) (by simpa using l0) g0
  have r1 := run_rows1 ⟨x.lo, x.hi, x.mode, x.m0, x.m1, x.late, x.R0, []⟩ f0 f1 [] x.R1 [] (by simpa using s1) (by simpa using l1) g1
  have r2 := run_outs x f0 f1 Z [] hZ (by simpa using hZl)
  rw [List.nil_append] at r0 r1
  rw [List.append_nil] at r2
  exact r0.append (r1.append (r2.append ⟨_, Stp.fin _, rfl⟩))
end Go.Proofs.YthfpipieboophaaGreatDoor

/- Load of what Saved tells. -/
namespace Go.Proofs.YthfpipieboophaaGreatDoor
open Go.RowKit Go.Sort Go.Shelf
set_option maxRecDepth 100000
theorem atoi_any (n : Int) (W : World) (h : -9223372036854775808 ≤ n ∧ n ≤ 9223372036854775807) : Calls Tryz.prog 161 #[.string (bW (Lib.itoa n))] W fun e w' => e = .returned (.tuple #[.int .i64 n, .nilIface]) ∧ Below W.heap.size W w' := by
  have hl := Lib.itoa_length_le n h.1 h.2
  refine (Tryz.strconv_Atoi_ok (bW (Lib.itoa n)) (by show (Lib.itoa n).toArray.size ≤ _; simp; omega) n (atoi_itoa n h.1 h.2) W).mono ?_
  rintro e w' ⟨rfl, rfl | ⟨t, rfl⟩⟩
  · exact ⟨rfl, Below.refl _ _⟩
  · exact ⟨rfl, Go.Joins.below_bytesWorld _ _ _ _ (Nat.le_refl _)⟩
theorem rowOf_is : RowOfIs := fun g off n c k t v w hg h3 hn h0 h1 h2 => rowOf_any g off n c k t v w hg h3 hn h0 h1 h2
theorem tx_join (hd : List UInt8) (ns : List Int) : hd ++ numsB ns = joinW hd (ns.map Lib.itoa) := by
  unfold joinW numsB
  rw [List.flatMap_map]
theorem tx_joinO (d : UInt8) (ns : List Int) : [111, 117, 116, 32, d] ++ numsB ns = joinW [111, 117, 116] ([d] :: ns.map Lib.itoa) := by
  unfold joinW numsB
  rw [List.flatMap_cons, List.flatMap_map]
  rfl
theorem read_any (p : Ln) (hk : HeadN p.1 p.2.length) (h64 : ∀ n ∈ p.2, -9223372036854775808 ≤ n ∧ n ≤ 9223372036854775807) (bm : Nat) (w W : World) (hG : Glob w) (hW : Below w.heap.size w W) (hK : Known W bm) (hbm : bm < W.heap.size) :
    Calls Tryz.prog 91 #[.string ⟨(txL p).toArray⟩, .map (some bm)] W fun e w' => ∃ g, e = .returned (.tuple #[.agg #[.string p.1, .slice (some ⟨g, 0, none⟩) p.2.length p.2.length], .bool true]) ∧ w'.heap[g]? = some (.cells (p.2.map (Value.int .i64)).toArray 3) ∧ W.heap.size ≤ g ∧ Below W.heap.size W w' := by
  obtain ⟨hd, ns⟩ := p
  have HSp : ∀ (s sep : ByteArray) (V : World), Below W.heap.size W V → s.size < 4294967281 → 1 ≤ sep.size → Calls Tryz.prog 80 #[.string s, .string sep] V fun e w' => e = .returned (.slice (some ⟨V.heap.size, 0, none⟩) (Lib.countB s sep + 1) (Lib.countB s sep + 1)) ∧ w' = V.alloc (.cells ((Lib.splitB sep 0 (Lib.countB s sep) s).map Value.string).toArray 9) := by
    intro s sep V hV hs h1
    obtain ⟨m, hm⟩ := ((hG.below hW).below hV).max
    exact Tryz.strings_Split s sep m V hs hm h1
  have hln : ∀ (l : List Int), l.length ≤ 6 → (∀ n ∈ l, -9223372036854775808 ≤ n ∧ n ≤ 9223372036854775807) → (numsB l).length ≤ 283 := fun l h1 h2 => by
    have := numsB_len l h2
    omega
  have plain : ∀ (hb : List UInt8) (k : Nat), HeadN (bW hb) k → 1 ≤ k → (32 : UInt8) ∉ hb → hb ≠ [111, 117, 116] → hb.length ≤ 10 → ns.length = k → Calls Tryz.prog 91 #[.string ⟨(txL (bW hb, ns)).toArray⟩, .map (some bm)] W fun e w' => ∃ g, e = .returned (.tuple #[.agg #[.string (bW hb), .slice (some ⟨g, 0, none⟩) k k], .bool true]) ∧ w'.heap[g]? = some (.cells (ns.map (Value.int .i64)).toArray 3) ∧ W.heap.size ≤ g ∧ Below W.heap.size W w' := by
    intro hb k hk1 h1 h32 ho hl hn
    have hk6 : k ≤ 6 := by cases hk1 <;> omega
    have e : txL (bW hb, ns) = joinW hb (ns.map Lib.itoa) := tx_join hb ns
    rw [e]
    refine read_plain hb k hk1 h1 h32 ho ns hn h64 bm W hK hbm HSp (fun n V h => atoi_any n V h) ?_
    rw [← tx_join, List.length_append]
    have := hln ns (by omega) h64
    omega
  have outs : ∀ (d : UInt8) (k : Nat), HeadN (bW [111, 117, 116, 32, d]) k → 1 ≤ k → d ≠ 32 → ns.length = k → Calls Tryz.prog 91 #[.string ⟨(txL (bW [111, 117, 116, 32, d], ns)).toArray⟩, .map (some bm)] W fun e w' => ∃ g, e = .returned (.tuple #[.agg #[.string (bW [111, 117, 116, 32, d]), .slice (some ⟨g, 0, none⟩) k k], .bool true]) ∧ w'.heap[g]? = some (.cells (ns.map (Value.int .i64)).toArray 3) ∧ W.heap.size ≤ g ∧ Below W.heap.size W w' := by
    intro d k hk1 h1 h32 hn
    have hk6 : k ≤ 6 := by cases hk1 <;> omega
    have e : txL (bW [111, 117, 116, 32, d], ns) = joinW [111, 117, 116] ([d] :: ns.map Lib.itoa) := tx_joinO d ns
    rw [e]
    refine read_out d h32 k hk1 h1 ns hn h64 bm W hK hbm HSp (fun n V h => atoi_any n V h) ?_
    rw [← tx_joinO, List.length_append]
    have := hln ns (by omega) h64
    simp only [List.length_cons, List.length_nil]
    omega
  simp only at hk
  generalize hn : ns.length = k at hk
  cases hk with
  | plan => exact plain [112, 108, 97, 110] 3 .plan (by omega) (by decide) (by decide) (by decide) hn
  | fed => exact plain [102, 101, 100] 3 .fed (by omega) (by decide) (by decide) (by decide) hn
  | marks => exact plain [109, 97, 114, 107, 115] 2 .marks (by omega) (by decide) (by decide) (by decide) hn
  | row => exact plain [114, 111, 119] 5 .row (by omega) (by decide) (by decide) (by decide) hn
  | left => exact outs 49 3 .left (by omega) (by decide) hn
  | right => exact outs 50 3 .right (by omega) (by decide) hn
  | pair => exact outs 51 6 .pair (by omega) (by decide) hn
  | fin =>
    have e0 : ns = [] := List.eq_nil_of_length_eq_zero hn
    subst e0
    exact read_end bm W hK hbm HSp
set_option maxHeartbeats 4000000 in
theorem load_any (txt : ByteArray) (hsz : txt.size ≤ 60000) (P : Nat → (Nat → Prop) → World → Prop) (hP : ∀ be, Steady (P be)) (w : World)
    (HB : Calls Tryz.prog 42 #[.string txt] w fun e w' => ∃ be S, e = .returned (.tuple #[.pointer (some ⟨be, 0, none⟩), .bool true]) ∧ P be S w' ∧ (∀ k, S k → w.heap.size ≤ k ∧ k < w'.heap.size) ∧ Below w.heap.size w w')
    (HSv : ∀ be S W, P be S W → Below w.heap.size w W → Calls Tryz.prog 18 #[.pointer (some ⟨be, 0, none⟩)] W fun e w' => e = .returned (.tuple #[.string txt, .nilIface]) ∧ Below W.heap.size W w') :
    Calls Tryz.prog 8 #[.string txt] w fun e w' => ∃ be S, e = .returned (.tuple #[.pointer (some ⟨be, 0, none⟩), .nilIface]) ∧ P be S w' ∧ (∀ k, S k → w.heap.size ≤ k ∧ k < w'.heap.size) ∧ Below w.heap.size w w' := by
  have HB' : Hid (Calls Tryz.prog 42 #[.string txt] w fun e w' => ∃ be, e = .returned (.tuple #[.pointer (some ⟨be, 0, none⟩), .bool true]) ∧ Hid (∃ S, P be S w' ∧ (∀ k, S k → w.heap.size ≤ k ∧ k < w'.heap.size) ∧ Below w.heap.size w w')) := by
    refine HB.mono ?_
    rintro e w' ⟨be, S, rfl, h⟩
    exact ⟨be, rfl, S, h⟩
  have HS' : Hid (∀ be W, Hid (∃ S, P be S W ∧ (∀ k, S k → w.heap.size ≤ k ∧ k < W.heap.size) ∧ Below w.heap.size w W) → Calls Tryz.prog 18 #[.pointer (some ⟨be, 0, none⟩)] W fun e w' => e = .returned (.tuple #[.string txt, .nilIface]) ∧ Hid (∃ S, P be S w' ∧ (∀ k, S k → w.heap.size ≤ k ∧ k < w'.heap.size) ∧ Below w.heap.size w w')) := by
    intro be W hh
    obtain ⟨S, h1, h2, h3⟩ := hh.out
    refine (HSv be S W h1 h3).mono ?_
    rintro e w' ⟨rfl, hb⟩
    exact ⟨rfl, S, hP be S W w' h1 hb.size (fun k hk => hb.block k (h2 k hk).2), fun k hk => ⟨(h2 k hk).1, Nat.lt_of_lt_of_le (h2 k hk).2 hb.size⟩, h3.trans (hb.mono h3.size)⟩
  have i0 : (txt.size : Int) ≤ 60000 := by omega
  clear HB HSv hsz
  go_enter Tryz.func8, Tryz.ntmps8
  go_wp2_with (first
    | (go_at_call 18; refine (HS'.out _ _ h2).mono ?_; rintro e w3 ⟨rfl, h3⟩)
    | (go_at_call 42; refine HB'.out.mono ?_; rintro e w2 ⟨be, rfl, h2⟩)
    | fail)
  obtain ⟨S, q1, q2, q3⟩ := h3.out
  exact bodyPost_ret (v := .tuple #[.pointer (some ⟨be, 0, none⟩), .nilIface]) (by simp [results, Tryz.results8, go_sem]) rfl ⟨be, S, rfl, q1, q2, q3⟩
structure SvOk (x : J) (f0 f1 : Int) : Prop where
  pl : planOk x.lo x.hi x.mode
  m0 : -1099511627777 ≤ x.m0 ∧ x.m0 ≤ 1099511627776
  m1 : -1099511627777 ≤ x.m1 ∧ x.m1 ≤ 1099511627776
  late : 0 ≤ x.late ∧ x.late ≤ 9223372036854775807
  f0 : 0 ≤ f0 ∧ f0 ≤ 9223372036854775807
  f1 : 0 ≤ f1 ∧ f1 ≤ 9223372036854775807
  s0 : SortedR x.R0
  s1 : SortedR x.R1
  l0 : x.R0.length ≤ 300
  l1 : x.R1.length ≤ 300
  g0 : ∀ y ∈ x.R0, goodI y.k y.t y.v = true ∧ 0 ≤ y.n ∧ y.n ≤ 9223372036854775807
  g1 : ∀ y ∈ x.R1, goodI y.k y.t y.v = true ∧ 0 ≤ y.n ∧ y.n ≤ 9223372036854775807
theorem SvOk.sv64 {x : J} {f0 f1 : Int} (h : SvOk x f0 f1) : Sv64 x := by
  obtain ⟨⟨a1, a2⟩, ⟨a3, a4⟩, _, a5⟩ := h.pl
  have b0 := h.m0
  have b1 := h.m1
  have b2 := h.late
  refine ⟨⟨by omega, by omega⟩, ⟨by omega, by omega⟩, ⟨by omega, by omega⟩, ⟨by omega, by omega⟩, ⟨by omega, by omega⟩, ⟨by omega, by omega⟩, fun y hy => ?_, fun y hy => ?_⟩
  · obtain ⟨g, n1, n2⟩ := h.g0 y hy
    have := good_in g
    exact ⟨⟨by omega, by omega⟩, ⟨by omega, by omega⟩, ⟨by omega, by omega⟩, ⟨by omega, by omega⟩⟩
  · obtain ⟨g, n1, n2⟩ := h.g1 y hy
    have := good_in g
    exact ⟨⟨by omega, by omega⟩, ⟨by omega, by omega⟩, ⟨by omega, by omega⟩, ⟨by omega, by omega⟩⟩
theorem in_list3 {a b c : Int} (ha : In64 a) (hb : In64 b) (hc : In64 c) : ∀ n ∈ [a, b, c], In64 n := by
  intro n hn
  simp only [List.mem_cons, List.mem_nil_iff, or_false] at hn
  rcases hn with rfl | rfl | rfl <;> assumption
theorem lines_ok (x : J) (f0 f1 : Int) (Z : List O) (h : SvOk x f0 f1) (hZ : ∀ o ∈ Z, TellO o) : ∀ p ∈ linesOf x f0 f1 Z, HeadN p.1 p.2.length ∧ (∀ n ∈ p.2, In64 n) ∧ (10 : UInt8) ∉ p.1.data.toList := by
  have h64 := h.sv64
  intro p hp
  unfold linesOf tailL at hp
  simp only [List.mem_cons, List.mem_append, List.mem_map, List.mem_nil_iff, or_false] at hp
  rcases hp with rfl | rfl | rfl | ⟨y, hy, rfl⟩ | ⟨y, hy, rfl⟩ | ⟨o, ho, rfl⟩ | rfl
  · exact ⟨.plan, in_list3 h64.lo h64.hi h64.mode, show (10 : UInt8) ∉ bPlan.data.toList by decide⟩
  · exact ⟨.fed, in_list3 ⟨by have := h.f0; omega, h.f0.2⟩ ⟨by have := h.f1; omega, h.f1.2⟩ h64.late, show (10 : UInt8) ∉ bFed.data.toList by decide⟩
  · refine ⟨.marks, ?_, show (10 : UInt8) ∉ bMarks.data.toList by decide⟩
    intro n hn
    simp only [List.mem_cons, List.mem_nil_iff, or_false] at hn
    rcases hn with rfl | rfl
    · exact h64.m0
    · exact h64.m1
  · refine ⟨.row, ?_, show (10 : UInt8) ∉ bRow.data.toList by decide⟩
    obtain ⟨a1, a2, a3, a4⟩ := h64.r0 y hy
    intro n hn
    simp only [List.mem_cons, List.mem_nil_iff, or_false] at hn
    rcases hn with rfl | rfl | rfl | rfl | rfl
    · exact ⟨by omega, by omega⟩
    all_goals assumption
  · refine ⟨.row, ?_, show (10 : UInt8) ∉ bRow.data.toList by decide⟩
    obtain ⟨a1, a2, a3, a4⟩ := h64.r1 y hy
    intro n hn
    simp only [List.mem_cons, List.mem_nil_iff, or_false] at hn
    rcases hn with rfl | rfl | rfl | rfl | rfl
    · exact ⟨by omega, by omega⟩
    all_goals assumption
  · have hin := numsO_in o (tell_wf (hZ o ho))
    cases hZ o ho with
    | left k t v h => exact ⟨.left, hin, by simp [headO, loneO]⟩
    | right k t v h => exact ⟨.right, hin, by simp [headO, loneO]⟩
    | pair k t v t2 v2 h h2 => exact ⟨.pair, hin, by simp [headO]⟩
  · exact ⟨.fin, by simp, by decide⟩
theorem load_saved (x : J) (f0 f1 : Int) (Z : List O) (h : SvOk x f0 f1) (hZ : ∀ o ∈ Z, TellO o) (hZl : Z.length ≤ 5000) (hO : InOrder Z) (hsz : (savedB x f0 f1 Z).length ≤ 60000) (w : World) (hG : Glob w) :
    Calls Tryz.prog 8 #[.string ⟨(savedB x f0 f1 Z).toArray⟩] w fun e w' => ∃ be S, e = .returned (.tuple #[.pointer (some ⟨be, 0, none⟩), .nilIface]) ∧ PE ⟨x, f0, f1, Z.reverse⟩ be S w' ∧ (∀ k, S k → w.heap.size ≤ k ∧ k < w'.heap.size) ∧ Below w.heap.size w w' := by
  have hln := lines_ok x f0 f1 Z h hZ
  obtain ⟨f, ff0, ff1, ff2⟩ := (run_saved x f0 f1 Z h.pl h.m0 h.m1 h.late h.f0 h.f1 h.s0 h.s1 h.l0 h.l1 h.g0 h.g1 hZ (by omega)).seq
  refine load_any ⟨(savedB x f0 f1 Z).toArray⟩ (by show (savedB x f0 f1 Z).toArray.size ≤ _; simpa using hsz) (PE ⟨x, f0, f1, Z.reverse⟩) (pe_steady _) w ?_ ?_
  · have hb := build_ok (fun s c w => Tryz.strings_Index_one s c w) (fun s p w hs => Tryz.strings_TrimSuffix s p w hs) (fun i be S W => PE (f (i - 1)) be S W) (fun i be => pe_steady _ be) (linesOf x f0 f1 Z) txL w (by unfold linesOf; simp)
      (fun p hp => tx_no p (hln p hp).2.2) (by rw [← saved_lines]; omega)
      (fun i p bm W hp hW hK hbm => read_any p (hln p (List.mem_of_getElem? hp)).1 (hln p (List.mem_of_getElem? hp)).2.1 bm w W hG hW hK hbm)
      (fun p g W hp hW hg => ?_) (fun i p be S g W hi hp hW hP hg hn => ?_)
    · rw [← saved_lines] at hb
      refine hb.mono ?_
      rintro e w' ⟨be, S, he, hp, hr⟩
      have e1 : (linesOf x f0 f1 Z).length - 1 = (tailL x f0 f1 Z).length := by unfold linesOf; simp
      simp only [e1, ff1] at hp
      exact ⟨be, S, he, hp, hr⟩
    · have hp' : p = (bPlan, [x.lo, x.hi, x.mode]) := by
        unfold linesOf at hp
        simpa using hp.symm
      subst hp'
      have hgl := (Array.getElem?_eq_some_iff.1 hg).1
      refine (start_ok g 0 3 x.lo x.hi x.mode (fun be V => ∃ S, PE (f 0) be S V ∧ (∀ k, S k → W.heap.size ≤ k ∧ k < V.heap.size) ∧ Below W.heap.size W V) W hgl (num_cell hg 0 rfl) (num_cell hg 1 rfl) (num_cell hg 2 rfl) ?_ ?_).mono ?_
      · rintro be V V' ⟨S, q1, q2, q3⟩ hb
        exact ⟨S, pe_steady _ be S V V' q1 hb.size (fun k hk => hb.block k (q2 k hk).2), fun k hk => ⟨(q2 k hk).1, Nat.lt_of_lt_of_le (q2 k hk).2 hb.size⟩, q3.trans (hb.mono q3.size)⟩
      · intro V hV
        have hz := hV.size
        refine (enew_ok x.lo x.hi x.mode V h.pl).mono ?_
        rintro e w' ⟨be, bj, bm, rfl, hE, b1, b2, b3, hb⟩
        refine ⟨be, rfl, ⟨footE bj bm (.slice none 0 0) (.slice none 0 0) none (fun k => k = be), ?_, fun k hk => ⟨?_, hE.lt hk⟩, hV.trans (hb.mono hz)⟩, hb⟩
        · rw [ff0]
          exact ⟨bj, bm, _, _, _, _, hE, fun _ => Iff.rfl⟩
        · rcases hk with (hk | hk | hk | hk) | hk | hk
          · omega
          · omega
          · simp [Value.ownBlock] at hk
          · simp [Value.ownBlock] at hk
          · cases hk
          · have : k = be := hk
            omega
      · rintro e w' ⟨be, rfl, S, q1, q2, q3⟩
        exact ⟨be, S, rfl, q1, q2, q3⟩
    · obtain ⟨i, rfl⟩ : ∃ j, i = j + 1 := ⟨i - 1, by omega⟩
      have hp' : (tailL x f0 f1 Z)[i]? = some p := by
        unfold linesOf at hp
        simpa using hp
      exact step_line rowOf_is (ff2 i p hp') hP hg hn
  · rintro be S W ⟨bj, bm, v0, v1, om, Sg, hE, hS⟩ hW
    have hw := saved_any be bj bm v0 v1 f0 f1 om Sg x Z.reverse Z.reverse Z W hE (hG.below hW).tab h.sv64 h.l0 h.l1 (fun o ho => tell_wf (hZ o (by simpa using ho))) (List.reverse_perm Z).symm hO
    rw [if_neg (by rintro (e | e); (simp at e; omega); omega)] at hw
    exact hw
end Go.Proofs.YthfpipieboophaaGreatDoor

/- The landed engine is saved, and loaded. -/
namespace Go.Proofs.YthfpipieboophaaGreatDoor
open Go.RowKit Go.Sort Go.Shelf
set_option maxRecDepth 100000
theorem pe_saved {x : J} {f0 f1 : Int} {L Z : List O} {be : Nat} {S : Nat → Prop} {W : World} (hP : PE ⟨x, f0, f1, L⟩ be S W) (hG : Glob W) (hv : SvOk x f0 f1) (hL : ∀ o ∈ L, TellO o) (hZ : Z.Perm L) (hO : InOrder Z) :
    Calls Tryz.prog 18 #[.pointer (some ⟨be, 0, none⟩)] W fun e w' => e = .returned (if 5000 < L.length ∨ 60000 < (savedB x f0 f1 Z).length then .tuple #[.string ⟨#[]⟩, .iface 24 (.int .i64 4)] else .tuple #[.string ⟨(savedB x f0 f1 Z).toArray⟩, .nilIface]) ∧ Below W.heap.size W w' := by
  obtain ⟨bj, bm, v0, v1, om, Sg, hE, hS⟩ := hP
  exact saved_any be bj bm v0 v1 f0 f1 om Sg x L L Z W hE hG.tab hv.sv64 hv.l0 hv.l1 (fun o ho => tell_wf (hL o ho)) hZ hO
end Go.Proofs.YthfpipieboophaaGreatDoor
