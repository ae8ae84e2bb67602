/- Drz: several texts in one. -/
import Derived.Test.YtmmbjbgimpgcfaaGreatDoorLdx
import Derived.Test.YtmmbjbgimpgcfaaGreatDoorEnf
/- For EngineDrains: what an engine says of its rows; where a tale's are. -/
namespace Go.Proofs.YtmmbjbgimpgcfaaGreatDoor
open Go.RowKit Go.Sort Go.Shelf
set_option maxRecDepth 100000

section
variable {be bj bm : Nat} {v0 v1 : Value} {f0 f1 : Int} {om : Option Nat} {Sg : Nat → Prop} {x : J} {L Lg : List O} {w : World}
theorem eheld_any (i : Nat) (hi : i < 2) (h : EngIn w be bj bm v0 v1 f0 f1 om Sg x L Lg) : Calls Tryz.prog 17 #[.pointer (some ⟨be, 0, none⟩), .int .i64 i] w fun e w' => e = .returned (.int .i64 (Rs x i).length) ∧ w' = w := by
  have H : Hid (Calls Tryz.prog 33 #[.pointer (some ⟨bj, 0, none⟩), .int .i64 i] w fun e w' => e = .returned (.int .i64 (Rs x i).length) ∧ w' = w) := by
    have hi2 : i = 0 ∨ i = 1 := by omega
    rcases hi2 with rfl | rfl
    · exact jheld0 0 bj bm v0 v1 x w h.join
    · exact jheld1 0 bj bm v0 v1 x w h.join
  have hc := h.cells.2.2.2.1
  have hlt := h.blt
  clear h
  go_enter Tryz.func17, Tryz.ntmps17
  go_wp2_with (first
    | (go_at_call 33; refine H.out.mono ?_; rintro e w' ⟨rfl, hw⟩; have hw := hw.symm; subst hw)
    | fail)
  go_ret
  exact ⟨rfl, rfl⟩
theorem erows_any (i : Nat) (hi : i < 2) (h : EngIn w be bj bm v0 v1 f0 f1 om Sg x L Lg) (h0 : x.R0.length ≤ 300) (h1 : x.R1.length ≤ 300) : Calls Tryz.prog 15 #[.pointer (some ⟨be, 0, none⟩), .int .i64 i] w fun e w' => ∃ v, e = .returned v ∧ w'.ownsRow w.heap.size 58 4 v (Rs x i).length ((Rs x i).flatMap encD) ∧ Below w.heap.size w w' := by
  have hi2 : i = 0 ∨ i = 1 := by omega
  rcases hi2 with rfl | rfl
  · exact erows0 be bj bm v0 v1 f0 f1 om Sg x L Lg w h (by omega)
  · exact erows1 be bj bm v0 v1 f0 f1 om Sg x L Lg w h (by omega)
end

/-- A row that is told: its time, and how many it met. -/
def RowsAt (W : World) (oa : Option Addr) (R : List D) : Prop := ∀ k y, R[k]? = some y → ∃ g, oa = some ⟨g, 0, none⟩ ∧ g < W.heap.size ∧ W.cell? ⟨g, k * 4 + 1, none⟩ = some (.int .i64 y.t) ∧ W.cell? ⟨g, k * 4 + 3, none⟩ = some (.int .i64 y.n)
theorem RowsAt.below {W W' : World} {oa : Option Addr} {R : List D} (h : RowsAt W oa R) (hb : Below W.heap.size W W') : RowsAt W' oa R := by
  intro k y hy
  obtain ⟨g, e, hg, h1, h2⟩ := h k y hy
  exact ⟨g, e, Nat.lt_of_lt_of_le hg hb.size, (hb.cell (p := ⟨g, k * 4 + 1, none⟩) hg).trans h1, (hb.cell (p := ⟨g, k * 4 + 3, none⟩) hg).trans h2⟩
theorem rows_at {W : World} {B : Nat} {v : Value} {R : List D} (h : W.ownsRow B 58 4 v R.length (R.flatMap encD)) : ∃ oa ck, v = .slice oa R.length ck ∧ RowsAt W oa R := by
  rcases Go.Joins.ownsRow_forms h with ⟨rfl, h0⟩ | ⟨g, ck, rfl⟩
  · refine ⟨none, 0, by rw [h0], fun k y hy => ?_⟩
    have : R = [] := List.eq_nil_of_length_eq_zero h0
    subst this
    simp at hy
  · refine ⟨some ⟨g, 0, none⟩, ck, rfl, fun k y hy => ?_⟩
    have hc := rows_cells h k y hy
    exact ⟨g, rfl, (h.lt g rfl).2, hc.2.1, hc.2.2.2⟩

end Go.Proofs.YtmmbjbgimpgcfaaGreatDoor

/- For EngineDrains' end: a view, groups, marks at the end. -/
namespace Go.Proofs.YtmmbjbgimpgcfaaGreatDoor
open Go.RowKit Go.Sort Go.Shelf
set_option maxRecDepth 100000

/-- Outs that are told, cell for cell. -/
def OutsAt (W : World) (oa : Option Addr) (Z : List O) : Prop := ∀ k o, Z[k]? = some o → ∃ g, oa = some ⟨g, 0, none⟩ ∧ g < W.heap.size ∧ ∀ j u, (encO o)[j]? = some u → W.cell? ⟨g, k * 9 + j, none⟩ = some u
theorem OutsAt.below {W W' : World} {oa : Option Addr} {Z : List O} (h : OutsAt W oa Z) (hb : ∀ g, oa = some ⟨g, 0, none⟩ → W'.heap[g]? = W.heap[g]?) (hs : W.heap.size ≤ W'.heap.size) : OutsAt W' oa Z := by
  intro k o ho
  obtain ⟨g, e, hg, h1⟩ := h k o ho
  exact ⟨g, e, Nat.lt_of_lt_of_le hg hs, fun j u hu => (World.cell?_of_block (w := W) (a := ⟨g, k * 9 + j, none⟩) (hb g e)).trans (h1 j u hu)⟩
theorem outs_at {W : World} {B : Nat} {v : Value} {Z : List O} (h : W.ownsRow B 50 9 v Z.length (Z.flatMap encO)) : ∃ oa ck, v = .slice oa Z.length ck ∧ OutsAt W oa Z ∧ ∀ g, oa = some ⟨g, 0, none⟩ → B ≤ g := by
  rcases Go.Joins.ownsRow_forms h with ⟨rfl, h0⟩ | ⟨g, ck, rfl⟩
  · refine ⟨none, 0, by rw [h0], fun k y hy => ?_, fun g e => by cases e⟩
    have : Z = [] := List.eq_nil_of_length_eq_zero h0
    subst this
    simp at hy
  · refine ⟨some ⟨g, 0, none⟩, ck, rfl, fun k o ho => ⟨g, rfl, (h.lt g rfl).2, fun j u hu => ?_⟩, fun g' e => by cases e; exact (h.lt g rfl).1⟩
    have hj : j < 9 := by
      have := (List.getElem?_eq_some_iff.1 hu).1
      simpa [encO] using this
    have := h.cells (g := g) rfl (k * 9 + j) u ((flat_get Z k j o ho hj).trans hu)
    simp only [add_at] at this
    exact this

/-- Groups that are told. -/
def GrsAt (W : World) (oa : Option Addr) (Q : List GrQ) : Prop := ∀ k q, Q[k]? = some q → ∃ g, oa = some ⟨g, 0, none⟩ ∧ g < W.heap.size ∧ W.cell? ⟨g, k * 6, none⟩ = some (.int .i64 q.key) ∧ W.cell? ⟨g, k * 6 + 1, none⟩ = some (.int .i64 q.count) ∧ W.cell? ⟨g, k * 6 + 2, none⟩ = some (.int .i64 q.sum) ∧ W.cell? ⟨g, k * 6 + 3, none⟩ = some (.int .i64 q.least) ∧ W.cell? ⟨g, k * 6 + 4, none⟩ = some (.int .i64 q.most) ∧ W.cell? ⟨g, k * 6 + 5, none⟩ = some (.bool q.some)
theorem GrsAt.below {W W' : World} {oa : Option Addr} {Q : List GrQ} (h : GrsAt W oa Q) (hb : Below W.heap.size W W') : GrsAt W' oa Q := by
  intro k q hq
  obtain ⟨g, e, hg, h0, h1, h2, h3, h4, h5⟩ := h k q hq
  have key := fun j => hb.cell (p := ⟨g, j, none⟩) hg
  exact ⟨g, e, Nat.lt_of_lt_of_le hg hb.size, (key _).trans h0, (key _).trans h1, (key _).trans h2, (key _).trans h3, (key _).trans h4, (key _).trans h5⟩
theorem grs_at {W : World} {B : Nat} {v : Value} {L : List O} {ks : List Int} (h : W.ownsRow B 52 6 v ks.length (ks.flatMap (gE (absG L)))) : ∃ oa ck, v = .slice oa ks.length ck ∧ GrsAt W oa (ks.map (grOf L)) := by
  have e3 : (ks.map (grOf L)).flatMap encGQ = ks.flatMap (gE (absG L)) := by
    rw [List.flatMap_map]
    rfl
  rw [← e3] at h
  rcases Go.Joins.ownsRow_forms h with ⟨rfl, h0⟩ | ⟨g, ck, rfl⟩
  · refine ⟨none, 0, by rw [h0], fun k y hy => ?_⟩
    have : ks = [] := List.eq_nil_of_length_eq_zero h0
    subst this
    simp at hy
  · exact ⟨some ⟨g, 0, none⟩, ck, rfl, fun k q hq => ⟨g, rfl, (h.lt g rfl).2, gr_cells h k q hq⟩⟩

/-- Groups of one's own, behind k Outs of a view. -/
structure Gi (w3 : World) (gb : Nat) (oav : Option Addr) (Z : List O) (k : Nat) (W : World) : Prop where
  grp : ∃ Sx, Grp W gb 0 k Sx (absG (Z.take k).reverse) ∧ ∀ j, Sx j → w3.heap.size ≤ j ∧ oav ≠ some ⟨j, 0, none⟩
  outs : OutsAt W oav Z
  low : Below w3.heap.size w3 W
theorem Gi.below {w3 W W' : World} {gb : Nat} {oav : Option Addr} {Z : List O} {k : Nat} (h : Gi w3 gb oav Z k W) (hlt : ∀ g, oav = some ⟨g, 0, none⟩ → g < W.heap.size) (hb : Below W.heap.size W W') : Gi w3 gb oav Z k W' := by
  obtain ⟨Sx, h1, h2⟩ := h.grp
  exact ⟨⟨Sx, h1.below hb, h2⟩, h.outs.below (fun g e => hb.block g (hlt g e)) hb.size, h.low.trans (hb.mono h.low.size)⟩
theorem Gi.lt {w3 W : World} {gb : Nat} {oav : Option Addr} {Z : List O} {k : Nat} (h : Gi w3 gb oav Z k W) : gb < W.heap.size := by
  obtain ⟨Sx, h1, h2⟩ := h.grp
  exact h1.lt h1.in.1

theorem gi_step {w3 W : World} {gb : Nat} {oav : Option Addr} {Z : List O} {k : Nat} (h : Gi w3 gb oav Z k W) (hlt : ∀ g, oav = some ⟨g, 0, none⟩ → g < W.heap.size) (o : O) (ho : Z[k]? = some o) (hwf : o.wf) (hk : k ≤ 1000000) :
    Calls Tryz.prog 18 #[.pointer (some ⟨gb, 0, none⟩), gvC o false] W fun e w' => e = .returned .nilIface ∧ Gi w3 gb oav Z (k + 1) w' ∧ W.heap.size ≤ w'.heap.size := by
  obtain ⟨Sx, h1, h2⟩ := h.grp
  have hz := h.low.size
  refine (gapplyL_put gb 0 k Sx _ W h1 o hwf (by omega)).mono ?_
  rintro e w' ⟨rfl, g1, g2⟩
  have e1 : o :: (Z.take k).reverse = (Z.take (k + 1)).reverse := by
    rw [List.take_add_one, ho]
    simp
  rw [e1] at g1
  refine ⟨rfl, ⟨⟨_, g1, fun j hj => ?_⟩, h.outs.below (fun g e => g2.block g (hlt g e) (fun hs => (h2 g hs).2 e)) g2.size, h.low.trans (g2.below hz (fun j hj => (h2 j hj).1))⟩, g2.size⟩
  rcases hj with hj | hj
  · exact h2 j hj
  · exact ⟨by omega, fun e => by have := hlt j e; omega⟩

theorem gi_all {w3 W : World} {gb : Nat} {oav : Option Addr} {Z L : List O} (h : Gi w3 gb oav Z Z.length W) (hZ : Z.Perm L) (hl : Z.length ≤ 1000000) :
    Calls Tryz.prog 19 #[.pointer (some ⟨gb, 0, none⟩)] W fun e w' => ∃ oa ck ks, e = .returned (.slice oa ks.length ck) ∧ KeysOf L ks ∧ GrsAt w' oa (ks.map (grOf L)) ∧ Below W.heap.size W w' := by
  obtain ⟨Sx, h1, h2⟩ := h.grp
  rw [List.take_length] at h1
  refine (gall_any gb 0 Z.length Sx _ W h1 hl).mono ?_
  rintro e w' ⟨v, ks, rfl, k1, k2, k3, k4, k5⟩
  have hp : Z.reverse.Perm L := (List.reverse_perm Z).trans hZ
  have hK : KeysOf Z.reverse ks := ⟨k1, k2, by rw [List.length_reverse]; exact k3⟩
  obtain ⟨oa, ck, rfl, ha⟩ := grs_at k4
  have e1 : ks.map (grOf Z.reverse) = ks.map (grOf L) := List.map_congr_left (fun k _ => grOf_perm hp k)
  rw [e1] at ha
  exact ⟨oa, ck, ks, rfl, hK.perm hp, ha, k5⟩

/-- Behind marks at the end. -/
structure Mv (w1 : World) (bt be : Nat) (x : J) (L : List O) (W : World) : Prop where
  eng : ∃ S, EngAt be x L S W ∧ ∀ k, S k → w1.heap.size ≤ k ∧ k ≠ bt
  cell : W.cell? ⟨bt, 0, none⟩ = some (.pointer (some ⟨be, 0, none⟩))
  low : Below w1.heap.size w1 W
  bt1 : w1.heap.size ≤ bt
theorem Mv.below {w1 W W' : World} {bt be : Nat} {x : J} {L : List O} (h : Mv w1 bt be x L W) (hb : Below W.heap.size W W') : Mv w1 bt be x L W' := by
  obtain ⟨S, h1, h2⟩ := h.eng
  exact ⟨⟨S, engAt_steady be x L S W W' h1 hb.size (fun k hk => hb.block k (engAt_foot be x L S W h1 k hk)), h2⟩, (hb.cell (p := ⟨bt, 0, none⟩) (World.block_lt_of_cell? _ _ h.cell)).trans h.cell, h.low.trans (hb.mono h.low.size), h.bt1⟩
theorem keep_none {q : D → Bool} {R : List D} (h : ∀ y ∈ R, q y = true) : keepR q R = [] := by
  unfold keepR
  rw [List.filter_eq_nil_iff]
  intro y hy
  simp [h y hy]

theorem end_facts {w1 w3 : World} {bt : Nat} {lo hi mode : Int} {n be bf nF : Nat} {a0 a1 : Int} {va vb : Value} {A B : List Rw} {F L : List O} {x : J} {S : Nat → Prop} (h : Full EngAt w1 bt lo hi mode n w3 be bf nF a0 a1 va vb A B F L x S) (hn : n ≤ 100) :
    Hid (∀ W, Below w3.heap.size w3 W → Calls Tryz.prog 10 #[.pointer (some ⟨be, 0, none⟩)] W fun e w' => ∃ oa ck Z, e = .returned (.slice oa Z.length ck) ∧ Hid (Z.Perm L ∧ OutsAt w' oa Z ∧ (∀ g, oa = some ⟨g, 0, none⟩ → W.heap.size ≤ g ∧ g < w'.heap.size) ∧ Below W.heap.size W w')) ∧
    Hid (∀ W, Below w3.heap.size w3 W → Calls Tryz.prog 14 #[.pointer (some ⟨be, 0, none⟩)] W fun e w' => ∃ oa ck ks, e = .returned (.slice oa ks.length ck) ∧ Hid (KeysOf L ks ∧ GrsAt w' oa (ks.map (grOf L)) ∧ Below W.heap.size W w')) ∧
    Hid ((∀ o ∈ L, o.wf) ∧ L.length ≤ 20000) ∧
    ∃ x1 x2 : J, Hid (∀ W, Below w3.heap.size w3 W → Calls Tryz.prog 20 #[.pointer (some ⟨be, 0, none⟩), .int .i64 0, .int .i64 1099511627776] W fun e w' => e = .returned .nilIface ∧ Hid (Mv w1 bt be x1 L w')) ∧
      Hid (∀ W, Hid (Mv w1 bt be x1 L W) → Calls Tryz.prog 20 #[.pointer (some ⟨be, 0, none⟩), .int .i64 1, .int .i64 1099511627776] W fun e w' => e = .returned .nilIface ∧ Hid (Mv w1 bt be x2 L w')) ∧
      Hid (∀ W, Hid (Mv w1 bt be x2 L W) → Calls Tryz.prog 10 #[.pointer (some ⟨be, 0, none⟩)] W fun e w' => ∃ oa ck, e = .returned (.slice oa L.length ck) ∧ Hid (Mv w1 bt be x2 L w')) ∧
      Hid (∀ (s : Nat) W, s < 2 → Hid (Mv w1 bt be x2 L W) → Calls Tryz.prog 17 #[.pointer (some ⟨be, 0, none⟩), .int .i64 s] W fun e w' => e = .returned (.int .i64 0) ∧ w' = W) := by
  have hLl : L.length ≤ 20000 := by rw [h.lv.length_eq]; exact view_small _ _ _ A B n hn h.len
  obtain ⟨bj, bm, v0, v1, f0, f1, om, Sg, hE, hS⟩ := h.eng
  obtain ⟨e1, e2, e3⟩ := h.plan
  have hmk := h.marks
  have hpl := h.ok
  obtain ⟨⟨p1, p2⟩, ⟨p3, p4⟩, _⟩ := h.ok
  have hfo := engAt_foot be x L S w3 h.eng
  have hz := h.low.size
  have hjl := h.jok.late
  have hlen := h.len
  refine ⟨fun W hW => ?_, fun W hW => ?_, ⟨fun o ho => view_wf h.sa h.sb o (h.lv.subset ho), hLl⟩, { x with m0 := 1099511627776, R1 := keepR (fun y => decide (y.t ≤ 1099511627776 + x.lo)) x.R1 }, { x with m0 := 1099511627776, m1 := 1099511627776, R0 := keepR (fun y => decide (y.t ≤ 1099511627776 - x.hi)) x.R0, R1 := keepR (fun y => decide (y.t ≤ 1099511627776 + x.lo)) x.R1 }, fun W hW => ?_, fun W hW => ?_, fun W hW => ?_, fun s W hs hW => ?_⟩
  · refine (eview_any (sorted_says nil_says) be bj bm v0 v1 f0 f1 om Sg x L L W (hE.below hW) (by omega)).mono ?_
    rintro e w' ⟨v, Z, rfl, q1, _, q2, q3⟩
    obtain ⟨oa, ck, rfl, q4, q5⟩ := outs_at q2
    refine ⟨oa, ck, Z, rfl, q1, q4, fun g hg => ⟨q5 g hg, ?_⟩, q3⟩
    subst hg
    exact (q2.lt g rfl).2
  · refine (egroups_any be bj bm v0 v1 f0 f1 om Sg x L L W (hE.below hW) (by omega)).mono ?_
    rintro e w' ⟨v, ks, rfl, k1, k2, k3, k4, k5⟩
    obtain ⟨oa, ck, rfl, ha⟩ := grs_at k4
    exact ⟨oa, ck, ks, rfl, ⟨k1, k2, k3⟩, ha, k5⟩
  · have hEW : EngAt be x L S W := engAt_steady be x L S w3 W h.eng hW.size (fun k hk => hW.block k (hfo k hk))
    refine (engSays.move0 be x L S W 1099511627776 hEW h.jok (by omega) (by omega)).mono ?_
    rintro e w' ⟨S', rfl, q1, q2, q3⟩
    have hbt := h.tale.lt
    have hzW := hW.size
    refine ⟨rfl, ⟨S', q1, fun k hk => ?_⟩, ?_, (h.low.trans (hW.mono hz)).trans (q3.below (by omega) (fun k hk => (h.foot k hk).1)), h.bt0⟩
    · rcases (q2 k hk).1 with g | g
      · exact ⟨(h.foot k g).1, (h.foot k g).2.1⟩
      · exact ⟨by omega, by omega⟩
    · have hb := (h.tale.below hW).blk
      rw [Go.Joins.cell_of_block ((q3.block bt (by omega) (fun e => (h.foot bt e).2.1 rfl)).trans hb)]
      rfl
  · obtain ⟨S1, q1, q2⟩ := hW.out.eng
    have hH1 := h.holds.moved0 1099511627776 (by omega)
    have hJ1 : JOk { x with m0 := 1099511627776, R1 := keepR (fun y => decide (y.t ≤ 1099511627776 + x.lo)) x.R1 } := jok_of hH1 (by show planOk x.lo x.hi x.mode; rw [e1, e2, e3]; exact hpl) h.jok.l0 (Nat.le_trans (List.length_filter_le _ _) h.jok.l1) (by omega) (by omega) h.jok.late
    refine (engSays.move1 be _ L S1 W 1099511627776 q1 hJ1 (by show x.m1 ≤ _; omega) (by omega)).mono ?_
    rintro e w' ⟨S', rfl, r1, r2, r3⟩
    have hlt := World.block_lt_of_cell? _ _ hW.out.cell
    have hzW := hW.out.low.size
    have hb1 := hW.out.bt1
    refine ⟨rfl, ⟨S', r1, fun k hk => ?_⟩, ?_, hW.out.low.trans (r3.below hzW (fun k hk => (q2 k hk).1)), h.bt0⟩
    · rcases (r2 k hk).1 with g | g
      · exact q2 k g
      · have hlt' : bt < W.heap.size := hlt
        exact ⟨by omega, by omega⟩
    · exact (World.cell?_of_block (w := W) (a := ⟨bt, 0, none⟩) (r3.block bt hlt (fun e => (q2 bt e).2 rfl))).trans hW.out.cell
  · obtain ⟨S1, q1, q2⟩ := hW.out.eng
    refine (engFeeds.view be _ L S1 W q1 (by omega)).mono ?_
    rintro e w' ⟨v, Z, rfl, r1, r2, r3⟩
    obtain ⟨oa, ck, rfl⟩ := slice_form62 r2
    exact ⟨oa, ck, by rw [r1.length_eq], hW.out.below r3⟩
  · obtain ⟨S1, ⟨bj, bm, v0, v1, f0, f1, om, Sg, hE2, _⟩, q2⟩ := hW.out.eng
    have hq := eheld_any s hs hE2
    have h0 : keepR (fun y => decide (y.t ≤ 1099511627776 - x.hi)) x.R0 = [] := keep_none (fun y hy => by
      have hm := h.holds.r0.subset hy
      rw [List.mem_map] at hm
      obtain ⟨l, hl, rfl⟩ := hm
      have ht := h.lowm.2.1 l (List.mem_filter.1 hl).1
      simp only [decide_eq_true_eq]
      show l.t ≤ _
      omega)
    have h1 : keepR (fun y => decide (y.t ≤ 1099511627776 + x.lo)) x.R1 = [] := keep_none (fun y hy => by
      have hm := h.holds.r1.subset hy
      rw [List.mem_map] at hm
      obtain ⟨l, hl, rfl⟩ := hm
      have ht := h.lowm.2.2 l (List.mem_filter.1 hl).1
      simp only [decide_eq_true_eq]
      show l.t ≤ _
      omega)
    have hs2 : s = 0 ∨ s = 1 := by omega
    rcases hs2 with rfl | rfl
    · simp only [Rs, if_pos, h0] at hq
      exact hq
    · simp only [Rs] at hq
      rw [if_neg (by decide)] at hq
      simp only [h1] at hq
      exact hq

end Go.Proofs.YtmmbjbgimpgcfaaGreatDoor
