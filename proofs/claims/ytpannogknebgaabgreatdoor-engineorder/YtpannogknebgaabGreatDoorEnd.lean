/- An engine: a row is fed. -/
import Derived.Test.YtpannogknebgaabGreatDoorEnc
import Derived.Test.YtpannogknebgaabGreatDoorTla
namespace Go.Proofs.YtpannogknebgaabGreatDoor
open Go.RowKit Go.Sort
set_option maxRecDepth 100000

theorem slice_formE {w : World} {base n e size : Nat} {v : Value} {xs : List Value} (h : w.ownsRow base e size v n xs) : ∃ oa c, v = .slice oa n c := by
  rcases h.2 with ⟨rfl, h0⟩ | ⟨g, cap, cur, rfl, _⟩
  · exact ⟨none, 0, by rw [h0]⟩
  · exact ⟨_, _, rfl⟩

theorem eapply (be bj bm : Nat) (v0 v1 : Value) (f0 f1 : Int) (om : Option Nat) (Sg : Nat → Prop) (x : J) (L : List O) (c : Ch) (w : World) (h : EngIn w be bj bm v0 v1 f0 f1 om Sg x L L) (hwf : c.x.wf) (hg : c.g = true → c.x ∈ L) (hL : L.length ≤ 3000000) :
    Calls Tryz.prog 50 #[.pointer (some ⟨be, 0, none⟩), vC c.x c.g] w fun e w' => e = .returned (.tuple #[]) ∧ ∃ om' Sg', EngIn w' be bj bm v0 v1 f0 f1 om' Sg' x (if c.g = true then L.erase c.x else c.x :: L) (if c.g = true then L.erase c.x else c.x :: L) ∧ (∀ k, om' = some k → om = some k ∨ w.heap.size ≤ k) ∧ (∀ k, Sg' k → Sg k ∨ w.heap.size ≤ k) ∧ Turned (fun k => k = be ∨ om = some k ∨ Sg k) w w' := by
  obtain ⟨o, g⟩ := c
  cases g
  · refine eapply_any be bj bm v0 v1 f0 f1 om Sg x L (o :: L) o false w h (fun W hW => ?_) (fun W om' hW => ?_)
    · exact (apply_put be 6 L.length om L W hW.bag o hwf (by omega) (by omega)).mono fun e w' ⟨h1, om', h2, h3, h4⟩ => ⟨⟨_, h1⟩, om', _, h2, h3, h4⟩
    · exact (gapplyL_put be 8 L.length Sg L W hW.grp o hwf (by omega)).mono fun e w' ⟨h1, h2, h3⟩ => ⟨⟨_, h1⟩, _, h2, h3⟩
  · have hm := hg rfl
    refine eapply_any be bj bm v0 v1 f0 f1 om Sg x L (L.erase o) o true w h (fun W hW => ?_) (fun W om' hW => ?_)
    · exact (apply_take be 6 L.length om L W hW.bag o hwf hm (by omega) (by omega)).mono fun e w' ⟨h1, h2, h3⟩ => ⟨⟨_, h1⟩, om, _, h2, h3, .inl rfl⟩
    · exact (gapplyL_take be 8 L.length Sg L W hW.grp o hwf hm (by omega)).mono fun e w' ⟨h1, h2, h3⟩ => ⟨⟨_, h1⟩, _, h2, h3⟩

/-- Within the loop over what changes: i changes are laid. -/
structure Fl (w : World) (S : Nat → Prop) (be bj bm : Nat) (v0 v1 : Value) (f0 f1 : Int) (x : J) (L : List O) (C : List Ch) (v9 : Value) (i : Nat) (W : World) : Prop where
  ex : ∃ om Sg, EngIn W be bj bm v0 v1 f0 f1 om Sg x (appC L (C.take i)) (appC L (C.take i)) ∧ (∀ k, footE bj bm v0 v1 om Sg k → S k ∨ w.heap.size ≤ k) ∧ (∀ k, v9.ownBlock = some k → ¬ footE bj bm v0 v1 om Sg k)
  row : W.ownsRow w.heap.size 66 10 v9 C.length (C.flatMap encC)
  turn : Turned S w W

theorem Fl.apply {w : World} {S : Nat → Prop} {be bj bm : Nat} {v0 v1 : Value} {f0 f1 : Int} {x : J} {L : List O} {C : List Ch} {v9 : Value} {i : Nat} {W : World} (h : Fl w S be bj bm v0 v1 f0 f1 x L C v9 i W) {c : Ch} (hc : C[i]? = some c) (hok : okC L C) (hwf : ∀ c ∈ C, c.x.wf) (hL : L.length ≤ 1000000) (hC : C.length ≤ 1000000) {W' : World} (hb : Below W.heap.size W W') :
    Calls Tryz.prog 50 #[.pointer (some ⟨be, 0, none⟩), vC c.x c.g] W' fun e w' => e = .returned (.tuple #[]) ∧ Hid (Fl w S be bj bm v0 v1 f0 f1 x L C v9 (i + 1) w') := by
  obtain ⟨om, Sg, h1, h2, h3⟩ := h.ex
  have hE := h1.below hb
  have hi : i < C.length := (List.getElem?_eq_some_iff.1 hc).1
  have hl := appC_len (C.take i) L
  rw [List.length_take] at hl
  refine (eapply be bj bm v0 v1 f0 f1 om Sg x _ c W' hE (hwf c (List.mem_of_getElem? hc)) (fun hg => (okC_at C L i c hok hc hg).1) (by omega)).mono ?_
  rintro e w' ⟨rfl, om', Sg', g1, g2, g3, g4⟩
  have hws := h.turn.size
  have hbs := hb.size
  have hr : W'.ownsRow w.heap.size 66 10 v9 C.length (C.flatMap encC) := kept_below h.row hb
  refine ⟨rfl, ⟨om', Sg', ?_, fun k e => ?_, fun k e => ?_⟩, ?_, ?_⟩
  · rw [appC_take C L i c hc]; exact g1
  · rcases e with e | e | e
    · exact h2 k (.inl e)
    · rcases g2 k e with e | e
      · exact h2 k (.inr (.inl e))
      · exact .inr (by omega)
    · rcases g3 k e with e | e
      · exact h2 k (.inr (.inr e))
      · exact .inr (by omega)
  · have hlt := (hr.lt k e).2
    rintro (e2 | e2 | e2)
    · exact h3 k e (.inl e2)
    · rcases g2 k e2 with e2 | e2
      · exact h3 k e (.inr (.inl e2))
      · omega
    · rcases g3 k e2 with e2 | e2
      · exact h3 k e (.inr (.inr e2))
      · omega
  · refine own_still hr (fun k e => g4.block k (hr.lt k e).2 ?_)
    rintro (e2 | e2 | e2)
    · exact h3 k e (.inr (.inr (by rw [e2]; exact h1.inS)))
    · exact h3 k e (.inr (.inl e2))
    · exact h3 k e (.inr (.inr e2))
  · refine (h.turn.trans (Turned.of_below (S := fun _ => False) hb) (fun _ _ e => e.elim)).trans g4 (fun k hk e => ?_)
    have h9 : footE bj bm v0 v1 om Sg k := by
      rcases e with e | e | e
      · exact .inr (.inr (by rw [e]; exact h1.inS))
      · exact .inr (.inl e)
      · exact .inr (.inr e)
    rcases h2 k h9 with e | e
    · exact e
    · omega

theorem Fl.below {w : World} {S : Nat → Prop} {be bj bm : Nat} {v0 v1 : Value} {f0 f1 : Int} {x : J} {L : List O} {C : List Ch} {v9 : Value} {i : Nat} {W W' : World} (h : Fl w S be bj bm v0 v1 f0 f1 x L C v9 i W) (hb : Below W.heap.size W W') : Fl w S be bj bm v0 v1 f0 f1 x L C v9 i W' := by
  obtain ⟨om, Sg, h1, h2, h3⟩ := h.ex
  exact ⟨⟨om, Sg, h1.below hb, h2, h3⟩, kept_below h.row hb, h.turn.trans (Turned.of_below (S := fun _ => False) hb) (fun _ _ e => e.elim)⟩

/-- One more; behind the last number none. -/
def satI (f : Int) : Int := if f = 9223372036854775807 then f else f + 1
theorem satI_in {f : Int} (h : 0 ≤ f ∧ f ≤ 9223372036854775807) : 0 ≤ satI f ∧ satI f ≤ 9223372036854775807 := by unfold satI; split <;> omega
theorem satI_max {f : Int} (h : 0 ≤ f ∧ f ≤ 9223372036854775807) : max f (wrap64 (f + 1)) = satI f := by
  unfold satI
  split
  · rename_i e
    subst e
    have : wrap64 (9223372036854775807 + 1) = -9223372036854775808 := by unfold wrap64; omega
    rw [this]
    omega
  · have : wrap64 (f + 1) = f + 1 := by unfold wrap64; omega
    rw [this]
    omega

theorem tell_nil (w : World) : Calls Tryz.prog 22 #[.nilIface] w fun e w' => e = .returned (.int .i64 0) ∧ w' = w := by
  go_enter Tryz.func22, Tryz.ntmps22
  go_wp2
  go_ret
  exact ⟨rfl, rfl⟩

abbrev rowE (k t v : Int) : Obj := .cells #[.int .i64 k, .int .i64 t, .int .i64 v] 48
theorem rowE_cells {W : World} {b : Nat} {k t v : Int} (h : W.heap[b]? = some (rowE k t v)) : W.cell? ⟨b, 0, none⟩ = some (.int .i64 k) ∧ W.cell? ⟨b, 1, none⟩ = some (.int .i64 t) ∧ W.cell? ⟨b, 2, none⟩ = some (.int .i64 v) := by
  refine ⟨?_, ?_, ?_⟩ <;> (rw [Go.Joins.cell_of_block h]; rfl)

set_option maxHeartbeats 8000000 in
theorem efeed0 (be bj bm : Nat) (v0 v1 : Value) (f0 f1 : Int) (om : Option Nat) (Sg : Nat → Prop) (x x' : J) (L : List O) (C : List Ch) (k t v : Int) (w : World) (h : EngIn w be bj bm v0 v1 f0 f1 om Sg x L L)
    (hx : x'.lo = x.lo ∧ x'.hi = x.hi ∧ x'.mode = x.mode)
    (hJ : ∀ W, JoinAt W 0 bj bm v0 v1 x → Calls Tryz.prog 49 #[.pointer (some ⟨bj, 0, none⟩), .int .i64 0, .agg #[.int .i64 k, .int .i64 t, .int .i64 v]] W fun e w' => ∃ v9 v0' v1', e = .returned (.tuple #[v9, .nilIface]) ∧ JoinAt w' 0 bj bm v0' v1' x' ∧ w'.ownsRow W.heap.size 66 10 v9 C.length (C.flatMap encC) ∧ Turned (footJ bj bm v0 v1) W w' ∧ (∀ k, footJ bj bm v0' v1' k → footJ bj bm v0 v1 k ∨ W.heap.size ≤ k) ∧ (∀ k, v9.ownBlock = some k → ¬ footJ bj bm v0' v1' k))
    (hok : okC L C) (hwf : ∀ c ∈ C, c.x.wf) (hL : L.length ≤ 1000000) (hC : C.length ≤ 1000000) :
    Calls Tryz.prog 25 #[.pointer (some ⟨be, 0, none⟩), .int .i64 0, .agg #[.int .i64 k, .int .i64 t, .int .i64 v]] w fun e w' => ∃ v9 v0' v1', e = .returned (.tuple #[v9, .nilIface]) ∧ Fl w (footE bj bm v0 v1 om Sg) be bj bm v0' v1' (satI f0) f1 x' L C v9 C.length w' := by
  have HJ : Hid (∀ W, Below w.heap.size w W → W.heap[w.heap.size]? = some (rowE k t v) → Calls Tryz.prog 49 #[.pointer (some ⟨bj, 0, none⟩), .int .i64 0, .agg #[.int .i64 k, .int .i64 t, .int .i64 v]] W fun e w' => ∃ v9, e = .returned (.tuple #[v9, .nilIface]) ∧ (w'.cell? ⟨be, 4, none⟩ = some (.int .i64 f0) ∧ w'.frozen? ⟨be, 4, none⟩ = false ∧ be < w'.heap.size) ∧ (w'.cell? ⟨be, 3, none⟩ = some (.pointer (some ⟨bj, 0, none⟩)) ∧ w'.cell? ⟨w.heap.size, 0, none⟩ = some (.int .i64 k) ∧ w'.cell? ⟨w.heap.size, 1, none⟩ = some (.int .i64 t) ∧ w'.cell? ⟨w.heap.size, 2, none⟩ = some (.int .i64 v)) ∧ Hid (∃ v0' v1', Fl w (footE bj bm v0 v1 om Sg) be bj bm v0' v1' (satI f0) f1 x' L C v9 0 (w'.setCell ⟨be, 4, none⟩ (.int .i64 (satI f0))))) := by
    intro W hW hbx
    have hE := h.below hW
    refine (hJ W hE.join).mono ?_
    rintro e w' ⟨v9, v0', v1', rfl, h1, h2, h3, h4, h5⟩
    have hE2 := hE.joined h1 hx h3 h4
    have hc := hE2.cells
    have hws := hW.size
    have hs : ∀ k, k ≠ be → (w'.setCell ⟨be, 4, none⟩ (.int .i64 (satI f0))).heap[k]? = w'.heap[k]? := fun k e => Below.heap_setCell _ _ _ _ e
    have hlt := hE.blt
    refine ⟨v9, rfl, ⟨hc.2.2.2.2.1, hc.2.2.2.2.2.2.1, hE2.blt⟩, ⟨hc.2.2.2.1, rowE_cells ((h3.block _ (Array.getElem?_eq_some_iff.1 hbx).1 (fun e => by have := h.join.foot_lt e; omega)).trans hbx)⟩, v0', v1', ⟨om, Sg, ?_, fun k e => ?_, fun k e => ?_⟩, ?_, ?_⟩
    · exact hE2.setf 4 _ _ _ (.inl ⟨rfl, rfl, rfl⟩) (satI_in h.r0)
    · rcases e with e | e
      · rcases h4 k e with e | e
        · exact .inl (.inl e)
        · exact .inr (by omega)
      · exact .inl (.inr e)
    · have hl9 := (h2.lt k e).1
      rintro (e2 | e2 | e2)
      · exact h5 k e e2
      · have := (hE.bag.ne e2).2; omega
      · have := hE.grp.lt e2; omega
    · refine own_still (h2.mono hws) (fun k e => hs k ?_)
      have := (h2.lt k e).1
      omega
    · refine (((Turned.of_below (S := footE bj bm v0 v1 om Sg) hW).trans h3 (fun _ _ e => .inl e)).trans (turned_cell (b := be)) (fun k _ e => .inr (.inr (by rw [e]; exact h.inS))))
  have HM : Hid (max f0 (wrap64 (f0 + 1)) = satI f0) := satI_max h.r0
  have HO : Hid (okC L C ∧ (∀ c ∈ C, c.x.wf)) := ⟨hok, hwf⟩
  have hc0 := h.cells
  have hlt := h.blt
  have hf := h.r0
  clear h hJ hok hwf hx
  go_enter Tryz.func25, Tryz.ntmps25
  go_wp2
  have B1 : Hid (Below w.heap.size w (w.alloc (rowE k t v)).drew ∧ (w.alloc (rowE k t v)).drew.heap[w.heap.size]? = some (rowE k t v)) := ⟨(Go.Joins.below_alloc1 _ _).drew, heap_alloc_new w (rowE k t v)⟩
  have hc1 : (w.alloc (rowE k t v)).cell? ⟨be, 3, none⟩ = some (.pointer (some ⟨bj, 0, none⟩)) ∧ (w.alloc (rowE k t v)).cell? ⟨w.heap.size, 0, none⟩ = some (.int .i64 k) ∧ (w.alloc (rowE k t v)).cell? ⟨w.heap.size, 1, none⟩ = some (.int .i64 t) ∧ (w.alloc (rowE k t v)).cell? ⟨w.heap.size, 2, none⟩ = some (.int .i64 v) := ⟨((Go.Joins.below_alloc1 w (rowE k t v)).cell (p := ⟨be, 3, none⟩) hlt).trans hc0.2.2.2.1, rowE_cells (heap_alloc_new w (rowE k t v))⟩
  clear hc0
  go_region_held3 (fun W => W.cell? ⟨be, 3, none⟩ = some (.pointer (some ⟨bj, 0, none⟩)) ∧ W.cell? ⟨w.heap.size, 0, none⟩ = some (.int .i64 k) ∧ W.cell? ⟨w.heap.size, 1, none⟩ = some (.int .i64 t) ∧ W.cell? ⟨w.heap.size, 2, none⟩ = some (.int .i64 v)) (first | exact hc1 | exact hc2 | fail) (first
    | (go_at_call 49; refine (HJ.out _ B1.out.1 B1.out.2).mono ?_; rintro e w1 ⟨v9, rfl, hc4, hc2, h1⟩)
    | fail)
  clear hc1 hc2 B1 HJ
  go_wp2_with (first
    | (go_at_call 22; refine (tell_nil _).mono ?_; rintro e w' ⟨rfl, hw⟩; have hw := hw.symm; subst hw)
    | fail)
  go_region
  rw [HM.out]
  obtain ⟨v0', v1', F1⟩ := h1.out
  have F2 : Hid (Fl w (footE bj bm v0 v1 om Sg) be bj bm v0' v1' (satI f0) f1 x' L C v9 0 (w1.setCell ⟨be, 4, none⟩ (.int .i64 (satI f0))).drew) := F1.below ((Below.refl _ _).drew)
  revert F2
  generalize (w1.setCell ⟨be, 4, none⟩ (.int .i64 (satI f0))).drew = w2
  intro F2
  clear F1 h1 hc4
  obtain ⟨oa9, c9, e9⟩ := slice_formE F2.out.row
  subst e9
  go_wp2
  go_loopg [51] C.length (fun gg s51 wr => ∃ i : Nat, i ≤ C.length ∧ gg = C.length - i ∧ s51 = .int .i64 i ∧ Hid (Fl w (footE bj bm v0 v1 om Sg) be bj bm v0' v1' (satI f0) f1 x' L C (.slice oa9 C.length c9) i wr))
  case atStart => exact ⟨0, Nat.zero_le _, rfl, rfl, F2⟩
  case round =>
    obtain ⟨i, hile, hgk, rfl, I⟩ := hrel
    have HG : Hid (gk = C.length - i) := hgk
    clear hgk F2
    by_cases hlt2 : i < C.length
    · obtain ⟨c, hc⟩ : ∃ c, C[i]? = some c := ⟨_, List.getElem?_eq_getElem hlt2⟩
      obtain ⟨gs9, ck9, eoa⟩ := Go.Joins.ownsRow_form I.out.row (show 0 < C.length by omega)
      cases eoa
      have hcc := ch_cells I.out.row i c hc
      have hgl : gs9 < wr.heap.size := (I.out.row.lt gs9 rfl).2
      have j1 : (0 : Int) ≤ (i : Int) := by omega
      have j2 : (i : Int) < (C.length : Int) := by omega
      have j3 : (C.length : Int) ≤ 1000000 := by omega
      have HA := I.out.apply hc HO.out.1 HO.out.2 hL hC (Go.Joins.below_alloc1 wr (boxE c.x c.g))
      have HB : Hid (Calls Tryz.prog 50 #[.pointer (some ⟨be, 0, none⟩), vC c.x c.g] (wr.alloc (boxE c.x c.g)) fun e w' => e = .returned (.tuple #[]) ∧ Hid (Fl w (footE bj bm v0 v1 om Sg) be bj bm v0' v1' (satI f0) f1 x' L C (.slice (some ⟨gs9, 0, none⟩) C.length c9) (i + 1) w')) := HA
      simp only [vC] at HB
      clear HA hc I
      go_wp2_with (first
        | (go_at_call 50; refine HB.out.mono ?_; rintro e w3 ⟨rfl, I2⟩)
        | fail)
      go_roundg (C.length - (i + 1))
      all_goals first
        | (have := HG.out; omega)
        | exact ⟨i + 1, by omega, rfl, by first | rfl | (congr 1; omega) | go_num, I2⟩
    · have j2 : ¬ ((i : Int) < (C.length : Int)) := by omega
      have hie : i = C.length := by omega
      go_wp2
      have hI := I.out
      rw [hie] at hI
      exact bodyPost_ret (v := .tuple #[.slice oa9 C.length c9, .nilIface]) (by simp [results, Tryz.results25, go_sem]) rfl ⟨_, rfl, v0', v1', hI⟩

set_option maxHeartbeats 8000000 in
theorem efeed1 (be bj bm : Nat) (v0 v1 : Value) (f0 f1 : Int) (om : Option Nat) (Sg : Nat → Prop) (x x' : J) (L : List O) (C : List Ch) (k t v : Int) (w : World) (h : EngIn w be bj bm v0 v1 f0 f1 om Sg x L L)
    (hx : x'.lo = x.lo ∧ x'.hi = x.hi ∧ x'.mode = x.mode)
    (hJ : ∀ W, JoinAt W 0 bj bm v0 v1 x → Calls Tryz.prog 49 #[.pointer (some ⟨bj, 0, none⟩), .int .i64 1, .agg #[.int .i64 k, .int .i64 t, .int .i64 v]] W fun e w' => ∃ v9 v0' v1', e = .returned (.tuple #[v9, .nilIface]) ∧ JoinAt w' 0 bj bm v0' v1' x' ∧ w'.ownsRow W.heap.size 66 10 v9 C.length (C.flatMap encC) ∧ Turned (footJ bj bm v0 v1) W w' ∧ (∀ k, footJ bj bm v0' v1' k → footJ bj bm v0 v1 k ∨ W.heap.size ≤ k) ∧ (∀ k, v9.ownBlock = some k → ¬ footJ bj bm v0' v1' k))
    (hok : okC L C) (hwf : ∀ c ∈ C, c.x.wf) (hL : L.length ≤ 1000000) (hC : C.length ≤ 1000000) :
    Calls Tryz.prog 25 #[.pointer (some ⟨be, 0, none⟩), .int .i64 1, .agg #[.int .i64 k, .int .i64 t, .int .i64 v]] w fun e w' => ∃ v9 v0' v1', e = .returned (.tuple #[v9, .nilIface]) ∧ Fl w (footE bj bm v0 v1 om Sg) be bj bm v0' v1' f0 (satI f1) x' L C v9 C.length w' := by
  have HJ : Hid (∀ W, Below w.heap.size w W → W.heap[w.heap.size]? = some (rowE k t v) → Calls Tryz.prog 49 #[.pointer (some ⟨bj, 0, none⟩), .int .i64 1, .agg #[.int .i64 k, .int .i64 t, .int .i64 v]] W fun e w' => ∃ v9, e = .returned (.tuple #[v9, .nilIface]) ∧ (w'.cell? ⟨be, 5, none⟩ = some (.int .i64 f1) ∧ w'.frozen? ⟨be, 5, none⟩ = false ∧ be < w'.heap.size) ∧ (w'.cell? ⟨be, 3, none⟩ = some (.pointer (some ⟨bj, 0, none⟩)) ∧ w'.cell? ⟨w.heap.size, 0, none⟩ = some (.int .i64 k) ∧ w'.cell? ⟨w.heap.size, 1, none⟩ = some (.int .i64 t) ∧ w'.cell? ⟨w.heap.size, 2, none⟩ = some (.int .i64 v)) ∧ Hid (∃ v0' v1', Fl w (footE bj bm v0 v1 om Sg) be bj bm v0' v1' f0 (satI f1) x' L C v9 0 (w'.setCell ⟨be, 5, none⟩ (.int .i64 (satI f1))))) := by
    intro W hW hbx
    have hE := h.below hW
    refine (hJ W hE.join).mono ?_
    rintro e w' ⟨v9, v0', v1', rfl, h1, h2, h3, h4, h5⟩
    have hE2 := hE.joined h1 hx h3 h4
    have hc := hE2.cells
    have hws := hW.size
    have hs : ∀ k, k ≠ be → (w'.setCell ⟨be, 5, none⟩ (.int .i64 (satI f1))).heap[k]? = w'.heap[k]? := fun k e => Below.heap_setCell _ _ _ _ e
    have hlt := hE.blt
    refine ⟨v9, rfl, ⟨hc.2.2.2.2.2.1, hc.2.2.2.2.2.2.2, hE2.blt⟩, ⟨hc.2.2.2.1, rowE_cells ((h3.block _ (Array.getElem?_eq_some_iff.1 hbx).1 (fun e => by have := h.join.foot_lt e; omega)).trans hbx)⟩, v0', v1', ⟨om, Sg, ?_, fun k e => ?_, fun k e => ?_⟩, ?_, ?_⟩
    · exact hE2.setf 5 _ _ _ (.inr ⟨rfl, rfl, rfl⟩) (satI_in h.r1)
    · rcases e with e | e
      · rcases h4 k e with e | e
        · exact .inl (.inl e)
        · exact .inr (by omega)
      · exact .inl (.inr e)
    · have hl9 := (h2.lt k e).1
      rintro (e2 | e2 | e2)
      · exact h5 k e e2
      · have := (hE.bag.ne e2).2; omega
      · have := hE.grp.lt e2; omega
    · refine own_still (h2.mono hws) (fun k e => hs k ?_)
      have := (h2.lt k e).1
      omega
    · refine (((Turned.of_below (S := footE bj bm v0 v1 om Sg) hW).trans h3 (fun _ _ e => .inl e)).trans (turned_cell (b := be)) (fun k _ e => .inr (.inr (by rw [e]; exact h.inS))))
  have HM : Hid (max f1 (wrap64 (f1 + 1)) = satI f1) := satI_max h.r1
  have HO : Hid (okC L C ∧ (∀ c ∈ C, c.x.wf)) := ⟨hok, hwf⟩
  have hc0 := h.cells
  have hlt := h.blt
  have hf := h.r1
  clear h hJ hok hwf hx
  go_enter Tryz.func25, Tryz.ntmps25
  go_wp2
  have B1 : Hid (Below w.heap.size w (w.alloc (rowE k t v)).drew ∧ (w.alloc (rowE k t v)).drew.heap[w.heap.size]? = some (rowE k t v)) := ⟨(Go.Joins.below_alloc1 _ _).drew, heap_alloc_new w (rowE k t v)⟩
  have hc1 : (w.alloc (rowE k t v)).cell? ⟨be, 3, none⟩ = some (.pointer (some ⟨bj, 0, none⟩)) ∧ (w.alloc (rowE k t v)).cell? ⟨w.heap.size, 0, none⟩ = some (.int .i64 k) ∧ (w.alloc (rowE k t v)).cell? ⟨w.heap.size, 1, none⟩ = some (.int .i64 t) ∧ (w.alloc (rowE k t v)).cell? ⟨w.heap.size, 2, none⟩ = some (.int .i64 v) := ⟨((Go.Joins.below_alloc1 w (rowE k t v)).cell (p := ⟨be, 3, none⟩) hlt).trans hc0.2.2.2.1, rowE_cells (heap_alloc_new w (rowE k t v))⟩
  clear hc0
  go_region_held3 (fun W => W.cell? ⟨be, 3, none⟩ = some (.pointer (some ⟨bj, 0, none⟩)) ∧ W.cell? ⟨w.heap.size, 0, none⟩ = some (.int .i64 k) ∧ W.cell? ⟨w.heap.size, 1, none⟩ = some (.int .i64 t) ∧ W.cell? ⟨w.heap.size, 2, none⟩ = some (.int .i64 v)) (first | exact hc1 | exact hc2 | fail) (first
    | (go_at_call 49; refine (HJ.out _ B1.out.1 B1.out.2).mono ?_; rintro e w1 ⟨v9, rfl, hc4, hc2, h1⟩)
    | fail)
  clear hc1 hc2 B1 HJ
  go_wp2_with (first
    | (go_at_call 22; refine (tell_nil _).mono ?_; rintro e w' ⟨rfl, hw⟩; have hw := hw.symm; subst hw)
    | fail)
  go_region
  rw [HM.out]
  obtain ⟨v0', v1', F1⟩ := h1.out
  have F2 : Hid (Fl w (footE bj bm v0 v1 om Sg) be bj bm v0' v1' f0 (satI f1) x' L C v9 0 (w1.setCell ⟨be, 5, none⟩ (.int .i64 (satI f1))).drew) := F1.below ((Below.refl _ _).drew)
  revert F2
  generalize (w1.setCell ⟨be, 5, none⟩ (.int .i64 (satI f1))).drew = w2
  intro F2
  clear F1 h1 hc4
  obtain ⟨oa9, c9, e9⟩ := slice_formE F2.out.row
  subst e9
  go_wp2
  go_loopg [51] C.length (fun gg s51 wr => ∃ i : Nat, i ≤ C.length ∧ gg = C.length - i ∧ s51 = .int .i64 i ∧ Hid (Fl w (footE bj bm v0 v1 om Sg) be bj bm v0' v1' f0 (satI f1) x' L C (.slice oa9 C.length c9) i wr))
  case atStart => exact ⟨0, Nat.zero_le _, rfl, rfl, F2⟩
  case round =>
    obtain ⟨i, hile, hgk, rfl, I⟩ := hrel
    have HG : Hid (gk = C.length - i) := hgk
    clear hgk F2
    by_cases hlt2 : i < C.length
    · obtain ⟨c, hc⟩ : ∃ c, C[i]? = some c := ⟨_, List.getElem?_eq_getElem hlt2⟩
      obtain ⟨gs9, ck9, eoa⟩ := Go.Joins.ownsRow_form I.out.row (show 0 < C.length by omega)
      cases eoa
      have hcc := ch_cells I.out.row i c hc
      have hgl : gs9 < wr.heap.size := (I.out.row.lt gs9 rfl).2
      have j1 : (0 : Int) ≤ (i : Int) := by omega
      have j2 : (i : Int) < (C.length : Int) := by omega
      have j3 : (C.length : Int) ≤ 1000000 := by omega
      have HA := I.out.apply hc HO.out.1 HO.out.2 hL hC (Go.Joins.below_alloc1 wr (boxE c.x c.g))
      have HB : Hid (Calls Tryz.prog 50 #[.pointer (some ⟨be, 0, none⟩), vC c.x c.g] (wr.alloc (boxE c.x c.g)) fun e w' => e = .returned (.tuple #[]) ∧ Hid (Fl w (footE bj bm v0 v1 om Sg) be bj bm v0' v1' f0 (satI f1) x' L C (.slice (some ⟨gs9, 0, none⟩) C.length c9) (i + 1) w')) := HA
      simp only [vC] at HB
      clear HA hc I
      go_wp2_with (first
        | (go_at_call 50; refine HB.out.mono ?_; rintro e w3 ⟨rfl, I2⟩)
        | fail)
      go_roundg (C.length - (i + 1))
      all_goals first
        | (have := HG.out; omega)
        | exact ⟨i + 1, by omega, rfl, by first | rfl | (congr 1; omega) | go_num, I2⟩
    · have j2 : ¬ ((i : Int) < (C.length : Int)) := by omega
      have hie : i = C.length := by omega
      go_wp2
      have hI := I.out
      rw [hie] at hI
      exact bodyPost_ret (v := .tuple #[.slice oa9 C.length c9, .nilIface]) (by simp [results, Tryz.results25, go_sem]) rfl ⟨_, rfl, v0', v1', hI⟩

end Go.Proofs.YtpannogknebgaabGreatDoor
