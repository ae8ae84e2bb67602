/- An engine of a session: what each call leaves. -/
import Derived.Test.YthfpipieboophaaGreatDoorLsa
import Derived.Test.YthfpipieboophaaGreatDoorLez
import Derived.Test.YthfpipieboophaaGreatDoorEvy
namespace Go.Proofs.YthfpipieboophaaGreatDoor
open Go.RowKit Go.Sort Go.Shelf
set_option maxRecDepth 100000
def errC (c : Int) : Value := if c = 0 then .nilIface else .iface 24 (.int .i64 c)
structure OkS (n : Nat) (st : Sx) : Prop where
  ex : ∃ A B, Holds st.x A B ∧ st.L.Perm (viewOf st.x.lo st.x.hi st.x.mode A B) ∧ A.length + B.length ≤ n ∧ (∀ r ∈ A, r.small) ∧ (∀ r ∈ B, r.small)
  plan : planOk st.x.lo st.x.hi st.x.mode
  l0 : st.x.R0.length ≤ 300
  l1 : st.x.R1.length ≤ 300
  late : 0 ≤ st.x.late ∧ st.x.late ≤ n
  m0 : -1099511627777 ≤ st.x.m0 ∧ st.x.m0 ≤ 1099511627776
  m1 : -1099511627777 ≤ st.x.m1 ∧ st.x.m1 ≤ 1099511627776
  f0 : 0 ≤ st.f0 ∧ st.f0 ≤ n
  f1 : 0 ≤ st.f1 ∧ st.f1 ≤ n
theorem OkS.more {n m : Nat} {st : Sx} (h : OkS n st) (hm : n ≤ m) : OkS m st := by
  obtain ⟨⟨A, B, a1, a2, a3, a4, a5⟩, h2, h3, h4, h5, h6, h7, h8, h9⟩ := h
  exact ⟨⟨A, B, a1, a2, by omega, a4, a5⟩, h2, h3, h4, by omega, h6, h7, by omega, by omega⟩
theorem OkS.jok {n : Nat} {st : Sx} (h : OkS n st) (hn : n ≤ 1600) : JOk st.x := by
  obtain ⟨A, B, hH, _, hl, _, _⟩ := h.ex
  have := h.late
  exact jok_of hH h.plan h.l0 h.l1 (by omega) (by omega) (by omega)
theorem OkS.len {n : Nat} {st : Sx} (h : OkS n st) (hn : n ≤ 1600) : st.L.length ≤ 700000 := by
  obtain ⟨A, B, _, hL, hl, _, _⟩ := h.ex
  rw [hL.length_eq]
  exact view_most _ _ _ A B n hn hl
theorem OkS.tell {n : Nat} {st : Sx} (h : OkS n st) : ∀ o ∈ st.L, TellO o := by
  obtain ⟨A, B, _, hL, _, ha, hb⟩ := h.ex
  exact fun o ho => mem_viewOf ha hb o (hL.subset ho)
theorem OkS.sv {n : Nat} {st : Sx} (h : OkS n st) (hn : n ≤ 1600) : SvOk st.x st.f0 st.f1 := by
  obtain ⟨A, B, hH, hL, hl, ha, hb⟩ := h.ex
  have hJ := h.jok hn
  have h1 := h.late
  have h2 := h.f0
  have h3 := h.f1
  exact ⟨h.plan, h.m0, h.m1, ⟨h1.1, by omega⟩, ⟨h2.1, by omega⟩, ⟨h3.1, by omega⟩, hJ.s0, hJ.s1, hJ.l0, hJ.l1, fun y hy => ⟨hH.good0 ha y hy, (hJ.n0 y hy).1, by have := (hJ.n0 y hy).2; omega⟩, fun y hy => ⟨hH.good1 hb y hy, (hJ.n1 y hy).1, by have := (hJ.n1 y hy).2; omega⟩⟩
def Sx.feed0 (st : Sx) (k t v : Int) : Int × Sx :=
  if goodI k t v = false then (1, st)
  else if t ≤ st.x.m0 then (10, ⟨{ st.x with late := moreI st.x.late }, satI st.f0, st.f1, st.L⟩)
  else if st.x.m1 < t + st.x.hi ∧ 300 ≤ st.x.R0.length then (12, st)
  else (0, ⟨st.x.fed0 k t v, satI st.f0, st.f1, appC st.L (cF0 st.x ⟨k, t, v⟩)⟩)
theorem OkS.feed0 {n : Nat} {st : Sx} (h : OkS n st) (hn : n ≤ 1600) (k t v : Int) : OkS (n + 1) (st.feed0 k t v).2 := by
  unfold Sx.feed0
  by_cases hg : goodI k t v = false
  · rw [if_pos hg]; exact h.more (by omega)
  rw [if_neg hg]
  have hg1 : goodI k t v = true := by simpa using hg
  have hf0 := h.f0
  have hf1 := h.f1
  have hs0 : satI st.f0 = st.f0 + 1 := by unfold satI; rw [if_neg (by omega)]
  have hlt := h.late
  have hm : moreI st.x.late = st.x.late + 1 := by unfold moreI; rw [if_neg (by omega)]
  by_cases hl : t ≤ st.x.m0
  · rw [if_pos hl]
    obtain ⟨A, B, hH, hL, hlen, ha, hb⟩ := h.ex
    exact ⟨⟨A, B, ⟨hH.r0, hH.r1, hH.s0, hH.s1⟩, hL, by omega, ha, hb⟩, h.plan, h.l0, h.l1, ⟨by show 0 ≤ moreI st.x.late; omega, by show moreI st.x.late ≤ _; omega⟩, h.m0, h.m1, by show 0 ≤ satI st.f0 ∧ satI st.f0 ≤ _; omega, by show 0 ≤ st.f1 ∧ st.f1 ≤ _; omega⟩
  rw [if_neg hl]
  by_cases hr : st.x.m1 < t + st.x.hi ∧ 300 ≤ st.x.R0.length
  · rw [if_pos hr]; exact h.more (by omega)
  rw [if_neg hr]
  obtain ⟨A, B, hH, hL, hlen, ha, hb⟩ := h.ex
  have hls : (⟨k, t, v⟩ : Rw).small := good_small (r := ⟨k, t, v⟩) hg1
  have hH' := hH.fed0 ⟨k, t, v⟩ (by show st.x.m0 < t; omega) (by omega)
  have hv := hH.view0 ⟨k, t, v⟩ (by show st.x.m0 < t; omega) hL
  refine ⟨⟨A ++ [(⟨k, t, v⟩ : Rw)], B, hH', hv.2, by simp only [List.length_append, List.length_cons, List.length_nil]; omega, ?_, ?_⟩, h.plan, ?_, ?_, ⟨hlt.1, by show st.x.late ≤ _; omega⟩, h.m0, h.m1, by show 0 ≤ satI st.f0 ∧ satI st.f0 ≤ _; omega, by show 0 ≤ st.f1 ∧ st.f1 ≤ _; omega⟩
  · intro q hq; rcases List.mem_append.1 hq with g | g; (exact ha q g); (simp at g; rw [g]; exact hls)
  · exact hb
  · show (if st.x.m1 < t + st.x.hi then insR st.x.R0 _ _ else st.x.R0).length ≤ 300
    split
    · rw [insR_len]; have := fun e2 => hr ⟨by assumption, e2⟩; omega
    · exact h.l0
  · show (incR st.x.R1 _ _).length ≤ 300
    rw [inc_is_map hH.s1, List.length_map]; exact h.l1
theorem d_feed0 {n : Nat} {st : Sx} {be : Nat} {S : Nat → Prop} {W : World} (hP : PE st be S W) (hO : OkS n st) (hn : n ≤ 1600) (hg0 : W.cell? ⟨2, 0, none⟩ = some errT) (k t v : Int) :
    Calls Tryz.prog 11 #[.pointer (some ⟨be, 0, none⟩), .int .i64 0, .agg #[.int .i64 k, .int .i64 t, .int .i64 v]] W fun e w' => ∃ v9 S', e = .returned (.tuple #[v9, errC (st.feed0 k t v).1]) ∧ ((st.feed0 k t v).1 = 0 → w'.ownsRow W.heap.size 95 10 v9 (cF0 st.x ⟨k, t, v⟩).length ((cF0 st.x ⟨k, t, v⟩).flatMap encC)) ∧ PE (st.feed0 k t v).2 be S' w' ∧ FootTo S S' W w' := by
  unfold Sx.feed0
  by_cases hg : goodI k t v = false
  · rw [if_pos hg]
    refine (pe_arg hP hg0 0 k t v (.inr hg)).mono ?_
    rintro e w' ⟨rfl, hb⟩
    have h1 := pe_steady st be S W w' hP hb.size (fun k hk => hb.block k (pe_foot hP k hk))
    exact ⟨_, S, rfl, (fun e => absurd (show (1 : Int) = 0 from e) (by decide)), h1, ⟨fun k hk => ⟨.inl hk, pe_foot h1 k hk⟩, Turned.of_below hb⟩⟩
  rw [if_neg hg]
  have hg1 : goodI k t v = true := by simpa using hg
  have hJ := hO.jok hn
  by_cases hl : t ≤ st.x.m0
  · rw [if_pos hl]
    refine (pe_late0 (x := st.x) (f0 := st.f0) (f1 := st.f1) (L := st.L) ⟨k, t, v⟩ hg0 hP hJ hg1 hl).mono ?_
    rintro e w' ⟨S', rfl, h1, h2⟩
    exact ⟨_, S', rfl, (fun e => absurd (show (10 : Int) = 0 from e) (by decide)), h1, h2⟩
  rw [if_neg hl]
  by_cases hr : st.x.m1 < t + st.x.hi ∧ 300 ≤ st.x.R0.length
  · rw [if_pos hr]
    refine (pe_full0 (x := st.x) (f0 := st.f0) (f1 := st.f1) (L := st.L) ⟨k, t, v⟩ hg0 hP hJ hg1 (by show st.x.m0 < t; omega) hr.1 hr.2).mono ?_
    rintro e w' ⟨S', rfl, h1, h2⟩
    exact ⟨_, S', rfl, (fun e => absurd (show (12 : Int) = 0 from e) (by decide)), h1, h2⟩
  rw [if_neg hr]
  obtain ⟨A, B, hH, hL, hlen, ha, hb⟩ := hO.ex
  have hls : (⟨k, t, v⟩ : Rw).small := good_small (r := ⟨k, t, v⟩) hg1
  have hv := hH.view0 ⟨k, t, v⟩ (by show st.x.m0 < t; omega) hL
  have hLl : st.L.length ≤ 700000 := by rw [hL.length_eq]; exact view_most _ _ _ A B n hn hlen
  have hcw : ∀ c ∈ cF0 st.x ⟨k, t, v⟩, c.x.wf := chgs_wf st.x.mode 0 ⟨k, t, v⟩ _ hls (fun y hy => hb _ (hH.yet1 y (met_mem hy)).2.2.2)
  refine (pe_feed0 (x := st.x) (f0 := st.f0) (f1 := st.f1) (L := st.L) ⟨k, t, v⟩ hP hJ hg1 (by show st.x.m0 < t; omega) (fun e => Nat.lt_of_not_le (fun e2 => hr ⟨e, e2⟩)) hv.1 hcw (by omega)).mono ?_
  rintro e w' ⟨v9, S', rfl, h1, h2, h3⟩
  exact ⟨v9, S', rfl, (fun _ => h1), h2, h3⟩
def Sx.feed1 (st : Sx) (k t v : Int) : Int × Sx :=
  if goodI k t v = false then (1, st)
  else if t ≤ st.x.m1 then (10, ⟨{ st.x with late := moreI st.x.late }, st.f0, satI st.f1, st.L⟩)
  else if st.x.m0 < t + -st.x.lo ∧ 300 ≤ st.x.R1.length then (12, st)
  else (0, ⟨st.x.fed1 k t v, st.f0, satI st.f1, appC st.L (cF1 st.x ⟨k, t, v⟩)⟩)
theorem OkS.feed1 {n : Nat} {st : Sx} (h : OkS n st) (hn : n ≤ 1600) (k t v : Int) : OkS (n + 1) (st.feed1 k t v).2 := by
  unfold Sx.feed1
  by_cases hg : goodI k t v = false
  · rw [if_pos hg]; exact h.more (by omega)
  rw [if_neg hg]
  have hg1 : goodI k t v = true := by simpa using hg
  have hf0 := h.f0
  have hf1 := h.f1
  have hs1 : satI st.f1 = st.f1 + 1 := by unfold satI; rw [if_neg (by omega)]
  have hlt := h.late
  have hm : moreI st.x.late = st.x.late + 1 := by unfold moreI; rw [if_neg (by omega)]
  by_cases hl : t ≤ st.x.m1
  · rw [if_pos hl]
    obtain ⟨A, B, hH, hL, hlen, ha, hb⟩ := h.ex
    exact ⟨⟨A, B, ⟨hH.r0, hH.r1, hH.s0, hH.s1⟩, hL, by omega, ha, hb⟩, h.plan, h.l0, h.l1, ⟨by show 0 ≤ moreI st.x.late; omega, by show moreI st.x.late ≤ _; omega⟩, h.m0, h.m1, by show 0 ≤ st.f0 ∧ st.f0 ≤ _; omega, by show 0 ≤ satI st.f1 ∧ satI st.f1 ≤ _; omega⟩
  rw [if_neg hl]
  by_cases hr : st.x.m0 < t + -st.x.lo ∧ 300 ≤ st.x.R1.length
  · rw [if_pos hr]; exact h.more (by omega)
  rw [if_neg hr]
  obtain ⟨A, B, hH, hL, hlen, ha, hb⟩ := h.ex
  have hls : (⟨k, t, v⟩ : Rw).small := good_small (r := ⟨k, t, v⟩) hg1
  have hH' := hH.fed1 ⟨k, t, v⟩ (by show st.x.m1 < t; omega) (by omega)
  have hv := hH.view1 ⟨k, t, v⟩ (by show st.x.m1 < t; omega) hL
  refine ⟨⟨A, B ++ [(⟨k, t, v⟩ : Rw)], hH', hv.2, by simp only [List.length_append, List.length_cons, List.length_nil]; omega, ?_, ?_⟩, h.plan, ?_, ?_, ⟨hlt.1, by show st.x.late ≤ _; omega⟩, h.m0, h.m1, by show 0 ≤ st.f0 ∧ st.f0 ≤ _; omega, by show 0 ≤ satI st.f1 ∧ satI st.f1 ≤ _; omega⟩
  · exact ha
  · intro q hq; rcases List.mem_append.1 hq with g | g; (exact hb q g); (simp at g; rw [g]; exact hls)
  · show (incR st.x.R0 _ _).length ≤ 300
    rw [inc_is_map hH.s0, List.length_map]; exact h.l0
  · show (if st.x.m0 < t + -st.x.lo then insR st.x.R1 _ _ else st.x.R1).length ≤ 300
    split
    · rw [insR_len]; have := fun e2 => hr ⟨by assumption, e2⟩; omega
    · exact h.l1
theorem d_feed1 {n : Nat} {st : Sx} {be : Nat} {S : Nat → Prop} {W : World} (hP : PE st be S W) (hO : OkS n st) (hn : n ≤ 1600) (hg0 : W.cell? ⟨2, 0, none⟩ = some errT) (k t v : Int) :
    Calls Tryz.prog 11 #[.pointer (some ⟨be, 0, none⟩), .int .i64 1, .agg #[.int .i64 k, .int .i64 t, .int .i64 v]] W fun e w' => ∃ v9 S', e = .returned (.tuple #[v9, errC (st.feed1 k t v).1]) ∧ ((st.feed1 k t v).1 = 0 → w'.ownsRow W.heap.size 95 10 v9 (cF1 st.x ⟨k, t, v⟩).length ((cF1 st.x ⟨k, t, v⟩).flatMap encC)) ∧ PE (st.feed1 k t v).2 be S' w' ∧ FootTo S S' W w' := by
  unfold Sx.feed1
  by_cases hg : goodI k t v = false
  · rw [if_pos hg]
    refine (pe_arg hP hg0 1 k t v (.inr hg)).mono ?_
    rintro e w' ⟨rfl, hb⟩
    have h1 := pe_steady st be S W w' hP hb.size (fun k hk => hb.block k (pe_foot hP k hk))
    exact ⟨_, S, rfl, (fun e => absurd (show (1 : Int) = 0 from e) (by decide)), h1, ⟨fun k hk => ⟨.inl hk, pe_foot h1 k hk⟩, Turned.of_below hb⟩⟩
  rw [if_neg hg]
  have hg1 : goodI k t v = true := by simpa using hg
  have hJ := hO.jok hn
  by_cases hl : t ≤ st.x.m1
  · rw [if_pos hl]
    refine (pe_late1 (x := st.x) (f0 := st.f0) (f1 := st.f1) (L := st.L) ⟨k, t, v⟩ hg0 hP hJ hg1 hl).mono ?_
    rintro e w' ⟨S', rfl, h1, h2⟩
    exact ⟨_, S', rfl, (fun e => absurd (show (10 : Int) = 0 from e) (by decide)), h1, h2⟩
  rw [if_neg hl]
  by_cases hr : st.x.m0 < t + -st.x.lo ∧ 300 ≤ st.x.R1.length
  · rw [if_pos hr]
    refine (pe_full1 (x := st.x) (f0 := st.f0) (f1 := st.f1) (L := st.L) ⟨k, t, v⟩ hg0 hP hJ hg1 (by show st.x.m1 < t; omega) hr.1 hr.2).mono ?_
    rintro e w' ⟨S', rfl, h1, h2⟩
    exact ⟨_, S', rfl, (fun e => absurd (show (12 : Int) = 0 from e) (by decide)), h1, h2⟩
  rw [if_neg hr]
  obtain ⟨A, B, hH, hL, hlen, ha, hb⟩ := hO.ex
  have hls : (⟨k, t, v⟩ : Rw).small := good_small (r := ⟨k, t, v⟩) hg1
  have hv := hH.view1 ⟨k, t, v⟩ (by show st.x.m1 < t; omega) hL
  have hLl : st.L.length ≤ 700000 := by rw [hL.length_eq]; exact view_most _ _ _ A B n hn hlen
  have hcw : ∀ c ∈ cF1 st.x ⟨k, t, v⟩, c.x.wf := chgs_wf st.x.mode 1 ⟨k, t, v⟩ _ hls (fun y hy => ha _ (hH.yet0 y (met_mem hy)).2.2.2)
  refine (pe_feed1 (x := st.x) (f0 := st.f0) (f1 := st.f1) (L := st.L) ⟨k, t, v⟩ hP hJ hg1 (by show st.x.m1 < t; omega) (fun e => Nat.lt_of_not_le (fun e2 => hr ⟨e, e2⟩)) hv.1 hcw (by omega)).mono ?_
  rintro e w' ⟨v9, S', rfl, h1, h2, h3⟩
  exact ⟨v9, S', rfl, (fun _ => h1), h2, h3⟩
def Sx.new (lo hi mode : Int) : Sx := ⟨⟨lo, hi, mode, -1099511627777, -1099511627777, 0, [], []⟩, 0, 0, []⟩
theorem okS_new {lo hi mode : Int} (h : planOk lo hi mode) (n : Nat) : OkS n (Sx.new lo hi mode) :=
  ⟨⟨[], [], Holds.new _ _ _ _ _ _, by simp [Sx.new, viewOf, allOf], by simp, by simp, by simp⟩, h, by simp [Sx.new], by simp [Sx.new], by simp [Sx.new], by simp [Sx.new], by simp [Sx.new], by simp [Sx.new], by simp [Sx.new]⟩
def Sx.move (st : Sx) (s t : Int) : Int × Sx :=
  if moveE st.x.m0 st.x.m1 s t ≠ 0 then (moveE st.x.m0 st.x.m1 s t, st)
  else (0, if s = 0 then ⟨{ st.x with m0 := t, R1 := keepR (fun y => decide (y.t ≤ t + st.x.lo)) st.x.R1 }, st.f0, st.f1, st.L⟩ else ⟨{ st.x with m1 := t, R0 := keepR (fun y => decide (y.t ≤ t - st.x.hi)) st.x.R0 }, st.f0, st.f1, st.L⟩)
theorem move_zero {m0 m1 s t : Int} (h : moveE m0 m1 s t = 0) : (s = 0 ∧ m0 ≤ t ∨ s = 1 ∧ m1 ≤ t) ∧ -1099511627776 ≤ t ∧ t ≤ 1099511627776 := by
  unfold moveE at h
  split at h
  · cases h
  · rename_i h1
    split at h
    · cases h
    · split at h
      · cases h
      · rename_i h2 h3
        unfold sideB at h1
        unfold ofI at h3
        simp at h1
        by_cases hs : s = 0
        · subst hs; simp at h3; omega
        · have h5 := h1 hs
          subst h5
          simp at h3
          omega
theorem OkS.move {n : Nat} {st : Sx} (h : OkS n st) (s t : Int) : OkS n (st.move s t).2 := by
  unfold Sx.move
  by_cases he : moveE st.x.m0 st.x.m1 s t ≠ 0
  · rw [if_pos he]; exact h
  rw [if_neg he]
  have he := Classical.not_not.1 he
  obtain ⟨hs, ht⟩ := move_zero he
  obtain ⟨A, B, hH, hL, hlen, ha, hb⟩ := h.ex
  simp only
  by_cases h0 : s = 0
  · rw [if_pos h0]
    exact ⟨⟨A, B, hH.moved0 t (by omega), hL, hlen, ha, hb⟩, h.plan, h.l0, Nat.le_trans (List.length_filter_le _ _) h.l1, h.late, ⟨by simp only; omega, by simp only; omega⟩, h.m1, h.f0, h.f1⟩
  · rw [if_neg h0]
    exact ⟨⟨A, B, hH.moved1 t (by omega), hL, hlen, ha, hb⟩, h.plan, Nat.le_trans (List.length_filter_le _ _) h.l0, h.l1, h.late, h.m0, ⟨by simp only; omega, by simp only; omega⟩, h.f0, h.f1⟩
theorem d_move {n : Nat} {st : Sx} {be : Nat} {S : Nat → Prop} {W : World} (hP : PE st be S W) (hO : OkS n st) (hn : n ≤ 1600) (s t : Int) :
    Calls Tryz.prog 15 #[.pointer (some ⟨be, 0, none⟩), .int .i64 s, .int .i64 t] W fun e w' => ∃ S', e = .returned (errC (st.move s t).1) ∧ PE (st.move s t).2 be S' w' ∧ FootTo S S' W w' := by
  unfold Sx.move
  by_cases he : moveE st.x.m0 st.x.m1 s t ≠ 0
  · rw [if_pos he]
    refine (pe_move_err hP s t he).mono ?_
    rintro e w' ⟨rfl, hb⟩
    have h1 := pe_steady st be S W w' hP hb.size (fun k hk => hb.block k (pe_foot hP k hk))
    exact ⟨S, by unfold errC; rw [if_neg he], h1, ⟨fun k hk => ⟨.inl hk, pe_foot h1 k hk⟩, Turned.of_below hb⟩⟩
  rw [if_neg he]
  have he := Classical.not_not.1 he
  obtain ⟨hs, ht⟩ := move_zero he
  have hJ := hO.jok hn
  simp only
  by_cases h0 : s = 0
  · rw [if_pos h0]
    subst h0
    exact pe_move0 (x := st.x) (f0 := st.f0) (f1 := st.f1) (L := st.L) t hP hJ (by omega) ht
  · rw [if_neg h0]
    have h1 : s = 1 := by omega
    subst h1
    exact pe_move1 (x := st.x) (f0 := st.f0) (f1 := st.f1) (L := st.L) t hP hJ (by omega) ht
end Go.Proofs.YthfpipieboophaaGreatDoor
