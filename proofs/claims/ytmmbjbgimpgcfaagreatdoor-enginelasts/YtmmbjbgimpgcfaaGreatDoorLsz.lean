/- Lsz: several texts in one. -/
import Derived.Test.YtmmbjbgimpgcfaaGreatDoorLdx
import Derived.Test.YtmmbjbgimpgcfaaGreatDoorEvx
/- An engine whose numbers are all known: what each call leaves. -/
namespace Go.Proofs.YtmmbjbgimpgcfaaGreatDoor
open Go.RowKit Go.Sort Go.Shelf
set_option maxRecDepth 100000

theorem pe_foot {st : Sx} {be : Nat} {S : Nat → Prop} {W : World} (h : PE st be S W) : ∀ k, S k → k < W.heap.size := by
  obtain ⟨bj, bm, v0, v1, om, Sg, h, hS⟩ := h
  exact fun k e => h.lt ((hS k).1 e)
theorem pe_new (lo hi mode : Int) (W : World) (h : planOk lo hi mode) : Calls Tryz.prog 24 #[.agg #[.int .i64 lo, .int .i64 hi, .int .i64 mode]] W fun e w' => ∃ be S, e = .returned (.tuple #[.pointer (some ⟨be, 0, none⟩), .nilIface]) ∧ PE ⟨⟨lo, hi, mode, -1099511627777, -1099511627777, 0, [], []⟩, 0, 0, []⟩ be S w' ∧ (∀ k, S k → W.heap.size ≤ k ∧ k < w'.heap.size) ∧ Below W.heap.size W w' := by
  refine (enew_ok lo hi mode W h).mono ?_
  rintro e w' ⟨be, bj, bm, rfl, hE, l1, l2, l3, hb⟩
  refine ⟨be, footE bj bm (.slice none 0 0) (.slice none 0 0) none (fun k => k = be), rfl, ⟨bj, bm, _, _, none, _, hE, fun _ => Iff.rfl⟩, fun k e => ⟨?_, hE.lt e⟩, hb⟩
  rcases e with (e | e | e | e) | e | e
  · omega
  · omega
  · cases e
  · cases e
  · cases e
  · omega

theorem pe_feed0 {x : J} {f0 f1 : Int} (r : Rw) {be : Nat} {L : List O} {S : Nat → Prop} {W : World} (hE : PE ⟨x, f0, f1, L⟩ be S W) (hJ : JOk x) (hg : goodI r.k r.t r.v = true) (hlate : x.m0 < r.t) (hroom : x.m1 < r.t + x.hi → x.R0.length < 300) (hok : okC L (cF0 x r)) (hwf : ∀ c ∈ cF0 x r, c.x.wf) (hL : L.length ≤ 1000000) :
    Calls Tryz.prog 25 #[.pointer (some ⟨be, 0, none⟩), .int .i64 0, .agg #[.int .i64 r.k, .int .i64 r.t, .int .i64 r.v]] W fun e w' => ∃ v9 S', e = .returned (.tuple #[v9, .nilIface]) ∧ w'.ownsRow W.heap.size 66 10 v9 (cF0 x r).length ((cF0 x r).flatMap encC) ∧ PE ⟨x.fed0 r.k r.t r.v, satI f0, f1, appC L (cF0 x r)⟩ be S' w' ∧ FootTo S S' W w' := by
  obtain ⟨bj, bm, v0, v1, om, Sg, h, hS⟩ := hE
  have hcl : (cF0 x r).length ≤ 1000000 := by
    have h1 := chgsA_len x.mode 0 r.k r.t r.v (metR r.k (r.t + x.lo) (r.t + x.hi) x.R1)
    have h2 := metS_len r.k (r.t + x.lo) (r.t + x.hi) hJ.s1
    have h3 := hJ.l1
    show (chgs x.mode 0 r.k r.t r.v (metR r.k (r.t + x.lo) (r.t + x.hi) x.R1)).length ≤ _
    omega
  refine (efeed0 be bj bm v0 v1 f0 f1 om Sg x (x.fed0 r.k r.t r.v) L (cF0 x r) r.k r.t r.v W h ⟨rfl, rfl, rfl⟩ (fun W hW => ?_) hok hwf hL hcl).mono ?_
  · refine (feed_ok0 0 bj bm v0 v1 x r.k r.t r.v W hW (Nat.zero_le _) hg hJ.lo1 hJ.lo2 hJ.hi1 hJ.hi2 hJ.s0 hJ.s1 hJ.l0 hJ.l1 (fun y hy => by have := hJ.n1 y hy; omega) (by omega) hroom).mono ?_
    rintro e w' ⟨v9, v', rfl, h1, h2, h3, h4⟩
    refine ⟨v9, v', v1, rfl, h1, h2, h3.mono (fun k e => e.elim .inl (fun e => e.elim (fun e => .inr (.inr (.inl e))) (fun e => .inr (.inr (.inr e))))), footJ_new h4 (.inl rfl), fun k e => ?_⟩
    have hl := (h2.lt k e).1
    rintro (e2 | e2 | e2 | e2)
    · have := hW.lt; omega
    · have := hW.ltm; omega
    · exact own_apart h2 h1.r0 (by decide) e e2
    · have := (hW.r1.lt k e2).2; omega
  · rintro e w' ⟨v9, v0', v1', rfl, hF⟩
    obtain ⟨om', Sg', h1, h2, h3⟩ := hF.ex
    rw [List.take_length] at h1
    exact ⟨v9, footE bj bm v0' v1' om' Sg', rfl, hF.row, ⟨bj, bm, v0', v1', om', Sg', h1, fun _ => Iff.rfl⟩, ⟨fun k e => ⟨(h2 k e).imp (hS k).2 id, h1.lt e⟩, hF.turn.mono (fun k e => (hS k).2 e)⟩⟩
theorem pe_late0 {x : J} {f0 f1 : Int} (r : Rw) {be : Nat} {L : List O} {S : Nat → Prop} {W : World} (hg0 : W.cell? ⟨0, 0, none⟩ = some errT) (hE : PE ⟨x, f0, f1, L⟩ be S W) (hJ : JOk x) (hg : goodI r.k r.t r.v = true) (hl : r.t ≤ x.m0) :
    Calls Tryz.prog 25 #[.pointer (some ⟨be, 0, none⟩), .int .i64 0, .agg #[.int .i64 r.k, .int .i64 r.t, .int .i64 r.v]] W fun e w' => ∃ S', e = .returned (.tuple #[.slice none 0 0, .iface 70 (.int .i64 10)]) ∧ PE ⟨{ x with late := moreI x.late }, satI f0, f1, L⟩ be S' w' ∧ FootTo S S' W w' := by
  obtain ⟨bj, bm, v0, v1, om, Sg, h, hS⟩ := hE
  have hlt := hJ.late
  refine (efeed_late0 be bj bm v0 v1 f0 f1 om Sg x { x with late := moreI x.late } L L r.k r.t r.v W hg0 h ⟨rfl, rfl, rfl⟩ (fun W hW => feed_late0 0 bj bm v0 v1 x r.k r.t r.v W hW hg hl (by omega) (by omega))).mono ?_
  rintro e w' ⟨rfl, h1, h2⟩
  exact ⟨S, rfl, ⟨bj, bm, v0, v1, om, Sg, h1, hS⟩, fun k e => ⟨.inl e, h1.lt ((hS k).1 e)⟩, h2.mono (fun k e => (hS k).2 e)⟩
theorem pe_full0 {x : J} {f0 f1 : Int} (r : Rw) {be : Nat} {L : List O} {S : Nat → Prop} {W : World} (hg0 : W.cell? ⟨0, 0, none⟩ = some errT) (hE : PE ⟨x, f0, f1, L⟩ be S W) (hJ : JOk x) (hg : goodI r.k r.t r.v = true) (hl : x.m0 < r.t) (hl2 : x.m1 < r.t + x.hi) (hl3 : 300 ≤ x.R0.length) :
    Calls Tryz.prog 25 #[.pointer (some ⟨be, 0, none⟩), .int .i64 0, .agg #[.int .i64 r.k, .int .i64 r.t, .int .i64 r.v]] W fun e w' => ∃ S', e = .returned (.tuple #[.slice none 0 0, .iface 70 (.int .i64 12)]) ∧ PE ⟨x, f0, f1, L⟩ be S' w' ∧ FootTo S S' W w' := by
  obtain ⟨bj, bm, v0, v1, om, Sg, h, hS⟩ := hE
  refine (efeed_full0 be bj bm v0 v1 f0 f1 om Sg x L L r.k r.t r.v W hg0 h (fun W hW => feed_full0 0 bj bm v0 v1 x r.k r.t r.v W hW hg hJ.lo1 hJ.lo2 hJ.hi1 hJ.hi2 (by omega) hl2 hl3)).mono ?_
  rintro e w' ⟨rfl, hb⟩
  have h1 := h.below hb
  exact ⟨S, rfl, ⟨bj, bm, v0, v1, om, Sg, h1, hS⟩, fun k e => ⟨.inl e, h1.lt ((hS k).1 e)⟩, Turned.of_below hb⟩

theorem pe_feed1 {x : J} {f0 f1 : Int} (r : Rw) {be : Nat} {L : List O} {S : Nat → Prop} {W : World} (hE : PE ⟨x, f0, f1, L⟩ be S W) (hJ : JOk x) (hg : goodI r.k r.t r.v = true) (hlate : x.m1 < r.t) (hroom : x.m0 < r.t + -x.lo → x.R1.length < 300) (hok : okC L (cF1 x r)) (hwf : ∀ c ∈ cF1 x r, c.x.wf) (hL : L.length ≤ 1000000) :
    Calls Tryz.prog 25 #[.pointer (some ⟨be, 0, none⟩), .int .i64 1, .agg #[.int .i64 r.k, .int .i64 r.t, .int .i64 r.v]] W fun e w' => ∃ v9 S', e = .returned (.tuple #[v9, .nilIface]) ∧ w'.ownsRow W.heap.size 66 10 v9 (cF1 x r).length ((cF1 x r).flatMap encC) ∧ PE ⟨x.fed1 r.k r.t r.v, f0, satI f1, appC L (cF1 x r)⟩ be S' w' ∧ FootTo S S' W w' := by
  obtain ⟨bj, bm, v0, v1, om, Sg, h, hS⟩ := hE
  have hcl : (cF1 x r).length ≤ 1000000 := by
    have h1 := chgsA_len x.mode 1 r.k r.t r.v (metR r.k (r.t + -x.hi) (r.t + -x.lo) x.R0)
    have h2 := metS_len r.k (r.t + -x.hi) (r.t + -x.lo) hJ.s0
    have h3 := hJ.l0
    show (chgs x.mode 1 r.k r.t r.v (metR r.k (r.t + -x.hi) (r.t + -x.lo) x.R0)).length ≤ _
    omega
  refine (efeed1 be bj bm v0 v1 f0 f1 om Sg x (x.fed1 r.k r.t r.v) L (cF1 x r) r.k r.t r.v W h ⟨rfl, rfl, rfl⟩ (fun W hW => ?_) hok hwf hL hcl).mono ?_
  · refine (feed_ok1 0 bj bm v0 v1 x r.k r.t r.v W hW (Nat.zero_le _) hg hJ.lo1 hJ.lo2 hJ.hi1 hJ.hi2 hJ.s0 hJ.s1 hJ.l0 hJ.l1 (fun y hy => by have := hJ.n0 y hy; omega) (by omega) hroom).mono ?_
    rintro e w' ⟨v9, v', rfl, h1, h2, h3, h4⟩
    refine ⟨v9, v0, v', rfl, h1, h2, h3.mono (fun k e => e.elim .inl (fun e => e.elim (fun e => .inr (.inr (.inl e))) (fun e => .inr (.inr (.inr e))))), footJ_new (.inl rfl) h4, fun k e => ?_⟩
    have hl := (h2.lt k e).1
    rintro (e2 | e2 | e2 | e2)
    · have := hW.lt; omega
    · have := hW.ltm; omega
    · have := (hW.r0.lt k e2).2; omega
    · exact own_apart h2 h1.r1 (by decide) e e2
  · rintro e w' ⟨v9, v0', v1', rfl, hF⟩
    obtain ⟨om', Sg', h1, h2, h3⟩ := hF.ex
    rw [List.take_length] at h1
    exact ⟨v9, footE bj bm v0' v1' om' Sg', rfl, hF.row, ⟨bj, bm, v0', v1', om', Sg', h1, fun _ => Iff.rfl⟩, ⟨fun k e => ⟨(h2 k e).imp (hS k).2 id, h1.lt e⟩, hF.turn.mono (fun k e => (hS k).2 e)⟩⟩
theorem pe_late1 {x : J} {f0 f1 : Int} (r : Rw) {be : Nat} {L : List O} {S : Nat → Prop} {W : World} (hg0 : W.cell? ⟨0, 0, none⟩ = some errT) (hE : PE ⟨x, f0, f1, L⟩ be S W) (hJ : JOk x) (hg : goodI r.k r.t r.v = true) (hl : r.t ≤ x.m1) :
    Calls Tryz.prog 25 #[.pointer (some ⟨be, 0, none⟩), .int .i64 1, .agg #[.int .i64 r.k, .int .i64 r.t, .int .i64 r.v]] W fun e w' => ∃ S', e = .returned (.tuple #[.slice none 0 0, .iface 70 (.int .i64 10)]) ∧ PE ⟨{ x with late := moreI x.late }, f0, satI f1, L⟩ be S' w' ∧ FootTo S S' W w' := by
  obtain ⟨bj, bm, v0, v1, om, Sg, h, hS⟩ := hE
  have hlt := hJ.late
  refine (efeed_late1 be bj bm v0 v1 f0 f1 om Sg x { x with late := moreI x.late } L L r.k r.t r.v W hg0 h ⟨rfl, rfl, rfl⟩ (fun W hW => feed_late1 0 bj bm v0 v1 x r.k r.t r.v W hW hg hl (by omega) (by omega))).mono ?_
  rintro e w' ⟨rfl, h1, h2⟩
  exact ⟨S, rfl, ⟨bj, bm, v0, v1, om, Sg, h1, hS⟩, fun k e => ⟨.inl e, h1.lt ((hS k).1 e)⟩, h2.mono (fun k e => (hS k).2 e)⟩
theorem pe_full1 {x : J} {f0 f1 : Int} (r : Rw) {be : Nat} {L : List O} {S : Nat → Prop} {W : World} (hg0 : W.cell? ⟨0, 0, none⟩ = some errT) (hE : PE ⟨x, f0, f1, L⟩ be S W) (hJ : JOk x) (hg : goodI r.k r.t r.v = true) (hl : x.m1 < r.t) (hl2 : x.m0 < r.t + -x.lo) (hl3 : 300 ≤ x.R1.length) :
    Calls Tryz.prog 25 #[.pointer (some ⟨be, 0, none⟩), .int .i64 1, .agg #[.int .i64 r.k, .int .i64 r.t, .int .i64 r.v]] W fun e w' => ∃ S', e = .returned (.tuple #[.slice none 0 0, .iface 70 (.int .i64 12)]) ∧ PE ⟨x, f0, f1, L⟩ be S' w' ∧ FootTo S S' W w' := by
  obtain ⟨bj, bm, v0, v1, om, Sg, h, hS⟩ := hE
  refine (efeed_full1 be bj bm v0 v1 f0 f1 om Sg x L L r.k r.t r.v W hg0 h (fun W hW => feed_full1 0 bj bm v0 v1 x r.k r.t r.v W hW hg hJ.lo1 hJ.lo2 hJ.hi1 hJ.hi2 (by omega) hl2 hl3)).mono ?_
  rintro e w' ⟨rfl, hb⟩
  have h1 := h.below hb
  exact ⟨S, rfl, ⟨bj, bm, v0, v1, om, Sg, h1, hS⟩, fun k e => ⟨.inl e, h1.lt ((hS k).1 e)⟩, Turned.of_below hb⟩

theorem pe_move0 {x : J} {f0 f1 : Int} (t : Int) {be : Nat} {L : List O} {S : Nat → Prop} {W : World} (hE : PE ⟨x, f0, f1, L⟩ be S W) (hJ : JOk x) (hm : x.m0 ≤ t) (ht : -1099511627776 ≤ t ∧ t ≤ 1099511627776) :
    Calls Tryz.prog 20 #[.pointer (some ⟨be, 0, none⟩), .int .i64 0, .int .i64 t] W fun e w' => ∃ S', e = .returned .nilIface ∧ PE ⟨{ x with m0 := t, R1 := keepR (fun y => decide (y.t ≤ t + x.lo)) x.R1 }, f0, f1, L⟩ be S' w' ∧ FootTo S S' W w' := by
  obtain ⟨bj, bm, v0, v1, om, Sg, h, hS⟩ := hE
  have he : moveE x.m0 x.m1 0 t = 0 := by
    unfold moveE
    rw [if_neg (by decide), if_neg (by omega), if_neg (by simp [ofI]; omega)]
  refine (emove_any be bj bm v0 v1 f0 f1 om Sg x { x with m0 := t, R1 := keepR (fun y => decide (y.t ≤ t + x.lo)) x.R1 } L L 0 t W h ⟨rfl, rfl, rfl⟩ (fun W hW => ?_)).mono ?_
  · refine (jmove_ok0 0 bj bm v0 v1 x t W hW he (by have := hJ.l1; omega) hJ.lo1 hJ.lo2 hJ.hi1 hJ.hi2).mono ?_
    rintro e w' ⟨rfl, v', h1, h2, h3⟩
    exact ⟨rfl, v0, v', h1, h2.mono (fun k e => e.elim .inl (fun e => e.elim (fun e => .inr (.inl e)) (fun e => .inr (.inr (.inr e))))), rfl, h3⟩
  · rintro e w' ⟨rfl, v0', v1', h1, h2, h3, h4⟩
    have hS' : ∀ k, S k ↔ footE bj bm v0' v1' om Sg k := fun k => by rw [hS k]; unfold footE footJ; rw [h3, h4]
    exact ⟨S, rfl, ⟨bj, bm, v0', v1', om, Sg, h1, hS'⟩, fun k e => ⟨.inl e, h1.lt ((hS' k).1 e)⟩, h2.mono (fun k e => (hS k).2 e)⟩
theorem pe_move1 {x : J} {f0 f1 : Int} (t : Int) {be : Nat} {L : List O} {S : Nat → Prop} {W : World} (hE : PE ⟨x, f0, f1, L⟩ be S W) (hJ : JOk x) (hm : x.m1 ≤ t) (ht : -1099511627776 ≤ t ∧ t ≤ 1099511627776) :
    Calls Tryz.prog 20 #[.pointer (some ⟨be, 0, none⟩), .int .i64 1, .int .i64 t] W fun e w' => ∃ S', e = .returned .nilIface ∧ PE ⟨{ x with m1 := t, R0 := keepR (fun y => decide (y.t ≤ t - x.hi)) x.R0 }, f0, f1, L⟩ be S' w' ∧ FootTo S S' W w' := by
  obtain ⟨bj, bm, v0, v1, om, Sg, h, hS⟩ := hE
  have he : moveE x.m0 x.m1 1 t = 0 := by
    unfold moveE
    rw [if_neg (by decide), if_neg (by omega), if_neg (by simp [ofI]; omega)]
  refine (emove_any be bj bm v0 v1 f0 f1 om Sg x { x with m1 := t, R0 := keepR (fun y => decide (y.t ≤ t - x.hi)) x.R0 } L L 1 t W h ⟨rfl, rfl, rfl⟩ (fun W hW => ?_)).mono ?_
  · refine (jmove_ok1 0 bj bm v0 v1 x t W hW he (by have := hJ.l0; omega) hJ.hi1 hJ.hi2).mono ?_
    rintro e w' ⟨rfl, v', h1, h2, h3⟩
    exact ⟨rfl, v', v1, h1, h2.mono (fun k e => e.elim .inl (fun e => e.elim (fun e => .inr (.inl e)) (fun e => .inr (.inr (.inl e))))), h3, rfl⟩
  · rintro e w' ⟨rfl, v0', v1', h1, h2, h3, h4⟩
    have hS' : ∀ k, S k ↔ footE bj bm v0' v1' om Sg k := fun k => by rw [hS k]; unfold footE footJ; rw [h3, h4]
    exact ⟨S, rfl, ⟨bj, bm, v0', v1', om, Sg, h1, hS'⟩, fun k e => ⟨.inl e, h1.lt ((hS' k).1 e)⟩, h2.mono (fun k e => (hS k).2 e)⟩
theorem pe_lateN {st : Sx} {be : Nat} {S : Nat → Prop} {w : World} (hE : PE st be S w) : Calls Tryz.prog 23 #[.pointer (some ⟨be, 0, none⟩)] w fun e w' => e = .returned (.int .i64 st.x.late) ∧ w' = w := by
  obtain ⟨bj, bm, v0, v1, om, Sg, h, hS⟩ := hE
  have H : Hid (Calls Tryz.prog 47 #[.pointer (some ⟨bj, 0, none⟩)] w fun e w' => e = .returned (.int .i64 st.x.late) ∧ w' = w) := jlate_any 0 bj bm v0 v1 st.x w h.join
  have hc := h.cells.2.2.2.1
  have hlt := h.blt
  clear h hS
  go_enter Tryz.func23, Tryz.ntmps23
  go_wp2_with (first
    | (go_at_call 47; refine H.out.mono ?_; rintro e w' ⟨rfl, hw⟩; have hw := hw.symm; subst hw)
    | fail)
  go_ret
  exact ⟨rfl, rfl⟩

end Go.Proofs.YtmmbjbgimpgcfaaGreatDoor

/- For EngineLasts: a tale's state, told by its steps alone. -/
namespace Go.Proofs.YtmmbjbgimpgcfaaGreatDoor
open Go.RowKit Go.Sort Go.Shelf
set_option maxRecDepth 100000

/-- All that a tale's going on hangs on. -/
structure Sy where
  x : J
  f0 : Int
  f1 : Int
  a0 : Int
  a1 : Int
  A : List Rw
  B : List Rw

structure SyOk (lo hi mode : Int) (n : Nat) (s : Sy) : Prop where
  holds : Holds s.x s.A s.B
  plan : s.x.lo = lo ∧ s.x.hi = hi ∧ s.x.mode = mode
  ok : planOk lo hi mode
  jok : JOk s.x
  late : s.x.late ≤ n
  marks : s.x.m0 ≤ s.a0 ∧ s.x.m1 ≤ s.a1 ∧ -300 ≤ s.a0 ∧ s.a0 ≤ -300 + 60 * (n : Int) ∧ -300 ≤ s.a1 ∧ s.a1 ≤ -300 + 60 * (n : Int)
  len : s.A.length + s.B.length ≤ n
  sa : ∀ r ∈ s.A, r.small
  sb : ∀ r ∈ s.B, r.small
  lowm : -1099511627777 ≤ s.x.m0 ∧ -1099511627777 ≤ s.x.m1

def Sy.r0 (s : Sy) (r : Rw) : Sy := if s.x.m0 < r.t then (if s.x.m1 < r.t + s.x.hi → s.x.R0.length < 300 then ⟨s.x.fed0 r.k r.t r.v, satI s.f0, s.f1, s.a0, s.a1, s.A ++ [r], s.B⟩ else s) else ⟨{ s.x with late := moreI s.x.late }, satI s.f0, s.f1, s.a0, s.a1, s.A, s.B⟩
def Sy.r1 (s : Sy) (r : Rw) : Sy := if s.x.m1 < r.t then (if s.x.m0 < r.t + -s.x.lo → s.x.R1.length < 300 then ⟨s.x.fed1 r.k r.t r.v, s.f0, satI s.f1, s.a0, s.a1, s.A, s.B ++ [r]⟩ else s) else ⟨{ s.x with late := moreI s.x.late }, s.f0, satI s.f1, s.a0, s.a1, s.A, s.B⟩
def Sy.k0 (s : Sy) (p : Int) : Sy := ⟨{ s.x with m0 := s.a0 + p, R1 := keepR (fun y => decide (y.t ≤ s.a0 + p + s.x.lo)) s.x.R1 }, s.f0, s.f1, s.a0 + p, s.a1, s.A, s.B⟩
def Sy.k1 (s : Sy) (p : Int) : Sy := ⟨{ s.x with m1 := s.a1 + p, R0 := keepR (fun y => decide (y.t ≤ s.a1 + p - s.x.hi)) s.x.R0 }, s.f0, s.f1, s.a0, s.a1 + p, s.A, s.B⟩
def Sy.next (s : Sy) (q : St) : Sy :=
  if q.wh = 0 then (if pickN q.s 2 = 0 then s.r0 (rowOf q.k q.t q.v) else s.r1 (rowOf q.k q.t q.v))
  else if q.wh = 1 then (if pickN q.s 2 = 0 then s.k0 ((pickN q.n 60 : Nat) : Int) else s.k1 ((pickN q.n 60 : Nat) : Int)) else s

theorem rowOf_small (k t v : Int) : (rowOf k t v).small ∧ -100 ≤ (rowOf k t v).t ∧ (rowOf k t v).t ≤ 99 := by
  have q1 := (pickN_lt k 4 (by omega)).1
  have q2 := (pickN_lt t 200 (by omega)).1
  have q3 := (pickN_lt v 50 (by omega)).1
  refine ⟨?_, ?_, ?_⟩
  · unfold Rw.small rowOf; simp only; omega
  · unfold rowOf; simp only; omega
  · unfold rowOf; simp only; omega
theorem not_room {p : Prop} {a : Nat} (h : ¬ (p → a < 300)) : p ∧ 300 ≤ a := by
  by_cases g1 : p
  · refine ⟨g1, ?_⟩
    by_cases g2 : a < 300
    · exact absurd (fun _ => g2) h
    · omega
  · exact absurd (fun g => absurd g g1) h
theorem SyOk.more {lo hi mode : Int} {n m : Nat} {s : Sy} (h : SyOk lo hi mode n s) (hm : n ≤ m) : SyOk lo hi mode m s := by
  obtain ⟨h1, h2, h3, h4, h5, h6, h7, h8, h9, h10⟩ := h
  exact ⟨h1, h2, h3, h4, by omega, by omega, by omega, h8, h9, h10⟩

theorem SyOk.r0 {lo hi mode : Int} {n : Nat} {s : Sy} (h : SyOk lo hi mode n s) (hn : n ≤ 100) (r : Rw) (hrs : r.small) : SyOk lo hi mode (n + 1) (s.r0 r) := by
  have hlen := h.len
  have hlate := h.late
  have hj := h.jok.late
  have hmk := h.marks
  unfold Sy.r0
  split
  · rename_i hl
    split
    · rename_i hro
      have hH' := h.holds.fed0 r hl (by omega)
      refine ⟨hH', h.plan, h.ok, ?_, by show s.x.late ≤ _; omega, ⟨hmk.1, hmk.2.1, by simp only; omega⟩, by simp only [List.length_append, List.length_cons, List.length_nil]; omega, (fun q hq => by rcases List.mem_append.1 hq with g | g; (exact h.sa q g); (simp at g; rw [g]; exact hrs)), h.sb, h.lowm⟩
      refine jok_of hH' (by rw [show (s.x.fed0 r.k r.t r.v).lo = lo from h.plan.1, show (s.x.fed0 r.k r.t r.v).hi = hi from h.plan.2.1, show (s.x.fed0 r.k r.t r.v).mode = mode from h.plan.2.2]; exact h.ok) ?_ ?_ (by first | omega | (simp only [List.length_append, List.length_cons, List.length_nil]; omega)) (by first | omega | (simp only [List.length_append, List.length_cons, List.length_nil]; omega)) h.jok.late
      · show (if s.x.m1 < r.t + s.x.hi then insR s.x.R0 _ _ else s.x.R0).length ≤ 300
        split
        · rw [insR_len]; have := hro (by assumption); omega
        · exact h.jok.l0
      · show (incR s.x.R1 _ _).length ≤ 300
        rw [inc_is_map h.holds.s1, List.length_map]; exact h.jok.l1
    · exact h.more (by omega)
  · have hml : moreI s.x.late ≤ s.x.late + 1 := by unfold moreI; split <;> omega
    have hml0 : s.x.late ≤ moreI s.x.late := by unfold moreI; split <;> omega
    have hJ := h.jok
    exact ⟨⟨h.holds.r0, h.holds.r1, h.holds.s0, h.holds.s1⟩, h.plan, h.ok, ⟨hJ.lo1, hJ.lo2, hJ.hi1, hJ.hi2, hJ.s0, hJ.s1, hJ.l0, hJ.l1, hJ.n0, hJ.n1, ⟨by show 0 ≤ moreI s.x.late; omega, by show moreI s.x.late ≤ _; omega⟩⟩, by show moreI s.x.late ≤ _; omega, ⟨hmk.1, hmk.2.1, by simp only; omega⟩, by simp only; omega, h.sa, h.sb, h.lowm⟩

theorem SyOk.k0 {lo hi mode : Int} {n : Nat} {s : Sy} (h : SyOk lo hi mode n s) (hn : n ≤ 100) (p : Int) (hp : 0 ≤ p ∧ p < 60) : SyOk lo hi mode (n + 1) (s.k0 p) := by
  have hlen := h.len
  have hlate := h.late
  have hj := h.jok.late
  have hmk := h.marks
  have hH' := h.holds.moved0 (s.a0 + p) (by omega)
  refine ⟨hH', h.plan, h.ok, ?_, by show s.x.late ≤ _; omega, ⟨Int.le_refl _, hmk.2.1, by simp only [Sy.k0]; omega⟩, by show s.A.length + s.B.length ≤ _; omega, h.sa, h.sb, ⟨by show -1099511627777 ≤ s.a0 + p; omega, h.lowm.2⟩⟩
  refine jok_of hH' (by show planOk s.x.lo s.x.hi s.x.mode; rw [h.plan.1, h.plan.2.1, h.plan.2.2]; exact h.ok) ?_ ?_ (by omega) (by omega) h.jok.late
  · exact h.jok.l0
  · exact Nat.le_trans (List.length_filter_le _ _) h.jok.l1

theorem SyOk.r1 {lo hi mode : Int} {n : Nat} {s : Sy} (h : SyOk lo hi mode n s) (hn : n ≤ 100) (r : Rw) (hrs : r.small) : SyOk lo hi mode (n + 1) (s.r1 r) := by
  have hlen := h.len
  have hlate := h.late
  have hj := h.jok.late
  have hmk := h.marks
  unfold Sy.r1
  split
  · rename_i hl
    split
    · rename_i hro
      have hH' := h.holds.fed1 r hl (by omega)
      refine ⟨hH', h.plan, h.ok, ?_, by show s.x.late ≤ _; omega, ⟨hmk.1, hmk.2.1, by simp only; omega⟩, by simp only [List.length_append, List.length_cons, List.length_nil]; omega, h.sa, (fun q hq => by rcases List.mem_append.1 hq with g | g; (exact h.sb q g); (simp at g; rw [g]; exact hrs)), h.lowm⟩
      refine jok_of hH' (by rw [show (s.x.fed1 r.k r.t r.v).lo = lo from h.plan.1, show (s.x.fed1 r.k r.t r.v).hi = hi from h.plan.2.1, show (s.x.fed1 r.k r.t r.v).mode = mode from h.plan.2.2]; exact h.ok) ?_ ?_ (by first | omega | (simp only [List.length_append, List.length_cons, List.length_nil]; omega)) (by first | omega | (simp only [List.length_append, List.length_cons, List.length_nil]; omega)) h.jok.late
      · show (incR s.x.R0 _ _).length ≤ 300
        rw [inc_is_map h.holds.s0, List.length_map]; exact h.jok.l0
      · show (if s.x.m0 < r.t + -s.x.lo then insR s.x.R1 _ _ else s.x.R1).length ≤ 300
        split
        · rw [insR_len]; have := hro (by assumption); omega
        · exact h.jok.l1
    · exact h.more (by omega)
  · have hml : moreI s.x.late ≤ s.x.late + 1 := by unfold moreI; split <;> omega
    have hml0 : s.x.late ≤ moreI s.x.late := by unfold moreI; split <;> omega
    have hJ := h.jok
    exact ⟨⟨h.holds.r0, h.holds.r1, h.holds.s0, h.holds.s1⟩, h.plan, h.ok, ⟨hJ.lo1, hJ.lo2, hJ.hi1, hJ.hi2, hJ.s0, hJ.s1, hJ.l0, hJ.l1, hJ.n0, hJ.n1, ⟨by show 0 ≤ moreI s.x.late; omega, by show moreI s.x.late ≤ _; omega⟩⟩, by show moreI s.x.late ≤ _; omega, ⟨hmk.1, hmk.2.1, by simp only; omega⟩, by simp only; omega, h.sa, h.sb, h.lowm⟩

theorem SyOk.k1 {lo hi mode : Int} {n : Nat} {s : Sy} (h : SyOk lo hi mode n s) (hn : n ≤ 100) (p : Int) (hp : 0 ≤ p ∧ p < 60) : SyOk lo hi mode (n + 1) (s.k1 p) := by
  have hlen := h.len
  have hlate := h.late
  have hj := h.jok.late
  have hmk := h.marks
  have hH' := h.holds.moved1 (s.a1 + p) (by omega)
  refine ⟨hH', h.plan, h.ok, ?_, by show s.x.late ≤ _; omega, ⟨hmk.1, Int.le_refl _, by simp only [Sy.k1]; omega⟩, by show s.A.length + s.B.length ≤ _; omega, h.sa, h.sb, ⟨h.lowm.1, by show -1099511627777 ≤ s.a1 + p; omega⟩⟩
  refine jok_of hH' (by show planOk s.x.lo s.x.hi s.x.mode; rw [h.plan.1, h.plan.2.1, h.plan.2.2]; exact h.ok) ?_ ?_ (by omega) (by omega) h.jok.late
  · exact Nat.le_trans (List.length_filter_le _ _) h.jok.l0
  · exact h.jok.l1

theorem SyOk.next {lo hi mode : Int} {n : Nat} {s : Sy} (h : SyOk lo hi mode n s) (hn : n ≤ 100) (q : St) : SyOk lo hi mode (n + 1) (s.next q) := by
  have hr := (rowOf_small q.k q.t q.v).1
  have hp := (pickN_lt q.n 60 (by omega)).1
  unfold Sy.next
  split
  · split
    · exact h.r0 hn _ hr
    · exact h.r1 hn _ hr
  · split
    · split
      · exact h.k0 hn _ (by omega)
      · exact h.k1 hn _ (by omega)
    · exact h.more (by omega)

/-- A tale that stands so; P: the blocks that it lies in. -/
structure Lst (base bt : Nat) (lo hi mode : Int) (s : Sy) (n : Nat) (P : Nat → Prop) (w : World) (be bf nF : Nat) (va vb : Value) (F L : List O) (S : Nat → Prop) : Prop where
  tale : TaleAt w base bt (.pointer (some ⟨be, 0, none⟩)) lo hi mode s.a0 s.a1 va vb bf nF s.A s.B F
  eng : PE ⟨s.x, s.f0, s.f1, L⟩ be S w
  foot : ∀ k, S k → k < w.heap.size ∧ k ≠ bt ∧ k ≠ bf ∧ va.ownBlock ≠ some k ∧ vb.ownBlock ≠ some k
  all : ∀ k, P k ↔ (S k ∨ k = bt ∨ k = bf ∨ va.ownBlock = some k ∨ vb.ownBlock = some k)
  lv : L.Perm (viewOf lo hi mode s.A s.B)
  fv : F.Perm (viewOf lo hi mode s.A s.B)
  nf : nF ≤ 700 * n
def LTale (base bt : Nat) (lo hi mode : Int) (s : Sy) (n : Nat) (P : Nat → Prop) (w : World) : Prop :=
  ∃ (be bf nF : Nat) (va vb : Value) (F L : List O) (S : Nat → Prop), Lst base bt lo hi mode s n P w be bf nF va vb F L S
abbrev LNext (base bt : Nat) (lo hi mode : Int) (s : Sy) (n : Nat) (P : Nat → Prop) (w w' : World) : Prop :=
  ∃ P', LTale base bt lo hi mode s n P' w' ∧ Turned P w w' ∧ ∀ k, P' k → P k ∨ w.heap.size ≤ k

theorem LTale.steady {base bt : Nat} {lo hi mode : Int} {s : Sy} {n : Nat} {P : Nat → Prop} {w W : World} (h : LTale base bt lo hi mode s n P w) (hs : w.heap.size ≤ W.heap.size) (hk : ∀ k, P k → W.heap[k]? = w.heap[k]?) : LTale base bt lo hi mode s n P W := by
  obtain ⟨be, bf, nF, va, vb, F, L, S, h⟩ := h
  refine ⟨be, bf, nF, va, vb, F, L, S, h.tale.kept (fun k _ hor => hk k ((h.all k).2 (Or.inr hor))), pe_steady _ be S w W h.eng hs (fun k hS => hk k ((h.all k).2 (Or.inl hS))), fun k hS => ⟨Nat.lt_of_lt_of_le (h.foot k hS).1 hs, (h.foot k hS).2⟩, h.all, h.lv, h.fv, h.nf⟩
theorem LTale.lt {base bt : Nat} {lo hi mode : Int} {s : Sy} {n : Nat} {P : Nat → Prop} {w : World} (h : LTale base bt lo hi mode s n P w) : ∀ k, P k → k < w.heap.size := by
  obtain ⟨be, bf, nF, va, vb, F, L, S, h⟩ := h
  intro k hk
  rcases (h.all k).1 hk with g | g | g | g | g
  · exact (h.foot k g).1
  · rw [g]; exact h.tale.lt
  · rw [g]; exact h.tale.ltf
  · exact (h.tale.r0.lt k g).2
  · exact (h.tale.r1.lt k g).2
theorem LTale.more {base bt : Nat} {lo hi mode : Int} {s : Sy} {n m : Nat} {P : Nat → Prop} {w : World} (h : LTale base bt lo hi mode s n P w) (hm : n ≤ m) : LTale base bt lo hi mode s m P w := by
  obtain ⟨be, bf, nF, va, vb, F, L, S, h⟩ := h
  have := h.nf
  exact ⟨be, bf, nF, va, vb, F, L, S, h.tale, h.eng, h.foot, h.all, h.lv, h.fv, by omega⟩
/-- Nothing but the engine's blocks was written, or the tale's own. -/
theorem lnext_of {base bt : Nat} {lo hi mode : Int} {s' : Sy} {n : Nat} {P : Nat → Prop} {w w' : World} {be' bf nF : Nat} {va vb : Value} {F L : List O} {S S' : Nat → Prop}
    (hP : ∀ k, P k ↔ (S k ∨ k = bt ∨ k = bf ∨ va.ownBlock = some k ∨ vb.ownBlock = some k))
    (h1 : TaleAt w' base bt (.pointer (some ⟨be', 0, none⟩)) lo hi mode s'.a0 s'.a1 va vb bf nF s'.A s'.B F) (h2 : PE ⟨s'.x, s'.f0, s'.f1, L⟩ be' S' w')
    (h3 : ∀ k, S' k → (S k ∨ w.heap.size ≤ k) ∧ k < w'.heap.size ∧ k ≠ bt ∧ k ≠ bf ∧ va.ownBlock ≠ some k ∧ vb.ownBlock ≠ some k)
    (hT : Turned (fun k => S k ∨ k = bt) w w') (hL : L.Perm (viewOf lo hi mode s'.A s'.B)) (hF : F.Perm (viewOf lo hi mode s'.A s'.B)) (hn : nF ≤ 700 * n) : LNext base bt lo hi mode s' n P w w' := by
  refine ⟨fun k => S' k ∨ k = bt ∨ k = bf ∨ va.ownBlock = some k ∨ vb.ownBlock = some k, ⟨be', bf, nF, va, vb, F, L, S', h1, h2, fun k hk => (h3 k hk).2, fun k => Iff.rfl, hL, hF, hn⟩, hT.mono (fun k hk => (hP k).2 (hk.imp id .inl)), fun k hk => ?_⟩
  rcases hk with g | g
  · rcases (h3 k g).1 with g2 | g2
    · exact Or.inl ((hP k).2 (Or.inl g2))
    · exact Or.inr g2
  · exact Or.inl ((hP k).2 (Or.inr g))

theorem lrow0 {base bt : Nat} {lo hi mode : Int} {s : Sy} {n : Nat} {P : Nat → Prop} {w : World} (hT : LTale base bt lo hi mode s n P w) (h : SyOk lo hi mode n s) (hn : n ≤ 100) (hG : w.cell? ⟨0, 0, none⟩ = some errT) (hP0 : ¬ P 0) (hbase : base ≤ w.heap.size) (xs xn xk xt xv : Int) (hs : pickN xs 2 = 0) :
    Calls Tryz.prog 9 #[.pointer (some ⟨bt, 0, none⟩), .agg #[.int .i64 0, .int .i64 xs, .int .i64 xn, .int .i64 xk, .int .i64 xt, .int .i64 xv]] w fun e w' => e = .returned (.bool true) ∧ LNext base bt lo hi mode (s.r0 (rowOf xk xt xv)) (n + 1) P w w' := by
  obtain ⟨be, bf, nF, va, vb, F, L, S, hT⟩ := hT
  obtain ⟨hrs, hrt⟩ := rowOf_small xk xt xv
  obtain ⟨r, hr⟩ : ∃ r : Rw, r = rowOf xk xt xv := ⟨_, rfl⟩
  rw [← hr] at hrs hrt ⊢
  have hg : goodI r.k r.t r.v = true := small_good hrs
  have hlen := h.len
  have hnF := hT.nf
  have hH := h.holds
  have hJ := h.jok
  have hS0 : ¬ S 0 := fun e => hP0 ((hT.all 0).2 (Or.inl e))
  obtain ⟨rfl, rfl, rfl⟩ := h.plan
  unfold Sy.r0
  by_cases hl : s.x.m0 < r.t
  · rw [if_pos hl]
    by_cases hro : s.x.m1 < r.t + s.x.hi → s.x.R0.length < 300
    · rw [if_pos hro]
      have hvL := hH.view0 r hl hT.lv
      have hvF := hH.view0 r hl hT.fv
      have hLl : L.length ≤ 20000 := by rw [hT.lv.length_eq]; exact view_small _ _ _ _ _ n hn hlen
      have hFl : F.length ≤ 20000 := by rw [hT.fv.length_eq]; exact view_small _ _ _ _ _ n hn hlen
      have hm0 : ∀ y ∈ metR r.k (r.t + s.x.lo) (r.t + s.x.hi) s.x.R1, y.rw.small := fun y hy => h.sb _ (hH.yet1 y (met_mem hy)).2.2.2
      have hcw := chgs_wf s.x.mode 0 r _ hrs hm0
      have hcl := chgsA_len s.x.mode 0 r.k r.t r.v (metR r.k (r.t + s.x.lo) (r.t + s.x.hi) s.x.R1)
      have hml := met_len r.k (r.t + s.x.lo) (r.t + s.x.hi) s.x.R1
      have hrl := hH.len1
      refine (does0_0 (PE ⟨s.x, s.f0, s.f1, L⟩ be) (PE ⟨s.x.fed0 r.k r.t r.v, satI s.f0, s.f1, appC L (cF0 s.x r)⟩ be) S (cF0 s.x r) r base bt be bf nF _ _ _ s.a0 s.a1 va vb s.A s.B F xs xn xk xt xv w hT.tale hbase hs hr (pe_steady _ _) (pe_steady _ _) hT.eng hT.foot (fun W hW _ => pe_feed0 r hW hJ hg hl hro hvL.1 hcw (by omega)) hvF.1 hcw (by omega) (by omega) (by show (chgs _ _ _ _ _ _).length ≤ _; omega) (by omega)).mono ?_
      rintro e w' ⟨rfl, v', S', h1, h2, h3, h4, h5⟩
      refine ⟨rfl, fun k => S' k ∨ k = bt ∨ k = bf ∨ v'.ownBlock = some k ∨ vb.ownBlock = some k, ⟨be, bf, _, v', vb, _, _, S', h1, h2, fun k hk => (h3 k hk).2, fun k => Iff.rfl, hvL.2, hvF.2, by show nF + (chgs _ _ _ _ _ _).length ≤ _; omega⟩, h4.mono (fun k hk => (hT.all k).2 ?_), fun k hk => ?_⟩
      · rcases hk with g | g | g | g
        · exact Or.inl g
        · exact Or.inr (Or.inl g)
        · exact Or.inr (Or.inr (Or.inl g))
        · exact Or.inr (Or.inr (Or.inr (Or.inl g)))
      · rcases hk with g | g | g | g | g
        · rcases (h3 k g).1 with g2 | g2
          · exact Or.inl ((hT.all k).2 (Or.inl g2))
          · exact Or.inr g2
        · exact Or.inl ((hT.all k).2 (Or.inr (Or.inl g)))
        · exact Or.inl ((hT.all k).2 (Or.inr (Or.inr (Or.inl g))))
        · rcases h5 with h5 | ⟨g9, h5, h6⟩
          · exact Or.inl ((hT.all k).2 (Or.inr (Or.inr (Or.inr (Or.inl (h5 ▸ g))))))
          · rw [h5] at g
            cases g
            exact Or.inr h6
        · exact Or.inl ((hT.all k).2 (Or.inr (Or.inr (Or.inr (Or.inr g)))))
    · rw [if_neg hro]
      obtain ⟨hr1, hr2⟩ := not_room hro
      refine (does0_err0 (PE ⟨s.x, s.f0, s.f1, L⟩ be) (PE ⟨s.x, s.f0, s.f1, L⟩ be) S 12 r base bt be bf nF _ _ _ s.a0 s.a1 va vb s.A s.B F xs xn xk xt xv w (Or.inr rfl) hS0 (fun W h0 => tell_err 12 W ((World.cell?_of_block (w := w) (a := ⟨0, 0, none⟩) h0).trans hG)) hT.tale hs hr (pe_steady _ _) (pe_steady _ _) hT.eng hT.foot (fun W hW _ h0 => pe_full0 r ((World.cell?_of_block (w := w) (a := ⟨0, 0, none⟩) h0).trans hG) hW hJ hg hl hr1 hr2)).mono ?_
      rintro e w' ⟨rfl, S', h1, h2, h3, h4⟩
      exact ⟨rfl, lnext_of hT.all h1 h2 h3 (h4.mono (fun k hk => .inl hk)) hT.lv hT.fv (by omega)⟩
  · rw [if_neg hl]
    refine (does0_err0 (PE ⟨s.x, s.f0, s.f1, L⟩ be) (PE ⟨{ s.x with late := moreI s.x.late }, satI s.f0, s.f1, L⟩ be) S 10 r base bt be bf nF _ _ _ s.a0 s.a1 va vb s.A s.B F xs xn xk xt xv w (Or.inl rfl) hS0 (fun W h0 => tell_err 10 W ((World.cell?_of_block (w := w) (a := ⟨0, 0, none⟩) h0).trans hG)) hT.tale hs hr (pe_steady _ _) (pe_steady _ _) hT.eng hT.foot (fun W hW _ h0 => pe_late0 r ((World.cell?_of_block (w := w) (a := ⟨0, 0, none⟩) h0).trans hG) hW hJ hg (by omega))).mono ?_
    rintro e w' ⟨rfl, S', h1, h2, h3, h4⟩
    exact ⟨rfl, lnext_of (s' := ⟨{ s.x with late := moreI s.x.late }, satI s.f0, s.f1, s.a0, s.a1, s.A, s.B⟩) hT.all h1 h2 h3 (h4.mono (fun k hk => .inl hk)) hT.lv hT.fv (by omega)⟩
theorem lmark0 {base bt : Nat} {lo hi mode : Int} {s : Sy} {n : Nat} {P : Nat → Prop} {w : World} (hT : LTale base bt lo hi mode s n P w) (h : SyOk lo hi mode n s) (hn : n ≤ 100) (xs xn xk xt xv : Int) (hs : pickN xs 2 = 0) :
    Calls Tryz.prog 9 #[.pointer (some ⟨bt, 0, none⟩), .agg #[.int .i64 1, .int .i64 xs, .int .i64 xn, .int .i64 xk, .int .i64 xt, .int .i64 xv]] w fun e w' => e = .returned (.bool true) ∧ LNext base bt lo hi mode (s.k0 ((pickN xn 60 : Nat) : Int)) (n + 1) P w w' := by
  obtain ⟨be, bf, nF, va, vb, F, L, S, hT⟩ := hT
  have q1 := (pickN_lt xn 60 (by omega)).1
  obtain ⟨p, hp⟩ : ∃ p : Int, p = (pickN xn 60 : Nat) := ⟨_, rfl⟩
  rw [← hp]
  have hp0 : 0 ≤ p ∧ p < 60 := by omega
  have hmk := h.marks
  have hJ := h.jok
  have hnF := hT.nf
  obtain ⟨rfl, rfl, rfl⟩ := h.plan
  refine (does1_0 (PE ⟨s.x, s.f0, s.f1, L⟩ be) (PE ⟨(s.k0 p).x, s.f0, s.f1, L⟩ be) S p base bt be bf nF _ _ _ s.a0 s.a1 va vb s.A s.B F xs xn xk xt xv w hT.tale hs hp (by omega) (pe_steady _ _) (pe_steady _ _) hT.eng hT.foot (fun W hW _ => pe_move0 (s.a0 + p) hW hJ (by omega) (by omega))).mono ?_
  rintro e w' ⟨rfl, S', h1, h2, h3, h4⟩
  exact ⟨rfl, lnext_of (s' := s.k0 p) hT.all h1 h2 h3 h4 hT.lv hT.fv (by omega)⟩

theorem lrow1 {base bt : Nat} {lo hi mode : Int} {s : Sy} {n : Nat} {P : Nat → Prop} {w : World} (hT : LTale base bt lo hi mode s n P w) (h : SyOk lo hi mode n s) (hn : n ≤ 100) (hG : w.cell? ⟨0, 0, none⟩ = some errT) (hP0 : ¬ P 0) (hbase : base ≤ w.heap.size) (xs xn xk xt xv : Int) (hs : pickN xs 2 = 1) :
    Calls Tryz.prog 9 #[.pointer (some ⟨bt, 0, none⟩), .agg #[.int .i64 0, .int .i64 xs, .int .i64 xn, .int .i64 xk, .int .i64 xt, .int .i64 xv]] w fun e w' => e = .returned (.bool true) ∧ LNext base bt lo hi mode (s.r1 (rowOf xk xt xv)) (n + 1) P w w' := by
  obtain ⟨be, bf, nF, va, vb, F, L, S, hT⟩ := hT
  obtain ⟨hrs, hrt⟩ := rowOf_small xk xt xv
  obtain ⟨r, hr⟩ : ∃ r : Rw, r = rowOf xk xt xv := ⟨_, rfl⟩
  rw [← hr] at hrs hrt ⊢
  have hg : goodI r.k r.t r.v = true := small_good hrs
  have hlen := h.len
  have hnF := hT.nf
  have hH := h.holds
  have hJ := h.jok
  have hS0 : ¬ S 0 := fun e => hP0 ((hT.all 0).2 (Or.inl e))
  obtain ⟨rfl, rfl, rfl⟩ := h.plan
  unfold Sy.r1
  by_cases hl : s.x.m1 < r.t
  · rw [if_pos hl]
    by_cases hro : s.x.m0 < r.t + -s.x.lo → s.x.R1.length < 300
    · rw [if_pos hro]
      have hvL := hH.view1 r hl hT.lv
      have hvF := hH.view1 r hl hT.fv
      have hLl : L.length ≤ 20000 := by rw [hT.lv.length_eq]; exact view_small _ _ _ _ _ n hn hlen
      have hFl : F.length ≤ 20000 := by rw [hT.fv.length_eq]; exact view_small _ _ _ _ _ n hn hlen
      have hm0 : ∀ y ∈ metR r.k (r.t + -s.x.hi) (r.t + -s.x.lo) s.x.R0, y.rw.small := fun y hy => h.sa _ (hH.yet0 y (met_mem hy)).2.2.2
      have hcw := chgs_wf s.x.mode 1 r _ hrs hm0
      have hcl := chgsA_len s.x.mode 1 r.k r.t r.v (metR r.k (r.t + -s.x.hi) (r.t + -s.x.lo) s.x.R0)
      have hml := met_len r.k (r.t + -s.x.hi) (r.t + -s.x.lo) s.x.R0
      have hrl := hH.len0
      refine (does0_1 (PE ⟨s.x, s.f0, s.f1, L⟩ be) (PE ⟨s.x.fed1 r.k r.t r.v, s.f0, satI s.f1, appC L (cF1 s.x r)⟩ be) S (cF1 s.x r) r base bt be bf nF _ _ _ s.a0 s.a1 va vb s.A s.B F xs xn xk xt xv w hT.tale hbase hs hr (pe_steady _ _) (pe_steady _ _) hT.eng hT.foot (fun W hW _ => pe_feed1 r hW hJ hg hl hro hvL.1 hcw (by omega)) hvF.1 hcw (by omega) (by omega) (by show (chgs _ _ _ _ _ _).length ≤ _; omega) (by omega)).mono ?_
      rintro e w' ⟨rfl, v', S', h1, h2, h3, h4, h5⟩
      refine ⟨rfl, fun k => S' k ∨ k = bt ∨ k = bf ∨ va.ownBlock = some k ∨ v'.ownBlock = some k, ⟨be, bf, _, va, v', _, _, S', h1, h2, fun k hk => (h3 k hk).2, fun k => Iff.rfl, hvL.2, hvF.2, by show nF + (chgs _ _ _ _ _ _).length ≤ _; omega⟩, h4.mono (fun k hk => (hT.all k).2 ?_), fun k hk => ?_⟩
      · rcases hk with g | g | g | g
        · exact Or.inl g
        · exact Or.inr (Or.inl g)
        · exact Or.inr (Or.inr (Or.inl g))
        · exact Or.inr (Or.inr (Or.inr (Or.inr g)))
      · rcases hk with g | g | g | g | g
        · rcases (h3 k g).1 with g2 | g2
          · exact Or.inl ((hT.all k).2 (Or.inl g2))
          · exact Or.inr g2
        · exact Or.inl ((hT.all k).2 (Or.inr (Or.inl g)))
        · exact Or.inl ((hT.all k).2 (Or.inr (Or.inr (Or.inl g))))
        · exact Or.inl ((hT.all k).2 (Or.inr (Or.inr (Or.inr (Or.inl g)))))
        · rcases h5 with h5 | ⟨g9, h5, h6⟩
          · exact Or.inl ((hT.all k).2 (Or.inr (Or.inr (Or.inr (Or.inr (h5 ▸ g))))))
          · rw [h5] at g
            cases g
            exact Or.inr h6
    · rw [if_neg hro]
      obtain ⟨hr1, hr2⟩ := not_room hro
      refine (does0_err1 (PE ⟨s.x, s.f0, s.f1, L⟩ be) (PE ⟨s.x, s.f0, s.f1, L⟩ be) S 12 r base bt be bf nF _ _ _ s.a0 s.a1 va vb s.A s.B F xs xn xk xt xv w (Or.inr rfl) hS0 (fun W h0 => tell_err 12 W ((World.cell?_of_block (w := w) (a := ⟨0, 0, none⟩) h0).trans hG)) hT.tale hs hr (pe_steady _ _) (pe_steady _ _) hT.eng hT.foot (fun W hW _ h0 => pe_full1 r ((World.cell?_of_block (w := w) (a := ⟨0, 0, none⟩) h0).trans hG) hW hJ hg hl hr1 hr2)).mono ?_
      rintro e w' ⟨rfl, S', h1, h2, h3, h4⟩
      exact ⟨rfl, lnext_of hT.all h1 h2 h3 (h4.mono (fun k hk => .inl hk)) hT.lv hT.fv (by omega)⟩
  · rw [if_neg hl]
    refine (does0_err1 (PE ⟨s.x, s.f0, s.f1, L⟩ be) (PE ⟨{ s.x with late := moreI s.x.late }, s.f0, satI s.f1, L⟩ be) S 10 r base bt be bf nF _ _ _ s.a0 s.a1 va vb s.A s.B F xs xn xk xt xv w (Or.inl rfl) hS0 (fun W h0 => tell_err 10 W ((World.cell?_of_block (w := w) (a := ⟨0, 0, none⟩) h0).trans hG)) hT.tale hs hr (pe_steady _ _) (pe_steady _ _) hT.eng hT.foot (fun W hW _ h0 => pe_late1 r ((World.cell?_of_block (w := w) (a := ⟨0, 0, none⟩) h0).trans hG) hW hJ hg (by omega))).mono ?_
    rintro e w' ⟨rfl, S', h1, h2, h3, h4⟩
    exact ⟨rfl, lnext_of (s' := ⟨{ s.x with late := moreI s.x.late }, s.f0, satI s.f1, s.a0, s.a1, s.A, s.B⟩) hT.all h1 h2 h3 (h4.mono (fun k hk => .inl hk)) hT.lv hT.fv (by omega)⟩
theorem lmark1 {base bt : Nat} {lo hi mode : Int} {s : Sy} {n : Nat} {P : Nat → Prop} {w : World} (hT : LTale base bt lo hi mode s n P w) (h : SyOk lo hi mode n s) (hn : n ≤ 100) (xs xn xk xt xv : Int) (hs : pickN xs 2 = 1) :
    Calls Tryz.prog 9 #[.pointer (some ⟨bt, 0, none⟩), .agg #[.int .i64 1, .int .i64 xs, .int .i64 xn, .int .i64 xk, .int .i64 xt, .int .i64 xv]] w fun e w' => e = .returned (.bool true) ∧ LNext base bt lo hi mode (s.k1 ((pickN xn 60 : Nat) : Int)) (n + 1) P w w' := by
  obtain ⟨be, bf, nF, va, vb, F, L, S, hT⟩ := hT
  have q1 := (pickN_lt xn 60 (by omega)).1
  obtain ⟨p, hp⟩ : ∃ p : Int, p = (pickN xn 60 : Nat) := ⟨_, rfl⟩
  rw [← hp]
  have hp0 : 0 ≤ p ∧ p < 60 := by omega
  have hmk := h.marks
  have hJ := h.jok
  have hnF := hT.nf
  obtain ⟨rfl, rfl, rfl⟩ := h.plan
  refine (does1_1 (PE ⟨s.x, s.f0, s.f1, L⟩ be) (PE ⟨(s.k1 p).x, s.f0, s.f1, L⟩ be) S p base bt be bf nF _ _ _ s.a0 s.a1 va vb s.A s.B F xs xn xk xt xv w hT.tale hs hp (by omega) (pe_steady _ _) (pe_steady _ _) hT.eng hT.foot (fun W hW _ => pe_move1 (s.a1 + p) hW hJ (by omega) (by omega))).mono ?_
  rintro e w' ⟨rfl, S', h1, h2, h3, h4⟩
  exact ⟨rfl, lnext_of (s' := s.k1 p) hT.all h1 h2 h3 h4 hT.lv hT.fv (by omega)⟩

/-- Whatever the step, but that it is saved. -/
theorem lstep {base bt : Nat} {lo hi mode : Int} {s : Sy} {n : Nat} {P : Nat → Prop} {w : World} (hT : LTale base bt lo hi mode s n P w) (h : SyOk lo hi mode n s) (hn : n ≤ 100) (hG : w.cell? ⟨0, 0, none⟩ = some errT) (hP0 : ¬ P 0) (hbase : base ≤ w.heap.size) (q : St) (hq : q.wh ≠ 2) :
    Calls Tryz.prog 9 #[.pointer (some ⟨bt, 0, none⟩), .agg #[.int .i64 q.wh, .int .i64 q.s, .int .i64 q.n, .int .i64 q.k, .int .i64 q.t, .int .i64 q.v]] w fun e w' => e = .returned (.bool true) ∧ LNext base bt lo hi mode (s.next q) (n + 1) P w w' := by
  have hp := (pickN_lt q.s 2 (by omega)).1
  unfold Sy.next
  by_cases h0 : q.wh = 0
  · rw [if_pos h0, h0]
    by_cases hp0 : pickN q.s 2 = 0
    · rw [if_pos hp0]
      exact lrow0 hT h hn hG hP0 hbase q.s q.n q.k q.t q.v hp0
    · rw [if_neg hp0]
      exact lrow1 hT h hn hG hP0 hbase q.s q.n q.k q.t q.v (by omega)
  · rw [if_neg h0]
    by_cases h1 : q.wh = 1
    · rw [if_pos h1, h1]
      by_cases hp0 : pickN q.s 2 = 0
      · rw [if_pos hp0]
        exact lmark0 hT h hn q.s q.n q.k q.t q.v hp0
      · rw [if_neg hp0]
        exact lmark1 hT h hn q.s q.n q.k q.t q.v (by omega)
    · rw [if_neg h1]
      obtain ⟨be, bf, nF, va, vb, F, L, S, h2⟩ := hT
      refine (does_none base bt be bf nF _ _ _ s.a0 s.a1 va vb s.A s.B F q.wh q.s q.n q.k q.t q.v w h0 h1 hq h2.tale).mono ?_
      rintro e w' ⟨rfl, hb⟩
      have hT : LTale base bt lo hi mode s n P w := ⟨be, bf, nF, va, vb, F, L, S, h2⟩
      exact ⟨rfl, P, (hT.steady hb.size (fun k hk => hb.block k (hT.lt k hk))).more (by omega), Turned.of_below hb, fun k hk => .inl hk⟩

/-- What it needs to be told. -/
theorem SyOk.sv {lo hi mode : Int} {n : Nat} {s : Sy} (h : SyOk lo hi mode n s) (hn : n ≤ 100) {L : List O} {be : Nat} {S : Nat → Prop} {W : World} (hE : PE ⟨s.x, s.f0, s.f1, L⟩ be S W) : SvOk s.x s.f0 s.f1 := by
  obtain ⟨bj, bm, v0, v1, om, Sg, hE, hS⟩ := hE
  have hmk := h.marks
  exact svOk_of hE h.jok (by rw [h.plan.1, h.plan.2.1, h.plan.2.2]; exact h.ok) ⟨h.lowm.1, by omega⟩ ⟨h.lowm.2, by omega⟩ (h.holds.good0 h.sa) (h.holds.good1 h.sb)

/-- It is saved, and loaded: nothing is otherwise. -/
theorem lsave {base bt : Nat} {lo hi mode : Int} {s : Sy} {n : Nat} {P : Nat → Prop} {w : World} (hT : LTale base bt lo hi mode s n P w) (h : SyOk lo hi mode n s) (hn : n ≤ 100) (hG : Glob w) (xs xn xk xt xv : Int) :
    Calls Tryz.prog 9 #[.pointer (some ⟨bt, 0, none⟩), .agg #[.int .i64 2, .int .i64 xs, .int .i64 xn, .int .i64 xk, .int .i64 xt, .int .i64 xv]] w fun e w' => e = .returned (.bool true) ∧ LNext base bt lo hi mode s n P w w' := by
  have hT0 := hT
  obtain ⟨be, bf, nF, va, vb, F, L, S, hT⟩ := hT
  obtain ⟨Z, hZp, hZo⟩ := sorted_of L
  have hv := h.sv hn hT.eng
  have hL : ∀ o ∈ L, TellO o := fun o ho => mem_viewOf h.sa h.sb o (hT.lv.subset ho)
  have hfo := pe_foot hT.eng
  by_cases hlim : 5000 < L.length ∨ 60000 < (savedB s.x s.f0 s.f1 Z).length
  · refine (does2_limitB (PE ⟨s.x, s.f0, s.f1, L⟩ be) S ⟨#[]⟩ base bt be bf nF _ _ _ s.a0 s.a1 va vb s.A s.B F xs xn xk xt xv w (fun W h0 => tell_err 4 W ((World.cell?_of_block (w := w) (a := ⟨0, 0, none⟩) h0).trans hG.err)) hT.tale (pe_steady _ _) hT.eng hfo (fun W hW hb => ?_)).mono ?_
    · have := pe_saved hW (hG.below hb) hv hL hZp hZo
      rw [if_pos hlim] at this
      exact this
    · rintro e w' ⟨rfl, hb⟩
      exact ⟨rfl, P, hT0.steady hb.size (fun k hk => hb.block k (hT0.lt k hk)), Turned.of_below hb, fun k hk => .inl hk⟩
  · refine (does2_okB (PE ⟨s.x, s.f0, s.f1, L⟩ be) (fun be' => PE ⟨s.x, s.f0, s.f1, Z.reverse⟩ be') S ⟨(savedB s.x s.f0 s.f1 Z).toArray⟩ base bt be bf nF _ _ _ s.a0 s.a1 va vb s.A s.B F xs xn xk xt xv w hT.tale (pe_steady _ _) (fun be' => pe_steady _ be') hT.eng hfo (fun W hW hb => ?_) (fun W hb => load_saved s.x s.f0 s.f1 Z hv (fun o ho => hL o (hZp.subset ho)) (by rw [hZp.length_eq]; omega) hZo (by omega) W (hG.below hb))).mono ?_
    · have := pe_saved hW (hG.below hb) hv hL hZp hZo
      rw [if_neg hlim] at this
      exact this
    · rintro e w' ⟨rfl, be', S', h1, h2, h3, h4⟩
      refine ⟨rfl, lnext_of (S := S) hT.all h1 h2 (fun k hk => ?_) (h4.mono (fun k hk => .inr hk)) (((List.reverse_perm Z).trans hZp).trans hT.lv) hT.fv hT.nf⟩
      have a1 := hT.tale.lt
      have a2 := hT.tale.ltf
      have a3 := (h3 k hk).1
      exact ⟨.inr a3, (h3 k hk).2, by omega, by omega, fun e => by have := (hT.tale.r0.lt k e).2; omega, fun e => by have := (hT.tale.r1.lt k e).2; omega⟩


end Go.Proofs.YtmmbjbgimpgcfaaGreatDoor

/- For EngineLasts: two tales side by side. -/
namespace Go.Proofs.YtmmbjbgimpgcfaaGreatDoor
open Go.RowKit Go.Sort Go.Shelf
set_option maxRecDepth 100000

def sy0 (lo hi mode : Int) : Sy := ⟨⟨lo, hi, mode, -1099511627777, -1099511627777, 0, [], []⟩, 0, 0, -300, -300, [], []⟩
theorem sy0_ok {lo hi mode : Int} (h : planOk lo hi mode) : SyOk lo hi mode 0 (sy0 lo hi mode) := by
  have hH : Holds ⟨lo, hi, mode, -1099511627777, -1099511627777, 0, [], []⟩ [] [] := Holds.new _ _ _ _ _ _
  exact ⟨hH, ⟨rfl, rfl, rfl⟩, h, jok_of hH h (Nat.zero_le _) (Nat.zero_le _) (Nat.zero_le _) (Nat.zero_le _) (by show (0 : Int) ≤ 0 ∧ (0 : Int) ≤ 1000000; omega), by simp [sy0], by simp [sy0], by simp [sy0], by simp [sy0], by simp [sy0], by simp [sy0]⟩

theorem ltale_new (low high md : Int) (w : World) :
    Calls Tryz.prog 8 #[.int .i64 low, .int .i64 high, .int .i64 md] w fun e w' => ∃ bt, e = .returned (.pointer (some ⟨bt, 0, none⟩)) ∧ ∃ P, LTale w.heap.size bt (loOf low) (hiOf low high) (modeOf md) (sy0 (loOf low) (hiOf low high) (modeOf md)) 0 P w' ∧ (∀ k, P k → w.heap.size ≤ k) ∧ Below w.heap.size w w' := by
  refine (tale_new (fun be lo hi mode S W => PE ⟨⟨lo, hi, mode, -1099511627777, -1099511627777, 0, [], []⟩, 0, 0, []⟩ be S W) low high md w (fun be lo hi mode => pe_steady _ _) (fun lo hi mode W h => pe_new lo hi mode W h)).mono ?_
  rintro e w' ⟨bt, be, bf, S, rfl, h1, h2, h3, h4, h5, h6⟩
  refine ⟨bt, rfl, fun k => S k ∨ k = bt ∨ k = bf ∨ (Value.slice none 0 0).ownBlock = some k ∨ (Value.slice none 0 0).ownBlock = some k, ⟨be, bf, 0, .slice none 0 0, .slice none 0 0, [], [], S, h1, h2, fun k hk => ⟨(h3 k hk).2.1, (h3 k hk).2.2.1, (h3 k hk).2.2.2, by simp [Value.ownBlock], by simp [Value.ownBlock]⟩, fun k => Iff.rfl, ?_, ?_, by omega⟩, ?_, h6⟩
  · unfold viewOf allOf; simp [sy0]
  · unfold viewOf allOf; simp [sy0]
  · rintro k (g | g | g | g | g)
    · exact (h3 k g).1
    · omega
    · omega
    · simp [Value.ownBlock] at g
    · simp [Value.ownBlock] at g

/-- Two tales; K: other blocks. -/
structure Duo (w1 : World) (ba bb : Nat) (lo hi mode : Int) (sa sb : Sy) (na nb : Nat) (K : Nat → Prop) (w : World) : Prop where
  ex : ∃ (Pa Pb : Nat → Prop) (ca cb : Nat), LTale ca ba lo hi mode sa na Pa w ∧ LTale cb bb lo hi mode sb nb Pb w ∧ (ca ≤ w.heap.size ∧ cb ≤ w.heap.size) ∧ (∀ k, Pa k → ¬ Pb k) ∧ (∀ k, Pa k ∨ Pb k → w1.heap.size ≤ k ∧ ¬ K k)
  kk : ∀ k, K k → k < w.heap.size
  low : Below w1.heap.size w1 w

theorem Duo.below {w1 : World} {ba bb : Nat} {lo hi mode : Int} {sa sb : Sy} {na nb : Nat} {K : Nat → Prop} {w w' : World} (h : Duo w1 ba bb lo hi mode sa sb na nb K w) (hb : Below w.heap.size w w') : Duo w1 ba bb lo hi mode sa sb na nb K w' := by
  obtain ⟨⟨Pa, Pb, ca, cb, h1, h2, hc, h3, h4⟩, hk, hl⟩ := h
  have hz := hb.size
  exact ⟨⟨Pa, Pb, ca, cb, h1.steady hb.size (fun k hk => hb.block k (h1.lt k hk)), h2.steady hb.size (fun k hk => hb.block k (h2.lt k hk)), ⟨by omega, by omega⟩, h3, h4⟩, fun k e => Nat.lt_of_lt_of_le (hk k e) hz, hl.trans (hb.mono hl.size)⟩
theorem Duo.more {w1 : World} {ba bb : Nat} {lo hi mode : Int} {sa sb : Sy} {na nb m : Nat} {K : Nat → Prop} {w : World} (h : Duo w1 ba bb lo hi mode sa sb na nb K w) (ha : na ≤ m) (hb : nb ≤ m) : Duo w1 ba bb lo hi mode sa sb m m K w := by
  obtain ⟨⟨Pa, Pb, ca, cb, h1, h2, hc, h3, h4⟩, hk, hl⟩ := h
  exact ⟨⟨Pa, Pb, ca, cb, h1.more ha, h2.more hb, hc, h3, h4⟩, hk, hl⟩
theorem Duo.alone {w1 : World} {ba bb : Nat} {lo hi mode : Int} {sa sb : Sy} {na nb : Nat} {K : Nat → Prop} {w : World} (h : Duo w1 ba bb lo hi mode sa sb na nb K w) : Duo w1 ba bb lo hi mode sa sb na nb (fun _ => False) w := by
  obtain ⟨⟨Pa, Pb, ca, cb, h1, h2, hc, h3, h4⟩, hk, hl⟩ := h
  exact ⟨⟨Pa, Pb, ca, cb, h1, h2, hc, h3, fun k hk => ⟨(h4 k hk).1, id⟩⟩, fun k e => e.elim, hl⟩
/-- Beside a new block. -/
theorem Duo.beside {w1 : World} {ba bb : Nat} {lo hi mode : Int} {sa sb : Sy} {na nb : Nat} {K : Nat → Prop} {w w' : World} (h : Duo w1 ba bb lo hi mode sa sb na nb K w) (hb : Below w.heap.size w w') (hs : w.heap.size < w'.heap.size) : Duo w1 ba bb lo hi mode sa sb na nb (fun k => k = w.heap.size) w' := by
  obtain ⟨⟨Pa, Pb, ca, cb, h1, h2, hc, h3, h4⟩, hk, hl⟩ := h
  have hz := hb.size
  refine ⟨⟨Pa, Pb, ca, cb, h1.steady hb.size (fun k hk => hb.block k (h1.lt k hk)), h2.steady hb.size (fun k hk => hb.block k (h2.lt k hk)), ⟨by omega, by omega⟩, h3, fun k hk => ⟨(h4 k hk).1, fun e => ?_⟩⟩, fun k e => by omega, hl.trans (hb.mono hl.size)⟩
  rcases hk with g | g
  · have := h1.lt k g; omega
  · have := h2.lt k g; omega

theorem duo_new {w1 w2 w3 : World} {ba bb : Nat} {lo hi mode : Int} {sa sb : Sy} (ha : ∃ P, LTale w1.heap.size ba lo hi mode sa 0 P w2 ∧ (∀ k, P k → w1.heap.size ≤ k) ∧ Below w1.heap.size w1 w2) (hb : ∃ P, LTale w2.heap.size bb lo hi mode sb 0 P w3 ∧ (∀ k, P k → w2.heap.size ≤ k) ∧ Below w2.heap.size w2 w3) : Duo w1 ba bb lo hi mode sa sb 0 0 (fun _ => False) w3 := by
  obtain ⟨Pa, h1, h2, h3⟩ := ha
  obtain ⟨Pb, g1, g2, g3⟩ := hb
  have z1 := h3.size
  have z2 := g3.size
  refine ⟨⟨Pa, Pb, _, _, h1.steady g3.size (fun k hk => g3.block k (h1.lt k hk)), g1, ⟨by omega, by omega⟩, fun k hk hk2 => ?_, fun k hk => ⟨?_, id⟩⟩, fun k e => e.elim, h3.trans (g3.mono h3.size)⟩
  · have := h1.lt k hk
    have := g2 k hk2
    omega
  · rcases hk with g | g
    · exact h2 k g
    · have := g2 k g; omega

theorem Duo.stepA {w1 : World} {ba bb : Nat} {lo hi mode : Int} {sa sb : Sy} {na nb : Nat} {K : Nat → Prop} {w : World} (h : Duo w1 ba bb lo hi mode sa sb na nb K w) (hG : Glob w1) (ho : SyOk lo hi mode na sa) (hn : na ≤ 100) (q : St) (hq : q.wh ≠ 2) :
    Calls Tryz.prog 9 #[.pointer (some ⟨ba, 0, none⟩), .agg #[.int .i64 q.wh, .int .i64 q.s, .int .i64 q.n, .int .i64 q.k, .int .i64 q.t, .int .i64 q.v]] w fun e w' => e = .returned (.bool true) ∧ Duo w1 ba bb lo hi mode (sa.next q) sb (na + 1) nb K w' ∧ ∀ k, K k → w'.heap[k]? = w.heap[k]? := by
  obtain ⟨⟨Pa, Pb, ca, cb, h1, h2, hc, h3, h4⟩, hk, hl⟩ := h
  have hz : 0 < w1.heap.size := World.block_lt_of_cell? _ _ hG.err
  refine (lstep h1 ho hn (hG.below hl).err (fun e => by have := (h4 0 (.inl e)).1; omega) hc.1 q hq).mono ?_
  rintro e w' ⟨rfl, P', g1, g2, g3⟩
  have hlb := h2.lt
  have hsz := g2.size
  have hls := hl.size
  refine ⟨rfl, ⟨⟨P', Pb, ca, cb, g1, h2.steady g2.size (fun k hk => g2.block k (hlb k hk) (fun e => h3 k e hk)), ⟨by omega, by omega⟩, fun k hk hb => ?_, fun k hk2 => ?_⟩, fun k e => Nat.lt_of_lt_of_le (hk k e) hsz, hl.trans (g2.below hl.size (fun k hk => (h4 k (Or.inl hk)).1))⟩, fun k e => g2.block k (hk k e) (fun e2 => (h4 k (.inl e2)).2 e)⟩
  · rcases g3 k hk with g | g
    · exact h3 k g hb
    · have := hlb k hb; omega
  · rcases hk2 with hk2 | hk2
    · rcases g3 k hk2 with g | g
      · exact h4 k (Or.inl g)
      · exact ⟨by omega, fun e => by have := hk k e; omega⟩
    · exact h4 k (Or.inr hk2)
theorem Duo.ofB {w1 : World} {ba bb : Nat} {lo hi mode : Int} {sa sb' : Sy} {na nb' : Nat} {K : Nat → Prop} {w w' : World} {Pa Pb : Nat → Prop} {ca cb : Nat} (h1 : LTale ca ba lo hi mode sa na Pa w) (hc : ca ≤ w.heap.size ∧ cb ≤ w.heap.size) (h3 : ∀ k, Pa k → ¬ Pb k) (h4 : ∀ k, Pa k ∨ Pb k → w1.heap.size ≤ k ∧ ¬ K k) (hk : ∀ k, K k → k < w.heap.size) (hl : Below w1.heap.size w1 w)
    (hN : LNext cb bb lo hi mode sb' nb' Pb w w') : Duo w1 ba bb lo hi mode sa sb' na nb' K w' ∧ ∀ k, K k → w'.heap[k]? = w.heap[k]? := by
  obtain ⟨P', g1, g2, g3⟩ := hN
  have hla := h1.lt
  have hsz := g2.size
  have hls := hl.size
  refine ⟨⟨⟨Pa, P', ca, cb, h1.steady g2.size (fun k hk => g2.block k (hla k hk) (fun e => h3 k hk e)), g1, ⟨by omega, by omega⟩, fun k hk hb => ?_, fun k hk2 => ?_⟩, fun k e => Nat.lt_of_lt_of_le (hk k e) hsz, hl.trans (g2.below hl.size (fun k hk => (h4 k (Or.inr hk)).1))⟩, fun k e => g2.block k (hk k e) (fun e2 => (h4 k (.inr e2)).2 e)⟩
  · rcases g3 k hb with g | g
    · exact h3 k hk g
    · have := hla k hk; omega
  · rcases hk2 with hk2 | hk2
    · exact h4 k (Or.inl hk2)
    · rcases g3 k hk2 with g | g
      · exact h4 k (Or.inr g)
      · exact ⟨by omega, fun e => by have := hk k e; omega⟩
theorem Duo.stepB {w1 : World} {ba bb : Nat} {lo hi mode : Int} {sa sb : Sy} {na nb : Nat} {K : Nat → Prop} {w : World} (h : Duo w1 ba bb lo hi mode sa sb na nb K w) (hG : Glob w1) (ho : SyOk lo hi mode nb sb) (hn : nb ≤ 100) (q : St) (hq : q.wh ≠ 2) :
    Calls Tryz.prog 9 #[.pointer (some ⟨bb, 0, none⟩), .agg #[.int .i64 q.wh, .int .i64 q.s, .int .i64 q.n, .int .i64 q.k, .int .i64 q.t, .int .i64 q.v]] w fun e w' => e = .returned (.bool true) ∧ Duo w1 ba bb lo hi mode sa (sb.next q) na (nb + 1) K w' ∧ ∀ k, K k → w'.heap[k]? = w.heap[k]? := by
  obtain ⟨⟨Pa, Pb, ca, cb, h1, h2, hc, h3, h4⟩, hk, hl⟩ := h
  have hz : 0 < w1.heap.size := World.block_lt_of_cell? _ _ hG.err
  refine (lstep h2 ho hn (hG.below hl).err (fun e => by have := (h4 0 (.inr e)).1; omega) hc.2 q hq).mono ?_
  rintro e w' ⟨rfl, hN⟩
  exact ⟨rfl, Duo.ofB h1 hc h3 h4 hk hl hN⟩
theorem Duo.saveB {w1 : World} {ba bb : Nat} {lo hi mode : Int} {sa sb : Sy} {na nb : Nat} {K : Nat → Prop} {w : World} (h : Duo w1 ba bb lo hi mode sa sb na nb K w) (hG : Glob w1) (ho : SyOk lo hi mode nb sb) (hn : nb ≤ 100) (xs xn xk xt xv : Int) :
    Calls Tryz.prog 9 #[.pointer (some ⟨bb, 0, none⟩), .agg #[.int .i64 2, .int .i64 xs, .int .i64 xn, .int .i64 xk, .int .i64 xt, .int .i64 xv]] w fun e w' => e = .returned (.bool true) ∧ Duo w1 ba bb lo hi mode sa sb na nb K w' := by
  obtain ⟨⟨Pa, Pb, ca, cb, h1, h2, hc, h3, h4⟩, hk, hl⟩ := h
  refine (lsave h2 ho hn (hG.below hl) xs xn xk xt xv).mono ?_
  rintro e w' ⟨rfl, hN⟩
  exact ⟨rfl, (Duo.ofB h1 hc h3 h4 hk hl hN).1⟩

theorem slice_len {w : World} {base e size n : Nat} {v : Value} {xs : List Value} (h : w.ownsRow base e size v n xs) : ∃ oa c, v = .slice oa n c := by
  rcases Go.Joins.ownsRow_forms h with ⟨rfl, h0⟩ | ⟨g, ck, rfl⟩
  · exact ⟨none, 0, by rw [h0]⟩
  · exact ⟨_, ck, rfl⟩

abbrev CellsT (bt be : Nat) (oa ob : Option Addr) (la ca lb cb : Nat) (W : World) : Prop := W.cell? ⟨bt, 0, none⟩ = some (.pointer (some ⟨be, 0, none⟩)) ∧ W.cell? ⟨bt, 4, none⟩ = some (.slice oa la ca) ∧ W.cell? ⟨bt, 5, none⟩ = some (.slice ob lb cb) ∧ bt < W.heap.size

/-- Both are told alike. -/
theorem duo_facts {w1 : World} {ba bb : Nat} {lo hi mode : Int} {s : Sy} {n : Nat} {K : Nat → Prop} {w : World} (h : Duo w1 ba bb lo hi mode s s n n K w) (ho : SyOk lo hi mode n s) (hn : n ≤ 100) (hG : Glob w1) :
    ∃ (be1 be2 : Nat) (oa1 ob1 oa2 ob2 : Option Addr) (ca1 cb1 ca2 cb2 : Nat) (txt : ByteArray) (ev : Value) (c0 : Int),
      Hid (∀ W, Below w.heap.size w W → CellsT ba be1 oa1 ob1 s.A.length ca1 s.B.length cb1 W ∧ CellsT bb be2 oa2 ob2 s.A.length ca2 s.B.length cb2 W) ∧
      Hid (∀ W, Below w.heap.size w W → Calls Tryz.prog 21 #[.pointer (some ⟨be1, 0, none⟩)] W fun e w' => e = .returned (.tuple #[.string txt, ev]) ∧ Below W.heap.size W w') ∧
      Hid (∀ W, Below w.heap.size w W → Calls Tryz.prog 21 #[.pointer (some ⟨be2, 0, none⟩)] W fun e w' => e = .returned (.tuple #[.string txt, ev]) ∧ Below W.heap.size W w') ∧
      Hid (∀ W, Below w.heap.size w W → Calls Tryz.prog 22 #[ev] W fun e w' => e = .returned (.int .i64 c0) ∧ Below W.heap.size W w') ∧
      Hid (∀ W, Below w.heap.size w W → Calls Tryz.prog 23 #[.pointer (some ⟨be1, 0, none⟩)] W fun e w' => e = .returned (.int .i64 s.x.late) ∧ w' = W) ∧
      Hid (∀ W, Below w.heap.size w W → Calls Tryz.prog 23 #[.pointer (some ⟨be2, 0, none⟩)] W fun e w' => e = .returned (.int .i64 s.x.late) ∧ w' = W) := by
  obtain ⟨⟨Pa, Pb, ca, cb, h1, h2, hc, h3, h4⟩, hk, hl⟩ := h
  obtain ⟨be1, bf1, nF1, va1, vb1, F1, L1, S1, h1⟩ := h1
  obtain ⟨be2, bf2, nF2, va2, vb2, F2, L2, S2, h2⟩ := h2
  obtain ⟨oa1, ca1, ea1⟩ := slice_len h1.tale.r0
  obtain ⟨ob1, cb1, eb1⟩ := slice_len h1.tale.r1
  obtain ⟨oa2, ca2, ea2⟩ := slice_len h2.tale.r0
  obtain ⟨ob2, cb2, eb2⟩ := slice_len h2.tale.r1
  subst ea1 eb1 ea2 eb2
  obtain ⟨Z, hZ1, hZo⟩ := sorted_of L1
  have hLL : L1.Perm L2 := h1.lv.trans h2.lv.symm
  have hZ2 := hZ1.trans hLL
  have hv := ho.sv hn h1.eng
  have hT1 : ∀ o ∈ L1, TellO o := fun o ho2 => mem_viewOf ho.sa ho.sb o (h1.lv.subset ho2)
  have hT2 : ∀ o ∈ L2, TellO o := fun o ho2 => mem_viewOf ho.sa ho.sb o (h2.lv.subset ho2)
  have hGw := hG.below hl
  have f1 := pe_foot h1.eng
  have f2 := pe_foot h2.eng
  have up1 : ∀ W, Below w.heap.size w W → PE ⟨s.x, s.f0, s.f1, L1⟩ be1 S1 W := fun W hW => pe_steady _ _ S1 w W h1.eng hW.size (fun k hk => hW.block k (f1 k hk))
  have up2 : ∀ W, Below w.heap.size w W → PE ⟨s.x, s.f0, s.f1, L2⟩ be2 S2 W := fun W hW => pe_steady _ _ S2 w W h2.eng hW.size (fun k hk => hW.block k (f2 k hk))
  have cells : ∀ W, Below w.heap.size w W → CellsT ba be1 oa1 ob1 s.A.length ca1 s.B.length cb1 W ∧ CellsT bb be2 oa2 ob2 s.A.length ca2 s.B.length cb2 W := fun W hW => by
    have b1 := (h1.tale.below hW).blk
    have b2 := (h2.tale.below hW).blk
    exact ⟨⟨by rw [Go.Joins.cell_of_block b1]; rfl, by rw [Go.Joins.cell_of_block b1]; rfl, by rw [Go.Joins.cell_of_block b1]; rfl, (h1.tale.below hW).lt⟩, ⟨by rw [Go.Joins.cell_of_block b2]; rfl, by rw [Go.Joins.cell_of_block b2]; rfl, by rw [Go.Joins.cell_of_block b2]; rfl, (h2.tale.below hW).lt⟩⟩
  by_cases hlim : 5000 < L1.length ∨ 60000 < (savedB s.x s.f0 s.f1 Z).length
  · refine ⟨be1, be2, oa1, ob1, oa2, ob2, ca1, cb1, ca2, cb2, ⟨#[]⟩, .iface 70 (.int .i64 4), 4, cells, fun W hW => ?_, fun W hW => ?_, fun W hW => tell_err 4 W (hGw.below hW).err, fun W hW => pe_lateN (up1 W hW), fun W hW => pe_lateN (up2 W hW)⟩
    · have := pe_saved (up1 W hW) (hGw.below hW) hv hT1 hZ1 hZo
      rw [if_pos hlim] at this
      exact this
    · have := pe_saved (up2 W hW) (hGw.below hW) hv hT2 hZ2 hZo
      rw [if_pos (by rw [← hLL.length_eq]; exact hlim)] at this
      exact this
  · refine ⟨be1, be2, oa1, ob1, oa2, ob2, ca1, cb1, ca2, cb2, ⟨(savedB s.x s.f0 s.f1 Z).toArray⟩, .nilIface, 0, cells, fun W hW => ?_, fun W hW => ?_, fun W hW => (tell_nil W).mono (by rintro e w' ⟨rfl, rfl⟩; exact ⟨rfl, Below.refl _ _⟩), fun W hW => pe_lateN (up1 W hW), fun W hW => pe_lateN (up2 W hW)⟩
    · have := pe_saved (up1 W hW) (hGw.below hW) hv hT1 hZ1 hZo
      rw [if_neg hlim] at this
      exact this
    · have := pe_saved (up2 W hW) (hGw.below hW) hv hT2 hZ2 hZo
      rw [if_neg (by rw [← hLL.length_eq]; exact hlim)] at this
      exact this

end Go.Proofs.YtmmbjbgimpgcfaaGreatDoor
