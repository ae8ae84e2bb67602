/- An engine whose numbers are all known: what each call leaves. -/
import Derived.Test.YthfpipieboophaaGreatDoorLdx
namespace Go.Proofs.YthfpipieboophaaGreatDoor
open Go.RowKit Go.Sort Go.Shelf
set_option maxRecDepth 100000
theorem pe_foot {st : Sx} {be : Nat} {S : Nat → Prop} {W : World} (h : PE st be S W) : ∀ k, S k → k < W.heap.size := by
  obtain ⟨bj, bm, v0, v1, om, Sg, h, hS⟩ := h
  exact fun k e => h.lt ((hS k).1 e)
theorem pe_new (lo hi mode : Int) (W : World) (h : planOk lo hi mode) : Calls Tryz.prog 13 #[.agg #[.int .i64 lo, .int .i64 hi, .int .i64 mode]] W fun e w' => ∃ be S, e = .returned (.tuple #[.pointer (some ⟨be, 0, none⟩), .nilIface]) ∧ PE ⟨⟨lo, hi, mode, -1099511627777, -1099511627777, 0, [], []⟩, 0, 0, []⟩ be S w' ∧ (∀ k, S k → W.heap.size ≤ k ∧ k < w'.heap.size) ∧ Below W.heap.size W w' := by
  refine (enew_ok lo hi mode W h).mono ?_
  rintro e w' ⟨be, bj, bm, rfl, hE, l1, l2, l3, hb⟩
  refine ⟨be, footE bj bm (.slice none 0 0) (.slice none 0 0) none (fun k => k = be), rfl, ⟨bj, bm, _, _, none, _, hE, fun _ => Iff.rfl⟩, fun k e => ⟨?_, hE.lt e⟩, hb⟩
  rcases e with (e | e | e | e) | e | e
  · omega
  · omega
  · cases e
  · cases e
  · cases e
  · omega
theorem pe_feed0 {x : J} {f0 f1 : Int} (r : Rw) {be : Nat} {L : List O} {S : Nat → Prop} {W : World} (hE : PE ⟨x, f0, f1, L⟩ be S W) (hJ : JOk x) (hg : goodI r.k r.t r.v = true) (hlate : x.m0 < r.t) (hroom : x.m1 < r.t + x.hi → x.R0.length < 300) (hok : okC L (cF0 x r)) (hwf : ∀ c ∈ cF0 x r, c.x.wf) (hL : L.length ≤ 1000000) :
    Calls Tryz.prog 11 #[.pointer (some ⟨be, 0, none⟩), .int .i64 0, .agg #[.int .i64 r.k, .int .i64 r.t, .int .i64 r.v]] W fun e w' => ∃ v9 S', e = .returned (.tuple #[v9, .nilIface]) ∧ w'.ownsRow W.heap.size 95 10 v9 (cF0 x r).length ((cF0 x r).flatMap encC) ∧ PE ⟨x.fed0 r.k r.t r.v, satI f0, f1, appC L (cF0 x r)⟩ be S' w' ∧ FootTo S S' W w' := by
  obtain ⟨bj, bm, v0, v1, om, Sg, h, hS⟩ := hE
  have hcl : (cF0 x r).length ≤ 1000000 := by
    have h1 := chgsA_len x.mode 0 r.k r.t r.v (metR r.k (r.t + x.lo) (r.t + x.hi) x.R1)
    have h2 := metS_len r.k (r.t + x.lo) (r.t + x.hi) hJ.s1
    have h3 := hJ.l1
    show (chgs x.mode 0 r.k r.t r.v (metR r.k (r.t + x.lo) (r.t + x.hi) x.R1)).length ≤ _
    omega
  refine (efeed0 be bj bm v0 v1 f0 f1 om Sg x (x.fed0 r.k r.t r.v) L (cF0 x r) r.k r.t r.v W h ⟨rfl, rfl, rfl⟩ (fun W hW => ?_) hok hwf hL hcl).mono ?_
  · refine (feed_ok0 0 bj bm v0 v1 x r.k r.t r.v W hW (Nat.zero_le _) hg hJ.lo1 hJ.lo2 hJ.hi1 hJ.hi2 hJ.s0 hJ.s1 hJ.l0 hJ.l1 (fun y hy => by have := hJ.n1 y hy; omega) (by omega) hroom).mono ?_
    rintro e w' ⟨v9, v', rfl, h1, h2, h3, h4⟩
    refine ⟨v9, v', v1, rfl, h1, h2, h3.mono (fun k e => e.elim .inl (fun e => e.elim (fun e => .inr (.inr (.inl e))) (fun e => .inr (.inr (.inr e))))), footJ_new h4 (.inl rfl), fun k e => ?_⟩
    have hl := (h2.lt k e).1
    rintro (e2 | e2 | e2 | e2)
    · have := hW.lt; omega
    · have := hW.ltm; omega
    · exact own_apart h2 h1.r0 (by decide) e e2
    · have := (hW.r1.lt k e2).2; omega
  · rintro e w' ⟨v9, v0', v1', rfl, hF⟩
    obtain ⟨om', Sg', h1, h2, h3⟩ := hF.ex
    rw [List.take_length] at h1
    exact ⟨v9, footE bj bm v0' v1' om' Sg', rfl, hF.row, ⟨bj, bm, v0', v1', om', Sg', h1, fun _ => Iff.rfl⟩, ⟨fun k e => ⟨(h2 k e).imp (hS k).2 id, h1.lt e⟩, hF.turn.mono (fun k e => (hS k).2 e)⟩⟩
theorem pe_late0 {x : J} {f0 f1 : Int} (r : Rw) {be : Nat} {L : List O} {S : Nat → Prop} {W : World} (hg0 : W.cell? ⟨2, 0, none⟩ = some errT) (hE : PE ⟨x, f0, f1, L⟩ be S W) (hJ : JOk x) (hg : goodI r.k r.t r.v = true) (hl : r.t ≤ x.m0) :
    Calls Tryz.prog 11 #[.pointer (some ⟨be, 0, none⟩), .int .i64 0, .agg #[.int .i64 r.k, .int .i64 r.t, .int .i64 r.v]] W fun e w' => ∃ S', e = .returned (.tuple #[.slice none 0 0, .iface 24 (.int .i64 10)]) ∧ PE ⟨{ x with late := moreI x.late }, satI f0, f1, L⟩ be S' w' ∧ FootTo S S' W w' := by
  obtain ⟨bj, bm, v0, v1, om, Sg, h, hS⟩ := hE
  have hlt := hJ.late
  refine (efeed_late0 be bj bm v0 v1 f0 f1 om Sg x { x with late := moreI x.late } L L r.k r.t r.v W hg0 h ⟨rfl, rfl, rfl⟩ (fun W hW => feed_late0 0 bj bm v0 v1 x r.k r.t r.v W hW hg hl (by omega) (by omega))).mono ?_
  rintro e w' ⟨rfl, h1, h2⟩
  exact ⟨S, rfl, ⟨bj, bm, v0, v1, om, Sg, h1, hS⟩, fun k e => ⟨.inl e, h1.lt ((hS k).1 e)⟩, h2.mono (fun k e => (hS k).2 e)⟩
theorem pe_full0 {x : J} {f0 f1 : Int} (r : Rw) {be : Nat} {L : List O} {S : Nat → Prop} {W : World} (hg0 : W.cell? ⟨2, 0, none⟩ = some errT) (hE : PE ⟨x, f0, f1, L⟩ be S W) (hJ : JOk x) (hg : goodI r.k r.t r.v = true) (hl : x.m0 < r.t) (hl2 : x.m1 < r.t + x.hi) (hl3 : 300 ≤ x.R0.length) :
    Calls Tryz.prog 11 #[.pointer (some ⟨be, 0, none⟩), .int .i64 0, .agg #[.int .i64 r.k, .int .i64 r.t, .int .i64 r.v]] W fun e w' => ∃ S', e = .returned (.tuple #[.slice none 0 0, .iface 24 (.int .i64 12)]) ∧ PE ⟨x, f0, f1, L⟩ be S' w' ∧ FootTo S S' W w' := by
  obtain ⟨bj, bm, v0, v1, om, Sg, h, hS⟩ := hE
  refine (efeed_full0 be bj bm v0 v1 f0 f1 om Sg x L L r.k r.t r.v W hg0 h (fun W hW => feed_full0 0 bj bm v0 v1 x r.k r.t r.v W hW hg hJ.lo1 hJ.lo2 hJ.hi1 hJ.hi2 (by omega) hl2 hl3)).mono ?_
  rintro e w' ⟨rfl, hb⟩
  have h1 := h.below hb
  exact ⟨S, rfl, ⟨bj, bm, v0, v1, om, Sg, h1, hS⟩, fun k e => ⟨.inl e, h1.lt ((hS k).1 e)⟩, Turned.of_below hb⟩
theorem pe_feed1 {x : J} {f0 f1 : Int} (r : Rw) {be : Nat} {L : List O} {S : Nat → Prop} {W : World} (hE : PE ⟨x, f0, f1, L⟩ be S W) (hJ : JOk x) (hg : goodI r.k r.t r.v = true) (hlate : x.m1 < r.t) (hroom : x.m0 < r.t + -x.lo → x.R1.length < 300) (hok : okC L (cF1 x r)) (hwf : ∀ c ∈ cF1 x r, c.x.wf) (hL : L.length ≤ 1000000) :
    Calls Tryz.prog 11 #[.pointer (some ⟨be, 0, none⟩), .int .i64 1, .agg #[.int .i64 r.k, .int .i64 r.t, .int .i64 r.v]] W fun e w' => ∃ v9 S', e = .returned (.tuple #[v9, .nilIface]) ∧ w'.ownsRow W.heap.size 95 10 v9 (cF1 x r).length ((cF1 x r).flatMap encC) ∧ PE ⟨x.fed1 r.k r.t r.v, f0, satI f1, appC L (cF1 x r)⟩ be S' w' ∧ FootTo S S' W w' := by
  obtain ⟨bj, bm, v0, v1, om, Sg, h, hS⟩ := hE
  have hcl : (cF1 x r).length ≤ 1000000 := by
    have h1 := chgsA_len x.mode 1 r.k r.t r.v (metR r.k (r.t + -x.hi) (r.t + -x.lo) x.R0)
    have h2 := metS_len r.k (r.t + -x.hi) (r.t + -x.lo) hJ.s0
    have h3 := hJ.l0
    show (chgs x.mode 1 r.k r.t r.v (metR r.k (r.t + -x.hi) (r.t + -x.lo) x.R0)).length ≤ _
    omega
  refine (efeed1 be bj bm v0 v1 f0 f1 om Sg x (x.fed1 r.k r.t r.v) L (cF1 x r) r.k r.t r.v W h ⟨rfl, rfl, rfl⟩ (fun W hW => ?_) hok hwf hL hcl).mono ?_
  · refine (feed_ok1 0 bj bm v0 v1 x r.k r.t r.v W hW (Nat.zero_le _) hg hJ.lo1 hJ.lo2 hJ.hi1 hJ.hi2 hJ.s0 hJ.s1 hJ.l0 hJ.l1 (fun y hy => by have := hJ.n0 y hy; omega) (by omega) hroom).mono ?_
    rintro e w' ⟨v9, v', rfl, h1, h2, h3, h4⟩
    refine ⟨v9, v0, v', rfl, h1, h2, h3.mono (fun k e => e.elim .inl (fun e => e.elim (fun e => .inr (.inr (.inl e))) (fun e => .inr (.inr (.inr e))))), footJ_new (.inl rfl) h4, fun k e => ?_⟩
    have hl := (h2.lt k e).1
    rintro (e2 | e2 | e2 | e2)
    · have := hW.lt; omega
    · have := hW.ltm; omega
    · have := (hW.r0.lt k e2).2; omega
    · exact own_apart h2 h1.r1 (by decide) e e2
  · rintro e w' ⟨v9, v0', v1', rfl, hF⟩
    obtain ⟨om', Sg', h1, h2, h3⟩ := hF.ex
    rw [List.take_length] at h1
    exact ⟨v9, footE bj bm v0' v1' om' Sg', rfl, hF.row, ⟨bj, bm, v0', v1', om', Sg', h1, fun _ => Iff.rfl⟩, ⟨fun k e => ⟨(h2 k e).imp (hS k).2 id, h1.lt e⟩, hF.turn.mono (fun k e => (hS k).2 e)⟩⟩
theorem pe_late1 {x : J} {f0 f1 : Int} (r : Rw) {be : Nat} {L : List O} {S : Nat → Prop} {W : World} (hg0 : W.cell? ⟨2, 0, none⟩ = some errT) (hE : PE ⟨x, f0, f1, L⟩ be S W) (hJ : JOk x) (hg : goodI r.k r.t r.v = true) (hl : r.t ≤ x.m1) :
    Calls Tryz.prog 11 #[.pointer (some ⟨be, 0, none⟩), .int .i64 1, .agg #[.int .i64 r.k, .int .i64 r.t, .int .i64 r.v]] W fun e w' => ∃ S', e = .returned (.tuple #[.slice none 0 0, .iface 24 (.int .i64 10)]) ∧ PE ⟨{ x with late := moreI x.late }, f0, satI f1, L⟩ be S' w' ∧ FootTo S S' W w' := by
  obtain ⟨bj, bm, v0, v1, om, Sg, h, hS⟩ := hE
  have hlt := hJ.late
  refine (efeed_late1 be bj bm v0 v1 f0 f1 om Sg x { x with late := moreI x.late } L L r.k r.t r.v W hg0 h ⟨rfl, rfl, rfl⟩ (fun W hW => feed_late1 0 bj bm v0 v1 x r.k r.t r.v W hW hg hl (by omega) (by omega))).mono ?_
  rintro e w' ⟨rfl, h1, h2⟩
  exact ⟨S, rfl, ⟨bj, bm, v0, v1, om, Sg, h1, hS⟩, fun k e => ⟨.inl e, h1.lt ((hS k).1 e)⟩, h2.mono (fun k e => (hS k).2 e)⟩
theorem pe_full1 {x : J} {f0 f1 : Int} (r : Rw) {be : Nat} {L : List O} {S : Nat → Prop} {W : World} (hg0 : W.cell? ⟨2, 0, none⟩ = some errT) (hE : PE ⟨x, f0, f1, L⟩ be S W) (hJ : JOk x) (hg : goodI r.k r.t r.v = true) (hl : x.m1 < r.t) (hl2 : x.m0 < r.t + -x.lo) (hl3 : 300 ≤ x.R1.length) :
    Calls Tryz.prog 11 #[.pointer (some ⟨be, 0, none⟩), .int .i64 1, .agg #[.int .i64 r.k, .int .i64 r.t, .int .i64 r.v]] W fun e w' => ∃ S', e = .returned (.tuple #[.slice none 0 0, .iface 24 (.int .i64 12)]) ∧ PE ⟨x, f0, f1, L⟩ be S' w' ∧ FootTo S S' W w' := by
  obtain ⟨bj, bm, v0, v1, om, Sg, h, hS⟩ := hE
  refine (efeed_full1 be bj bm v0 v1 f0 f1 om Sg x L L r.k r.t r.v W hg0 h (fun W hW => feed_full1 0 bj bm v0 v1 x r.k r.t r.v W hW hg hJ.lo1 hJ.lo2 hJ.hi1 hJ.hi2 (by omega) hl2 hl3)).mono ?_
  rintro e w' ⟨rfl, hb⟩
  have h1 := h.below hb
  exact ⟨S, rfl, ⟨bj, bm, v0, v1, om, Sg, h1, hS⟩, fun k e => ⟨.inl e, h1.lt ((hS k).1 e)⟩, Turned.of_below hb⟩
theorem pe_move0 {x : J} {f0 f1 : Int} (t : Int) {be : Nat} {L : List O} {S : Nat → Prop} {W : World} (hE : PE ⟨x, f0, f1, L⟩ be S W) (hJ : JOk x) (hm : x.m0 ≤ t) (ht : -1099511627776 ≤ t ∧ t ≤ 1099511627776) :
    Calls Tryz.prog 15 #[.pointer (some ⟨be, 0, none⟩), .int .i64 0, .int .i64 t] W fun e w' => ∃ S', e = .returned .nilIface ∧ PE ⟨{ x with m0 := t, R1 := keepR (fun y => decide (y.t ≤ t + x.lo)) x.R1 }, f0, f1, L⟩ be S' w' ∧ FootTo S S' W w' := by
  obtain ⟨bj, bm, v0, v1, om, Sg, h, hS⟩ := hE
  have he : moveE x.m0 x.m1 0 t = 0 := by
    unfold moveE
    rw [if_neg (by decide), if_neg (by omega), if_neg (by simp [ofI]; omega)]
  refine (emove_any be bj bm v0 v1 f0 f1 om Sg x { x with m0 := t, R1 := keepR (fun y => decide (y.t ≤ t + x.lo)) x.R1 } L L 0 t W h ⟨rfl, rfl, rfl⟩ (fun W hW => ?_)).mono ?_
  · refine (jmove_ok0 0 bj bm v0 v1 x t W hW he (by have := hJ.l1; omega) hJ.lo1 hJ.lo2 hJ.hi1 hJ.hi2).mono ?_
    rintro e w' ⟨rfl, v', h1, h2, h3⟩
    exact ⟨rfl, v0, v', h1, h2.mono (fun k e => e.elim .inl (fun e => e.elim (fun e => .inr (.inl e)) (fun e => .inr (.inr (.inr e))))), rfl, h3⟩
  · rintro e w' ⟨rfl, v0', v1', h1, h2, h3, h4⟩
    have hS' : ∀ k, S k ↔ footE bj bm v0' v1' om Sg k := fun k => by rw [hS k]; unfold footE footJ; rw [h3, h4]
    exact ⟨S, rfl, ⟨bj, bm, v0', v1', om, Sg, h1, hS'⟩, fun k e => ⟨.inl e, h1.lt ((hS' k).1 e)⟩, h2.mono (fun k e => (hS k).2 e)⟩
theorem pe_move1 {x : J} {f0 f1 : Int} (t : Int) {be : Nat} {L : List O} {S : Nat → Prop} {W : World} (hE : PE ⟨x, f0, f1, L⟩ be S W) (hJ : JOk x) (hm : x.m1 ≤ t) (ht : -1099511627776 ≤ t ∧ t ≤ 1099511627776) :
    Calls Tryz.prog 15 #[.pointer (some ⟨be, 0, none⟩), .int .i64 1, .int .i64 t] W fun e w' => ∃ S', e = .returned .nilIface ∧ PE ⟨{ x with m1 := t, R0 := keepR (fun y => decide (y.t ≤ t - x.hi)) x.R0 }, f0, f1, L⟩ be S' w' ∧ FootTo S S' W w' := by
  obtain ⟨bj, bm, v0, v1, om, Sg, h, hS⟩ := hE
  have he : moveE x.m0 x.m1 1 t = 0 := by
    unfold moveE
    rw [if_neg (by decide), if_neg (by omega), if_neg (by simp [ofI]; omega)]
  refine (emove_any be bj bm v0 v1 f0 f1 om Sg x { x with m1 := t, R0 := keepR (fun y => decide (y.t ≤ t - x.hi)) x.R0 } L L 1 t W h ⟨rfl, rfl, rfl⟩ (fun W hW => ?_)).mono ?_
  · refine (jmove_ok1 0 bj bm v0 v1 x t W hW he (by have := hJ.l0; omega) hJ.hi1 hJ.hi2).mono ?_
    rintro e w' ⟨rfl, v', h1, h2, h3⟩
    exact ⟨rfl, v', v1, h1, h2.mono (fun k e => e.elim .inl (fun e => e.elim (fun e => .inr (.inl e)) (fun e => .inr (.inr (.inl e))))), h3, rfl⟩
  · rintro e w' ⟨rfl, v0', v1', h1, h2, h3, h4⟩
    have hS' : ∀ k, S k ↔ footE bj bm v0' v1' om Sg k := fun k => by rw [hS k]; unfold footE footJ; rw [h3, h4]
    exact ⟨S, rfl, ⟨bj, bm, v0', v1', om, Sg, h1, hS'⟩, fun k e => ⟨.inl e, h1.lt ((hS' k).1 e)⟩, h2.mono (fun k e => (hS k).2 e)⟩
theorem pe_lateN {st : Sx} {be : Nat} {S : Nat → Prop} {w : World} (hE : PE st be S w) : Calls Tryz.prog 25 #[.pointer (some ⟨be, 0, none⟩)] w fun e w' => e = .returned (.int .i64 st.x.late) ∧ w' = w := by
  obtain ⟨bj, bm, v0, v1, om, Sg, h, hS⟩ := hE
  have H : Hid (Calls Tryz.prog 67 #[.pointer (some ⟨bj, 0, none⟩)] w fun e w' => e = .returned (.int .i64 st.x.late) ∧ w' = w) := jlate_any 0 bj bm v0 v1 st.x w h.join
  have hc := h.cells.2.2.2.1
  have hlt := h.blt
  clear h hS
  go_enter Tryz.func25, Tryz.ntmps25
  go_wp2_with (first
    | (go_at_call 67; refine H.out.mono ?_; rintro e w' ⟨rfl, hw⟩; have hw := hw.symm; subst hw)
    | fail)
  go_ret
  exact ⟨rfl, rfl⟩
end Go.Proofs.YthfpipieboophaaGreatDoor
