/- An engine: what it says, of rows that are taken; what it shows. -/
import Derived.Test.YtmmbjbgimpgcfaaGreatDoorEnz
import Derived.Test.YtmmbjbgimpgcfaaGreatDoorEvb
import Derived.Test.YtmmbjbgimpgcfaaGreatDoorBagq
import Derived.Test.YtmmbjbgimpgcfaaGreatDoorShelfP
namespace Go.Proofs.YtmmbjbgimpgcfaaGreatDoor
open Go.RowKit Go.Sort Go.Shelf
set_option maxRecDepth 100000

theorem nil_says : NilSays := fun w =>
  (AnyF.slices_SortFunc_none { Tryz.sortO with } none 0 (.func (.func 54) #[] #[]) w).mono fun _ _ h => h

theorem order_eq {Z Z' : List O} (h : Z.Perm Z') (h1 : InOrder Z) (h2 : InOrder Z') : Z = Z' := by
  refine List.Perm.eq_of_pairwise (le := fun a b => cO a b ≤ 0) (fun a b _ _ h3 h4 => ?_) h1 h2 h
  rw [cO_neg] at h4
  exact (cO_zero a b).1 (by omega)

/-- Block be is an engine whose join is x, whose view holds L, in the blocks S. -/
def EngAt (be : Nat) (x : J) (L : List O) (S : Nat → Prop) (w : World) : Prop :=
  ∃ bj bm v0 v1 f0 f1 om Sg, EngIn w be bj bm v0 v1 f0 f1 om Sg x L L ∧ ∀ k, S k ↔ footE bj bm v0 v1 om Sg k
theorem engAt_steady (be : Nat) (x : J) (L : List O) : Steady (EngAt be x L) := by
  rintro S W W' ⟨bj, bm, v0, v1, f0, f1, om, Sg, h, hS⟩ hs hk
  exact ⟨bj, bm, v0, v1, f0, f1, om, Sg, h.still hs (fun k e => hk k ((hS k).2 e)), hS⟩
theorem engAt_foot (be : Nat) (x : J) (L : List O) (S : Nat → Prop) (W : World) (h : EngAt be x L S W) : ∀ k, S k → k < W.heap.size := by
  obtain ⟨bj, bm, v0, v1, f0, f1, om, Sg, h, hS⟩ := h
  exact fun k e => h.lt ((hS k).1 e)



theorem own_apart {w : World} {b1 b2 e1 e2 s1 s2 n1 n2 : Nat} {u v : Value} {xs ys : List Value} (h1 : w.ownsRow b1 e1 s1 u n1 xs) (h2 : w.ownsRow b2 e2 s2 v n2 ys) (hne : e1 ≠ e2) {k : Nat} (hk : u.ownBlock = some k) : v.ownBlock ≠ some k := by
  rcases h1.2 with ⟨rfl, _⟩ | ⟨g, cap, cur, rfl, _, hg, _⟩
  · simp [Value.ownBlock] at hk
  · rcases h2.2 with ⟨rfl, _⟩ | ⟨g', cap', cur', rfl, _, hg', _⟩
    · simp [Value.ownBlock]
    · simp [Value.ownBlock] at hk ⊢
      subst hk
      intro e
      subst e
      rw [hg] at hg'
      cases hg'
      exact hne rfl

theorem metS_len (k a b : Int) {R : List D} (h : SortedR R) : (metR k a b R).length ≤ R.length := by
  rw [met_is_filter h]
  exact List.length_filter_le _ _

theorem footJ_new {w : World} {bj bm : Nat} {v0 v1 v0' v1' : Value} (h0 : Fresh w v0 v0') (h1 : Fresh w v1 v1') : ∀ k, footJ bj bm v0' v1' k → footJ bj bm v0 v1 k ∨ w.heap.size ≤ k := by
  rintro k (e | e | e | e)
  · exact .inl (.inl e)
  · exact .inl (.inr (.inl e))
  · rcases h0 with h | ⟨g, h, hl⟩
    · exact .inl (.inr (.inr (.inl (by rw [← h]; exact e))))
    · rw [h] at e; cases e; exact .inr hl
  · rcases h1 with h | ⟨g, h, hl⟩
    · exact .inl (.inr (.inr (.inr (by rw [← h]; exact e))))
    · rw [h] at e; cases e; exact .inr hl

theorem engFeed0 (x : J) (r : Rw) {be : Nat} {L : List O} {S : Nat → Prop} {W : World} (hE : EngAt be x L S W) (hJ : JOk x) (hg : goodI r.k r.t r.v = true) (hlate : x.m0 < r.t) (hroom : x.m1 < r.t + x.hi → x.R0.length < 300) (hok : okC L (cF0 x r)) (hwf : ∀ c ∈ cF0 x r, c.x.wf) (hL : L.length ≤ 1000000) :
    Calls Tryz.prog 25 #[.pointer (some ⟨be, 0, none⟩), .int .i64 0, .agg #[.int .i64 r.k, .int .i64 r.t, .int .i64 r.v]] W fun e w' => ∃ v9 S', e = .returned (.tuple #[v9, .nilIface]) ∧ w'.ownsRow W.heap.size 66 10 v9 (cF0 x r).length ((cF0 x r).flatMap encC) ∧ EngAt be (x.fed0 r.k r.t r.v) (appC L (cF0 x r)) S' w' ∧ FootTo S S' W w' ∧ ∀ k, v9.ownBlock = some k → ¬ S' k := by
  obtain ⟨bj, bm, v0, v1, f0, f1, om, Sg, h, hS⟩ := hE
  have hcl : (cF0 x r).length ≤ 1000000 := by
    have h1 := chgsA_len x.mode 0 r.k r.t r.v (metR r.k (r.t + x.lo) (r.t + x.hi) x.R1)
    have h2 := metS_len r.k (r.t + x.lo) (r.t + x.hi) hJ.s1
    have h3 := hJ.l1
    show (chgs x.mode 0 r.k r.t r.v (metR r.k (r.t + x.lo) (r.t + x.hi) x.R1)).length ≤ _
    omega
  refine (efeed0 be bj bm v0 v1 f0 f1 om Sg x (x.fed0 r.k r.t r.v) L (cF0 x r) r.k r.t r.v W h ⟨rfl, rfl, rfl⟩ (fun W hW => ?_) hok hwf hL hcl).mono ?_
  · refine (feed_ok0 0 bj bm v0 v1 x r.k r.t r.v W hW (Nat.zero_le _) hg hJ.lo1 hJ.lo2 hJ.hi1 hJ.hi2 hJ.s0 hJ.s1 hJ.l0 hJ.l1 (fun y hy => by have := hJ.n1 y hy; omega) (by omega) hroom).mono ?_
    rintro e w' ⟨v9, v', rfl, h1, h2, h3, h4⟩
    refine ⟨v9, v', v1, rfl, h1, h2, h3.mono (fun k e => e.elim .inl (fun e => e.elim (fun e => .inr (.inr (.inl e))) (fun e => .inr (.inr (.inr e))))), footJ_new h4 (.inl rfl), fun k e => ?_⟩
    have hl := (h2.lt k e).1
    rintro (e2 | e2 | e2 | e2)
    · have := hW.lt; omega
    · have := hW.ltm; omega
    · exact own_apart h2 h1.r0 (by decide) e e2
    · have := (hW.r1.lt k e2).2; omega
  · rintro e w' ⟨v9, v0', v1', rfl, hF⟩
    obtain ⟨om', Sg', h1, h2, h3⟩ := hF.ex
    rw [List.take_length] at h1
    exact ⟨v9, footE bj bm v0' v1' om' Sg', rfl, hF.row, ⟨bj, bm, v0', v1', _, _, om', Sg', h1, fun _ => Iff.rfl⟩, ⟨fun k e => ⟨(h2 k e).imp (hS k).2 id, h1.lt e⟩, hF.turn.mono (fun k e => (hS k).2 e)⟩, h3⟩

theorem engFeed1 (x : J) (r : Rw) {be : Nat} {L : List O} {S : Nat → Prop} {W : World} (hE : EngAt be x L S W) (hJ : JOk x) (hg : goodI r.k r.t r.v = true) (hlate : x.m1 < r.t) (hroom : x.m0 < r.t + -x.lo → x.R1.length < 300) (hok : okC L (cF1 x r)) (hwf : ∀ c ∈ cF1 x r, c.x.wf) (hL : L.length ≤ 1000000) :
    Calls Tryz.prog 25 #[.pointer (some ⟨be, 0, none⟩), .int .i64 1, .agg #[.int .i64 r.k, .int .i64 r.t, .int .i64 r.v]] W fun e w' => ∃ v9 S', e = .returned (.tuple #[v9, .nilIface]) ∧ w'.ownsRow W.heap.size 66 10 v9 (cF1 x r).length ((cF1 x r).flatMap encC) ∧ EngAt be (x.fed1 r.k r.t r.v) (appC L (cF1 x r)) S' w' ∧ FootTo S S' W w' ∧ ∀ k, v9.ownBlock = some k → ¬ S' k := by
  obtain ⟨bj, bm, v0, v1, f0, f1, om, Sg, h, hS⟩ := hE
  have hcl : (cF1 x r).length ≤ 1000000 := by
    have h1 := chgsA_len x.mode 1 r.k r.t r.v (metR r.k (r.t + -x.hi) (r.t + -x.lo) x.R0)
    have h2 := metS_len r.k (r.t + -x.hi) (r.t + -x.lo) hJ.s0
    have h3 := hJ.l0
    show (chgs x.mode 1 r.k r.t r.v (metR r.k (r.t + -x.hi) (r.t + -x.lo) x.R0)).length ≤ _
    omega
  refine (efeed1 be bj bm v0 v1 f0 f1 om Sg x (x.fed1 r.k r.t r.v) L (cF1 x r) r.k r.t r.v W h ⟨rfl, rfl, rfl⟩ (fun W hW => ?_) hok hwf hL hcl).mono ?_
  · refine (feed_ok1 0 bj bm v0 v1 x r.k r.t r.v W hW (Nat.zero_le _) hg hJ.lo1 hJ.lo2 hJ.hi1 hJ.hi2 hJ.s0 hJ.s1 hJ.l0 hJ.l1 (fun y hy => by have := hJ.n0 y hy; omega) (by omega) hroom).mono ?_
    rintro e w' ⟨v9, v', rfl, h1, h2, h3, h4⟩
    refine ⟨v9, v0, v', rfl, h1, h2, h3.mono (fun k e => e.elim .inl (fun e => e.elim (fun e => .inr (.inr (.inl e))) (fun e => .inr (.inr (.inr e))))), footJ_new (.inl rfl) h4, fun k e => ?_⟩
    have hl := (h2.lt k e).1
    rintro (e2 | e2 | e2 | e2)
    · have := hW.lt; omega
    · have := hW.ltm; omega
    · have := (hW.r0.lt k e2).2; omega
    · exact own_apart h2 h1.r1 (by decide) e e2
  · rintro e w' ⟨v9, v0', v1', rfl, hF⟩
    obtain ⟨om', Sg', h1, h2, h3⟩ := hF.ex
    rw [List.take_length] at h1
    exact ⟨v9, footE bj bm v0' v1' om' Sg', rfl, hF.row, ⟨bj, bm, v0', v1', _, _, om', Sg', h1, fun _ => Iff.rfl⟩, ⟨fun k e => ⟨(h2 k e).imp (hS k).2 id, h1.lt e⟩, hF.turn.mono (fun k e => (hS k).2 e)⟩, h3⟩

theorem engFeeds : EngFeeds EngAt where
  steady := engAt_steady
  foot := engAt_foot
  new := by
    intro lo hi mode W h
    refine (enew_ok lo hi mode W h).mono ?_
    rintro e w' ⟨be, bj, bm, rfl, hE, l1, l2, l3, hb⟩
    refine ⟨be, footE bj bm (.slice none 0 0) (.slice none 0 0) none (fun k => k = be), rfl, ⟨bj, bm, _, _, 0, 0, none, _, hE, fun _ => Iff.rfl⟩, fun k e => ⟨?_, hE.lt e⟩, hb⟩
    rcases e with (e | e | e | e) | e | e
    · omega
    · omega
    · cases e
    · cases e
    · cases e
    · omega
  feed0 := by
    intro be x L S W r hE hJ hg hlate hroom hok hwf hL
    refine (engFeed0 x r hE hJ hg hlate hroom hok hwf hL).mono ?_
    rintro e w' ⟨v9, S', h1, h2, h3, h4, _⟩
    exact ⟨v9, S', h1, h2, h3, h4⟩
  feed1 := by
    intro be x L S W r hE hJ hg hlate hroom hok hwf hL
    refine (engFeed1 x r hE hJ hg hlate hroom hok hwf hL).mono ?_
    rintro e w' ⟨v9, S', h1, h2, h3, h4, _⟩
    exact ⟨v9, S', h1, h2, h3, h4⟩
  view := by
    rintro be x L S W ⟨bj, bm, v0, v1, f0, f1, om, Sg, h, hS⟩ hL
    refine (eview_any (sorted_says nil_says) be bj bm v0 v1 f0 f1 om Sg x L L W h hL).mono ?_
    rintro e w' ⟨v, Z, rfl, h1, _, h3, h4⟩
    exact ⟨v, Z, rfl, h1, h3, h4⟩

end Go.Proofs.YtmmbjbgimpgcfaaGreatDoor
