/- EngineOrder: the beginning of both tales; the steps that are left, stored and taken out. -/
import Derived.Test.YtpannogknebgaabGreatDoorEvg
namespace Go.Proofs.YtpannogknebgaabGreatDoor
open Go.RowKit Go.Sort
set_option maxRecDepth 100000

theorem otale_begins {EngAt : Nat → J → List O → (Nat → Prop) → World → Prop} (E : EngFeeds EngAt) (low high md : Int) (base : Nat) (w : World) (_hb : base ≤ w.heap.size) :
    Calls Tryz.prog 8 #[.int .i64 low, .int .i64 high, .int .i64 md] w fun e w' => ∃ bt P, e = .returned (.pointer (some ⟨bt, 0, none⟩)) ∧ After EngAt base bt (loOf low) (hiOf low high) (modeOf md) [] P w' ∧ (∀ k, P k → w.heap.size ≤ k) ∧ Below w.heap.size w w' := by
  have hok := plan_ok low high md
  refine (tale_new (fun be lo hi mode S W => EngAt be ⟨lo, hi, mode, -1099511627777, -1099511627777, 0, [], []⟩ [] S W) low high md w (fun be lo hi mode => E.steady _ _ _) (fun lo hi mode W h => E.new lo hi mode W h)).mono ?_
  rintro e w' ⟨bt, be, bf, S, rfl, h1, h2, h3, h4, h5, h6⟩
  have hH : Holds ⟨loOf low, hiOf low high, modeOf md, -1099511627777, -1099511627777, 0, [], []⟩ [] [] := Holds.new _ _ _ _ _ _
  have h1' : TaleAt w' base bt (.pointer (some ⟨be, 0, none⟩)) (loOf low) (hiOf low high) (modeOf md) (-300) (-300) (.slice none 0 0) (.slice none 0 0) bf 0 [] [] [] := ⟨h1.blk, World.ownsRow_nil _ _ _ _, World.ownsRow_nil _ _ _ _, h1.apart, h1.fold⟩
  refine ⟨bt, fun k => S k ∨ k = bt ∨ k = bf ∨ (Value.slice none 0 0).ownBlock = some k ∨ (Value.slice none 0 0).ownBlock = some k, rfl, ⟨be, bf, 0, .slice none 0 0, .slice none 0 0, [], [], _, S, h1', h2, fun k hk => ⟨(h3 k hk).2.1, (h3 k hk).2.2.1, (h3 k hk).2.2.2, by simp [Value.ownBlock], by simp [Value.ownBlock]⟩, fun k => Iff.rfl, hH, ?_, ?_, ⟨rfl, rfl, rfl⟩, hok, ⟨rfl, rfl, rfl⟩, by simp, by simp [rowsOf], by simp [rowsOf]⟩, ?_, h6⟩
  · unfold rowsOf viewOf allOf; simp
  · unfold rowsOf viewOf allOf; simp
  · intro k hk
    rcases hk with g | g | g | g | g
    · exact (h3 k g).1
    · omega
    · omega
    · simp [Value.ownBlock] at g
    · simp [Value.ownBlock] at g

theorem Two.below {EngAt : Nat → J → List O → (Nat → Prop) → World → Prop} (E : EngFeeds EngAt) {w0 : World} {ba bb : Nat} {lo hi mode : Int} {Ta Tb : List St} {v : Value} {Q : List St} {w w' : World} (h : Two EngAt w0 ba bb lo hi mode Ta Tb v Q w) (hb : Below w.heap.size w w') : Two EngAt w0 ba bb lo hi mode Ta Tb v Q w' := by
  obtain ⟨⟨Pa, Pb, h1, h2, h3, h4⟩, hr, hl⟩ := h
  exact ⟨⟨Pa, Pb, OTale.steady E h1 hb.size (fun k hk => hb.block k (OTale.lt h1 k hk)), OTale.steady E h2 hb.size (fun k hk => hb.block k (OTale.lt h2 k hk)), h3, h4⟩, kept_below hr hb, hl.trans (hb.mono hl.size)⟩

/-- The steps that are left lie elsewhere, or are turned. -/
theorem Two.other {EngAt : Nat → J → List O → (Nat → Prop) → World → Prop} (E : EngFeeds EngAt) {w0 : World} {ba bb : Nat} {lo hi mode : Int} {Ta Tb : List St} {v v' : Value} {Q Q' : List St} {w w' : World} (h : Two EngAt w0 ba bb lo hi mode Ta Tb v Q w) (hrow : w'.ownsRow w0.heap.size 28 6 v' Q'.length (Q'.flatMap encS)) (hg : w.grownBy w' v.ownBlock) (hv : v'.ownBlock = v.ownBlock ∨ ∃ g, v'.ownBlock = some g ∧ w.heap.size ≤ g) : Two EngAt w0 ba bb lo hi mode Ta Tb v' Q' w' := by
  obtain ⟨⟨Pa, Pb, h1, h2, h3, h4⟩, hr, hl⟩ := h
  have hla := OTale.lt h1
  have hlb := OTale.lt h2
  have hk : ∀ k, Pa k ∨ Pb k → k < w.heap.size → w'.heap[k]? = w.heap[k]? := fun k hk hlt => hg.block k hlt (fun e => (h4 k hk).2 e.symm)
  refine ⟨⟨Pa, Pb, OTale.steady E h1 hg.size (fun k hP => hk k (Or.inl hP) (hla k hP)), OTale.steady E h2 hg.size (fun k hP => hk k (Or.inr hP) (hlb k hP)), h3, fun k hP => ⟨(h4 k hP).1, fun e => ?_⟩⟩, hrow, ?_⟩
  · rcases hv with hv | ⟨g, hv, hgl⟩
    · exact (h4 k hP).2 (hv.symm.trans e)
    · rw [hv] at e
      cases e
      rcases hP with hP | hP
      · have := hla _ hP; omega
      · have := hlb _ hP; omega
  · exact hl.grown hg hl.size (fun k e => (hr.lt k e).1)

def z0 (q : St) : St := { q with wh := 0 }
theorem flatS_set0 (Q : List St) (i : Nat) (q : St) (hq : Q[i]? = some q) : (Q.set i (z0 q)).flatMap encS = (Q.flatMap encS).set (i * 6) (.int .i64 0) := by
  induction Q generalizing i with
  | nil => simp at hq
  | cons a r ih =>
    cases i with
    | zero => simp at hq; subst hq; simp [encS, z0]
    | succ i =>
      rw [List.set_cons_succ, List.flatMap_cons, List.flatMap_cons, ih i (by simpa using hq)]
      simp [encS, show (i + 1) * 6 = i * 6 + 1 + 1 + 1 + 1 + 1 + 1 by omega]

/-- 'left[i].What = 0'. -/
theorem Two.zero {EngAt : Nat → J → List O → (Nat → Prop) → World → Prop} (E : EngFeeds EngAt) {w0 : World} {ba bb : Nat} {lo hi mode : Int} {Ta Tb : List St} {gs ck : Nat} {Q : List St} {w : World} {i : Nat} {q : St} (h : Two EngAt w0 ba bb lo hi mode Ta Tb (.slice (some ⟨gs, 0, none⟩) Q.length ck) Q w) (hq : Q[i]? = some q) :
    Two EngAt w0 ba bb lo hi mode Ta Tb (.slice (some ⟨gs, 0, none⟩) Q.length ck) (Q.set i (z0 q)) (w.setCell ⟨gs, i * 6, none⟩ (.int .i64 0)) := by
  have h1 := own_setCell h.row (i * 6) (.int .i64 0)
  rw [← flatS_set0 Q i q hq] at h1
  refine Two.other E (Q' := Q.set i (z0 q)) h ?_ ⟨rfl, rfl, rfl, by simp, fun k _ hne => Below.heap_setCell _ _ _ _ (fun e => hne (by rw [e]; rfl))⟩ (Or.inl rfl)
  rw [List.length_set]
  exact h1

/-- One is taken out. -/
def outQ (Q : List St) (k : Nat) : List St := Q.take k ++ Q.drop (k + 1)
theorem outQ_perm (Q : List St) (k : Nat) (q : St) (h : Q[k]? = some q) : (q :: outQ Q k).Perm Q := by
  obtain ⟨hk, e⟩ := List.getElem?_eq_some_iff.1 h
  have h1 : Q = Q.take k ++ q :: Q.drop (k + 1) := by rw [← e, List.getElem_cons_drop hk, List.take_append_drop]
  unfold outQ
  conv => rhs; rw [h1]
  exact List.perm_middle.symm
theorem outQ_len (Q : List St) (k : Nat) (h : k < Q.length) : (outQ Q k).length + 1 = Q.length := by
  unfold outQ; rw [List.length_append, List.length_take, List.length_drop]; omega

end Go.Proofs.YtpannogknebgaabGreatDoor
