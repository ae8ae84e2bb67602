/- An engine in memory. -/
import Derived.Test.YtpannogknebgaabGreatDoorVwz
import Derived.Test.YtpannogknebgaabGreatDoorGryz
namespace Go.Proofs.YtpannogknebgaabGreatDoor
open Go.RowKit Go.Sort
open Go.WideElems (Fit rd rg)
set_option maxRecDepth 100000

theorem nodup_len {α : Type} : ∀ (xs L : List α), xs.Nodup → (∀ x ∈ xs, x ∈ L) → xs.length ≤ L.length
  | [], _, _, _ => Nat.zero_le _
  | a :: r, L, hn, hs => by
    obtain ⟨s, t, rfl⟩ := List.append_of_mem (hs a (by simp))
    have h1 : ∀ x ∈ r, x ∈ s ++ t := fun x hx => by
      have h2 := hs x (by simp [hx])
      have h3 : x ≠ a := fun e => (List.nodup_cons.1 hn).1 (by rw [← e]; exact hx)
      simp at h2 ⊢
      rcases h2 with h | h | h
      · exact .inl h
      · exact absurd h h3
      · exact .inr h
    have := nodup_len r (s ++ t) (List.nodup_cons.1 hn).2 h1
    simp at this ⊢
    omega

/-- A map has no more entries than there are keys that it may have. -/
theorem own_small {H : Type} {w : World} {P : Program} {k : TypeId} {R : Value → Option (DataW H × List MemPlace)} {b n : Nat} {D : DataW H} (h : w.ownsMap P k R b n D) (K : Maps.Keyed P k) (Ks : List Lit) (hK : ∀ l, Maps.has D l = true → l ∈ Ks) : w.ownsMap P k R b Ks.length D := by
  have ht := h.tidy K
  obtain ⟨es, clock, hb, F, hs, rfl⟩ := h
  refine ⟨es, clock, hb, F, ?_, rfl⟩
  obtain ⟨l, e, hp⟩ := ht
  have hl : ((es.toList.map (rg P k R)).foldr DataW.insert []).length = es.size := by simp [length_sorted]
  have hm : ∀ p ∈ (es.toList.map (rg P k R)).foldr DataW.insert [], WideAt.IsKeyLit p.1 := by
    intro p hp
    rw [(WideShapes.sorted_perm _).mem_iff] at hp
    obtain ⟨x, hx, rfl⟩ := List.mem_map.1 hp
    obtain ⟨y, hy⟩ := F.reads x hx
    have : rg P k R x = y := by simp [rg, hy]
    rw [this]
    exact K.key (WideElems.rd_key hy)
  have e2 : (es.toList.map (rg P k R)).foldr DataW.insert [] = l := by injection e
  rw [e2] at hl hm hK
  rw [← hl, ← List.length_map (f := fun p : Lit × DataW H => p.1)]
  refine nodup_len _ _ (List.pairwise_map.2 hp) ?_
  intro x hx
  obtain ⟨p, hp1, rfl⟩ := List.mem_map.1 hx
  refine hK _ ?_
  rw [Maps.has_eq]
  exact List.any_eq_true.2 ⟨p, hp1, WideAt.sameKey_self (hm p hp1)⟩

theorem BagAt.tight {w : World} {b o m : Nat} {om : Option Nat} {L : List O} (h : BagAt w b o om m L) : BagAt w b o om L.length L := by
  refine ⟨h.blk, ?_⟩
  rcases h.map with hx | ⟨bm, n, D, h1, hn, hown, hc⟩
  · exact .inl hx
  · refine .inr ⟨bm, L.length, D, h1, Nat.le_refl _, ?_, hc⟩
    have := own_small hown keyed (L.map kL) (fun l hl => by obtain ⟨x, hx, rfl⟩ := hc.keys l hl; exact List.mem_map_of_mem hx)
    simpa using this

theorem tal_rlen (M : List O) : (talOf M).R.length ≤ M.length := by
  induction M with
  | nil => simp [talOf]
  | cons x M ih =>
    show (if x.hr = true then x.rv :: (talOf M).R else (talOf M).R).length ≤ _
    split
    all_goals (simp only [List.length_cons]; omega)

theorem Grp.tight {w : World} {b o m : Nat} {S : Nat → Prop} {L : List O} (h : Grp w b o m S (absG L)) : Grp w b o L.length S (absG L) := by
  obtain ⟨om, tal, hg, h2, h3⟩ := h
  refine ⟨om, tal, ⟨hg.blk, ?_⟩, h2, h3⟩
  rcases hg.map with hx | ⟨bm, n, D, e, hM⟩
  · exact .inl hx
  · have ht : ∀ k τ, absG L k = some τ → τ = talOf (ofK L k) ∧ ofK L k ≠ [] := by
      intro k τ hk
      unfold absG at hk
      split at hk
      · cases hk
      · rename_i hne
        exact ⟨by injection hk with hk; exact hk.symm, hne⟩
    refine .inr ⟨bm, L.length, D, e, Nat.le_refl _, ?_, hM.dat, ?_, hM.bmb, hM.nb, hM.inj⟩
    · have := own_small hM.own gkeyed (L.map fun o => gi o.k) (fun l hl => by
        obtain ⟨k, τ, rfl, hk⟩ := hM.dat.keys l hl
        obtain ⟨_, h1⟩ := ht k τ hk
        obtain ⟨y, hy⟩ := List.exists_mem_of_ne_nil _ h1
        obtain ⟨hy1, hy2⟩ := List.mem_filter.1 hy
        rw [List.mem_map]
        exact ⟨y, hy1, by simp at hy2; rw [hy2]⟩)
      simpa using this
    · intro k τ hk
      obtain ⟨e1, h1⟩ := ht k τ hk
      have hT := hM.tals k τ hk
      obtain ⟨n', D', _, ho, hc⟩ := hT.own
      have hl : (ofK L k).length ≤ L.length := List.length_filter_le _ _
      have hR : τ.R.length ≤ L.length := by rw [e1]; exact Nat.le_trans (tal_rlen _) hl
      refine ⟨hT.blk, ⟨τ.R.length, D', hR, ?_, hc⟩, hT.lo, by rw [e1, tal_count]; exact hl, hR⟩
      have := own_small ho gkeyed (τ.R.map gi) (fun l hl => by obtain ⟨x, hx, rfl⟩ := hc.keys l hl; exact List.mem_map_of_mem hx)
      simpa using this

/-- Another cell of the block is turned. -/
theorem Grp.other {w w' : World} {b o m : Nat} {S : Nat → Prop} {G : Int → Option Tl} (h : Grp w b o m S G) (hs : w.heap.size ≤ w'.heap.size) (hb : ∀ cs T, w.heap[b]? = some (.cells cs T) → ∃ cs' : Array Value, w'.heap[b]? = some (.cells cs' T) ∧ cs'[o]? = cs[o]?) (hk : ∀ j, S j → j ≠ b → w'.heap[j]? = w.heap[j]?) : Grp w' b o m S G := by
  obtain ⟨om, tal, hg, h2, h3⟩ := h
  refine ⟨om, tal, ⟨?_, ?_⟩, h2, fun j hj => Nat.lt_of_lt_of_le (h3 j hj) hs⟩
  · obtain ⟨cs, T, g1, g2⟩ := hg.blk
    obtain ⟨cs', e1, e2⟩ := hb cs T g1
    exact ⟨cs', T, e1, e2.trans g2⟩
  · rcases hg.map with h1 | ⟨bm, n, D, rfl, hm⟩
    · exact .inl h1
    · exact .inr ⟨bm, n, D, rfl, hm.kept fun j hj hne => hk j (h2 j hj) hne⟩
theorem Grp.lt {w : World} {b o m : Nat} {S : Nat → Prop} {G : Int → Option Tl} (h : Grp w b o m S G) {k : Nat} (hk : S k) : k < w.heap.size := by
  obtain ⟨_, _, _, _, h3⟩ := h
  exact h3 k hk
theorem BagAt.other {w w' : World} {b o m : Nat} {om : Option Nat} {L : List O} (h : BagAt w b o om m L) (hb : ∀ cs T, w.heap[b]? = some (.cells cs T) → ∃ cs' : Array Value, w'.heap[b]? = some (.cells cs' T) ∧ cs'[o]? = cs[o]? ∧ cs'[o + 1]? = cs[o + 1]?) (h2 : ∀ bm, om = some bm → w'.heap[bm]? = w.heap[bm]?) : BagAt w' b o om m L := by
  refine ⟨?_, ?_⟩
  · obtain ⟨cs, T, g1, g2, g3⟩ := h.blk
    obtain ⟨cs', e1, e2, e3⟩ := hb cs T g1
    exact ⟨cs', T, e1, e2.trans g2, e3.trans g3⟩
  rcases h.map with hm | ⟨bm, n, D, h1, hn, hown, hc⟩
  · exact .inl hm
  · right
    obtain ⟨es, c, hb, hr⟩ := hown
    exact ⟨bm, n, D, h1, hn, ⟨es, c, (h2 bm h1).trans hb, hr⟩, hc⟩

/-- The blocks that a join lies in. -/
def footJ (bj bm : Nat) (v0 v1 : Value) (k : Nat) : Prop := k = bj ∨ k = bm ∨ v0.ownBlock = some k ∨ v1.ownBlock = some k
/-- The blocks that an engine lies in. -/
def footE (bj bm : Nat) (v0 v1 : Value) (om : Option Nat) (Sg : Nat → Prop) (k : Nat) : Prop := footJ bj bm v0 v1 k ∨ om = some k ∨ Sg k

theorem JoinAt.foot_lt {w : World} {base b bm : Nat} {v0 v1 : Value} {x : J} (h : JoinAt w base b bm v0 v1 x) {k : Nat} (hk : footJ b bm v0 v1 k) : k < w.heap.size := by
  rcases hk with rfl | rfl | hk | hk
  · exact h.lt
  · exact h.ltm
  · exact (h.r0.lt k hk).2
  · exact (h.r1.lt k hk).2
theorem JoinAt.still {w w' : World} {base b bm : Nat} {v0 v1 : Value} {x : J} (h : JoinAt w base b bm v0 v1 x) (hk : ∀ k, footJ b bm v0 v1 k → w'.heap[k]? = w.heap[k]?) : JoinAt w' base b bm v0 v1 x :=
  ⟨(hk b (.inl rfl)).trans h.blk, (hk bm (.inr (.inl rfl))).trans h.mks, own_still h.r0 (fun g e => hk g (.inr (.inr (.inl e)))), own_still h.r1 (fun g e => hk g (.inr (.inr (.inr e)))), h.apart⟩

/-- Six cells of an engine's block: its plan, its join, how many were fed. -/
def Head (cs : Array Value) (bj : Nat) (x : J) (f0 f1 : Int) : Prop :=
  cs[0]? = some (.int .i64 x.lo) ∧ cs[1]? = some (.int .i64 x.hi) ∧ cs[2]? = some (.int .i64 x.mode) ∧ cs[3]? = some (.pointer (some ⟨bj, 0, none⟩)) ∧ cs[4]? = some (.int .i64 f0) ∧ cs[5]? = some (.int .i64 f1)
theorem Head.same {cs cs' : Array Value} {bj : Nat} {x : J} {f0 f1 : Int} (h : Head cs bj x f0 f1) (he : ∀ i, i < 6 → cs'[i]? = cs[i]?) : Head cs' bj x f0 f1 :=
  ⟨(he 0 (by omega)).trans h.1, (he 1 (by omega)).trans h.2.1, (he 2 (by omega)).trans h.2.2.1, (he 3 (by omega)).trans h.2.2.2.1, (he 4 (by omega)).trans h.2.2.2.2.1, (he 5 (by omega)).trans h.2.2.2.2.2⟩

/-- Block be is an engine: its view holds Lb, its groups are what Lg comes to. -/
structure EngIn (w : World) (be bj bm : Nat) (v0 v1 : Value) (f0 f1 : Int) (om : Option Nat) (Sg : Nat → Prop) (x : J) (Lb Lg : List O) : Prop where
  head : ∃ cs T, w.heap[be]? = some (.cells cs T) ∧ Head cs bj x f0 f1
  join : JoinAt w 0 bj bm v0 v1 x
  bag : BagAt w be 6 om Lb.length Lb
  grp : Grp w be 8 Lg.length Sg (absG Lg)
  jb : ∀ k, footJ bj bm v0 v1 k → k ≠ be ∧ om ≠ some k ∧ ¬ Sg k
  bg : ∀ k, om = some k → ¬ Sg k
  r0 : 0 ≤ f0 ∧ f0 ≤ 9223372036854775807
  r1 : 0 ≤ f1 ∧ f1 ≤ 9223372036854775807

section
variable {w w' : World} {be bj bm : Nat} {v0 v1 : Value} {f0 f1 : Int} {om : Option Nat} {Sg : Nat → Prop} {x : J} {Lb Lg : List O}

theorem EngIn.lt (h : EngIn w be bj bm v0 v1 f0 f1 om Sg x Lb Lg) {k : Nat} (hk : footE bj bm v0 v1 om Sg k) : k < w.heap.size := by
  rcases hk with hk | hk | hk
  · exact h.join.foot_lt hk
  · exact (h.bag.ne hk).2
  · exact h.grp.lt hk
theorem EngIn.blt (h : EngIn w be bj bm v0 v1 f0 f1 om Sg x Lb Lg) : be < w.heap.size := h.bag.lt
theorem EngIn.inS (h : EngIn w be bj bm v0 v1 f0 f1 om Sg x Lb Lg) : Sg be := h.grp.in.1
theorem EngIn.still (h : EngIn w be bj bm v0 v1 f0 f1 om Sg x Lb Lg) (hs : w.heap.size ≤ w'.heap.size) (hk : ∀ k, footE bj bm v0 v1 om Sg k → w'.heap[k]? = w.heap[k]?) : EngIn w' be bj bm v0 v1 f0 f1 om Sg x Lb Lg := by
  have hb : w'.heap[be]? = w.heap[be]? := hk be (.inr (.inr h.inS))
  obtain ⟨cs, T, h1, h2⟩ := h.head
  exact ⟨⟨cs, T, hb.trans h1, h2⟩, h.join.still (fun k e => hk k (.inl e)), h.bag.kept hb (fun k e => hk k (.inr (.inl e))), h.grp.kept hs (fun k e => hk k (.inr (.inr e))), h.jb, h.bg, h.r0, h.r1⟩
theorem EngIn.below (h : EngIn w be bj bm v0 v1 f0 f1 om Sg x Lb Lg) (hb : Below w.heap.size w w') : EngIn w' be bj bm v0 v1 f0 f1 om Sg x Lb Lg := h.still hb.size (fun _ e => hb.block _ (h.lt e))

/-- Behind a change of the view. -/
theorem EngIn.bagged (h : EngIn w be bj bm v0 v1 f0 f1 om Sg x Lb Lg) {om' : Option Nat} {m' : Nat} {Lb' : List O} (hB : BagAt w' be 6 om' m' Lb') (hk : Keep be 6 om w w') (hm : Moves w om om') : EngIn w' be bj bm v0 v1 f0 f1 om' Sg x Lb' Lg := by
  obtain ⟨cs, T, h1, h2⟩ := h.head
  refine ⟨?_, h.join.still (fun k e => hk.block k (h.join.foot_lt e) (h.jb k e).1 (h.jb k e).2.1), hB.tight, h.grp.other hk.size (fun cs T hc => ?_) (fun j hj hne => hk.block j (h.grp.lt hj) hne (fun e => h.bg j e hj)), fun k e => ⟨(h.jb k e).1, ?_, (h.jb k e).2.2⟩, fun k e => ?_, h.r0, h.r1⟩
  · obtain ⟨cs', e1, _, e3⟩ := hk.this cs T h1
    exact ⟨cs', T, e1, h2.same (fun i hi => e3 i (by omega) (by omega))⟩
  · obtain ⟨cs', e1, _, e3⟩ := hk.this cs T hc
    exact ⟨cs', e1, e3 8 (by omega) (by omega)⟩
  · rcases hm with rfl | ⟨j, rfl, hj⟩
    · exact (h.jb k e).2.1
    · intro e2; cases e2
      have := h.join.foot_lt e
      omega
  · rcases hm with rfl | ⟨j, rfl, hj⟩
    · exact h.bg k e
    · cases e
      intro e2
      have := h.grp.lt e2
      omega

/-- Behind a change of the groups. -/
theorem EngIn.grouped (h : EngIn w be bj bm v0 v1 f0 f1 om Sg x Lb Lg) {m' : Nat} {Lg' : List O} (hG : Grp w' be 8 m' (More Sg w w') (absG Lg')) (ht : Turn Sg be 8 w w') : EngIn w' be bj bm v0 v1 f0 f1 om (More Sg w w') x Lb Lg' := by
  obtain ⟨cs, T, h1, h2⟩ := h.head
  refine ⟨?_, h.join.still (fun k e => ht.block k (h.join.foot_lt e) (h.jb k e).2.2), h.bag.other (fun cs T hc => ?_) (fun k e => ht.block k (h.bag.ne e).2 (h.bg k e)), hG.tight, fun k e => ⟨(h.jb k e).1, (h.jb k e).2.1, ?_⟩, fun k e => ?_, h.r0, h.r1⟩
  · obtain ⟨cs', e1, _, e3⟩ := ht.this cs T h1
    exact ⟨cs', T, e1, h2.same (fun i hi => e3 i (by omega))⟩
  · obtain ⟨cs', e1, _, e3⟩ := ht.this cs T hc
    exact ⟨cs', e1, e3 6 (by omega), e3 7 (by omega)⟩
  · rintro (e2 | e2)
    · exact (h.jb k e).2.2 e2
    · have := h.join.foot_lt e
      omega
  · rintro (e2 | e2)
    · exact h.bg k e e2
    · have := (h.bag.ne e).2
      omega

/-- Behind a change of the join. -/
theorem EngIn.joined (h : EngIn w be bj bm v0 v1 f0 f1 om Sg x Lb Lg) {v0' v1' : Value} {x' : J} (hj : JoinAt w' 0 bj bm v0' v1' x') (hx : x'.lo = x.lo ∧ x'.hi = x.hi ∧ x'.mode = x.mode) (ht : Turned (footJ bj bm v0 v1) w w') (hf : ∀ k, footJ bj bm v0' v1' k → footJ bj bm v0 v1 k ∨ w.heap.size ≤ k) : EngIn w' be bj bm v0' v1' f0 f1 om Sg x' Lb Lg := by
  have hb : w'.heap[be]? = w.heap[be]? := ht.block be h.blt (fun e => (h.jb be e).1 rfl)
  obtain ⟨cs, T, h1, h2⟩ := h.head
  refine ⟨⟨cs, T, hb.trans h1, ?_⟩, hj, h.bag.kept hb (fun k e => ht.block k (h.bag.ne e).2 (fun e2 => (h.jb k e2).2.1 e)), h.grp.kept ht.size (fun k e => ht.block k (h.grp.lt e) (fun e2 => (h.jb k e2).2.2 e)), fun k e => ?_, h.bg, h.r0, h.r1⟩
  · unfold Head at h2 ⊢
    rw [hx.1, hx.2.1, hx.2.2]
    exact h2
  · rcases hf k e with e2 | e2
    · exact h.jb k e2
    · have a1 := h.blt
      exact ⟨by omega, fun e3 => by have := (h.bag.ne e3).2; omega, fun e3 => by have := h.grp.lt e3; omega⟩

theorem EngIn.setf (h : EngIn w be bj bm v0 v1 f0 f1 om Sg x Lb Lg) (i : Nat) (n g0 g1 : Int) (hi : i = 4 ∧ g0 = n ∧ g1 = f1 ∨ i = 5 ∧ g0 = f0 ∧ g1 = n) (hr : 0 ≤ n ∧ n ≤ 9223372036854775807) : EngIn (w.setCell ⟨be, i, none⟩ (.int .i64 n)) be bj bm v0 v1 g0 g1 om Sg x Lb Lg := by
  have hs : ∀ k, k ≠ be → (w.setCell ⟨be, i, none⟩ (.int .i64 n)).heap[k]? = w.heap[k]? := fun k e => Below.heap_setCell _ _ _ _ e
  have hc : ∀ cs T, w.heap[be]? = some (.cells cs T) → (w.setCell ⟨be, i, none⟩ (.int .i64 n)).heap[be]? = some (.cells (cs.setIfInBounds i (.int .i64 n)) T) := fun cs T e => Go.Joins.block_setCell e _
  have hn : ∀ (cs : Array Value) j, j ≠ i → (cs.setIfInBounds i (.int .i64 n))[j]? = cs[j]? := fun cs j e => by rw [Array.getElem?_setIfInBounds]; simp [Ne.symm e]
  obtain ⟨cs, T, h1, h2⟩ := h.head
  have hi6 : i < 6 := by omega
  refine ⟨⟨_, T, hc cs T h1, ?_⟩, h.join.still (fun k e => hs k (h.jb k e).1), h.bag.other (fun cs T e => ⟨_, hc cs T e, hn cs 6 (by omega), hn cs 7 (by omega)⟩) (fun k e => hs k (h.bag.ne e).1), h.grp.other (by simp) (fun cs T e => ⟨_, hc cs T e, hn cs 8 (by omega)⟩) (fun j _ hne => hs j hne), h.jb, h.bg, ?_, ?_⟩
  · obtain ⟨a0, a1, a2, a3, a4, a5⟩ := h2
    rcases hi with ⟨rfl, rfl, rfl⟩ | ⟨rfl, rfl, rfl⟩
    · refine ⟨(hn cs 0 (by omega)).trans a0, (hn cs 1 (by omega)).trans a1, (hn cs 2 (by omega)).trans a2, (hn cs 3 (by omega)).trans a3, ?_, (hn cs 5 (by omega)).trans a5⟩
      have : 4 < cs.size := (Array.getElem?_eq_some_iff.1 a4).1
      simp [this]
    · refine ⟨(hn cs 0 (by omega)).trans a0, (hn cs 1 (by omega)).trans a1, (hn cs 2 (by omega)).trans a2, (hn cs 3 (by omega)).trans a3, (hn cs 4 (by omega)).trans a4, ?_⟩
      have : 5 < cs.size := (Array.getElem?_eq_some_iff.1 a5).1
      simp [this]
  · rcases hi with ⟨_, rfl, _⟩ | ⟨_, rfl, _⟩
    · exact hr
    · exact h.r0
  · rcases hi with ⟨_, _, rfl⟩ | ⟨_, _, rfl⟩
    · exact h.r1
    · exact hr
theorem EngIn.cells (h : EngIn w be bj bm v0 v1 f0 f1 om Sg x Lb Lg) :
    w.cell? ⟨be, 0, none⟩ = some (.int .i64 x.lo) ∧ w.cell? ⟨be, 1, none⟩ = some (.int .i64 x.hi) ∧ w.cell? ⟨be, 2, none⟩ = some (.int .i64 x.mode) ∧ w.cell? ⟨be, 3, none⟩ = some (.pointer (some ⟨bj, 0, none⟩)) ∧ w.cell? ⟨be, 4, none⟩ = some (.int .i64 f0) ∧ w.cell? ⟨be, 5, none⟩ = some (.int .i64 f1) ∧ w.frozen? ⟨be, 4, none⟩ = false ∧ w.frozen? ⟨be, 5, none⟩ = false := by
  obtain ⟨cs, T, h1, a0, a1, a2, a3, a4, a5⟩ := h.head
  refine ⟨?_, ?_, ?_, ?_, ?_, ?_, Go.Joins.unfrozen_of_block h1 4, Go.Joins.unfrozen_of_block h1 5⟩
  all_goals (rw [Go.Joins.cell_of_block h1]; assumption)
end

end Go.Proofs.YtpannogknebgaabGreatDoor
