/- Enz: several texts in one. -/
import Derived.Test.YthfpipieboophaaGreatDoorVwz
import Derived.Test.YthfpipieboophaaGreatDoorGryz
import Derived.Deep.Onto
/- An engine in memory. -/
namespace Go.Proofs.YthfpipieboophaaGreatDoor
open Go.RowKit Go.Sort
open Go.WideElems (Fit rd rg)
set_option maxRecDepth 100000
theorem nodup_len {α : Type} : ∀ (xs L : List α), xs.Nodup → (∀ x ∈ xs, x ∈ L) → xs.length ≤ L.length
  | [], _, _, _ => Nat.zero_le _
  | a :: r, L, hn, hs => by
    obtain ⟨s, t, rfl⟩ := List.append_of_mem (hs a (by simp))
    have h1 : ∀ x ∈ r, x ∈ s ++ t := fun x hx => by
      have h2 := hs x (by simp [hx])
      have h3 : x ≠ a := fun e => (List.nodup_cons.1 hn).1 (by rw [← e]; exact hx)
      simp at h2 ⊢
      rcases h2 with h | h | h
      · exact .inl h
      · exact absurd h h3
      · exact .inr h
    have := nodup_len r (s ++ t) (List.nodup_cons.1 hn).2 h1
    simp at this ⊢
    omega
theorem own_small {H : Type} {w : World} {P : Program} {k : TypeId} {R : Value → Option (DataW H × List MemPlace)} {b n : Nat} {D : DataW H} (h : w.ownsMap P k R b n D) (K : Maps.Keyed P k) (Ks : List Lit) (hK : ∀ l, Maps.has D l = true → l ∈ Ks) : w.ownsMap P k R b Ks.length D := by
  have ht := h.tidy K
  obtain ⟨es, clock, hb, F, hs, rfl⟩ := h
  refine ⟨es, clock, hb, F, ?_, rfl⟩
  obtain ⟨l, e, hp⟩ := ht
  have hl : ((es.toList.map (rg P k R)).foldr DataW.insert []).length = es.size := by simp [length_sorted]
  have hm : ∀ p ∈ (es.toList.map (rg P k R)).foldr DataW.insert [], WideAt.IsKeyLit p.1 := by
    intro p hp
    rw [(WideShapes.sorted_perm _).mem_iff] at hp
    obtain ⟨x, hx, rfl⟩ := List.mem_map.1 hp
    obtain ⟨y, hy⟩ := F.reads x hx
    have : rg P k R x = y := by simp [rg, hy]
    rw [this]
    exact K.key (WideElems.rd_key hy)
  have e2 : (es.toList.map (rg P k R)).foldr DataW.insert [] = l := by injection e
  rw [e2] at hl hm hK
  rw [← hl, ← List.length_map (f := fun p : Lit × DataW H => p.1)]
  refine nodup_len _ _ (List.pairwise_map.2 hp) ?_
  intro x hx
  obtain ⟨p, hp1, rfl⟩ := List.mem_map.1 hx
  refine hK _ ?_
  rw [Maps.has_eq]
  exact List.any_eq_true.2 ⟨p, hp1, WideAt.sameKey_self (hm p hp1)⟩
theorem BagAt.tight {w : World} {b o m : Nat} {om : Option Nat} {L : List O} (h : BagAt w b o om m L) : BagAt w b o om L.length L := by
  refine ⟨h.blk, ?_⟩
  rcases h.map with hx | ⟨bm, n, D, h1, hn, hown, hc⟩
  · exact .inl hx
  · refine .inr ⟨bm, L.length, D, h1, Nat.le_refl _, ?_, hc⟩
    have := own_small hown keyed (L.map kL) (fun l hl => by obtain ⟨x, hx, rfl⟩ := hc.keys l hl; exact List.mem_map_of_mem hx)
    simpa using this
theorem tal_rlen (M : List O) : (talOf M).R.length ≤ M.length := by
  induction M with
  | nil => simp [talOf]
  | cons x M ih =>
    show (if x.hr = true then x.rv :: (talOf M).R else (talOf M).R).length ≤ _
    split
    all_goals (simp only [List.length_cons]; omega)
theorem Grp.tight {w : World} {b o m : Nat} {S : Nat → Prop} {L : List O} (h : Grp w b o m S (absG L)) : Grp w b o L.length S (absG L) := by
  obtain ⟨om, tal, hg, h2, h3⟩ := h
  refine ⟨om, tal, ⟨hg.blk, ?_⟩, h2, h3⟩
  rcases hg.map with hx | ⟨bm, n, D, e, hM⟩
  · exact .inl hx
  · have ht : ∀ k τ, absG L k = some τ → τ = talOf (ofK L k) ∧ ofK L k ≠ [] := by
      intro k τ hk
      unfold absG at hk
      split at hk
      · cases hk
      · rename_i hne
        exact ⟨by injection hk with hk; exact hk.symm, hne⟩
    refine .inr ⟨bm, L.length, D, e, Nat.le_refl _, ?_, hM.dat, ?_, hM.bmb, hM.nb, hM.inj⟩
    · have := own_small hM.own gkeyed (L.map fun o => gi o.k) (fun l hl => by
        obtain ⟨k, τ, rfl, hk⟩ := hM.dat.keys l hl
        obtain ⟨_, h1⟩ := ht k τ hk
        obtain ⟨y, hy⟩ := List.exists_mem_of_ne_nil _ h1
        obtain ⟨hy1, hy2⟩ := List.mem_filter.1 hy
        rw [List.mem_map]
        exact ⟨y, hy1, by simp at hy2; rw [hy2]⟩)
      simpa using this
    · intro k τ hk
      obtain ⟨e1, h1⟩ := ht k τ hk
      have hT := hM.tals k τ hk
      obtain ⟨n', D', _, ho, hc⟩ := hT.own
      have hl : (ofK L k).length ≤ L.length := List.length_filter_le _ _
      have hR : τ.R.length ≤ L.length := by rw [e1]; exact Nat.le_trans (tal_rlen _) hl
      refine ⟨hT.blk, ⟨τ.R.length, D', hR, ?_, hc⟩, hT.lo, by rw [e1, tal_count]; exact hl, hR⟩
      have := own_small ho gkeyed (τ.R.map gi) (fun l hl => by obtain ⟨x, hx, rfl⟩ := hc.keys l hl; exact List.mem_map_of_mem hx)
      simpa using this
theorem Grp.other {w w' : World} {b o m : Nat} {S : Nat → Prop} {G : Int → Option Tl} (h : Grp w b o m S G) (hs : w.heap.size ≤ w'.heap.size) (hb : ∀ cs T, w.heap[b]? = some (.cells cs T) → ∃ cs' : Array Value, w'.heap[b]? = some (.cells cs' T) ∧ cs'[o]? = cs[o]?) (hk : ∀ j, S j → j ≠ b → w'.heap[j]? = w.heap[j]?) : Grp w' b o m S G := by
  obtain ⟨om, tal, hg, h2, h3⟩ := h
  refine ⟨om, tal, ⟨?_, ?_⟩, h2, fun j hj => Nat.lt_of_lt_of_le (h3 j hj) hs⟩
  · obtain ⟨cs, T, g1, g2⟩ := hg.blk
    obtain ⟨cs', e1, e2⟩ := hb cs T g1
    exact ⟨cs', T, e1, e2.trans g2⟩
  · rcases hg.map with h1 | ⟨bm, n, D, rfl, hm⟩
    · exact .inl h1
    · exact .inr ⟨bm, n, D, rfl, hm.kept fun j hj hne => hk j (h2 j hj) hne⟩
theorem Grp.lt {w : World} {b o m : Nat} {S : Nat → Prop} {G : Int → Option Tl} (h : Grp w b o m S G) {k : Nat} (hk : S k) : k < w.heap.size := by
  obtain ⟨_, _, _, _, h3⟩ := h
  exact h3 k hk
theorem BagAt.other {w w' : World} {b o m : Nat} {om : Option Nat} {L : List O} (h : BagAt w b o om m L) (hb : ∀ cs T, w.heap[b]? = some (.cells cs T) → ∃ cs' : Array Value, w'.heap[b]? = some (.cells cs' T) ∧ cs'[o]? = cs[o]? ∧ cs'[o + 1]? = cs[o + 1]?) (h2 : ∀ bm, om = some bm → w'.heap[bm]? = w.heap[bm]?) : BagAt w' b o om m L := by
  refine ⟨?_, ?_⟩
  · obtain ⟨cs, T, g1, g2, g3⟩ := h.blk
    obtain ⟨cs', e1, e2, e3⟩ := hb cs T g1
    exact ⟨cs', T, e1, e2.trans g2, e3.trans g3⟩
  rcases h.map with hm | ⟨bm, n, D, h1, hn, hown, hc⟩
  · exact .inl hm
  · right
    obtain ⟨es, c, hb, hr⟩ := hown
    exact ⟨bm, n, D, h1, hn, ⟨es, c, (h2 bm h1).trans hb, hr⟩, hc⟩
def footJ (bj bm : Nat) (v0 v1 : Value) (k : Nat) : Prop := k = bj ∨ k = bm ∨ v0.ownBlock = some k ∨ v1.ownBlock = some k
def footE (bj bm : Nat) (v0 v1 : Value) (om : Option Nat) (Sg : Nat → Prop) (k : Nat) : Prop := footJ bj bm v0 v1 k ∨ om = some k ∨ Sg k
theorem JoinAt.foot_lt {w : World} {base b bm : Nat} {v0 v1 : Value} {x : J} (h : JoinAt w base b bm v0 v1 x) {k : Nat} (hk : footJ b bm v0 v1 k) : k < w.heap.size := by
  rcases hk with rfl | rfl | hk | hk
  · exact h.lt
  · exact h.ltm
  · exact (h.r0.lt k hk).2
  · exact (h.r1.lt k hk).2
theorem JoinAt.still {w w' : World} {base b bm : Nat} {v0 v1 : Value} {x : J} (h : JoinAt w base b bm v0 v1 x) (hk : ∀ k, footJ b bm v0 v1 k → w'.heap[k]? = w.heap[k]?) : JoinAt w' base b bm v0 v1 x :=
  ⟨(hk b (.inl rfl)).trans h.blk, (hk bm (.inr (.inl rfl))).trans h.mks, own_still h.r0 (fun g e => hk g (.inr (.inr (.inl e)))), own_still h.r1 (fun g e => hk g (.inr (.inr (.inr e)))), h.apart⟩
def Head (cs : Array Value) (bj : Nat) (x : J) (f0 f1 : Int) : Prop :=
  cs[0]? = some (.int .i64 x.lo) ∧ cs[1]? = some (.int .i64 x.hi) ∧ cs[2]? = some (.int .i64 x.mode) ∧ cs[3]? = some (.pointer (some ⟨bj, 0, none⟩)) ∧ cs[4]? = some (.int .i64 f0) ∧ cs[5]? = some (.int .i64 f1)
theorem Head.same {cs cs' : Array Value} {bj : Nat} {x : J} {f0 f1 : Int} (h : Head cs bj x f0 f1) (he : ∀ i, i < 6 → cs'[i]? = cs[i]?) : Head cs' bj x f0 f1 :=
  ⟨(he 0 (by omega)).trans h.1, (he 1 (by omega)).trans h.2.1, (he 2 (by omega)).trans h.2.2.1, (he 3 (by omega)).trans h.2.2.2.1, (he 4 (by omega)).trans h.2.2.2.2.1, (he 5 (by omega)).trans h.2.2.2.2.2⟩
structure EngIn (w : World) (be bj bm : Nat) (v0 v1 : Value) (f0 f1 : Int) (om : Option Nat) (Sg : Nat → Prop) (x : J) (Lb Lg : List O) : Prop where
  head : ∃ cs T, w.heap[be]? = some (.cells cs T) ∧ Head cs bj x f0 f1
  join : JoinAt w 0 bj bm v0 v1 x
  bag : BagAt w be 6 om Lb.length Lb
  grp : Grp w be 8 Lg.length Sg (absG Lg)
  jb : ∀ k, footJ bj bm v0 v1 k → k ≠ be ∧ om ≠ some k ∧ ¬ Sg k
  bg : ∀ k, om = some k → ¬ Sg k
  r0 : 0 ≤ f0 ∧ f0 ≤ 9223372036854775807
  r1 : 0 ≤ f1 ∧ f1 ≤ 9223372036854775807
section
variable {w w' : World} {be bj bm : Nat} {v0 v1 : Value} {f0 f1 : Int} {om : Option Nat} {Sg : Nat → Prop} {x : J} {Lb Lg : List O}
theorem EngIn.lt (h : EngIn w be bj bm v0 v1 f0 f1 om Sg x Lb Lg) {k : Nat} (hk : footE bj bm v0 v1 om Sg k) : k < w.heap.size := by
  rcases hk with hk | hk | hk
  · exact h.join.foot_lt hk
  · exact (h.bag.ne hk).2
  · exact h.grp.lt hk
theorem EngIn.blt (h : EngIn w be bj bm v0 v1 f0 f1 om Sg x Lb Lg) : be < w.heap.size := h.bag.lt
theorem EngIn.inS (h : EngIn w be bj bm v0 v1 f0 f1 om Sg x Lb Lg) : Sg be := h.grp.in.1
theorem EngIn.still (h : EngIn w be bj bm v0 v1 f0 f1 om Sg x Lb Lg) (hs : w.heap.size ≤ w'.heap.size) (hk : ∀ k, footE bj bm v0 v1 om Sg k → w'.heap[k]? = w.heap[k]?) : EngIn w' be bj bm v0 v1 f0 f1 om Sg x Lb Lg := by
  have hb : w'.heap[be]? = w.heap[be]? := hk be (.inr (.inr h.inS))
  obtain ⟨cs, T, h1, h2⟩ := h.head
  exact ⟨⟨cs, T, hb.trans h1, h2⟩, h.join.still (fun k e => hk k (.inl e)), h.bag.kept hb (fun k e => hk k (.inr (.inl e))), h.grp.kept hs (fun k e => hk k (.inr (.inr e))), h.jb, h.bg, h.r0, h.r1⟩
theorem EngIn.below (h : EngIn w be bj bm v0 v1 f0 f1 om Sg x Lb Lg) (hb : Below w.heap.size w w') : EngIn w' be bj bm v0 v1 f0 f1 om Sg x Lb Lg := h.still hb.size (fun _ e => hb.block _ (h.lt e))
theorem EngIn.bagged (h : EngIn w be bj bm v0 v1 f0 f1 om Sg x Lb Lg) {om' : Option Nat} {m' : Nat} {Lb' : List O} (hB : BagAt w' be 6 om' m' Lb') (hk : Keep be 6 om w w') (hm : Moves w om om') : EngIn w' be bj bm v0 v1 f0 f1 om' Sg x Lb' Lg := by
  obtain ⟨cs, T, h1, h2⟩ := h.head
  refine ⟨?_, h.join.still (fun k e => hk.block k (h.join.foot_lt e) (h.jb k e).1 (h.jb k e).2.1), hB.tight, h.grp.other hk.size (fun cs T hc => ?_) (fun j hj hne => hk.block j (h.grp.lt hj) hne (fun e => h.bg j e hj)), fun k e => ⟨(h.jb k e).1, ?_, (h.jb k e).2.2⟩, fun k e => ?_, h.r0, h.r1⟩
  · obtain ⟨cs', e1, _, e3⟩ := hk.this cs T h1
    exact ⟨cs', T, e1, h2.same (fun i hi => e3 i (by omega) (by omega))⟩
  · obtain ⟨cs', e1, _, e3⟩ := hk.this cs T hc
    exact ⟨cs', e1, e3 8 (by omega) (by omega)⟩
  · rcases hm with rfl | ⟨j, rfl, hj⟩
    · exact (h.jb k e).2.1
    · intro e2; cases e2
      have := h.join.foot_lt e
      omega
  · rcases hm with rfl | ⟨j, rfl, hj⟩
    · exact h.bg k e
    · cases e
      intro e2
      have := h.grp.lt e2
      omega
theorem EngIn.grouped (h : EngIn w be bj bm v0 v1 f0 f1 om Sg x Lb Lg) {m' : Nat} {Lg' : List O} (hG : Grp w' be 8 m' (More Sg w w') (absG Lg')) (ht : Turn Sg be 8 w w') : EngIn w' be bj bm v0 v1 f0 f1 om (More Sg w w') x Lb Lg' := by
  obtain ⟨cs, T, h1, h2⟩ := h.head
  refine ⟨?_, h.join.still (fun k e => ht.block k (h.join.foot_lt e) (h.jb k e).2.2), h.bag.other (fun cs T hc => ?_) (fun k e => ht.block k (h.bag.ne e).2 (h.bg k e)), hG.tight, fun k e => ⟨(h.jb k e).1, (h.jb k e).2.1, ?_⟩, fun k e => ?_, h.r0, h.r1⟩
  · obtain ⟨cs', e1, _, e3⟩ := ht.this cs T h1
    exact ⟨cs', T, e1, h2.same (fun i hi => e3 i (by omega))⟩
  · obtain ⟨cs', e1, _, e3⟩ := ht.this cs T hc
    exact ⟨cs', e1, e3 6 (by omega), e3 7 (by omega)⟩
  · rintro (e2 | e2)
    · exact (h.jb k e).2.2 e2
    · have := h.join.foot_lt e
      omega
  · rintro (e2 | e2)
    · exact h.bg k e e2
    · have := (h.bag.ne e).2
      omega
theorem EngIn.joined (h : EngIn w be bj bm v0 v1 f0 f1 om Sg x Lb Lg) {v0' v1' : Value} {x' : J} (hj : JoinAt w' 0 bj bm v0' v1' x') (hx : x'.lo = x.lo ∧ x'.hi = x.hi ∧ x'.mode = x.mode) (ht : Turned (footJ bj bm v0 v1) w w') (hf : ∀ k, footJ bj bm v0' v1' k → footJ bj bm v0 v1 k ∨ w.heap.size ≤ k) : EngIn w' be bj bm v0' v1' f0 f1 om Sg x' Lb Lg := by
  have hb : w'.heap[be]? = w.heap[be]? := ht.block be h.blt (fun e => (h.jb be e).1 rfl)
  obtain ⟨cs, T, h1, h2⟩ := h.head
  refine ⟨⟨cs, T, hb.trans h1, ?_⟩, hj, h.bag.kept hb (fun k e => ht.block k (h.bag.ne e).2 (fun e2 => (h.jb k e2).2.1 e)), h.grp.kept ht.size (fun k e => ht.block k (h.grp.lt e) (fun e2 => (h.jb k e2).2.2 e)), fun k e => ?_, h.bg, h.r0, h.r1⟩
  · unfold Head at h2 ⊢
    rw [hx.1, hx.2.1, hx.2.2]
    exact h2
  · rcases hf k e with e2 | e2
    · exact h.jb k e2
    · have a1 := h.blt
      exact ⟨by omega, fun e3 => by have := (h.bag.ne e3).2; omega, fun e3 => by have := h.grp.lt e3; omega⟩
theorem EngIn.setf (h : EngIn w be bj bm v0 v1 f0 f1 om Sg x Lb Lg) (i : Nat) (n g0 g1 : Int) (hi : i = 4 ∧ g0 = n ∧ g1 = f1 ∨ i = 5 ∧ g0 = f0 ∧ g1 = n) (hr : 0 ≤ n ∧ n ≤ 9223372036854775807) : EngIn (w.setCell ⟨be, i, none⟩ (.int .i64 n)) be bj bm v0 v1 g0 g1 om Sg x Lb Lg := by
  have hs : ∀ k, k ≠ be → (w.setCell ⟨be, i, none⟩ (.int .i64 n)).heap[k]? = w.heap[k]? := fun k e => Below.heap_setCell _ _ _ _ e
  have hc : ∀ cs T, w.heap[be]? = some (.cells cs T) → (w.setCell ⟨be, i, none⟩ (.int .i64 n)).heap[be]? = some (.cells (cs.setIfInBounds i (.int .i64 n)) T) := fun cs T e => Go.Joins.block_setCell e _
  have hn : ∀ (cs : Array Value) j, j ≠ i → (cs.setIfInBounds i (.int .i64 n))[j]? = cs[j]? := fun cs j e => by rw [Array.getElem?_setIfInBounds]; simp [Ne.symm e]
  obtain ⟨cs, T, h1, h2⟩ := h.head
  have hi6 : i < 6 := by omega
  refine ⟨⟨_, T, hc cs T h1, ?_⟩, h.join.still (fun k e => hs k (h.jb k e).1), h.bag.other (fun cs T e => ⟨_, hc cs T e, hn cs 6 (by omega), hn cs 7 (by omega)⟩) (fun k e => hs k (h.bag.ne e).1), h.grp.other (by simp) (fun cs T e => ⟨_, hc cs T e, hn cs 8 (by omega)⟩) (fun j _ hne => hs j hne), h.jb, h.bg, ?_, ?_⟩
  · obtain ⟨a0, a1, a2, a3, a4, a5⟩ := h2
    rcases hi with ⟨rfl, rfl, rfl⟩ | ⟨rfl, rfl, rfl⟩
    · refine ⟨(hn cs 0 (by omega)).trans a0, (hn cs 1 (by omega)).trans a1, (hn cs 2 (by omega)).trans a2, (hn cs 3 (by omega)).trans a3, ?_, (hn cs 5 (by omega)).trans a5⟩
      have : 4 < cs.size := (Array.getElem?_eq_some_iff.1 a4).1
      simp [this]
    · refine ⟨(hn cs 0 (by omega)).trans a0, (hn cs 1 (by omega)).trans a1, (hn cs 2 (by omega)).trans a2, (hn cs 3 (by omega)).trans a3, (hn cs 4 (by omega)).trans a4, ?_⟩
      have : 5 < cs.size := (Array.getElem?_eq_some_iff.1 a5).1
      simp [this]
  · rcases hi with ⟨_, rfl, _⟩ | ⟨_, rfl, _⟩
    · exact hr
    · exact h.r0
  · rcases hi with ⟨_, _, rfl⟩ | ⟨_, _, rfl⟩
    · exact h.r1
    · exact hr
theorem EngIn.cells (h : EngIn w be bj bm v0 v1 f0 f1 om Sg x Lb Lg) :
    w.cell? ⟨be, 0, none⟩ = some (.int .i64 x.lo) ∧ w.cell? ⟨be, 1, none⟩ = some (.int .i64 x.hi) ∧ w.cell? ⟨be, 2, none⟩ = some (.int .i64 x.mode) ∧ w.cell? ⟨be, 3, none⟩ = some (.pointer (some ⟨bj, 0, none⟩)) ∧ w.cell? ⟨be, 4, none⟩ = some (.int .i64 f0) ∧ w.cell? ⟨be, 5, none⟩ = some (.int .i64 f1) ∧ w.frozen? ⟨be, 4, none⟩ = false ∧ w.frozen? ⟨be, 5, none⟩ = false := by
  obtain ⟨cs, T, h1, a0, a1, a2, a3, a4, a5⟩ := h.head
  refine ⟨?_, ?_, ?_, ?_, ?_, ?_, Go.Joins.unfrozen_of_block h1 4, Go.Joins.unfrozen_of_block h1 5⟩
  all_goals (rw [Go.Joins.cell_of_block h1]; assumption)
end
end Go.Proofs.YthfpipieboophaaGreatDoor

/- An engine: a change is laid upon its view, and upon its groups. -/
namespace Go.Proofs.YthfpipieboophaaGreatDoor
open Go.RowKit Go.Sort
set_option maxRecDepth 100000
abbrev boxE (o : O) (g : Bool) : Obj := .cells #[.int .i64 o.k, .int .i64 o.lk, .int .i64 o.lt, .int .i64 o.lv, .int .i64 o.rk, .int .i64 o.rt, .int .i64 o.rv, .bool o.hl, .bool o.hr, .bool g] 95
theorem boxE_cells {W : World} {b : Nat} {o : O} {g : Bool} (h : W.heap[b]? = some (boxE o g)) : W.cell? ⟨b, 0, none⟩ = some (.int .i64 o.k) ∧ W.cell? ⟨b, 1, none⟩ = some (.int .i64 o.lk) ∧ W.cell? ⟨b, 2, none⟩ = some (.int .i64 o.lt) ∧ W.cell? ⟨b, 3, none⟩ = some (.int .i64 o.lv) ∧ W.cell? ⟨b, 4, none⟩ = some (.int .i64 o.rk) ∧ W.cell? ⟨b, 5, none⟩ = some (.int .i64 o.rt) ∧ W.cell? ⟨b, 6, none⟩ = some (.int .i64 o.rv) ∧ W.cell? ⟨b, 7, none⟩ = some (.bool o.hl) ∧ W.cell? ⟨b, 8, none⟩ = some (.bool o.hr) ∧ W.cell? ⟨b, 9, none⟩ = some (.bool g) := by
  refine ⟨?_, ?_, ?_, ?_, ?_, ?_, ?_, ?_, ?_, ?_⟩ <;> (rw [Go.Joins.cell_of_block h]; rfl)
set_option maxHeartbeats 1000000 in
theorem eapply_any (be bj bm : Nat) (v0 v1 : Value) (f0 f1 : Int) (om : Option Nat) (Sg : Nat → Prop) (x : J) (L L' : List O) (o : O) (g : Bool) (w : World) (h : EngIn w be bj bm v0 v1 f0 f1 om Sg x L L)
    (hB : ∀ W, EngIn W be bj bm v0 v1 f0 f1 om Sg x L L → Calls Tryz.prog 107 #[.pointer (some ⟨be, 6, none⟩), vC o g] W fun e w' => (∃ r, e = .returned r) ∧ ∃ om' m', BagAt w' be 6 om' m' L' ∧ Keep be 6 om W w' ∧ Moves W om om')
    (hG : ∀ W om', EngIn W be bj bm v0 v1 f0 f1 om' Sg x L' L → Calls Tryz.prog 108 #[.pointer (some ⟨be, 8, none⟩), vC o g] W fun e w' => (∃ r, e = .returned r) ∧ ∃ m', Grp w' be 8 m' (More Sg W w') (absG L') ∧ Turn Sg be 8 W w') :
    Calls Tryz.prog 47 #[.pointer (some ⟨be, 0, none⟩), vC o g] w fun e w' => e = .returned (.tuple #[]) ∧ ∃ om' Sg', EngIn w' be bj bm v0 v1 f0 f1 om' Sg' x L' L' ∧ (∀ k, om' = some k → om = some k ∨ w.heap.size ≤ k) ∧ (∀ k, Sg' k → Sg k ∨ w.heap.size ≤ k) ∧ Turned (fun k => k = be ∨ om = some k ∨ Sg k) w w' := by
  have H1 : Hid (∀ W, Below w.heap.size w W → W.heap[w.heap.size]? = some (boxE o g) → Calls Tryz.prog 107 #[.pointer (some ⟨be, 6, none⟩), vC o g] W fun e w' => (∃ r, e = .returned r) ∧ w'.heap[w.heap.size]? = some (boxE o g) ∧ Hid (∃ om', EngIn w' be bj bm v0 v1 f0 f1 om' Sg x L' L ∧ (∀ k, om' = some k → om = some k ∨ w.heap.size ≤ k) ∧ Turned (fun k => k = be ∨ om = some k) w w')) := by
    intro W hW hbx
    have hE := h.below hW
    have hlt := h.blt
    refine (hB W hE).mono ?_
    rintro e w' ⟨hr, om', m', h1, h2, h3⟩
    refine ⟨hr, (h2.block _ (Array.getElem?_eq_some_iff.1 hbx).1 (by omega) (fun e => by have := (h.bag.ne e).2; omega)).trans hbx, om', hE.bagged h1 h2 h3, fun k e => ?_, (Turned.of_below (S := fun k => k = be ∨ om = some k) hW).trans (S' := fun k => k = be ∨ om = some k) ⟨h2.os, h2.tape, h2.output, h2.size, fun k hk hn => h2.block k hk (fun e => hn (.inl e)) (fun e => hn (.inr e))⟩ (fun _ _ e => e)⟩
    rcases h3 with rfl | ⟨j, rfl, hj⟩
    · exact .inl e
    · cases e
      exact .inr (Nat.le_trans hW.size hj)
  have H2 : Hid (∀ w1 W, Hid (∃ om', EngIn w1 be bj bm v0 v1 f0 f1 om' Sg x L' L ∧ (∀ k, om' = some k → om = some k ∨ w.heap.size ≤ k) ∧ Turned (fun k => k = be ∨ om = some k) w w1) → w1.heap[w.heap.size]? = some (boxE o g) → Below w1.heap.size w1 W → Calls Tryz.prog 108 #[.pointer (some ⟨be, 8, none⟩), vC o g] W fun e w' => (∃ r, e = .returned r) ∧ w'.heap[w.heap.size]? = some (boxE o g) ∧ Hid (∃ om' Sg', EngIn w' be bj bm v0 v1 f0 f1 om' Sg' x L' L' ∧ (∀ k, om' = some k → om = some k ∨ w.heap.size ≤ k) ∧ (∀ k, Sg' k → Sg k ∨ w.heap.size ≤ k) ∧ Turned (fun k => k = be ∨ om = some k ∨ Sg k) w w')) := by
    rintro w1 W ⟨om', h1, h2, h3⟩ hbx hW
    have hbx2 := (hW.block _ (Array.getElem?_eq_some_iff.1 hbx).1).trans hbx
    have hE := h1.below hW
    refine (hG W om' hE).mono ?_
    rintro e w' ⟨hr, m', g1, g2⟩
    refine ⟨hr, (g2.block _ (Array.getElem?_eq_some_iff.1 hbx2).1 (fun e => by have := h.grp.lt e; omega)).trans hbx2, om', _, hE.grouped g1 g2, h2, fun k e => ?_, ?_⟩
    · rcases e with e | e
      · exact .inl e
      · exact .inr (Nat.le_trans h3.size (Nat.le_trans hW.size e.1))
    · refine ((h3.mono (S' := fun k => k = be ∨ om = some k ∨ Sg k) (fun k e => e.elim .inl (fun e => .inr (.inl e)))).trans (Turned.of_below (S := fun _ => False) hW) (fun _ _ e => e.elim)).trans (S' := Sg) ⟨g2.os, g2.tape, g2.output, g2.size, fun k hk hn => g2.block k hk hn⟩ (fun k _ e => .inr (.inr e))
  have hlt := h.blt
  clear h hB hG
  simp only [vC] at H1 H2 ⊢
  go_enter Tryz.func47, Tryz.ntmps47
  go_wp2
  have B1 : Hid (Below w.heap.size w (w.alloc (boxE o g)).drew ∧ (w.alloc (boxE o g)).drew.heap[w.heap.size]? = some (boxE o g)) := ⟨(Go.Joins.below_alloc1 _ _).drew, heap_alloc_new w (boxE o g)⟩
  have hc1 := boxE_cells (heap_alloc_new w (boxE o g))
  go_region_held3 (fun W => W.cell? ⟨w.heap.size, 0, none⟩ = some (.int .i64 o.k) ∧ W.cell? ⟨w.heap.size, 1, none⟩ = some (.int .i64 o.lk) ∧ W.cell? ⟨w.heap.size, 2, none⟩ = some (.int .i64 o.lt) ∧ W.cell? ⟨w.heap.size, 3, none⟩ = some (.int .i64 o.lv) ∧ W.cell? ⟨w.heap.size, 4, none⟩ = some (.int .i64 o.rk) ∧ W.cell? ⟨w.heap.size, 5, none⟩ = some (.int .i64 o.rt) ∧ W.cell? ⟨w.heap.size, 6, none⟩ = some (.int .i64 o.rv) ∧ W.cell? ⟨w.heap.size, 7, none⟩ = some (.bool o.hl) ∧ W.cell? ⟨w.heap.size, 8, none⟩ = some (.bool o.hr) ∧ W.cell? ⟨w.heap.size, 9, none⟩ = some (.bool g)) (first | exact hc1 | exact boxE_cells hb1 | fail) (first
    | (go_at_call 107; refine (H1.out _ B1.out.1 B1.out.2).mono ?_; rintro e w1 ⟨⟨r1, rfl⟩, hb1, h1⟩)
    | fail)
  clear hc1
  have hc1 := boxE_cells hb1
  go_wp2
  have B2 : Hid (Below w1.heap.size w1 w1.drew) := (Below.refl _ _).drew
  go_region_held3 (fun W => W.cell? ⟨w.heap.size, 0, none⟩ = some (.int .i64 o.k) ∧ W.cell? ⟨w.heap.size, 1, none⟩ = some (.int .i64 o.lk) ∧ W.cell? ⟨w.heap.size, 2, none⟩ = some (.int .i64 o.lt) ∧ W.cell? ⟨w.heap.size, 3, none⟩ = some (.int .i64 o.lv) ∧ W.cell? ⟨w.heap.size, 4, none⟩ = some (.int .i64 o.rk) ∧ W.cell? ⟨w.heap.size, 5, none⟩ = some (.int .i64 o.rt) ∧ W.cell? ⟨w.heap.size, 6, none⟩ = some (.int .i64 o.rv) ∧ W.cell? ⟨w.heap.size, 7, none⟩ = some (.bool o.hl) ∧ W.cell? ⟨w.heap.size, 8, none⟩ = some (.bool o.hr) ∧ W.cell? ⟨w.heap.size, 9, none⟩ = some (.bool g)) (first | exact hc1 | exact hc2 | fail) (first
    | (go_at_call 108; refine (H2.out w1 _ h1 hb1 B2.out).mono ?_; rintro e w2 ⟨⟨r2, rfl⟩, hb2, h2⟩; have hc2 := boxE_cells hb2)
    | fail)
  go_wp2
  go_end0
  exact ⟨rfl, h2.out⟩
end Go.Proofs.YthfpipieboophaaGreatDoor

/- An engine: made, its view, its groups. -/
namespace Go.Proofs.YthfpipieboophaaGreatDoor
open Go.RowKit Go.Sort
set_option maxRecDepth 100000
theorem JoinAt.base0 {w : World} {base b bm : Nat} {v0 v1 : Value} {x : J} (h : JoinAt w base b bm v0 v1 x) : JoinAt w 0 b bm v0 v1 x := ⟨h.blk, h.mks, h.r0.mono (Nat.zero_le _), h.r1.mono (Nat.zero_le _), h.apart⟩
theorem eng_new {w : World} {bj bm : Nat} {lo hi mode : Int} {cs : Array Value} {T : TypeId} (hj : JoinAt w 0 bj bm (.slice none 0 0) (.slice none 0 0) ⟨lo, hi, mode, -1099511627777, -1099511627777, 0, [], []⟩)
    (hc : cs = #[.int .i64 lo, .int .i64 hi, .int .i64 mode, .pointer (some ⟨bj, 0, none⟩), .int .i64 0, .int .i64 0, .map none, .int .i64 0, .map none]) :
    EngIn (w.alloc (.cells cs T)) w.heap.size bj bm (.slice none 0 0) (.slice none 0 0) 0 0 none (fun k => k = w.heap.size) ⟨lo, hi, mode, -1099511627777, -1099511627777, 0, [], []⟩ [] [] := by
  have hb := World.alloc_heap_new w (.cells cs T)
  subst hc
  refine ⟨⟨_, T, hb, rfl, rfl, rfl, rfl, rfl, rfl⟩, hj.below (Go.Joins.below_alloc1 _ _), ⟨⟨_, T, hb, rfl, rfl⟩, .inl ⟨rfl, rfl⟩⟩, ⟨none, fun _ => (0, 0), ⟨⟨_, T, hb, rfl⟩, .inl ⟨rfl, abs_nil⟩⟩, fun j hj => ?_, (fun j hj => by simp; omega)⟩, fun k e => ?_, (fun k e => by cases e), (by omega), (by omega)⟩
  · rcases hj with h | h | ⟨k, τ, h, _⟩
    · exact h
    · cases h
    · rw [abs_nil] at h; cases h
  · have := hj.foot_lt e
    exact ⟨by omega, by simp, by omega⟩
abbrev planE (lo hi mode : Int) : Obj := .cells #[.int .i64 lo, .int .i64 hi, .int .i64 mode] 45
theorem planE_cells {W : World} {b : Nat} {lo hi mode : Int} (h : W.heap[b]? = some (planE lo hi mode)) : W.cell? ⟨b, 0, none⟩ = some (.int .i64 lo) ∧ W.cell? ⟨b, 1, none⟩ = some (.int .i64 hi) ∧ W.cell? ⟨b, 2, none⟩ = some (.int .i64 mode) := by
  refine ⟨?_, ?_, ?_⟩ <;> (rw [Go.Joins.cell_of_block h]; rfl)
set_option maxHeartbeats 1000000 in
theorem enew_ok (lo hi mode : Int) (w : World) (h : planOk lo hi mode) : Calls Tryz.prog 13 #[.agg #[.int .i64 lo, .int .i64 hi, .int .i64 mode]] w fun e w' => ∃ be bj bm, e = .returned (.tuple #[.pointer (some ⟨be, 0, none⟩), .nilIface]) ∧ EngIn w' be bj bm (.slice none 0 0) (.slice none 0 0) 0 0 none (fun k => k = be) ⟨lo, hi, mode, -1099511627777, -1099511627777, 0, [], []⟩ [] [] ∧ w.heap.size ≤ be ∧ w.heap.size ≤ bj ∧ w.heap.size ≤ bm ∧ Below w.heap.size w w' := by
  have HN : Hid (∀ W, Below w.heap.size w W → W.heap[w.heap.size]? = some (planE lo hi mode) → Calls Tryz.prog 48 #[.agg #[.int .i64 lo, .int .i64 hi, .int .i64 mode]] W fun e w' => ∃ b, e = .returned (.tuple #[.pointer (some ⟨b, 0, none⟩), .nilIface]) ∧ w'.heap[w.heap.size]? = some (planE lo hi mode) ∧ Hid (∃ bm, w.heap.size ≤ b ∧ w.heap.size ≤ bm ∧ Below w.heap.size w w' ∧ JoinAt w' 0 b bm (.slice none 0 0) (.slice none 0 0) ⟨lo, hi, mode, -1099511627777, -1099511627777, 0, [], []⟩)) := by
    intro W hW hbx
    have hs := hW.size
    refine (jnew_ok lo hi mode W h).mono ?_
    rintro e w' ⟨b, bm, rfl, h1, h2, h3, h4⟩
    exact ⟨b, rfl, (h3.block _ (Array.getElem?_eq_some_iff.1 hbx).1).trans hbx, bm, by omega, by omega, hW.trans (h3.mono hs), h4.base0⟩
  clear h
  go_enter Tryz.func13, Tryz.ntmps13
  have B1 : Hid (Below w.heap.size w (w.alloc (planE lo hi mode)) ∧ (w.alloc (planE lo hi mode)).heap[w.heap.size]? = some (planE lo hi mode)) := ⟨Go.Joins.below_alloc1 _ _, heap_alloc_new w (planE lo hi mode)⟩
  go_wp2_with (first
    | (go_at_call 48; refine (HN.out _ B1.out.1 B1.out.2).mono ?_; rintro e w1 ⟨bj, rfl, hb1, h1⟩; have hc1 := planE_cells hb1)
    | fail)
  obtain ⟨bm, g1, g2, g3, g4⟩ := h1.out
  have hE := eng_new (T := 108) g4 rfl
  refine bodyPost_ret (v := .tuple #[.pointer (some ⟨w1.heap.size, 0, none⟩), .nilIface]) (by simp [results, Tryz.results13, go_sem]) rfl ⟨w1.heap.size, bj, bm, rfl, hE, g3.size, g1, g2, g3.alloc g3.size _⟩
theorem eview_any (HS : SortedSays) (be bj bm : Nat) (v0 v1 : Value) (f0 f1 : Int) (om : Option Nat) (Sg : Nat → Prop) (x : J) (L Lg : List O) (w : World) (h : EngIn w be bj bm v0 v1 f0 f1 om Sg x L Lg) (hL : L.length ≤ 1000000) :
    Calls Tryz.prog 27 #[.pointer (some ⟨be, 0, none⟩)] w fun e w' => ∃ v Z, e = .returned v ∧ Z.Perm L ∧ InOrder Z ∧ w'.ownsRow w.heap.size 89 9 v Z.length (Z.flatMap encO) ∧ Below w.heap.size w w' := by
  have H : Hid (Calls Tryz.prog 68 #[.pointer (some ⟨be, 6, none⟩)] w fun e w' => ∃ v Z, e = .returned v ∧ Z.Perm L ∧ InOrder Z ∧ w'.ownsRow w.heap.size 89 9 v Z.length (Z.flatMap encO) ∧ Below w.heap.size w w') := all_any HS be 6 L.length om L w h.bag (by omega) hL
  have hlt := h.blt
  clear h
  go_enter Tryz.func27, Tryz.ntmps27
  go_wp2_with (first
    | (go_at_call 68; refine H.out.mono ?_; rintro e w1 ⟨v, Z, rfl, h1⟩)
    | fail)
  go_ret
  exact ⟨v, Z, rfl, h1⟩
theorem egroups_any (be bj bm : Nat) (v0 v1 : Value) (f0 f1 : Int) (om : Option Nat) (Sg : Nat → Prop) (x : J) (L Lg : List O) (w : World) (h : EngIn w be bj bm v0 v1 f0 f1 om Sg x L Lg) (hL : Lg.length ≤ 1000000) :
    Calls Tryz.prog 30 #[.pointer (some ⟨be, 0, none⟩)] w fun e w' => ∃ (v : Value) (ks : List Int), e = .returned v ∧ ks.Pairwise (fun x y => x < y) ∧ (∀ k, k ∈ ks ↔ (absG Lg k).isSome = true) ∧ ks.length ≤ Lg.length ∧ w'.ownsRow w.heap.size 140 6 v ks.length (ks.flatMap (gE (absG Lg))) ∧ Below w.heap.size w w' := by
  have H : Hid (Calls Tryz.prog 72 #[.pointer (some ⟨be, 8, none⟩)] w fun e w' => ∃ (v : Value) (ks : List Int), e = .returned v ∧ ks.Pairwise (fun x y => x < y) ∧ (∀ k, k ∈ ks ↔ (absG Lg k).isSome = true) ∧ ks.length ≤ Lg.length ∧ w'.ownsRow w.heap.size 140 6 v ks.length (ks.flatMap (gE (absG Lg))) ∧ Below w.heap.size w w') := gall_any be 8 Lg.length Sg (absG Lg) w h.grp hL
  have hlt := h.blt
  clear h
  go_enter Tryz.func30, Tryz.ntmps30
  go_wp2_with (first
    | (go_at_call 72; refine H.out.mono ?_; rintro e w1 ⟨v, Z, rfl, h1⟩)
    | fail)
  go_ret
  exact ⟨v, Z, rfl, h1⟩
end Go.Proofs.YthfpipieboophaaGreatDoor

/- An engine: a row is fed. -/
namespace Go.Proofs.YthfpipieboophaaGreatDoor
open Go.RowKit Go.Sort
set_option maxRecDepth 100000
theorem slice_formE {w : World} {base n e size : Nat} {v : Value} {xs : List Value} (h : w.ownsRow base e size v n xs) : ∃ oa c, v = .slice oa n c := by
  rcases h.2 with ⟨rfl, h0⟩ | ⟨g, cap, cur, rfl, _⟩
  · exact ⟨none, 0, by rw [h0]⟩
  · exact ⟨_, _, rfl⟩
theorem eapply (be bj bm : Nat) (v0 v1 : Value) (f0 f1 : Int) (om : Option Nat) (Sg : Nat → Prop) (x : J) (L : List O) (c : Ch) (w : World) (h : EngIn w be bj bm v0 v1 f0 f1 om Sg x L L) (hwf : c.x.wf) (hg : c.g = true → c.x ∈ L) (hL : L.length ≤ 3000000) :
    Calls Tryz.prog 47 #[.pointer (some ⟨be, 0, none⟩), vC c.x c.g] w fun e w' => e = .returned (.tuple #[]) ∧ ∃ om' Sg', EngIn w' be bj bm v0 v1 f0 f1 om' Sg' x (if c.g = true then L.erase c.x else c.x :: L) (if c.g = true then L.erase c.x else c.x :: L) ∧ (∀ k, om' = some k → om = some k ∨ w.heap.size ≤ k) ∧ (∀ k, Sg' k → Sg k ∨ w.heap.size ≤ k) ∧ Turned (fun k => k = be ∨ om = some k ∨ Sg k) w w' := by
  obtain ⟨o, g⟩ := c
  cases g
  · refine eapply_any be bj bm v0 v1 f0 f1 om Sg x L (o :: L) o false w h (fun W hW => ?_) (fun W om' hW => ?_)
    · exact (apply_put be 6 L.length om L W hW.bag o hwf (by omega) (by omega)).mono fun e w' ⟨h1, om', h2, h3, h4⟩ => ⟨⟨_, h1⟩, om', _, h2, h3, h4⟩
    · exact (gapplyL_put be 8 L.length Sg L W hW.grp o hwf (by omega)).mono fun e w' ⟨h1, h2, h3⟩ => ⟨⟨_, h1⟩, _, h2, h3⟩
  · have hm := hg rfl
    refine eapply_any be bj bm v0 v1 f0 f1 om Sg x L (L.erase o) o true w h (fun W hW => ?_) (fun W om' hW => ?_)
    · exact (apply_take be 6 L.length om L W hW.bag o hwf hm (by omega) (by omega)).mono fun e w' ⟨h1, h2, h3⟩ => ⟨⟨_, h1⟩, om, _, h2, h3, .inl rfl⟩
    · exact (gapplyL_take be 8 L.length Sg L W hW.grp o hwf hm (by omega)).mono fun e w' ⟨h1, h2, h3⟩ => ⟨⟨_, h1⟩, _, h2, h3⟩
structure Fl (w : World) (S : Nat → Prop) (be bj bm : Nat) (v0 v1 : Value) (f0 f1 : Int) (x : J) (L : List O) (C : List Ch) (v9 : Value) (i : Nat) (W : World) : Prop where
  ex : ∃ om Sg, EngIn W be bj bm v0 v1 f0 f1 om Sg x (appC L (C.take i)) (appC L (C.take i)) ∧ (∀ k, footE bj bm v0 v1 om Sg k → S k ∨ w.heap.size ≤ k) ∧ (∀ k, v9.ownBlock = some k → ¬ footE bj bm v0 v1 om Sg k)
  row : W.ownsRow w.heap.size 95 10 v9 C.length (C.flatMap encC)
  turn : Turned S w W
theorem Fl.apply {w : World} {S : Nat → Prop} {be bj bm : Nat} {v0 v1 : Value} {f0 f1 : Int} {x : J} {L : List O} {C : List Ch} {v9 : Value} {i : Nat} {W : World} (h : Fl w S be bj bm v0 v1 f0 f1 x L C v9 i W) {c : Ch} (hc : C[i]? = some c) (hok : okC L C) (hwf : ∀ c ∈ C, c.x.wf) (hL : L.length ≤ 1000000) (hC : C.length ≤ 1000000) {W' : World} (hb : Below W.heap.size W W') :
    Calls Tryz.prog 47 #[.pointer (some ⟨be, 0, none⟩), vC c.x c.g] W' fun e w' => e = .returned (.tuple #[]) ∧ Hid (Fl w S be bj bm v0 v1 f0 f1 x L C v9 (i + 1) w') := by
  obtain ⟨om, Sg, h1, h2, h3⟩ := h.ex
  have hE := h1.below hb
  have hi : i < C.length := (List.getElem?_eq_some_iff.1 hc).1
  have hl := appC_len (C.take i) L
  rw [List.length_take] at hl
  refine (eapply be bj bm v0 v1 f0 f1 om Sg x _ c W' hE (hwf c (List.mem_of_getElem? hc)) (fun hg => (okC_at C L i c hok hc hg).1) (by omega)).mono ?_
  rintro e w' ⟨rfl, om', Sg', g1, g2, g3, g4⟩
  have hws := h.turn.size
  have hbs := hb.size
  have hr : W'.ownsRow w.heap.size 95 10 v9 C.length (C.flatMap encC) := kept_below h.row hb
  refine ⟨rfl, ⟨om', Sg', ?_, fun k e => ?_, fun k e => ?_⟩, ?_, ?_⟩
  · rw [appC_take C L i c hc]; exact g1
  · rcases e with e | e | e
    · exact h2 k (.inl e)
    · rcases g2 k e with e | e
      · exact h2 k (.inr (.inl e))
      · exact .inr (by omega)
    · rcases g3 k e with e | e
      · exact h2 k (.inr (.inr e))
      · exact .inr (by omega)
  · have hlt := (hr.lt k e).2
    rintro (e2 | e2 | e2)
    · exact h3 k e (.inl e2)
    · rcases g2 k e2 with e2 | e2
      · exact h3 k e (.inr (.inl e2))
      · omega
    · rcases g3 k e2 with e2 | e2
      · exact h3 k e (.inr (.inr e2))
      · omega
  · refine own_still hr (fun k e => g4.block k (hr.lt k e).2 ?_)
    rintro (e2 | e2 | e2)
    · exact h3 k e (.inr (.inr (by rw [e2]; exact h1.inS)))
    · exact h3 k e (.inr (.inl e2))
    · exact h3 k e (.inr (.inr e2))
  · refine (h.turn.trans (Turned.of_below (S := fun _ => False) hb) (fun _ _ e => e.elim)).trans g4 (fun k hk e => ?_)
    have h9 : footE bj bm v0 v1 om Sg k := by
      rcases e with e | e | e
      · exact .inr (.inr (by rw [e]; exact h1.inS))
      · exact .inr (.inl e)
      · exact .inr (.inr e)
    rcases h2 k h9 with e | e
    · exact e
    · omega
theorem Fl.below {w : World} {S : Nat → Prop} {be bj bm : Nat} {v0 v1 : Value} {f0 f1 : Int} {x : J} {L : List O} {C : List Ch} {v9 : Value} {i : Nat} {W W' : World} (h : Fl w S be bj bm v0 v1 f0 f1 x L C v9 i W) (hb : Below W.heap.size W W') : Fl w S be bj bm v0 v1 f0 f1 x L C v9 i W' := by
  obtain ⟨om, Sg, h1, h2, h3⟩ := h.ex
  exact ⟨⟨om, Sg, h1.below hb, h2, h3⟩, kept_below h.row hb, h.turn.trans (Turned.of_below (S := fun _ => False) hb) (fun _ _ e => e.elim)⟩
def satI (f : Int) : Int := if f = 9223372036854775807 then f else f + 1
theorem satI_in {f : Int} (h : 0 ≤ f ∧ f ≤ 9223372036854775807) : 0 ≤ satI f ∧ satI f ≤ 9223372036854775807 := by unfold satI; split <;> omega
theorem satI_max {f : Int} (h : 0 ≤ f ∧ f ≤ 9223372036854775807) : max f (wrap64 (f + 1)) = satI f := by
  unfold satI
  split
  · rename_i e
    subst e
    have : wrap64 (9223372036854775807 + 1) = -9223372036854775808 := by unfold wrap64; omega
    rw [this]
    omega
  · have : wrap64 (f + 1) = f + 1 := by unfold wrap64; omega
    rw [this]
    omega
theorem tell_nil (w : World) : Calls Tryz.prog 46 #[.nilIface] w fun e w' => e = .returned (.int .i64 0) ∧ w' = w := by
  go_enter Tryz.func46, Tryz.ntmps46
  go_wp2
  go_ret
  exact ⟨rfl, rfl⟩
abbrev rowE (k t v : Int) : Obj := .cells #[.int .i64 k, .int .i64 t, .int .i64 v] 37
theorem rowE_cells {W : World} {b : Nat} {k t v : Int} (h : W.heap[b]? = some (rowE k t v)) : W.cell? ⟨b, 0, none⟩ = some (.int .i64 k) ∧ W.cell? ⟨b, 1, none⟩ = some (.int .i64 t) ∧ W.cell? ⟨b, 2, none⟩ = some (.int .i64 v) := by
  refine ⟨?_, ?_, ?_⟩ <;> (rw [Go.Joins.cell_of_block h]; rfl)
set_option maxHeartbeats 8000000 in
theorem efeed0 (be bj bm : Nat) (v0 v1 : Value) (f0 f1 : Int) (om : Option Nat) (Sg : Nat → Prop) (x x' : J) (L : List O) (C : List Ch) (k t v : Int) (w : World) (h : EngIn w be bj bm v0 v1 f0 f1 om Sg x L L)
    (hx : x'.lo = x.lo ∧ x'.hi = x.hi ∧ x'.mode = x.mode)
    (hJ : ∀ W, JoinAt W 0 bj bm v0 v1 x → Calls Tryz.prog 45 #[.pointer (some ⟨bj, 0, none⟩), .int .i64 0, .agg #[.int .i64 k, .int .i64 t, .int .i64 v]] W fun e w' => ∃ v9 v0' v1', e = .returned (.tuple #[v9, .nilIface]) ∧ JoinAt w' 0 bj bm v0' v1' x' ∧ w'.ownsRow W.heap.size 95 10 v9 C.length (C.flatMap encC) ∧ Turned (footJ bj bm v0 v1) W w' ∧ (∀ k, footJ bj bm v0' v1' k → footJ bj bm v0 v1 k ∨ W.heap.size ≤ k) ∧ (∀ k, v9.ownBlock = some k → ¬ footJ bj bm v0' v1' k))
    (hok : okC L C) (hwf : ∀ c ∈ C, c.x.wf) (hL : L.length ≤ 1000000) (hC : C.length ≤ 1000000) :
    Calls Tryz.prog 11 #[.pointer (some ⟨be, 0, none⟩), .int .i64 0, .agg #[.int .i64 k, .int .i64 t, .int .i64 v]] w fun e w' => ∃ v9 v0' v1', e = .returned (.tuple #[v9, .nilIface]) ∧ Fl w (footE bj bm v0 v1 om Sg) be bj bm v0' v1' (satI f0) f1 x' L C v9 C.length w' := by
  have HJ : Hid (∀ W, Below w.heap.size w W → W.heap[w.heap.size]? = some (rowE k t v) → Calls Tryz.prog 45 #[.pointer (some ⟨bj, 0, none⟩), .int .i64 0, .agg #[.int .i64 k, .int .i64 t, .int .i64 v]] W fun e w' => ∃ v9, e = .returned (.tuple #[v9, .nilIface]) ∧ (w'.cell? ⟨be, 4, none⟩ = some (.int .i64 f0) ∧ w'.frozen? ⟨be, 4, none⟩ = false ∧ be < w'.heap.size) ∧ (w'.cell? ⟨be, 3, none⟩ = some (.pointer (some ⟨bj, 0, none⟩)) ∧ w'.cell? ⟨w.heap.size, 0, none⟩ = some (.int .i64 k) ∧ w'.cell? ⟨w.heap.size, 1, none⟩ = some (.int .i64 t) ∧ w'.cell? ⟨w.heap.size, 2, none⟩ = some (.int .i64 v)) ∧ Hid (∃ v0' v1', Fl w (footE bj bm v0 v1 om Sg) be bj bm v0' v1' (satI f0) f1 x' L C v9 0 (w'.setCell ⟨be, 4, none⟩ (.int .i64 (satI f0))))) := by
    intro W hW hbx
    have hE := h.below hW
    refine (hJ W hE.join).mono ?_
    rintro e w' ⟨v9, v0', v1', rfl, h1, h2, h3, h4, h5⟩
    have hE2 := hE.joined h1 hx h3 h4
    have hc := hE2.cells
    have hws := hW.size
    have hs : ∀ k, k ≠ be → (w'.setCell ⟨be, 4, none⟩ (.int .i64 (satI f0))).heap[k]? = w'.heap[k]? := fun k e => Below.heap_setCell _ _ _ _ e
    have hlt := hE.blt
    refine ⟨v9, rfl, ⟨hc.2.2.2.2.1, hc.2.2.2.2.2.2.1, hE2.blt⟩, ⟨hc.2.2.2.1, rowE_cells ((h3.block _ (Array.getElem?_eq_some_iff.1 hbx).1 (fun e => by have := h.join.foot_lt e; omega)).trans hbx)⟩, v0', v1', ⟨om, Sg, ?_, fun k e => ?_, fun k e => ?_⟩, ?_, ?_⟩
    · exact hE2.setf 4 _ _ _ (.inl ⟨rfl, rfl, rfl⟩) (satI_in h.r0)
    · rcases e with e | e
      · rcases h4 k e with e | e
        · exact .inl (.inl e)
        · exact .inr (by omega)
      · exact .inl (.inr e)
    · have hl9 := (h2.lt k e).1
      rintro (e2 | e2 | e2)
      · exact h5 k e e2
      · have := (hE.bag.ne e2).2; omega
      · have := hE.grp.lt e2; omega
    · refine own_still (h2.mono hws) (fun k e => hs k ?_)
      have := (h2.lt k e).1
      omega
    · refine (((Turned.of_below (S := footE bj bm v0 v1 om Sg) hW).trans h3 (fun _ _ e => .inl e)).trans (turned_cell (b := be)) (fun k _ e => .inr (.inr (by rw [e]; exact h.inS))))
  have HM : Hid (max f0 (wrap64 (f0 + 1)) = satI f0) := satI_max h.r0
  have HO : Hid (okC L C ∧ (∀ c ∈ C, c.x.wf)) := ⟨hok, hwf⟩
  have hc0 := h.cells
  have hlt := h.blt
  have hf := h.r0
  clear h hJ hok hwf hx
  go_enter Tryz.func11, Tryz.ntmps11
  go_wp2
  have B1 : Hid (Below w.heap.size w (w.alloc (rowE k t v)).drew ∧ (w.alloc (rowE k t v)).drew.heap[w.heap.size]? = some (rowE k t v)) := ⟨(Go.Joins.below_alloc1 _ _).drew, heap_alloc_new w (rowE k t v)⟩
  have hc1 : (w.alloc (rowE k t v)).cell? ⟨be, 3, none⟩ = some (.pointer (some ⟨bj, 0, none⟩)) ∧ (w.alloc (rowE k t v)).cell? ⟨w.heap.size, 0, none⟩ = some (.int .i64 k) ∧ (w.alloc (rowE k t v)).cell? ⟨w.heap.size, 1, none⟩ = some (.int .i64 t) ∧ (w.alloc (rowE k t v)).cell? ⟨w.heap.size, 2, none⟩ = some (.int .i64 v) := ⟨((Go.Joins.below_alloc1 w (rowE k t v)).cell (p := ⟨be, 3, none⟩) hlt).trans hc0.2.2.2.1, rowE_cells (heap_alloc_new w (rowE k t v))⟩
  clear hc0
  go_region_held3 (fun W => W.cell? ⟨be, 3, none⟩ = some (.pointer (some ⟨bj, 0, none⟩)) ∧ W.cell? ⟨w.heap.size, 0, none⟩ = some (.int .i64 k) ∧ W.cell? ⟨w.heap.size, 1, none⟩ = some (.int .i64 t) ∧ W.cell? ⟨w.heap.size, 2, none⟩ = some (.int .i64 v)) (first | exact hc1 | exact hc2 | fail) (first
    | (go_at_call 45; refine (HJ.out _ B1.out.1 B1.out.2).mono ?_; rintro e w1 ⟨v9, rfl, hc4, hc2, h1⟩)
    | fail)
  clear hc1 hc2 B1 HJ
  go_wp2_with (first
    | (go_at_call 46; refine (tell_nil _).mono ?_; rintro e w' ⟨rfl, hw⟩; have hw := hw.symm; subst hw)
    | fail)
  go_region
  rw [HM.out]
  obtain ⟨v0', v1', F1⟩ := h1.out
  have F2 : Hid (Fl w (footE bj bm v0 v1 om Sg) be bj bm v0' v1' (satI f0) f1 x' L C v9 0 (w1.setCell ⟨be, 4, none⟩ (.int .i64 (satI f0))).drew) := F1.below ((Below.refl _ _).drew)
  revert F2
  generalize (w1.setCell ⟨be, 4, none⟩ (.int .i64 (satI f0))).drew = w2
  intro F2
  clear F1 h1 hc4
  obtain ⟨oa9, c9, e9⟩ := slice_formE F2.out.row
  subst e9
  go_wp2
  go_loopg [51] C.length (fun gg s51 wr => ∃ i : Nat, i ≤ C.length ∧ gg = C.length - i ∧ s51 = .int .i64 i ∧ Hid (Fl w (footE bj bm v0 v1 om Sg) be bj bm v0' v1' (satI f0) f1 x' L C (.slice oa9 C.length c9) i wr))
  case atStart => exact ⟨0, Nat.zero_le _, rfl, rfl, F2⟩
  case round =>
    obtain ⟨i, hile, hgk, rfl, I⟩ := hrel
    have HG : Hid (gk = C.length - i) := hgk
    clear hgk F2
    by_cases hlt2 : i < C.length
    · obtain ⟨c, hc⟩ : ∃ c, C[i]? = some c := ⟨_, List.getElem?_eq_getElem hlt2⟩
      obtain ⟨gs9, ck9, eoa⟩ := Go.Joins.ownsRow_form I.out.row (show 0 < C.length by omega)
      cases eoa
      have hcc := ch_cells I.out.row i c hc
      have hgl : gs9 < wr.heap.size := (I.out.row.lt gs9 rfl).2
      have j1 : (0 : Int) ≤ (i : Int) := by omega
      have j2 : (i : Int) < (C.length : Int) := by omega
      have j3 : (C.length : Int) ≤ 1000000 := by omega
      have HA := I.out.apply hc HO.out.1 HO.out.2 hL hC (Go.Joins.below_alloc1 wr (boxE c.x c.g))
      have HB : Hid (Calls Tryz.prog 47 #[.pointer (some ⟨be, 0, none⟩), vC c.x c.g] (wr.alloc (boxE c.x c.g)) fun e w' => e = .returned (.tuple #[]) ∧ Hid (Fl w (footE bj bm v0 v1 om Sg) be bj bm v0' v1' (satI f0) f1 x' L C (.slice (some ⟨gs9, 0, none⟩) C.length c9) (i + 1) w')) := HA
      simp only [vC] at HB
      clear HA hc I
      go_wp2_with (first
        | (go_at_call 47; refine HB.out.mono ?_; rintro e w3 ⟨rfl, I2⟩)
        | fail)
      go_roundg (C.length - (i + 1))
      all_goals first
        | (have := HG.out; omega)
        | exact ⟨i + 1, by omega, rfl, by first | rfl | (congr 1; omega) | go_num, I2⟩
    · have j2 : ¬ ((i : Int) < (C.length : Int)) := by omega
      have hie : i = C.length := by omega
      go_wp2
      have hI := I.out
      rw [hie] at hI
      exact bodyPost_ret (v := .tuple #[.slice oa9 C.length c9, .nilIface]) (by simp [results, Tryz.results11, go_sem]) rfl ⟨_, rfl, v0', v1', hI⟩
set_option maxHeartbeats 8000000 in
theorem efeed1 (be bj bm : Nat) (v0 v1 : Value) (f0 f1 : Int) (om : Option Nat) (Sg : Nat → Prop) (x x' : J) (L : List O) (C : List Ch) (k t v : Int) (w : World) (h : EngIn w be bj bm v0 v1 f0 f1 om Sg x L L)
    (hx : x'.lo = x.lo ∧ x'.hi = x.hi ∧ x'.mode = x.mode)
    (hJ : ∀ W, JoinAt W 0 bj bm v0 v1 x → Calls Tryz.prog 45 #[.pointer (some ⟨bj, 0, none⟩), .int .i64 1, .agg #[.int .i64 k, .int .i64 t, .int .i64 v]] W fun e w' => ∃ v9 v0' v1', e = .returned (.tuple #[v9, .nilIface]) ∧ JoinAt w' 0 bj bm v0' v1' x' ∧ w'.ownsRow W.heap.size 95 10 v9 C.length (C.flatMap encC) ∧ Turned (footJ bj bm v0 v1) W w' ∧ (∀ k, footJ bj bm v0' v1' k → footJ bj bm v0 v1 k ∨ W.heap.size ≤ k) ∧ (∀ k, v9.ownBlock = some k → ¬ footJ bj bm v0' v1' k))
    (hok : okC L C) (hwf : ∀ c ∈ C, c.x.wf) (hL : L.length ≤ 1000000) (hC : C.length ≤ 1000000) :
    Calls Tryz.prog 11 #[.pointer (some ⟨be, 0, none⟩), .int .i64 1, .agg #[.int .i64 k, .int .i64 t, .int .i64 v]] w fun e w' => ∃ v9 v0' v1', e = .returned (.tuple #[v9, .nilIface]) ∧ Fl w (footE bj bm v0 v1 om Sg) be bj bm v0' v1' f0 (satI f1) x' L C v9 C.length w' := by
  have HJ : Hid (∀ W, Below w.heap.size w W → W.heap[w.heap.size]? = some (rowE k t v) → Calls Tryz.prog 45 #[.pointer (some ⟨bj, 0, none⟩), .int .i64 1, .agg #[.int .i64 k, .int .i64 t, .int .i64 v]] W fun e w' => ∃ v9, e = .returned (.tuple #[v9, .nilIface]) ∧ (w'.cell? ⟨be, 5, none⟩ = some (.int .i64 f1) ∧ w'.frozen? ⟨be, 5, none⟩ = false ∧ be < w'.heap.size) ∧ (w'.cell? ⟨be, 3, none⟩ = some (.pointer (some ⟨bj, 0, none⟩)) ∧ w'.cell? ⟨w.heap.size, 0, none⟩ = some (.int .i64 k) ∧ w'.cell? ⟨w.heap.size, 1, none⟩ = some (.int .i64 t) ∧ w'.cell? ⟨w.heap.size, 2, none⟩ = some (.int .i64 v)) ∧ Hid (∃ v0' v1', Fl w (footE bj bm v0 v1 om Sg) be bj bm v0' v1' f0 (satI f1) x' L C v9 0 (w'.setCell ⟨be, 5, none⟩ (.int .i64 (satI f1))))) := by
    intro W hW hbx
    have hE := h.below hW
    refine (hJ W hE.join).mono ?_
    rintro e w' ⟨v9, v0', v1', rfl, h1, h2, h3, h4, h5⟩
    have hE2 := hE.joined h1 hx h3 h4
    have hc := hE2.cells
    have hws := hW.size
    have hs : ∀ k, k ≠ be → (w'.setCell ⟨be, 5, none⟩ (.int .i64 (satI f1))).heap[k]? = w'.heap[k]? := fun k e => Below.heap_setCell _ _ _ _ e
    have hlt := hE.blt
    refine ⟨v9, rfl, ⟨hc.2.2.2.2.2.1, hc.2.2.2.2.2.2.2, hE2.blt⟩, ⟨hc.2.2.2.1, rowE_cells ((h3.block _ (Array.getElem?_eq_some_iff.1 hbx).1 (fun e => by have := h.join.foot_lt e; omega)).trans hbx)⟩, v0', v1', ⟨om, Sg, ?_, fun k e => ?_, fun k e => ?_⟩, ?_, ?_⟩
    · exact hE2.setf 5 _ _ _ (.inr ⟨rfl, rfl, rfl⟩) (satI_in h.r1)
    · rcases e with e | e
      · rcases h4 k e with e | e
        · exact .inl (.inl e)
        · exact .inr (by omega)
      · exact .inl (.inr e)
    · have hl9 := (h2.lt k e).1
      rintro (e2 | e2 | e2)
      · exact h5 k e e2
      · have := (hE.bag.ne e2).2; omega
      · have := hE.grp.lt e2; omega
    · refine own_still (h2.mono hws) (fun k e => hs k ?_)
      have := (h2.lt k e).1
      omega
    · refine (((Turned.of_below (S := footE bj bm v0 v1 om Sg) hW).trans h3 (fun _ _ e => .inl e)).trans (turned_cell (b := be)) (fun k _ e => .inr (.inr (by rw [e]; exact h.inS))))
  have HM : Hid (max f1 (wrap64 (f1 + 1)) = satI f1) := satI_max h.r1
  have HO : Hid (okC L C ∧ (∀ c ∈ C, c.x.wf)) := ⟨hok, hwf⟩
  have hc0 := h.cells
  have hlt := h.blt
  have hf := h.r1
  clear h hJ hok hwf hx
  go_enter Tryz.func11, Tryz.ntmps11
  go_wp2
  have B1 : Hid (Below w.heap.size w (w.alloc (rowE k t v)).drew ∧ (w.alloc (rowE k t v)).drew.heap[w.heap.size]? = some (rowE k t v)) := ⟨(Go.Joins.below_alloc1 _ _).drew, heap_alloc_new w (rowE k t v)⟩
  have hc1 : (w.alloc (rowE k t v)).cell? ⟨be, 3, none⟩ = some (.pointer (some ⟨bj, 0, none⟩)) ∧ (w.alloc (rowE k t v)).cell? ⟨w.heap.size, 0, none⟩ = some (.int .i64 k) ∧ (w.alloc (rowE k t v)).cell? ⟨w.heap.size, 1, none⟩ = some (.int .i64 t) ∧ (w.alloc (rowE k t v)).cell? ⟨w.heap.size, 2, none⟩ = some (.int .i64 v) := ⟨((Go.Joins.below_alloc1 w (rowE k t v)).cell (p := ⟨be, 3, none⟩) hlt).trans hc0.2.2.2.1, rowE_cells (heap_alloc_new w (rowE k t v))⟩
  clear hc0
  go_region_held3 (fun W => W.cell? ⟨be, 3, none⟩ = some (.pointer (some ⟨bj, 0, none⟩)) ∧ W.cell? ⟨w.heap.size, 0, none⟩ = some (.int .i64 k) ∧ W.cell? ⟨w.heap.size, 1, none⟩ = some (.int .i64 t) ∧ W.cell? ⟨w.heap.size, 2, none⟩ = some (.int .i64 v)) (first | exact hc1 | exact hc2 | fail) (first
    | (go_at_call 45; refine (HJ.out _ B1.out.1 B1.out.2).mono ?_; rintro e w1 ⟨v9, rfl, hc4, hc2, h1⟩)
    | fail)
  clear hc1 hc2 B1 HJ
  go_wp2_with (first
    | (go_at_call 46; refine (tell_nil _).mono ?_; rintro e w' ⟨rfl, hw⟩; have hw := hw.symm; subst hw)
    | fail)
  go_region
  rw [HM.out]
  obtain ⟨v0', v1', F1⟩ := h1.out
  have F2 : Hid (Fl w (footE bj bm v0 v1 om Sg) be bj bm v0' v1' f0 (satI f1) x' L C v9 0 (w1.setCell ⟨be, 5, none⟩ (.int .i64 (satI f1))).drew) := F1.below ((Below.refl _ _).drew)
  revert F2
  generalize (w1.setCell ⟨be, 5, none⟩ (.int .i64 (satI f1))).drew = w2
  intro F2
  clear F1 h1 hc4
  obtain ⟨oa9, c9, e9⟩ := slice_formE F2.out.row
  subst e9
  go_wp2
  go_loopg [51] C.length (fun gg s51 wr => ∃ i : Nat, i ≤ C.length ∧ gg = C.length - i ∧ s51 = .int .i64 i ∧ Hid (Fl w (footE bj bm v0 v1 om Sg) be bj bm v0' v1' f0 (satI f1) x' L C (.slice oa9 C.length c9) i wr))
  case atStart => exact ⟨0, Nat.zero_le _, rfl, rfl, F2⟩
  case round =>
    obtain ⟨i, hile, hgk, rfl, I⟩ := hrel
    have HG : Hid (gk = C.length - i) := hgk
    clear hgk F2
    by_cases hlt2 : i < C.length
    · obtain ⟨c, hc⟩ : ∃ c, C[i]? = some c := ⟨_, List.getElem?_eq_getElem hlt2⟩
      obtain ⟨gs9, ck9, eoa⟩ := Go.Joins.ownsRow_form I.out.row (show 0 < C.length by omega)
      cases eoa
      have hcc := ch_cells I.out.row i c hc
      have hgl : gs9 < wr.heap.size := (I.out.row.lt gs9 rfl).2
      have j1 : (0 : Int) ≤ (i : Int) := by omega
      have j2 : (i : Int) < (C.length : Int) := by omega
      have j3 : (C.length : Int) ≤ 1000000 := by omega
      have HA := I.out.apply hc HO.out.1 HO.out.2 hL hC (Go.Joins.below_alloc1 wr (boxE c.x c.g))
      have HB : Hid (Calls Tryz.prog 47 #[.pointer (some ⟨be, 0, none⟩), vC c.x c.g] (wr.alloc (boxE c.x c.g)) fun e w' => e = .returned (.tuple #[]) ∧ Hid (Fl w (footE bj bm v0 v1 om Sg) be bj bm v0' v1' f0 (satI f1) x' L C (.slice (some ⟨gs9, 0, none⟩) C.length c9) (i + 1) w')) := HA
      simp only [vC] at HB
      clear HA hc I
      go_wp2_with (first
        | (go_at_call 47; refine HB.out.mono ?_; rintro e w3 ⟨rfl, I2⟩)
        | fail)
      go_roundg (C.length - (i + 1))
      all_goals first
        | (have := HG.out; omega)
        | exact ⟨i + 1, by omega, rfl, by first | rfl | (congr 1; omega) | go_num, I2⟩
    · have j2 : ¬ ((i : Int) < (C.length : Int)) := by omega
      have hie : i = C.length := by omega
      go_wp2
      have hI := I.out
      rw [hie] at hI
      exact bodyPost_ret (v := .tuple #[.slice oa9 C.length c9, .nilIface]) (by simp [results, Tryz.results11, go_sem]) rfl ⟨_, rfl, v0', v1', hI⟩
end Go.Proofs.YthfpipieboophaaGreatDoor
