/- What all of a key come to, by the list of those that are there: it hangs not on the order; what came and went is not in it. -/
import Derived.Test.YtgffodmipbefpaaDoorGry
namespace Go.Proofs.YtgffodmipbefpaaDoor
open Go.RowKit Go.Sort
set_option maxRecDepth 100000

/-- What those of a list come to. -/
def talOf : List O → Tl
  | [] => τ0
  | x :: M => putT (talOf M) x
def ofK (L : List O) (k : Int) : List O := L.filter fun o => o.k == k
def absG (L : List O) (k : Int) : Option Tl := if ofK L k = [] then none else some (talOf (ofK L k))

/-- Alike, but for the order of the right values. -/
structure Teq (τ τ' : Tl) : Prop where
  c : τ.c = τ'.c
  s : τ.s = τ'.s
  R : τ.R.Perm τ'.R
theorem Teq.refl (τ : Tl) : Teq τ τ := ⟨rfl, rfl, List.Perm.refl _⟩
theorem Teq.symm {τ τ' : Tl} (h : Teq τ τ') : Teq τ' τ := ⟨h.c.symm, h.s.symm, h.R.symm⟩
theorem Teq.trans {a b c : Tl} (h : Teq a b) (k : Teq b c) : Teq a c := ⟨h.c.trans k.c, h.s.trans k.s, h.R.trans k.R⟩
theorem Teq.put {τ τ' : Tl} (h : Teq τ τ') (x : O) : Teq (putT τ x) (putT τ' x) := by
  refine ⟨by simp [putT, h.c], by simp [putT, h.s], ?_⟩
  cases hr : x.hr <;> simp [putT, hr, h.R]
theorem Teq.take {τ τ' : Tl} (h : Teq τ τ') (x : O) : Teq (takeT τ x) (takeT τ' x) := by
  refine ⟨by simp [takeT, h.c], by simp [takeT, h.s], ?_⟩
  cases hr : x.hr
  · simpa [takeT, hr] using h.R
  · simpa [takeT, hr] using h.R.erase x.rv

theorem wrap_idem (n : Int) : wrap64 (wrap64 n) = wrap64 n := by unfold wrap64; omega
theorem tal_in (M : List O) : wrap64 (talOf M).s = (talOf M).s := by
  induction M with
  | nil => show wrap64 0 = 0; unfold wrap64; omega
  | cons x M ih =>
    show wrap64 (putT (talOf M) x).s = (putT (talOf M) x).s
    cases hl : x.hl
    · simpa [putT, hl] using ih
    · simp [putT, hl, wrap_idem]
theorem put_swap (τ : Tl) (x y : O) : Teq (putT (putT τ x) y) (putT (putT τ y) x) := by
  refine ⟨by simp [putT], ?_, ?_⟩
  · cases hx : x.hl <;> cases hy : y.hl <;> simp [putT, hx, hy]
    unfold wrap64; omega
  · cases hx : x.hr <;> cases hy : y.hr <;> simp [putT, hx, hy]
    exact List.Perm.swap _ _ _
theorem tal_perm {M M' : List O} (h : M.Perm M') : Teq (talOf M) (talOf M') := by
  induction h with
  | nil => exact Teq.refl _
  | cons x _ ih => exact ih.put x
  | swap x y l => exact put_swap _ _ _
  | trans _ _ h1 h2 => exact h1.trans h2
theorem take_put (M : List O) (x : O) : Teq (takeT (putT (talOf M) x) x) (talOf M) := by
  refine ⟨by simp [putT, takeT], ?_, ?_⟩
  · cases hl : x.hl
    · simp [putT, takeT, hl]
    · have := tal_in M
      simp only [putT, takeT, hl, if_true]
      unfold wrap64 at *; omega
  · cases hr : x.hr <;> simp [putT, takeT, hr]
theorem tal_count (M : List O) : (talOf M).c = M.length := by
  induction M with
  | nil => rfl
  | cons x M ih => show (talOf M).c + 1 = _; rw [ih]; rfl
theorem tal_right {M : List O} {x : O} (h : x ∈ M) (hr : x.hr = true) : x.rv ∈ (talOf M).R := by
  induction M with
  | nil => cases h
  | cons y M ih =>
    show x.rv ∈ (putT (talOf M) y).R
    rcases List.mem_cons.1 h with rfl | h
    · simp [putT, hr]
    · have := ih h
      cases hy : y.hr
      · simpa [putT, hy] using this
      · simp [putT, hy, this]
/-- Which right values there are. -/
theorem tal_rights (M : List O) (v : Int) : v ∈ (talOf M).R ↔ ∃ x ∈ M, x.hr = true ∧ x.rv = v := by
  induction M with
  | nil => simp [talOf]
  | cons y M ih =>
    show v ∈ (putT (talOf M) y).R ↔ _
    cases hy : y.hr
    · simp only [putT, hy, Bool.false_eq_true, if_false, ih]
      constructor
      · rintro ⟨x, h1, h2⟩; exact ⟨x, by simp [h1], h2⟩
      · rintro ⟨x, h1, h2, h3⟩
        rcases List.mem_cons.1 h1 with rfl | h1
        · rw [hy] at h2; cases h2
        · exact ⟨x, h1, h2, h3⟩
    · simp only [putT, hy, if_true, List.mem_cons, ih]
      constructor
      · rintro (rfl | ⟨x, h1, h2⟩)
        · exact ⟨y, .inl rfl, hy, rfl⟩
        · exact ⟨x, .inr h1, h2⟩
      · rintro ⟨x, rfl | h1, h2, h3⟩
        · exact .inl h3.symm
        · exact .inr ⟨x, h1, h2, h3⟩

theorem ofK_same (x : O) (L : List O) : ofK (x :: L) x.k = x :: ofK L x.k := by simp [ofK]
theorem ofK_other (x : O) (L : List O) {k : Int} (h : k ≠ x.k) : ofK (x :: L) k = ofK L k := by simp [ofK, Ne.symm h]
theorem ofK_perm {L L' : List O} (h : L.Perm L') (k : Int) : (ofK L k).Perm (ofK L' k) := h.filter _
theorem ofK_mem {L : List O} {x : O} : x ∈ ofK L x.k ↔ x ∈ L := by simp [ofK]

/-- Alike, key by key. -/
def Geq (G G' : Int → Option Tl) : Prop := ∀ k, (G k = none ∧ G' k = none) ∨ ∃ τ τ', G k = some τ ∧ G' k = some τ' ∧ Teq τ τ'
theorem Geq.refl (G : Int → Option Tl) : Geq G G := fun k => by
  cases h : G k with
  | none => exact .inl ⟨rfl, rfl⟩
  | some τ => exact .inr ⟨τ, τ, rfl, rfl, Teq.refl τ⟩
theorem abs_nil : absG [] = fun _ => none := by funext k; simp [absG, ofK]
theorem abs_put (L : List O) (x : O) : putG (absG L) x = absG (x :: L) := by
  funext k
  by_cases e : k = x.k
  · subst e
    have e1 : absG (x :: L) x.k = some (putT (talOf (ofK L x.k)) x) := by
      unfold absG
      rw [ofK_same]
      exact if_neg (by simp)
    have e0 : (absG L x.k).getD τ0 = talOf (ofK L x.k) := by
      unfold absG
      by_cases h : ofK L x.k = []
      · rw [if_pos h, h]; rfl
      · rw [if_neg h]; rfl
    unfold putG
    rw [setG_same, e1, e0]
  · unfold putG
    rw [setG_other _ _ e]
    unfold absG
    rw [ofK_other x L e]
theorem abs_perm {L L' : List O} (h : L.Perm L') : Geq (absG L) (absG L') := fun k => by
  have hp := ofK_perm h k
  unfold absG
  by_cases e : ofK L k = []
  · have e' : ofK L' k = [] := by rw [e] at hp; exact hp.symm.eq_nil
    exact .inl ⟨if_pos e, if_pos e'⟩
  · have e' : ofK L' k ≠ [] := fun e2 => e (by rw [e2] at hp; exact hp.eq_nil)
    exact .inr ⟨_, _, if_neg e, if_neg e', tal_perm hp⟩
theorem abs_has {L : List O} {x : O} (h : x ∈ L) : absG L x.k = some (talOf (ofK L x.k)) := by
  unfold absG
  rw [if_neg (List.ne_nil_of_mem (ofK_mem.2 h))]
theorem abs_yes {L : List O} {x : O} (h : x ∈ L) : yesG x (talOf (ofK L x.k)) := fun hr => tal_right (ofK_mem.2 h) hr
theorem abs_take {L : List O} {x : O} (h : x ∈ L) : Geq (takeG (absG L) x (talOf (ofK L x.k))) (absG (L.erase x)) := fun k => by
  have hp := ofK_perm (List.perm_cons_erase h) k
  by_cases e : k = x.k
  · subst e
    rw [ofK_same] at hp
    unfold takeG
    rw [setG_same]
    have hlen := hp.length_eq
    simp only [List.length_cons] at hlen
    by_cases h1 : (talOf (ofK L x.k)).c = 1
    · rw [if_pos h1]
      rw [tal_count] at h1
      refine .inl ⟨rfl, ?_⟩
      unfold absG
      rw [if_pos (List.eq_nil_of_length_eq_zero (by omega))]
    · rw [if_neg h1]
      rw [tal_count] at h1
      refine .inr ⟨_, talOf (ofK (L.erase x) x.k), rfl, ?_, ?_⟩
      · unfold absG
        rw [if_neg (fun e => by rw [e] at hlen; simp at hlen; omega)]
      · exact ((tal_perm hp).take x).trans (take_put _ x)
  · rw [ofK_other x _ e] at hp
    unfold takeG
    rw [setG_other _ _ e]
    unfold absG
    by_cases h0 : ofK L k = []
    · have h0' : ofK (L.erase x) k = [] := by rw [h0] at hp; exact hp.symm.eq_nil
      exact .inl ⟨if_pos h0, if_pos h0'⟩
    · have h0' : ofK (L.erase x) k ≠ [] := fun e2 => h0 (by rw [e2] at hp; exact hp.eq_nil)
      exact .inr ⟨_, _, if_neg h0, if_neg h0', tal_perm hp⟩

theorem TalAt.same {w : World} {t r m : Nat} {τ τ' : Tl} (h : TalAt w t r m τ) (e : Teq τ τ') : TalAt w t r m τ' := by
  obtain ⟨n, D, h1, h2, h3⟩ := h.own
  refine ⟨by rw [← e.c, ← e.s]; exact h.blk, ⟨n, D, h1, h2, h3.perm e.R⟩, by rw [← e.c]; exact h.lo, by rw [← e.c]; exact h.hi, by rw [← e.R.length_eq]; exact h.len⟩
theorem Geq.back {G G' : Int → Option Tl} (e : Geq G G') {k : Int} {τ' : Tl} (h : G' k = some τ') : ∃ τ, G k = some τ ∧ Teq τ τ' := by
  rcases e k with ⟨_, h2⟩ | ⟨τ, τ2, h1, h2, h3⟩
  · rw [h2] at h; cases h
  · rw [h2] at h; cases h; exact ⟨τ, h1, h3⟩
theorem Geq.on {G G' : Int → Option Tl} (e : Geq G G') {k : Int} {τ : Tl} (h : G k = some τ) : ∃ τ', G' k = some τ' ∧ Teq τ τ' := by
  rcases e k with ⟨h1, _⟩ | ⟨τ1, τ2, h1, h2, h3⟩
  · rw [h1] at h; cases h
  · rw [h1] at h; cases h; exact ⟨τ2, h2, h3⟩
theorem GMap.same {w : World} {b bm m n : Nat} {tal : Int → Nat × Nat} {G G' : Int → Option Tl} {D : DataW Value} (h : GMap w b bm tal m G n D) (e : Geq G G') : GMap w b bm tal m G' n D := by
  refine ⟨h.le, h.own, ⟨h.dat.isMap, fun k hk => ?_, fun k τ hk => ?_, fun l hl => ?_, fun k τ hk => ?_⟩, fun k τ hk => ?_, h.bmb, fun k τ hk => ?_, fun k k' τ τ' hk hk' hne => ?_⟩
  · rw [h.dat.has k hk]
    rcases e k with ⟨h1, h2⟩ | ⟨τ, τ2, h1, h2, _⟩ <;> rw [h1, h2] <;> rfl
  · obtain ⟨τ1, h1, _⟩ := e.back hk; exact h.dat.at_ k τ1 h1
  · obtain ⟨k, τ, e1, h1⟩ := h.dat.keys l hl
    obtain ⟨τ', h2, _⟩ := e.on h1
    exact ⟨k, τ', e1, h2⟩
  · obtain ⟨τ1, h1, _⟩ := e.back hk; exact h.dat.wf k τ1 h1
  · obtain ⟨τ1, h1, h2⟩ := e.back hk; exact (h.tals k τ1 h1).same h2
  · obtain ⟨τ1, h1, _⟩ := e.back hk; exact h.nb k τ1 h1
  · obtain ⟨τ1, h1, _⟩ := e.back hk
    obtain ⟨τ2, h2, _⟩ := e.back hk'
    exact h.inj k k' τ1 τ2 h1 h2 hne
theorem Grp.same {w : World} {b o m : Nat} {S : Nat → Prop} {G G' : Int → Option Tl} (h : Grp w b o m S G) (e : Geq G G') : Grp w b o m S G' := by
  obtain ⟨om, tal, h1, h2, h3⟩ := h
  refine ⟨om, tal, ⟨h1.blk, ?_⟩, fun j hj => h2 j ?_, h3⟩
  · rcases h1.map with ⟨rfl, rfl⟩ | ⟨bm, n, D, rfl, hM⟩
    · refine .inl ⟨rfl, ?_⟩
      funext k
      rcases e k with ⟨_, h⟩ | ⟨_, _, h, _⟩
      · exact h
      · cases h
    · exact .inr ⟨bm, n, D, rfl, hM.same e⟩
  · rcases hj with h | h | ⟨k, τ, hk, h⟩
    · exact .inl h
    · exact .inr (.inl h)
    · obtain ⟨τ1, h1, _⟩ := e.back hk
      exact .inr (.inr ⟨k, τ1, h1, h⟩)

/-- What is told of a key hangs not on the order. -/
theorem teq_enc {τ τ' : Tl} (h : Teq τ τ') (k : Int) : encG k τ = encG k τ' := by
  have hm : ∀ x, x ∈ τ.R ↔ x ∈ τ'.R := fun x => h.R.mem_iff
  unfold encG
  rw [h.c, h.s, lo_same hm, hi_same hm, some_same hm]
theorem geq_enc {G G' : Int → Option Tl} (e : Geq G G') (k : Int) : gE G k = gE G' k := by
  unfold gE
  rcases e k with ⟨h1, h2⟩ | ⟨τ, τ', h1, h2, h3⟩
  · rw [h1, h2]
  · rw [h1, h2]; exact teq_enc h3 k
theorem keys_eq {ks ks' : List Int} {G G' : Int → Option Tl} (e : Geq G G') (h1 : ks.Pairwise (fun x y => x < y)) (h2 : ks'.Pairwise (fun x y => x < y)) (m1 : ∀ k, k ∈ ks ↔ (G k).isSome = true) (m2 : ∀ k, k ∈ ks' ↔ (G' k).isSome = true) : ks = ks' := by
  have hm : ∀ k, k ∈ ks ↔ k ∈ ks' := fun k => by
    rw [m1, m2]
    rcases e k with ⟨h1, h2⟩ | ⟨τ, τ', h1, h2, _⟩ <;> rw [h1, h2]
    simp
  have n1 : ks.Nodup := h1.imp fun h => by omega
  have n2 : ks'.Nodup := h2.imp fun h => by omega
  refine List.Perm.eq_of_pairwise (le := fun a b => a < b) (fun a b _ _ h3 h4 => by omega) h1 h2 ((List.perm_ext_iff_of_nodup n1 n2).2 hm)

theorem gapplyL_put (b o m : Nat) (S : Nat → Prop) (L : List O) (w : World) (h : Grp w b o m S (absG L)) (x : O) (hx : x.wf) (hm : m < 100000000) :
    Calls Tryd.prog 30 #[.pointer (some ⟨b, o, none⟩), gvC x false] w fun e w' => e = .returned .nilIface ∧ Grp w' b o (m + 1) (More S w w') (absG (x :: L)) ∧ Turn S b o w w' :=
  (gapply_put b o m S (absG L) w h x hx hm).mono fun _ _ ⟨h1, h2, h3⟩ => ⟨h1, by rw [← abs_put]; exact h2, h3⟩
theorem gapplyL_take (b o m : Nat) (S : Nat → Prop) (L : List O) (w : World) (h : Grp w b o m S (absG L)) (x : O) (hx : x.wf) (hL : x ∈ L) (hm : m < 100000000) :
    Calls Tryd.prog 30 #[.pointer (some ⟨b, o, none⟩), gvC x true] w fun e w' => e = .returned .nilIface ∧ Grp w' b o (m + 1) (More S w w') (absG (L.erase x)) ∧ Turn S b o w w' :=
  (gapply_take b o m S (absG L) w h x hx _ (abs_has hL) (abs_yes hL) hm).mono fun _ _ ⟨h1, h2, h3⟩ => ⟨h1, h2.same (abs_take hL), h3⟩

theorem group_new (w : World) : Grp (w.alloc (.cells #[.map none] 84)) w.heap.size 0 0 (fun j => j = w.heap.size) (absG []) := by
  refine ⟨none, fun _ => (0, 0), ⟨⟨_, _, World.alloc_heap_new w _, rfl⟩, .inl ⟨rfl, abs_nil⟩⟩, fun j hj => ?_, fun j hj => by simp; omega⟩
  rcases hj with h | h | ⟨k, τ, h, _⟩
  · exact h
  · cases h
  · rw [abs_nil] at h; cases h

end Go.Proofs.YtgffodmipbefpaaDoor
