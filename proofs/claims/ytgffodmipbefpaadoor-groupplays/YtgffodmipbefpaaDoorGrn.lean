/- Groups in memory: tallies, and what comes of them. -/
import Derived.Test.YtgffodmipbefpaaDoorGrm
namespace Go.Proofs.YtgffodmipbefpaaDoor
open Go.RowKit Go.Sort
set_option maxRecDepth 100000

/-- What all of a key come to: how many, the sum, the right values. -/
structure Tl where
  c : Nat
  s : Int
  R : List Int

def putT (τ : Tl) (x : O) : Tl := ⟨τ.c + 1, if x.hl then wrap64 (τ.s + x.lv) else τ.s, if x.hr then x.rv :: τ.R else τ.R⟩
def takeT (τ : Tl) (x : O) : Tl := ⟨τ.c - 1, if x.hl then wrap64 (τ.s - x.lv) else τ.s, if x.hr then τ.R.erase x.rv else τ.R⟩
def setG (G : Int → Option Tl) (k : Int) (v : Option Tl) : Int → Option Tl := fun j => if j = k then v else G j
theorem setG_same (G : Int → Option Tl) (k : Int) (v : Option Tl) : setG G k v k = v := by simp [setG]
theorem setG_other (G : Int → Option Tl) {k j : Int} (v : Option Tl) (h : j ≠ k) : setG G k v j = G j := by simp [setG, h]

abbrev gR : Value → Option (DataW Value × List MemPlace) := fun v => some (.held v, [])
abbrev tp (t : Nat) : Value := .pointer (some ⟨t, 0, none⟩)

/-- Block t is a tally, its right values are counted in block r. -/
structure TalAt (w : World) (t r m : Nat) (τ : Tl) : Prop where
  blk : w.heap[t]? = some (.cells #[.int .i64 τ.c, .int .i64 τ.s, .map (some r)] 167)
  own : ∃ n D, n ≤ m ∧ w.ownsMap Tryd.prog 3 (plainElem (H := Unit) Tryd.prog 3) r n D ∧ GCnt D τ.R
  lo : 1 ≤ τ.c
  hi : τ.c ≤ m
  len : τ.R.length ≤ m

theorem TalAt.mono {w : World} {t r m m' : Nat} {τ : Tl} (h : TalAt w t r m τ) (hm : m ≤ m') : TalAt w t r m' τ := by
  obtain ⟨n, D, h1, h2, h3⟩ := h.own
  exact ⟨h.blk, ⟨n, D, Nat.le_trans h1 hm, h2, h3⟩, h.lo, Nat.le_trans h.hi hm, Nat.le_trans h.len hm⟩
theorem TalAt.kept {w w' : World} {t r m : Nat} {τ : Tl} (h : TalAt w t r m τ) (h1 : w'.heap[t]? = w.heap[t]?) (h2 : w'.heap[r]? = w.heap[r]?) : TalAt w' t r m τ := by
  obtain ⟨n, D, k1, ⟨es, c, hb, hr⟩, k3⟩ := h.own
  exact ⟨h1.trans h.blk, ⟨n, D, k1, ⟨es, c, h2.trans hb, hr⟩, k3⟩, h.lo, h.hi, h.len⟩
theorem TalAt.lt {w : World} {t r m : Nat} {τ : Tl} (h : TalAt w t r m τ) : t < w.heap.size ∧ r < w.heap.size := by
  obtain ⟨n, D, _, h2, _⟩ := h.own
  exact ⟨(Array.getElem?_eq_some_iff.1 h.blk).1, h2.lt⟩
theorem TalAt.ne {w : World} {t r m : Nat} {τ : Tl} (h : TalAt w t r m τ) : t ≠ r := by
  obtain ⟨n, D, _, ⟨es, c, hb, _⟩, _⟩ := h.own
  intro e
  have := h.blk
  rw [e, hb] at this
  cases this

/-- The datum of the map from keys to tallies. -/
structure GDat (D : DataW Value) (tal : Int → Nat × Nat) (G : Int → Option Tl) : Prop where
  isMap : Maps.IsMap D
  has : ∀ k, (gi k).wf = true → Maps.has D (gi k) = (G k).isSome
  at_ : ∀ k τ, G k = some τ → ∀ zd, D.atKey (gi k) zd = .held (tp (tal k).1)
  keys : ∀ l, Maps.has D l = true → ∃ k τ, l = gi k ∧ G k = some τ
  wf : ∀ k τ, G k = some τ → (gi k).wf = true

def setTal (tal : Int → Nat × Nat) (k : Int) (v : Nat × Nat) : Int → Nat × Nat := fun j => if j = k then v else tal j

theorem gdat_nil (tal : Int → Nat × Nat) : GDat (.map []) tal (fun _ => none) :=
  ⟨Maps.isMap_empty, fun k _ => rfl, (fun _ _ h => by cases h), (fun l h => by cases h), (fun _ _ h => by cases h)⟩
theorem GDat.set {D : DataW Value} {tal : Int → Nat × Nat} {G : Int → Option Tl} (h : GDat D tal G) {k : Int} {τ : Tl} (hk : G k = some τ) (τ' : Tl) : GDat D tal (setG G k (some τ')) := by
  refine ⟨h.isMap, fun j hj => ?_, fun j τj hj => ?_, fun l hl => ?_, fun j τj hj => ?_⟩
  · by_cases e : j = k
    · subst e; rw [h.has j hj, hk, setG_same]; rfl
    · rw [h.has j hj, setG_other _ _ e]
  · by_cases e : j = k
    · subst e; exact h.at_ j τ hk
    · rw [setG_other _ _ e] at hj; exact h.at_ j τj hj
  · obtain ⟨j, τj, rfl, hj⟩ := h.keys l hl
    by_cases e : j = k
    · exact ⟨j, τ', rfl, by rw [e, setG_same]⟩
    · exact ⟨j, τj, rfl, by rw [setG_other _ _ e]; exact hj⟩
  · by_cases e : j = k
    · subst e; exact h.wf j τ hk
    · rw [setG_other _ _ e] at hj; exact h.wf j τj hj
theorem GDat.new {D : DataW Value} {tal : Int → Nat × Nat} {G : Int → Option Tl} (h : GDat D tal G) {k : Int} (hw : (gi k).wf = true) (t r : Nat) (τ' : Tl) :
    GDat (D.put (gi k) (.held (tp t))) (setTal tal k (t, r)) (setG G k (some τ')) := by
  refine ⟨h.isMap.put _ _, fun j hj => ?_, fun j τj hj zd => ?_, fun l hl => ?_, fun j τj hj => ?_⟩
  · by_cases e : j = k
    · subst e; rw [Maps.has_put_same h.isMap (gisKey hj), setG_same]; rfl
    · rw [Maps.has_put_other (gi_ne e), h.has j hj, setG_other _ _ e]
  · by_cases e : j = k
    · subst e; rw [Maps.atKey_put_same h.isMap (gisKey hw)]; simp [setTal]
    · rw [setG_other _ _ e] at hj; rw [Maps.atKey_put_other (gi_ne e), h.at_ j τj hj zd]; simp [setTal, e]
  · by_cases e : l = gi k
    · exact ⟨k, τ', e, setG_same _ _ _⟩
    · rw [Maps.has_put_other e] at hl
      obtain ⟨j, τj, rfl, hj⟩ := h.keys l hl
      exact ⟨j, τj, rfl, by rw [setG_other _ _ (fun e' => e (by rw [e']))]; exact hj⟩
  · by_cases e : j = k
    · subst e; exact hw
    · rw [setG_other _ _ e] at hj; exact h.wf j τj hj
theorem GDat.del {D : DataW Value} {tal : Int → Nat × Nat} {G : Int → Option Tl} (h : GDat D tal G) (k : Int) : GDat (D.del (gi k)) tal (setG G k none) := by
  refine ⟨h.isMap.del _, fun j hj => ?_, fun j τj hj zd => ?_, fun l hl => ?_, fun j τj hj => ?_⟩
  · by_cases e : j = k
    · subst e; rw [Maps.has_del_same, setG_same]; rfl
    · rw [Maps.has_del_other (gi_ne e), h.has j hj, setG_other _ _ e]
  · by_cases e : j = k
    · subst e; rw [setG_same] at hj; cases hj
    · rw [setG_other _ _ e] at hj; rw [Maps.atKey_del_other (gi_ne e), h.at_ j τj hj zd]
  · by_cases e : l = gi k
    · subst e; rw [Maps.has_del_same] at hl; cases hl
    · rw [Maps.has_del_other e] at hl
      obtain ⟨j, τj, rfl, hj⟩ := h.keys l hl
      exact ⟨j, τj, rfl, by rw [setG_other _ _ (fun e' => e (by rw [e']))]; exact hj⟩
  · by_cases e : j = k
    · subst e; rw [setG_same] at hj; cases hj
    · rw [setG_other _ _ e] at hj; exact h.wf j τj hj

/-- Block bm is the map from keys to tallies of the Groups that lie in block b. -/
structure GMap (w : World) (b bm : Nat) (tal : Int → Nat × Nat) (m : Nat) (G : Int → Option Tl) (n : Nat) (D : DataW Value) : Prop where
  le : n ≤ m
  own : w.ownsMap Tryd.prog 3 gR bm n D
  dat : GDat D tal G
  tals : ∀ k τ, G k = some τ → TalAt w (tal k).1 (tal k).2 m τ
  bmb : bm ≠ b
  nb : ∀ k τ, G k = some τ → (tal k).1 ≠ b ∧ (tal k).2 ≠ b ∧ (tal k).1 ≠ bm ∧ (tal k).2 ≠ bm
  inj : ∀ k k' τ τ', G k = some τ → G k' = some τ' → k ≠ k' → (tal k).1 ≠ (tal k').1 ∧ (tal k).2 ≠ (tal k').2

/-- The blocks that Groups lie in. -/
def foot (b : Nat) (om : Option Nat) (tal : Int → Nat × Nat) (G : Int → Option Tl) (j : Nat) : Prop := j = b ∨ om = some j ∨ ∃ k τ, G k = some τ ∧ (j = (tal k).1 ∨ j = (tal k).2)

theorem GMap.mono {w : World} {b bm m m' n : Nat} {tal : Int → Nat × Nat} {G : Int → Option Tl} {D : DataW Value} (h : GMap w b bm tal m G n D) (hm : m ≤ m') : GMap w b bm tal m' G n D :=
  ⟨Nat.le_trans h.le hm, h.own, h.dat, fun k τ hk => (h.tals k τ hk).mono hm, h.bmb, h.nb, h.inj⟩
theorem ownsMap_at {H : Type} {w w' : World} {P : Program} {k : TypeId} {R : Value → Option (DataW H × List MemPlace)} {b n : Nat} {D : DataW H} (h : w.ownsMap P k R b n D) (e : w'.heap[b]? = w.heap[b]?) : w'.ownsMap P k R b n D := by
  obtain ⟨es, c, hb, hr⟩ := h
  exact ⟨es, c, e.trans hb, hr⟩
theorem GMap.kept {w w' : World} {b bm m n : Nat} {tal : Int → Nat × Nat} {G : Int → Option Tl} {D : DataW Value} (h : GMap w b bm tal m G n D) (hk : ∀ j, foot b (some bm) tal G j → j ≠ b → w'.heap[j]? = w.heap[j]?) : GMap w' b bm tal m G n D :=
  ⟨h.le, ownsMap_at h.own (hk bm (.inr (.inl rfl)) h.bmb), h.dat, fun k τ hG => (h.tals k τ hG).kept (hk _ (.inr (.inr ⟨k, τ, hG, .inl rfl⟩)) (h.nb k τ hG).1) (hk _ (.inr (.inr ⟨k, τ, hG, .inr rfl⟩)) (h.nb k τ hG).2.1), h.bmb, h.nb, h.inj⟩
theorem GMap.lt {w : World} {b bm m n : Nat} {tal : Int → Nat × Nat} {G : Int → Option Tl} {D : DataW Value} (h : GMap w b bm tal m G n D) {j : Nat} (hj : foot b (some bm) tal G j) (hb : j ≠ b) : j < w.heap.size := by
  rcases hj with rfl | e | ⟨k, τ, hG, rfl | rfl⟩
  · exact absurd rfl hb
  · cases e; exact h.own.lt
  · exact (h.tals k τ hG).lt.1
  · exact (h.tals k τ hG).lt.2

/-- One tally has turned. -/
theorem GMap.set {w w' : World} {b bm m n : Nat} {tal : Int → Nat × Nat} {G : Int → Option Tl} {D : DataW Value} (h : GMap w b bm tal m G n D) {k : Int} {τ τ' : Tl} (hk : G k = some τ) {m' : Nat} (hm : m ≤ m')
    (hT : TalAt w' (tal k).1 (tal k).2 m' τ') (hb : ∀ j, j < w.heap.size → j ≠ b → j ≠ (tal k).1 → j ≠ (tal k).2 → w'.heap[j]? = w.heap[j]?) : GMap w' b bm tal m' (setG G k (some τ')) n D := by
  have hnb := h.nb k τ hk
  have hg : ∀ j τj, setG G k (some τ') j = some τj → ∃ τ0, G j = some τ0 := fun j τj hj => by
    by_cases e : j = k
    · exact ⟨τ, by rw [e]; exact hk⟩
    · rw [setG_other _ _ e] at hj; exact ⟨τj, hj⟩
  refine ⟨Nat.le_trans h.le hm, ownsMap_at h.own (hb bm h.own.lt h.bmb hnb.2.2.1.symm hnb.2.2.2.symm), h.dat.set hk τ', fun j τj hj => ?_, h.bmb, fun j τj hj => ?_, fun j j' τj τj' hj hj' hne => ?_⟩
  · by_cases e : j = k
    · subst e; rw [setG_same] at hj; cases hj; exact hT
    · rw [setG_other _ _ e] at hj
      have h1 := h.tals j τj hj
      have h2 := h.nb j τj hj
      have h3 := h.inj j k τj τ hj hk e
      have h4 := h.tals k τ hk
      have n1 : (tal j).1 ≠ (tal k).2 := fun e1 => by
        obtain ⟨n', D', _, ⟨es, c, hb', _⟩, _⟩ := h4.own
        have := h1.blk
        rw [e1, hb'] at this
        cases this
      have n2 : (tal j).2 ≠ (tal k).1 := fun e1 => by
        obtain ⟨n', D', _, ⟨es, c, hb', _⟩, _⟩ := h1.own
        have := h4.blk
        rw [← e1, hb'] at this
        cases this
      exact (h1.kept (hb _ h1.lt.1 h2.1 h3.1 n1) (hb _ h1.lt.2 h2.2.1 n2 h3.2)).mono hm
  · obtain ⟨τ0, h0⟩ := hg j τj hj
    exact h.nb j τ0 h0
  · obtain ⟨τ0, h0⟩ := hg j τj hj
    obtain ⟨τ1, h1⟩ := hg j' τj' hj'
    exact h.inj j j' τ0 τ1 h0 h1 hne

/-- A tally has come. -/
theorem GMap.new {w w' : World} {b bm m n : Nat} {tal : Int → Nat × Nat} {G : Int → Option Tl} {D : DataW Value} (h : GMap w b bm tal m G n D) {k : Int} (hw : (gi k).wf = true) (hk : G k = none) {t r : Nat} {τ' : Tl} (hlt : b < w.heap.size)
    (ht : w.heap.size ≤ t) (hr : w.heap.size ≤ r) (hown : w'.ownsMap Tryd.prog 3 gR bm (n + 1) (D.put (gi k) (.held (tp t)))) (hT : TalAt w' t r (m + 1) τ') (hb : ∀ j, j < w.heap.size → j ≠ b → j ≠ bm → w'.heap[j]? = w.heap[j]?) :
    GMap w' b bm (setTal tal k (t, r)) (m + 1) (setG G k (some τ')) (n + 1) (D.put (gi k) (.held (tp t))) := by
  have hbm := h.own.lt
  refine ⟨Nat.succ_le_succ h.le, hown, h.dat.new hw t r τ', fun j τj hj => ?_, h.bmb, fun j τj hj => ?_, fun j j' τj τj' hj hj' hne => ?_⟩
  · by_cases e : j = k
    · subst e; rw [setG_same] at hj; cases hj; simpa [setTal] using hT
    · rw [setG_other _ _ e] at hj
      have h1 := h.tals j τj hj
      have h2 := h.nb j τj hj
      simp only [setTal, e, if_false]
      exact (h1.kept (hb _ h1.lt.1 h2.1 h2.2.2.1) (hb _ h1.lt.2 h2.2.1 h2.2.2.2)).mono (Nat.le_succ _)
  · by_cases e : j = k
    · subst e; simp only [setTal, if_true]; omega
    · rw [setG_other _ _ e] at hj
      simp only [setTal, e, if_false]
      exact h.nb j τj hj
  · by_cases e : j = k
    · subst e
      have e' : j' ≠ j := fun e => hne e.symm
      rw [setG_other _ _ e'] at hj'
      have h1 := h.tals j' τj' hj'
      simp only [setTal, if_true, e', if_false]
      have := h1.lt
      omega
    · rw [setG_other _ _ e] at hj
      by_cases e' : j' = k
      · subst e'
        have h1 := h.tals j τj hj
        simp only [setTal, if_true, e, if_false]
        have := h1.lt
        omega
      · rw [setG_other _ _ e'] at hj'
        simp only [setTal, e, e', if_false]
        exact h.inj j j' τj τj' hj hj' hne

/-- A tally has gone. -/
theorem GMap.del {w w' : World} {b bm m n : Nat} {tal : Int → Nat × Nat} {G : Int → Option Tl} {D : DataW Value} (h : GMap w b bm tal m G n D) (k : Int)
    (hown : w'.ownsMap Tryd.prog 3 gR bm n (D.del (gi k))) (hb : ∀ j, j < w.heap.size → j ≠ b → j ≠ bm → w'.heap[j]? = w.heap[j]?) : GMap w' b bm tal m (setG G k none) n (D.del (gi k)) := by
  have hg : ∀ j τj, setG G k none j = some τj → G j = some τj := fun j τj hj => by
    by_cases e : j = k
    · subst e; rw [setG_same] at hj; cases hj
    · rw [setG_other _ _ e] at hj; exact hj
  refine ⟨h.le, hown, h.dat.del k, fun j τj hj => ?_, h.bmb, fun j τj hj => h.nb j τj (hg j τj hj), fun j j' τj τj' hj hj' hne => h.inj j j' τj τj' (hg j τj hj) (hg j' τj' hj') hne⟩
  have h1 := h.tals j τj (hg j τj hj)
  have h2 := h.nb j τj (hg j τj hj)
  exact h1.kept (hb _ h1.lt.1 h2.1 h2.2.2.1) (hb _ h1.lt.2 h2.2.1 h2.2.2.2)

/-- 't, there := m[k]'. -/
theorem GMap.look {w W : World} {b bm m n : Nat} {tal : Int → Nat × Nat} {G : Int → Option Tl} {D : DataW Value} (h : GMap w b bm tal m G n D) (hW : W.heap[bm]? = w.heap[bm]?) {k : Int} (hw : (gi k).wf = true) {τ : Tl} (hk : G k = some τ) :
    (Instr.lookup 82 (.map (some bm)) (.int .i64 k) true).run Tryd.prog W = .ok (.tuple #[tp (tal k).1, .bool true]) W := by
  obtain ⟨v, ps, hrun, hv⟩ := (ownsMap_at h.own hW).look_ok gkeyed Tryd.underlying82 (gzero84 W) (zd := .held (.pointer none)) (zp := []) rfl (gkey hw)
  rw [h.dat.at_ k τ hk] at hv
  simp only [gR, Option.some.injEq, Prod.mk.injEq, DataW.held.injEq] at hv
  rw [hrun, hv.1, h.dat.has k hw, hk]
  rfl
theorem GMap.look1 {w W : World} {b bm m n : Nat} {tal : Int → Nat × Nat} {G : Int → Option Tl} {D : DataW Value} (h : GMap w b bm tal m G n D) (hW : W.heap[bm]? = w.heap[bm]?) {k : Int} (hw : (gi k).wf = true) {τ : Tl} (hk : G k = some τ) :
    (Instr.lookup 82 (.map (some bm)) (.int .i64 k) false).run Tryd.prog W = .ok (tp (tal k).1) W := by
  obtain ⟨v, ps, hrun, hv⟩ := (ownsMap_at h.own hW).lookup gkeyed Tryd.underlying82 (gzero84 W) (zd := .held (.pointer none)) (zp := []) rfl (gkey hw)
  rw [h.dat.at_ k τ hk] at hv
  simp only [gR, Option.some.injEq, Prod.mk.injEq, DataW.held.injEq] at hv
  rw [hrun, hv.1]
theorem GMap.look_none {w W : World} {b bm m n : Nat} {tal : Int → Nat × Nat} {G : Int → Option Tl} {D : DataW Value} (h : GMap w b bm tal m G n D) (hW : W.heap[bm]? = w.heap[bm]?) {k : Int} (hw : (gi k).wf = true) (hk : G k = none) :
    (Instr.lookup 82 (.map (some bm)) (.int .i64 k) true).run Tryd.prog W = .ok (.tuple #[.pointer none, .bool false]) W := by
  obtain ⟨es, clock, hb, F, _, rfl⟩ := ownsMap_at h.own hW
  rcases Maps.fit_look true gkeyed Tryd.underlying82 (gzero84 W) hb F (gkey hw) with ⟨hrun, _, hat⟩ | ⟨e0, y, _, _, hrun, hRv, hat, _⟩
  · exact hrun
  · have h1 := h.dat.has k hw
    rw [Maps.has_true_of_atKey hat, hk] at h1
    cases h1
theorem gnilLook (W : World) {k : Int} (hw : (gi k).wf = true) : (Instr.lookup 82 (.map none) (.int .i64 k) true).run Tryd.prog W = .ok (.tuple #[.pointer none, .bool false]) W :=
  Maps.look_nil (w := W) true gkeyed Tryd.underlying82 (gzero84 _) (gkey hw)

/-- Cell o of block b is Groups. -/
structure GAt (w : World) (b o : Nat) (om : Option Nat) (tal : Int → Nat × Nat) (m : Nat) (G : Int → Option Tl) : Prop where
  blk : ∃ cs T, w.heap[b]? = some (.cells cs T) ∧ cs[o]? = some (.map om)
  map : (om = none ∧ G = fun _ => none) ∨ ∃ bm n D, om = some bm ∧ GMap w b bm tal m G n D

theorem GAt.blt {w : World} {b o m : Nat} {om : Option Nat} {tal : Int → Nat × Nat} {G : Int → Option Tl} (h : GAt w b o om tal m G) : b < w.heap.size := by
  obtain ⟨cs, T, h1, _⟩ := h.blk
  exact (Array.getElem?_eq_some_iff.1 h1).1
theorem GAt.lt {w : World} {b o m : Nat} {om : Option Nat} {tal : Int → Nat × Nat} {G : Int → Option Tl} (h : GAt w b o om tal m G) {j : Nat} (hj : foot b om tal G j) : j < w.heap.size := by
  by_cases e : j = b
  · rw [e]; exact h.blt
  · rcases h.map with ⟨rfl, rfl⟩ | ⟨bm, n, D, rfl, hm⟩
    · rcases hj with h1 | h1 | ⟨k, τ, h1, _⟩
      · exact absurd h1 e
      · cases h1
      · cases h1
    · exact hm.lt hj e
theorem GAt.kept {w w' : World} {b o m : Nat} {om : Option Nat} {tal : Int → Nat × Nat} {G : Int → Option Tl} (h : GAt w b o om tal m G) (hk : ∀ j, foot b om tal G j → w'.heap[j]? = w.heap[j]?) : GAt w' b o om tal m G := by
  refine ⟨?_, ?_⟩
  · obtain ⟨cs, T, h1, h2⟩ := h.blk
    exact ⟨cs, T, (hk b (.inl rfl)).trans h1, h2⟩
  · rcases h.map with h1 | ⟨bm, n, D, rfl, hm⟩
    · exact .inl h1
    · exact .inr ⟨bm, n, D, rfl, hm.kept fun j hj _ => hk j hj⟩
theorem GAt.below {w w' : World} {b o m : Nat} {om : Option Nat} {tal : Int → Nat × Nat} {G : Int → Option Tl} (h : GAt w b o om tal m G) (hb : Below w.heap.size w w') : GAt w' b o om tal m G := h.kept fun _ hj => hb.block _ (h.lt hj)
theorem GAt.mono {w : World} {b o m m' : Nat} {om : Option Nat} {tal : Int → Nat × Nat} {G : Int → Option Tl} (h : GAt w b o om tal m G) (hm : m ≤ m') : GAt w b o om tal m' G :=
  ⟨h.blk, h.map.imp id fun ⟨bm, n, D, e, h1⟩ => ⟨bm, n, D, e, h1.mono hm⟩⟩
theorem GAt.cell {w : World} {b o m : Nat} {om : Option Nat} {tal : Int → Nat × Nat} {G : Int → Option Tl} (h : GAt w b o om tal m G) : w.cell? ⟨b, o, none⟩ = some (.map om) ∧ w.frozen? ⟨b, o, none⟩ = false := by
  obtain ⟨cs, T, h1, h2⟩ := h.blk
  exact ⟨by rw [Go.Joins.cell_of_block h1]; exact h2, Go.Joins.unfrozen_of_block h1 o⟩
theorem TalAt.cells {w : World} {t r m : Nat} {τ : Tl} (h : TalAt w t r m τ) : w.cell? ⟨t, 0, none⟩ = some (.int .i64 τ.c) ∧ w.cell? ⟨t, 1, none⟩ = some (.int .i64 τ.s) ∧ w.cell? ⟨t, 2, none⟩ = some (.map (some r)) ∧
    w.frozen? ⟨t, 0, none⟩ = false ∧ w.frozen? ⟨t, 1, none⟩ = false ∧ w.frozen? ⟨t, 2, none⟩ = false := by
  refine ⟨?_, ?_, ?_, Go.Joins.unfrozen_of_block h.blk 0, Go.Joins.unfrozen_of_block h.blk 1, Go.Joins.unfrozen_of_block h.blk 2⟩ <;> (rw [Go.Joins.cell_of_block h.blk]; rfl)

/-- Only blocks of S, and new ones, are written; of block b cell o alone. -/
structure Turn (S : Nat → Prop) (b o : Nat) (w w' : World) : Prop where
  os : w'.os = w.os
  tape : w'.tape = w.tape
  output : w'.output = w.output
  size : w.heap.size ≤ w'.heap.size
  block : ∀ k, k < w.heap.size → ¬ S k → w'.heap[k]? = w.heap[k]?
  this : ∀ cs T, w.heap[b]? = some (.cells cs T) → ∃ cs' : Array Value, w'.heap[b]? = some (.cells cs' T) ∧ cs'.size = cs.size ∧ ∀ i, i ≠ o → cs'[i]? = cs[i]?
theorem Turn.of_below {S : Nat → Prop} {b o : Nat} {w w' : World} (h : Below w.heap.size w w') : Turn S b o w w' :=
  ⟨h.os, h.tape, h.output, h.size, fun k hk _ => h.block k hk, fun cs _ hc => ⟨cs, (h.block b (Array.getElem?_eq_some_iff.1 hc).1).trans hc, rfl, fun _ _ => rfl⟩⟩
theorem Turn.trans {S S' : Nat → Prop} {b o : Nat} {u v w : World} (h : Turn S b o u v) (k : Turn S' b o v w) (hS : ∀ j, j < u.heap.size → S' j → S j) : Turn S b o u w :=
  ⟨k.os.trans h.os, k.tape.trans h.tape, k.output.trans h.output, Nat.le_trans h.size k.size, fun j hj hn => (k.block j (Nat.lt_of_lt_of_le hj h.size) (fun e => hn (hS j hj e))).trans (h.block j hj hn), fun cs T hc => by
    obtain ⟨cs1, h1, h2, h3⟩ := h.this cs T hc
    obtain ⟨cs2, k1, k2, k3⟩ := k.this cs1 T h1
    exact ⟨cs2, k1, k2.trans h2, fun i hi => (k3 i hi).trans (h3 i hi)⟩⟩
theorem Turn.below {S : Nat → Prop} {b o B : Nat} {w w' : World} (h : Turn S b o w w') (hB : B ≤ w.heap.size) (hS : ∀ k, S k → B ≤ k) : Below B w w' :=
  ⟨h.os, h.tape, h.output, h.size, fun k hk => h.block k (by omega) (fun e => by have := hS k e; omega)⟩

/-- Cell o of block b is Groups, that lie in blocks of S alone. -/
def Grp (w : World) (b o m : Nat) (S : Nat → Prop) (G : Int → Option Tl) : Prop := ∃ om tal, GAt w b o om tal m G ∧ (∀ j, foot b om tal G j → S j) ∧ ∀ j, S j → j < w.heap.size
theorem Grp.kept {w w' : World} {b o m : Nat} {S : Nat → Prop} {G : Int → Option Tl} (h : Grp w b o m S G) (hs : w.heap.size ≤ w'.heap.size) (hk : ∀ j, S j → w'.heap[j]? = w.heap[j]?) : Grp w' b o m S G := by
  obtain ⟨om, tal, h1, h2, h3⟩ := h
  exact ⟨om, tal, h1.kept fun j hj => hk j (h2 j hj), h2, fun j hj => Nat.lt_of_lt_of_le (h3 j hj) hs⟩
theorem Grp.below {w w' : World} {b o m : Nat} {S : Nat → Prop} {G : Int → Option Tl} (h : Grp w b o m S G) (hb : Below w.heap.size w w') : Grp w' b o m S G :=
  h.kept hb.size fun j hj => hb.block j (by obtain ⟨_, _, _, _, h3⟩ := h; exact h3 j hj)
theorem Grp.mono {w : World} {b o m m' : Nat} {S : Nat → Prop} {G : Int → Option Tl} (h : Grp w b o m S G) (hm : m ≤ m') : Grp w b o m' S G := by
  obtain ⟨om, tal, h1, h2, h3⟩ := h
  exact ⟨om, tal, h1.mono hm, h2, h3⟩
theorem Grp.in {w : World} {b o m : Nat} {S : Nat → Prop} {G : Int → Option Tl} (h : Grp w b o m S G) : S b ∧ b < w.heap.size := by
  obtain ⟨om, tal, h1, h2, h3⟩ := h
  exact ⟨h2 b (.inl rfl), h1.blt⟩

end Go.Proofs.YtgffodmipbefpaaDoor
