/- Grz: several texts in one. -/
import Derived.Test.YthfpipieboophaaGreatDoorRowz
import Derived.Maps.OwnSet
import Derived.Lib.SmallJoins
import Derived.Maps.OwnOps
import Derived.BigQuiet
import Derived.Maps.RangeWalk
/- Groups in memory: a map from keys to tallies, each with its right values counted in a map of its own. -/
namespace Go.Proofs.YthfpipieboophaaGreatDoor
open Go.RowKit Go.Sort
set_option maxRecDepth 100000
abbrev gi (n : Int) : Lit := .int .i64 n
abbrev gd (n : Int) : DataW Unit := .lit (.int .i64 n)
theorem gkeyed : Maps.Keyed Tryz.prog 3 := Maps.int_keyed Tryz.underlying3
theorem gkey {x : Int} (h : (gi x).wf = true) : keyOf Tryz.prog 3 (.int .i64 x) = some (gi x) := Maps.keyOf_int_mk Tryz.underlying3 h
theorem gisKey {x : Int} (h : (gi x).wf = true) : WideAt.IsKeyLit (gi x) := gkeyed.key (gkey h)
theorem gi_ne {x y : Int} (h : x ≠ y) : gi x ≠ gi y := fun e => h (by injection e)
theorem gzero3 (w : World) : (zeroValue 3).run Tryz.prog w = .ok (.int .i64 0) w := by kernel_rfl
theorem gzero84 (w : World) : (zeroValue 221).run Tryz.prog w = .ok (.pointer none) w := by kernel_rfl
structure GCnt (D : DataW Unit) (R : List Int) : Prop where
  isMap : Maps.IsMap D
  wf : ∀ x ∈ R, (gi x).wf = true
  at_ : ∀ x, (gi x).wf = true → D.atKey (gi x) (gd 0) = gd (R.count x)
  has : ∀ x, (gi x).wf = true → Maps.has D (gi x) = decide (x ∈ R)
  keys : ∀ l, Maps.has D l = true → ∃ x ∈ R, l = gi x
theorem gcnt_nil : GCnt (.map []) [] :=
  ⟨Maps.isMap_empty, by simp, fun x _ => rfl, fun x _ => rfl, fun l h => by cases h⟩
theorem GCnt.perm {D : DataW Unit} {R R' : List Int} (h : GCnt D R) (p : R.Perm R') : GCnt D R' :=
  ⟨h.isMap, fun x hx => h.wf x (p.mem_iff.2 hx), fun x hx => by rw [h.at_ x hx, p.count_eq], fun x hx => by rw [h.has x hx]; simp [p.mem_iff],
    fun l hl => by obtain ⟨x, hx, e⟩ := h.keys l hl; exact ⟨x, p.mem_iff.1 hx, e⟩⟩
theorem GCnt.put {D : DataW Unit} {R : List Int} (h : GCnt D R) (x : Int) (hx : (gi x).wf = true) : GCnt (D.put (gi x) (gd (R.count x + 1))) (x :: R) := by
  refine ⟨h.isMap.put _ _, fun y hy => ?_, fun y hy => ?_, fun y hy => ?_, fun l hl => ?_⟩
  · rcases List.mem_cons.1 hy with rfl | hy
    · exact hx
    · exact h.wf y hy
  · by_cases e : y = x
    · subst e; rw [Maps.atKey_put_same h.isMap (gisKey hy)]; simp
    · rw [Maps.atKey_put_other (gi_ne e), h.at_ y hy, List.count_cons_of_ne (Ne.symm e)]
  · by_cases e : y = x
    · subst e; rw [Maps.has_put_same h.isMap (gisKey hy)]; simp
    · rw [Maps.has_put_other (gi_ne e), h.has y hy]; simp [e]
  · by_cases e : l = gi x
    · exact ⟨x, by simp, e⟩
    · rw [Maps.has_put_other e] at hl
      obtain ⟨y, hy, rfl⟩ := h.keys l hl
      exact ⟨y, by simp [hy], rfl⟩
theorem GCnt.less {D : DataW Unit} {R : List Int} (h : GCnt D R) (x : Int) (hx : (gi x).wf = true) (h2 : 2 ≤ R.count x) : GCnt (D.put (gi x) (gd (R.count x - 1))) (R.erase x) := by
  have hmem : x ∈ R.erase x := by rw [← List.count_pos_iff, List.count_erase_self]; omega
  refine ⟨h.isMap.put _ _, fun y hy => h.wf y (List.mem_of_mem_erase hy), fun y hy => ?_, fun y hy => ?_, fun l hl => ?_⟩
  · by_cases e : y = x
    · subst e; rw [Maps.atKey_put_same h.isMap (gisKey hy), List.count_erase_self]; congr 2; omega
    · rw [Maps.atKey_put_other (gi_ne e), h.at_ y hy, List.count_erase_of_ne e]
  · by_cases e : y = x
    · subst e; rw [Maps.has_put_same h.isMap (gisKey hy)]; simp [hmem]
    · rw [Maps.has_put_other (gi_ne e), h.has y hy]; simp [List.mem_erase_of_ne e]
  · by_cases e : l = gi x
    · exact ⟨x, hmem, e⟩
    · rw [Maps.has_put_other e] at hl
      obtain ⟨y, hy, rfl⟩ := h.keys l hl
      exact ⟨y, (List.mem_erase_of_ne (fun e' => e (by rw [e']))).2 hy, rfl⟩
theorem GCnt.del {D : DataW Unit} {R : List Int} (h : GCnt D R) (x : Int) (h1 : R.count x = 1) : GCnt (D.del (gi x)) (R.erase x) := by
  have hno : x ∉ R.erase x := by rw [← List.count_eq_zero, List.count_erase_self]; omega
  refine ⟨h.isMap.del _, fun y hy => h.wf y (List.mem_of_mem_erase hy), fun y hy => ?_, fun y hy => ?_, fun l hl => ?_⟩
  · by_cases e : y = x
    · subst e; rw [Maps.atKey_del_same, List.count_erase_self, h1]; rfl
    · rw [Maps.atKey_del_other (gi_ne e), h.at_ y hy, List.count_erase_of_ne e]
  · by_cases e : y = x
    · subst e; rw [Maps.has_del_same]; simp [hno]
    · rw [Maps.has_del_other (gi_ne e), h.has y hy]; simp [List.mem_erase_of_ne e]
  · by_cases e : l = gi x
    · subst e; rw [Maps.has_del_same] at hl; cases hl
    · rw [Maps.has_del_other e] at hl
      obtain ⟨y, hy, rfl⟩ := h.keys l hl
      exact ⟨y, (List.mem_erase_of_ne (fun e' => e (by rw [e']))).2 hy, rfl⟩
theorem glook {W : World} {r n : Nat} {D : DataW Unit} {R : List Int} (hown : W.ownsMap Tryz.prog 3 (plainElem (H := Unit) Tryz.prog 3) r n D) (hc : GCnt D R) (x : Int) (hx : (gi x).wf = true) :
    (Instr.lookup 281 (.map (some r)) (.int .i64 x) false).run Tryz.prog W = .ok (.int .i64 (R.count x)) W := by
  obtain ⟨c, hrun, hat, _⟩ := hown.lookup_int gkeyed Tryz.underlying281 Tryz.underlying3 (gzero3 _) (gkey hx)
  rw [hc.at_ x hx] at hat
  injection hat with h1; injection h1 with _ h2
  rw [hrun, h2]
end Go.Proofs.YthfpipieboophaaGreatDoor

/- Groups in memory: tallies, and what comes of them. -/
namespace Go.Proofs.YthfpipieboophaaGreatDoor
open Go.RowKit Go.Sort
set_option maxRecDepth 100000
structure Tl where
  c : Nat
  s : Int
  R : List Int
def putT (τ : Tl) (x : O) : Tl := ⟨τ.c + 1, if x.hl then wrap64 (τ.s + x.lv) else τ.s, if x.hr then x.rv :: τ.R else τ.R⟩
def takeT (τ : Tl) (x : O) : Tl := ⟨τ.c - 1, if x.hl then wrap64 (τ.s - x.lv) else τ.s, if x.hr then τ.R.erase x.rv else τ.R⟩
def setG (G : Int → Option Tl) (k : Int) (v : Option Tl) : Int → Option Tl := fun j => if j = k then v else G j
theorem setG_same (G : Int → Option Tl) (k : Int) (v : Option Tl) : setG G k v k = v := by simp [setG]
theorem setG_other (G : Int → Option Tl) {k j : Int} (v : Option Tl) (h : j ≠ k) : setG G k v j = G j := by simp [setG, h]
abbrev gR : Value → Option (DataW Value × List MemPlace) := fun v => some (.held v, [])
abbrev tp (t : Nat) : Value := .pointer (some ⟨t, 0, none⟩)
structure TalAt (w : World) (t r m : Nat) (τ : Tl) : Prop where
  blk : w.heap[t]? = some (.cells #[.int .i64 τ.c, .int .i64 τ.s, .map (some r)] 283)
  own : ∃ n D, n ≤ m ∧ w.ownsMap Tryz.prog 3 (plainElem (H := Unit) Tryz.prog 3) r n D ∧ GCnt D τ.R
  lo : 1 ≤ τ.c
  hi : τ.c ≤ m
  len : τ.R.length ≤ m
theorem TalAt.mono {w : World} {t r m m' : Nat} {τ : Tl} (h : TalAt w t r m τ) (hm : m ≤ m') : TalAt w t r m' τ := by
  obtain ⟨n, D, h1, h2, h3⟩ := h.own
  exact ⟨h.blk, ⟨n, D, Nat.le_trans h1 hm, h2, h3⟩, h.lo, Nat.le_trans h.hi hm, Nat.le_trans h.len hm⟩
theorem TalAt.kept {w w' : World} {t r m : Nat} {τ : Tl} (h : TalAt w t r m τ) (h1 : w'.heap[t]? = w.heap[t]?) (h2 : w'.heap[r]? = w.heap[r]?) : TalAt w' t r m τ := by
  obtain ⟨n, D, k1, ⟨es, c, hb, hr⟩, k3⟩ := h.own
  exact ⟨h1.trans h.blk, ⟨n, D, k1, ⟨es, c, h2.trans hb, hr⟩, k3⟩, h.lo, h.hi, h.len⟩
theorem TalAt.lt {w : World} {t r m : Nat} {τ : Tl} (h : TalAt w t r m τ) : t < w.heap.size ∧ r < w.heap.size := by
  obtain ⟨n, D, _, h2, _⟩ := h.own
  exact ⟨(Array.getElem?_eq_some_iff.1 h.blk).1, h2.lt⟩
theorem TalAt.ne {w : World} {t r m : Nat} {τ : Tl} (h : TalAt w t r m τ) : t ≠ r := by
  obtain ⟨n, D, _, ⟨es, c, hb, _⟩, _⟩ := h.own
  intro e
  have := h.blk
  rw [e, hb] at this
  cases this
structure GDat (D : DataW Value) (tal : Int → Nat × Nat) (G : Int → Option Tl) : Prop where
  isMap : Maps.IsMap D
  has : ∀ k, (gi k).wf = true → Maps.has D (gi k) = (G k).isSome
  at_ : ∀ k τ, G k = some τ → ∀ zd, D.atKey (gi k) zd = .held (tp (tal k).1)
  keys : ∀ l, Maps.has D l = true → ∃ k τ, l = gi k ∧ G k = some τ
  wf : ∀ k τ, G k = some τ → (gi k).wf = true
def setTal (tal : Int → Nat × Nat) (k : Int) (v : Nat × Nat) : Int → Nat × Nat := fun j => if j = k then v else tal j
theorem gdat_nil (tal : Int → Nat × Nat) : GDat (.map []) tal (fun _ => none) :=
  ⟨Maps.isMap_empty, fun k _ => rfl, (fun _ _ h => by cases h), (fun l h => by cases h), (fun _ _ h => by cases h)⟩
theorem GDat.set {D : DataW Value} {tal : Int → Nat × Nat} {G : Int → Option Tl} (h : GDat D tal G) {k : Int} {τ : Tl} (hk : G k = some τ) (τ' : Tl) : GDat D tal (setG G k (some τ')) := by
  refine ⟨h.isMap, fun j hj => ?_, fun j τj hj => ?_, fun l hl => ?_, fun j τj hj => ?_⟩
  · by_cases e : j = k
    · subst e; rw [h.has j hj, hk, setG_same]; rfl
    · rw [h.has j hj, setG_other _ _ e]
  · by_cases e : j = k
    · subst e; exact h.at_ j τ hk
    · rw [setG_other _ _ e] at hj; exact h.at_ j τj hj
  · obtain ⟨j, τj, rfl, hj⟩ := h.keys l hl
    by_cases e : j = k
    · exact ⟨j, τ', rfl, by rw [e, setG_same]⟩
    · exact ⟨j, τj, rfl, by rw [setG_other _ _ e]; exact hj⟩
  · by_cases e : j = k
    · subst e; exact h.wf j τ hk
    · rw [setG_other _ _ e] at hj; exact h.wf j τj hj
theorem GDat.new {D : DataW Value} {tal : Int → Nat × Nat} {G : Int → Option Tl} (h : GDat D tal G) {k : Int} (hw : (gi k).wf = true) (t r : Nat) (τ' : Tl) :
    GDat (D.put (gi k) (.held (tp t))) (setTal tal k (t, r)) (setG G k (some τ')) := by
  refine ⟨h.isMap.put _ _, fun j hj => ?_, fun j τj hj zd => ?_, fun l hl => ?_, fun j τj hj => ?_⟩
  · by_cases e : j = k
    · subst e; rw [Maps.has_put_same h.isMap (gisKey hj), setG_same]; rfl
    · rw [Maps.has_put_other (gi_ne e), h.has j hj, setG_other _ _ e]
  · by_cases e : j = k
    · subst e; rw [Maps.atKey_put_same h.isMap (gisKey hw)]; simp [setTal]
    · rw [setG_other _ _ e] at hj; rw [Maps.atKey_put_other (gi_ne e), h.at_ j τj hj zd]; simp [setTal, e]
  · by_cases e : l = gi k
    · exact ⟨k, τ', e, setG_same _ _ _⟩
    · rw [Maps.has_put_other e] at hl
      obtain ⟨j, τj, rfl, hj⟩ := h.keys l hl
      exact ⟨j, τj, rfl, by rw [setG_other _ _ (fun e' => e (by rw [e']))]; exact hj⟩
  · by_cases e : j = k
    · subst e; exact hw
    · rw [setG_other _ _ e] at hj; exact h.wf j τj hj
theorem GDat.del {D : DataW Value} {tal : Int → Nat × Nat} {G : Int → Option Tl} (h : GDat D tal G) (k : Int) : GDat (D.del (gi k)) tal (setG G k none) := by
  refine ⟨h.isMap.del _, fun j hj => ?_, fun j τj hj zd => ?_, fun l hl => ?_, fun j τj hj => ?_⟩
  · by_cases e : j = k
    · subst e; rw [Maps.has_del_same, setG_same]; rfl
    · rw [Maps.has_del_other (gi_ne e), h.has j hj, setG_other _ _ e]
  · by_cases e : j = k
    · subst e; rw [setG_same] at hj; cases hj
    · rw [setG_other _ _ e] at hj; rw [Maps.atKey_del_other (gi_ne e), h.at_ j τj hj zd]
  · by_cases e : l = gi k
    · subst e; rw [Maps.has_del_same] at hl; cases hl
    · rw [Maps.has_del_other e] at hl
      obtain ⟨j, τj, rfl, hj⟩ := h.keys l hl
      exact ⟨j, τj, rfl, by rw [setG_other _ _ (fun e' => e (by rw [e']))]; exact hj⟩
  · by_cases e : j = k
    · subst e; rw [setG_same] at hj; cases hj
    · rw [setG_other _ _ e] at hj; exact h.wf j τj hj
structure GMap (w : World) (b bm : Nat) (tal : Int → Nat × Nat) (m : Nat) (G : Int → Option Tl) (n : Nat) (D : DataW Value) : Prop where
  le : n ≤ m
  own : w.ownsMap Tryz.prog 3 gR bm n D
  dat : GDat D tal G
  tals : ∀ k τ, G k = some τ → TalAt w (tal k).1 (tal k).2 m τ
  bmb : bm ≠ b
  nb : ∀ k τ, G k = some τ → (tal k).1 ≠ b ∧ (tal k).2 ≠ b ∧ (tal k).1 ≠ bm ∧ (tal k).2 ≠ bm
  inj : ∀ k k' τ τ', G k = some τ → G k' = some τ' → k ≠ k' → (tal k).1 ≠ (tal k').1 ∧ (tal k).2 ≠ (tal k').2
def foot (b : Nat) (om : Option Nat) (tal : Int → Nat × Nat) (G : Int → Option Tl) (j : Nat) : Prop := j = b ∨ om = some j ∨ ∃ k τ, G k = some τ ∧ (j = (tal k).1 ∨ j = (tal k).2)
theorem GMap.mono {w : World} {b bm m m' n : Nat} {tal : Int → Nat × Nat} {G : Int → Option Tl} {D : DataW Value} (h : GMap w b bm tal m G n D) (hm : m ≤ m') : GMap w b bm tal m' G n D :=
  ⟨Nat.le_trans h.le hm, h.own, h.dat, fun k τ hk => (h.tals k τ hk).mono hm, h.bmb, h.nb, h.inj⟩
theorem ownsMap_at {H : Type} {w w' : World} {P : Program} {k : TypeId} {R : Value → Option (DataW H × List MemPlace)} {b n : Nat} {D : DataW H} (h : w.ownsMap P k R b n D) (e : w'.heap[b]? = w.heap[b]?) : w'.ownsMap P k R b n D := by
  obtain ⟨es, c, hb, hr⟩ := h
  exact ⟨es, c, e.trans hb, hr⟩
theorem GMap.kept {w w' : World} {b bm m n : Nat} {tal : Int → Nat × Nat} {G : Int → Option Tl} {D : DataW Value} (h : GMap w b bm tal m G n D) (hk : ∀ j, foot b (some bm) tal G j → j ≠ b → w'.heap[j]? = w.heap[j]?) : GMap w' b bm tal m G n D :=
  ⟨h.le, ownsMap_at h.own (hk bm (.inr (.inl rfl)) h.bmb), h.dat, fun k τ hG => (h.tals k τ hG).kept (hk _ (.inr (.inr ⟨k, τ, hG, .inl rfl⟩)) (h.nb k τ hG).1) (hk _ (.inr (.inr ⟨k, τ, hG, .inr rfl⟩)) (h.nb k τ hG).2.1), h.bmb, h.nb, h.inj⟩
theorem GMap.lt {w : World} {b bm m n : Nat} {tal : Int → Nat × Nat} {G : Int → Option Tl} {D : DataW Value} (h : GMap w b bm tal m G n D) {j : Nat} (hj : foot b (some bm) tal G j) (hb : j ≠ b) : j < w.heap.size := by
  rcases hj with rfl | e | ⟨k, τ, hG, rfl | rfl⟩
  · exact absurd rfl hb
  · cases e; exact h.own.lt
  · exact (h.tals k τ hG).lt.1
  · exact (h.tals k τ hG).lt.2
theorem GMap.set {w w' : World} {b bm m n : Nat} {tal : Int → Nat × Nat} {G : Int → Option Tl} {D : DataW Value} (h : GMap w b bm tal m G n D) {k : Int} {τ τ' : Tl} (hk : G k = some τ) {m' : Nat} (hm : m ≤ m')
    (hT : TalAt w' (tal k).1 (tal k).2 m' τ') (hb : ∀ j, j < w.heap.size → j ≠ b → j ≠ (tal k).1 → j ≠ (tal k).2 → w'.heap[j]? = w.heap[j]?) : GMap w' b bm tal m' (setG G k (some τ')) n D := by
  have hnb := h.nb k τ hk
  have hg : ∀ j τj, setG G k (some τ') j = some τj → ∃ τ0, G j = some τ0 := fun j τj hj => by
    by_cases e : j = k
    · exact ⟨τ, by rw [e]; exact hk⟩
    · rw [setG_other _ _ e] at hj; exact ⟨τj, hj⟩
  refine ⟨Nat.le_trans h.le hm, ownsMap_at h.own (hb bm h.own.lt h.bmb hnb.2.2.1.symm hnb.2.2.2.symm), h.dat.set hk τ', fun j τj hj => ?_, h.bmb, fun j τj hj => ?_, fun j j' τj τj' hj hj' hne => ?_⟩
  · by_cases e : j = k
    · subst e; rw [setG_same] at hj; cases hj; exact hT
    · rw [setG_other _ _ e] at hj
      have h1 := h.tals j τj hj
      have h2 := h.nb j τj hj
      have h3 := h.inj j k τj τ hj hk e
      have h4 := h.tals k τ hk
      have n1 : (tal j).1 ≠ (tal k).2 := fun e1 => by
        obtain ⟨n', D', _, ⟨es, c, hb', _⟩, _⟩ := h4.own
        have := h1.blk
        rw [e1, hb'] at this
        cases this
      have n2 : (tal j).2 ≠ (tal k).1 := fun e1 => by
        obtain ⟨n', D', _, ⟨es, c, hb', _⟩, _⟩ := h1.own
        have := h4.blk
        rw [← e1, hb'] at this
        cases this
      exact (h1.kept (hb _ h1.lt.1 h2.1 h3.1 n1) (hb _ h1.lt.2 h2.2.1 n2 h3.2)).mono hm
  · obtain ⟨τ0, h0⟩ := hg j τj hj
    exact h.nb j τ0 h0
  · obtain ⟨τ0, h0⟩ := hg j τj hj
    obtain ⟨τ1, h1⟩ := hg j' τj' hj'
    exact h.inj j j' τ0 τ1 h0 h1 hne
theorem GMap.new {w w' : World} {b bm m n : Nat} {tal : Int → Nat × Nat} {G : Int → Option Tl} {D : DataW Value} (h : GMap w b bm tal m G n D) {k : Int} (hw : (gi k).wf = true) (hk : G k = none) {t r : Nat} {τ' : Tl} (hlt : b < w.heap.size)
    (ht : w.heap.size ≤ t) (hr : w.heap.size ≤ r) (hown : w'.ownsMap Tryz.prog 3 gR bm (n + 1) (D.put (gi k) (.held (tp t)))) (hT : TalAt w' t r (m + 1) τ') (hb : ∀ j, j < w.heap.size → j ≠ b → j ≠ bm → w'.heap[j]? = w.heap[j]?) :
    GMap w' b bm (setTal tal k (t, r)) (m + 1) (setG G k (some τ')) (n + 1) (D.put (gi k) (.held (tp t))) := by
  have hbm := h.own.lt
  refine ⟨Nat.succ_le_succ h.le, hown, h.dat.new hw t r τ', fun j τj hj => ?_, h.bmb, fun j τj hj => ?_, fun j j' τj τj' hj hj' hne => ?_⟩
  · by_cases e : j = k
    · subst e; rw [setG_same] at hj; cases hj; simpa [setTal] using hT
    · rw [setG_other _ _ e] at hj
      have h1 := h.tals j τj hj
      have h2 := h.nb j τj hj
      simp only [setTal, e, if_false]
      exact (h1.kept (hb _ h1.lt.1 h2.1 h2.2.2.1) (hb _ h1.lt.2 h2.2.1 h2.2.2.2)).mono (Nat.le_succ _)
  · by_cases e : j = k
    · subst e; simp only [setTal, if_true]; omega
    · rw [setG_other _ _ e] at hj
      simp only [setTal, e, if_false]
      exact h.nb j τj hj
  · by_cases e : j = k
    · subst e
      have e' : j' ≠ j := fun e => hne e.symm
      rw [setG_other _ _ e'] at hj'
      have h1 := h.tals j' τj' hj'
      simp only [setTal, if_true, e', if_false]
      have := h1.lt
      omega
    · rw [setG_other _ _ e] at hj
      by_cases e' : j' = k
      · subst e'
        have h1 := h.tals j τj hj
        simp only [setTal, if_true, e, if_false]
        have := h1.lt
        omega
      · rw [setG_other _ _ e'] at hj'
        simp only [setTal, e, e', if_false]
        exact h.inj j j' τj τj' hj hj' hne
theorem GMap.del {w w' : World} {b bm m n : Nat} {tal : Int → Nat × Nat} {G : Int → Option Tl} {D : DataW Value} (h : GMap w b bm tal m G n D) (k : Int)
    (hown : w'.ownsMap Tryz.prog 3 gR bm n (D.del (gi k))) (hb : ∀ j, j < w.heap.size → j ≠ b → j ≠ bm → w'.heap[j]? = w.heap[j]?) : GMap w' b bm tal m (setG G k none) n (D.del (gi k)) := by
  have hg : ∀ j τj, setG G k none j = some τj → G j = some τj := fun j τj hj => by
    by_cases e : j = k
    · subst e; rw [setG_same] at hj; cases hj
    · rw [setG_other _ _ e] at hj; exact hj
  refine ⟨h.le, hown, h.dat.del k, fun j τj hj => ?_, h.bmb, fun j τj hj => h.nb j τj (hg j τj hj), fun j j' τj τj' hj hj' hne => h.inj j j' τj τj' (hg j τj hj) (hg j' τj' hj') hne⟩
  have h1 := h.tals j τj (hg j τj hj)
  have h2 := h.nb j τj (hg j τj hj)
  exact h1.kept (hb _ h1.lt.1 h2.1 h2.2.2.1) (hb _ h1.lt.2 h2.2.1 h2.2.2.2)
theorem GMap.look {w W : World} {b bm m n : Nat} {tal : Int → Nat × Nat} {G : Int → Option Tl} {D : DataW Value} (h : GMap w b bm tal m G n D) (hW : W.heap[bm]? = w.heap[bm]?) {k : Int} (hw : (gi k).wf = true) {τ : Tl} (hk : G k = some τ) :
    (Instr.lookup 104 (.map (some bm)) (.int .i64 k) true).run Tryz.prog W = .ok (.tuple #[tp (tal k).1, .bool true]) W := by
  obtain ⟨v, ps, hrun, hv⟩ := (ownsMap_at h.own hW).look_ok gkeyed Tryz.underlying104 (gzero84 W) (zd := .held (.pointer none)) (zp := []) rfl (gkey hw)
  rw [h.dat.at_ k τ hk] at hv
  simp only [gR, Option.some.injEq, Prod.mk.injEq, DataW.held.injEq] at hv
  rw [hrun, hv.1, h.dat.has k hw, hk]
  rfl
theorem GMap.look1 {w W : World} {b bm m n : Nat} {tal : Int → Nat × Nat} {G : Int → Option Tl} {D : DataW Value} (h : GMap w b bm tal m G n D) (hW : W.heap[bm]? = w.heap[bm]?) {k : Int} (hw : (gi k).wf = true) {τ : Tl} (hk : G k = some τ) :
    (Instr.lookup 104 (.map (some bm)) (.int .i64 k) false).run Tryz.prog W = .ok (tp (tal k).1) W := by
  obtain ⟨v, ps, hrun, hv⟩ := (ownsMap_at h.own hW).lookup gkeyed Tryz.underlying104 (gzero84 W) (zd := .held (.pointer none)) (zp := []) rfl (gkey hw)
  rw [h.dat.at_ k τ hk] at hv
  simp only [gR, Option.some.injEq, Prod.mk.injEq, DataW.held.injEq] at hv
  rw [hrun, hv.1]
theorem GMap.look_none {w W : World} {b bm m n : Nat} {tal : Int → Nat × Nat} {G : Int → Option Tl} {D : DataW Value} (h : GMap w b bm tal m G n D) (hW : W.heap[bm]? = w.heap[bm]?) {k : Int} (hw : (gi k).wf = true) (hk : G k = none) :
    (Instr.lookup 104 (.map (some bm)) (.int .i64 k) true).run Tryz.prog W = .ok (.tuple #[.pointer none, .bool false]) W := by
  obtain ⟨es, clock, hb, F, _, rfl⟩ := ownsMap_at h.own hW
  rcases Maps.fit_look true gkeyed Tryz.underlying104 (gzero84 W) hb F (gkey hw) with ⟨hrun, _, hat⟩ | ⟨e0, y, _, _, hrun, hRv, hat, _⟩
  · exact hrun
  · have h1 := h.dat.has k hw
    rw [Maps.has_true_of_atKey hat, hk] at h1
    cases h1
structure GAt (w : World) (b o : Nat) (om : Option Nat) (tal : Int → Nat × Nat) (m : Nat) (G : Int → Option Tl) : Prop where
  blk : ∃ cs T, w.heap[b]? = some (.cells cs T) ∧ cs[o]? = some (.map om)
  map : (om = none ∧ G = fun _ => none) ∨ ∃ bm n D, om = some bm ∧ GMap w b bm tal m G n D
theorem GAt.blt {w : World} {b o m : Nat} {om : Option Nat} {tal : Int → Nat × Nat} {G : Int → Option Tl} (h : GAt w b o om tal m G) : b < w.heap.size := by
  obtain ⟨cs, T, h1, _⟩ := h.blk
  exact (Array.getElem?_eq_some_iff.1 h1).1
theorem GAt.lt {w : World} {b o m : Nat} {om : Option Nat} {tal : Int → Nat × Nat} {G : Int → Option Tl} (h : GAt w b o om tal m G) {j : Nat} (hj : foot b om tal G j) : j < w.heap.size := by
  by_cases e : j = b
  · rw [e]; exact h.blt
  · rcases h.map with ⟨rfl, rfl⟩ | ⟨bm, n, D, rfl, hm⟩
    · rcases hj with h1 | h1 | ⟨k, τ, h1, _⟩
      · exact absurd h1 e
      · cases h1
      · cases h1
    · exact hm.lt hj e
theorem GAt.kept {w w' : World} {b o m : Nat} {om : Option Nat} {tal : Int → Nat × Nat} {G : Int → Option Tl} (h : GAt w b o om tal m G) (hk : ∀ j, foot b om tal G j → w'.heap[j]? = w.heap[j]?) : GAt w' b o om tal m G := by
  refine ⟨?_, ?_⟩
  · obtain ⟨cs, T, h1, h2⟩ := h.blk
    exact ⟨cs, T, (hk b (.inl rfl)).trans h1, h2⟩
  · rcases h.map with h1 | ⟨bm, n, D, rfl, hm⟩
    · exact .inl h1
    · exact .inr ⟨bm, n, D, rfl, hm.kept fun j hj _ => hk j hj⟩
theorem GAt.below {w w' : World} {b o m : Nat} {om : Option Nat} {tal : Int → Nat × Nat} {G : Int → Option Tl} (h : GAt w b o om tal m G) (hb : Below w.heap.size w w') : GAt w' b o om tal m G := h.kept fun _ hj => hb.block _ (h.lt hj)
theorem GAt.mono {w : World} {b o m m' : Nat} {om : Option Nat} {tal : Int → Nat × Nat} {G : Int → Option Tl} (h : GAt w b o om tal m G) (hm : m ≤ m') : GAt w b o om tal m' G :=
  ⟨h.blk, h.map.imp id fun ⟨bm, n, D, e, h1⟩ => ⟨bm, n, D, e, h1.mono hm⟩⟩
theorem GAt.cell {w : World} {b o m : Nat} {om : Option Nat} {tal : Int → Nat × Nat} {G : Int → Option Tl} (h : GAt w b o om tal m G) : w.cell? ⟨b, o, none⟩ = some (.map om) ∧ w.frozen? ⟨b, o, none⟩ = false := by
  obtain ⟨cs, T, h1, h2⟩ := h.blk
  exact ⟨by rw [Go.Joins.cell_of_block h1]; exact h2, Go.Joins.unfrozen_of_block h1 o⟩
theorem TalAt.cells {w : World} {t r m : Nat} {τ : Tl} (h : TalAt w t r m τ) : w.cell? ⟨t, 0, none⟩ = some (.int .i64 τ.c) ∧ w.cell? ⟨t, 1, none⟩ = some (.int .i64 τ.s) ∧ w.cell? ⟨t, 2, none⟩ = some (.map (some r)) ∧
    w.frozen? ⟨t, 0, none⟩ = false ∧ w.frozen? ⟨t, 1, none⟩ = false ∧ w.frozen? ⟨t, 2, none⟩ = false := by
  refine ⟨?_, ?_, ?_, Go.Joins.unfrozen_of_block h.blk 0, Go.Joins.unfrozen_of_block h.blk 1, Go.Joins.unfrozen_of_block h.blk 2⟩ <;> (rw [Go.Joins.cell_of_block h.blk]; rfl)
structure Turn (S : Nat → Prop) (b o : Nat) (w w' : World) : Prop where
  os : w'.os = w.os
  tape : w'.tape = w.tape
  output : w'.output = w.output
  size : w.heap.size ≤ w'.heap.size
  block : ∀ k, k < w.heap.size → ¬ S k → w'.heap[k]? = w.heap[k]?
  this : ∀ cs T, w.heap[b]? = some (.cells cs T) → ∃ cs' : Array Value, w'.heap[b]? = some (.cells cs' T) ∧ cs'.size = cs.size ∧ ∀ i, i ≠ o → cs'[i]? = cs[i]?
theorem Turn.of_below {S : Nat → Prop} {b o : Nat} {w w' : World} (h : Below w.heap.size w w') : Turn S b o w w' :=
  ⟨h.os, h.tape, h.output, h.size, fun k hk _ => h.block k hk, fun cs _ hc => ⟨cs, (h.block b (Array.getElem?_eq_some_iff.1 hc).1).trans hc, rfl, fun _ _ => rfl⟩⟩
theorem Turn.trans {S S' : Nat → Prop} {b o : Nat} {u v w : World} (h : Turn S b o u v) (k : Turn S' b o v w) (hS : ∀ j, j < u.heap.size → S' j → S j) : Turn S b o u w :=
  ⟨k.os.trans h.os, k.tape.trans h.tape, k.output.trans h.output, Nat.le_trans h.size k.size, fun j hj hn => (k.block j (Nat.lt_of_lt_of_le hj h.size) (fun e => hn (hS j hj e))).trans (h.block j hj hn), fun cs T hc => by
    obtain ⟨cs1, h1, h2, h3⟩ := h.this cs T hc
    obtain ⟨cs2, k1, k2, k3⟩ := k.this cs1 T h1
    exact ⟨cs2, k1, k2.trans h2, fun i hi => (k3 i hi).trans (h3 i hi)⟩⟩
theorem Turn.below {S : Nat → Prop} {b o B : Nat} {w w' : World} (h : Turn S b o w w') (hB : B ≤ w.heap.size) (hS : ∀ k, S k → B ≤ k) : Below B w w' :=
  ⟨h.os, h.tape, h.output, h.size, fun k hk => h.block k (by omega) (fun e => by have := hS k e; omega)⟩
def Grp (w : World) (b o m : Nat) (S : Nat → Prop) (G : Int → Option Tl) : Prop := ∃ om tal, GAt w b o om tal m G ∧ (∀ j, foot b om tal G j → S j) ∧ ∀ j, S j → j < w.heap.size
theorem Grp.kept {w w' : World} {b o m : Nat} {S : Nat → Prop} {G : Int → Option Tl} (h : Grp w b o m S G) (hs : w.heap.size ≤ w'.heap.size) (hk : ∀ j, S j → w'.heap[j]? = w.heap[j]?) : Grp w' b o m S G := by
  obtain ⟨om, tal, h1, h2, h3⟩ := h
  exact ⟨om, tal, h1.kept fun j hj => hk j (h2 j hj), h2, fun j hj => Nat.lt_of_lt_of_le (h3 j hj) hs⟩
theorem Grp.below {w w' : World} {b o m : Nat} {S : Nat → Prop} {G : Int → Option Tl} (h : Grp w b o m S G) (hb : Below w.heap.size w w') : Grp w' b o m S G :=
  h.kept hb.size fun j hj => hb.block j (by obtain ⟨_, _, _, _, h3⟩ := h; exact h3 j hj)
theorem Grp.mono {w : World} {b o m m' : Nat} {S : Nat → Prop} {G : Int → Option Tl} (h : Grp w b o m S G) (hm : m ≤ m') : Grp w b o m' S G := by
  obtain ⟨om, tal, h1, h2, h3⟩ := h
  exact ⟨om, tal, h1.mono hm, h2, h3⟩
theorem Grp.in {w : World} {b o m : Nat} {S : Nat → Prop} {G : Int → Option Tl} (h : Grp w b o m S G) : S b ∧ b < w.heap.size := by
  obtain ⟨om, tal, h1, h2, h3⟩ := h
  exact ⟨h2 b (.inl rfl), h1.blt⟩
end Go.Proofs.YthfpipieboophaaGreatDoor

/- Package group: a tally's small functions; put where the tally is there. -/
namespace Go.Proofs.YthfpipieboophaaGreatDoor
open Go.RowKit Go.Sort
set_option maxRecDepth 100000
theorem geq_some (bm : Nat) (w : World) : (binOp .eql 104 (.map (some bm)) (.map none)).run Tryz.prog w = .ok (.bool false) w := by kernel_rfl
theorem geq_none (w : World) : (binOp .eql 104 (.map none) (.map none)).run Tryz.prog w = .ok (.bool true) w := by kernel_rfl
set_option maxHeartbeats 800000 in
theorem takeRight_one (t r m : Nat) (τ : Tl) (w : World) (h : TalAt w t r m τ) (x : Int) (hx : (gi x).wf = true) (h1 : τ.R.count x = 1) :
    Calls Tryz.prog 250 #[tp t, .int .i64 x] w fun e w' => e = .returned (.tuple #[]) ∧ w'.heap.size = w.heap.size ∧ w.grownBy w' (some r) ∧ ∃ n D, n ≤ m + 1 ∧ w'.ownsMap Tryz.prog 3 (plainElem (H := Unit) Tryz.prog 3) r n D ∧ GCnt D (τ.R.erase x) := by
  have hc := h.cells
  obtain ⟨n, D, hn, hown, hcn⟩ := h.own
  have hrun := glook hown hcn x hx
  rw [h1] at hrun
  obtain ⟨W2, hd, hown2, ht⟩ := hown.drop gkeyed Tryz.underlying281 (gkey hx) 0
  have hsz : W2.heap.size = w.heap.size := by
    obtain ⟨_, _, _, _, _, rfl⟩ := ht
    simp [ChangeMaps.setBlock]
  have hpost : Hid (W2.heap.size = w.heap.size ∧ w.grownBy W2 (some r) ∧ ∃ n D, n ≤ m + 1 ∧ W2.ownsMap Tryz.prog 3 (plainElem (H := Unit) Tryz.prog 3) r n D ∧ GCnt D (τ.R.erase x)) :=
    ⟨hsz, ht.grown, n, _, by omega, hown2, hcn.del x h1⟩
  clear h hsz ht hown2 hown hcn
  go_enter Tryz.func250, Tryz.ntmps250
  go_wp2
  (try simp only [Exit.inBlock, Exit.then])
  refine bodyPost_ret (results_none rfl _ _ _) rfl ?_
  exact ⟨rfl, hpost.out⟩
set_option maxHeartbeats 800000 in
theorem takeRight_more (t r m : Nat) (τ : Tl) (w : World) (h : TalAt w t r m τ) (x : Int) (hx : (gi x).wf = true) (h2 : 2 ≤ τ.R.count x) (hm : m < 100000000) :
    Calls Tryz.prog 250 #[tp t, .int .i64 x] w fun e w' => e = .returned (.tuple #[]) ∧ w'.heap.size = w.heap.size ∧ w.grownBy w' (some r) ∧ ∃ n D, n ≤ m + 1 ∧ w'.ownsMap Tryz.prog 3 (plainElem (H := Unit) Tryz.prog 3) r n D ∧ GCnt D (τ.R.erase x) := by
  have hc := h.cells
  have hlen := h.len
  obtain ⟨n, D, hn, hown, hcn⟩ := h.own
  have hle : τ.R.count x ≤ τ.R.length := List.count_le_length
  have hrun := glook hown hcn x hx
  obtain ⟨W2, hd, hown2, ht⟩ := hown.store gkeyed Tryz.underlying281 (by unfold maxLen; omega) (gkey hx) (plainElem_int (H := Unit) (a := (τ.R.count x : Int) - 1) Tryz.underlying3 (WalkArith.wf_i64 (by omega)))
  have hsz : W2.heap.size = w.heap.size := by
    obtain ⟨_, _, _, _, _, rfl⟩ := ht
    simp [ChangeMaps.setBlock]
  have hpost : Hid (W2.heap.size = w.heap.size ∧ w.grownBy W2 (some r) ∧ ∃ n D, n ≤ m + 1 ∧ W2.ownsMap Tryz.prog 3 (plainElem (H := Unit) Tryz.prog 3) r n D ∧ GCnt D (τ.R.erase x)) :=
    ⟨hsz, ht.grown, n + 1, _, by omega, hown2, hcn.less x hx h2⟩
  have hlo : 2 ≤ (τ.R.count x : Int) := by omega
  have hhi : (τ.R.count x : Int) < 100000000 := by omega
  clear h hsz ht hown2 hown hcn hle h2
  generalize (τ.R.count x : Int) = c at *
  go_enter Tryz.func250, Tryz.ntmps250
  go_wp2
  go_end0
  exact ⟨rfl, hpost.out⟩
theorem takeRight_any (t r m : Nat) (τ : Tl) (w : World) (h : TalAt w t r m τ) (x : Int) (hx : x ∈ τ.R) (hm : m < 100000000) :
    Calls Tryz.prog 250 #[tp t, .int .i64 x] w fun e w' => e = .returned (.tuple #[]) ∧ w'.heap.size = w.heap.size ∧ w.grownBy w' (some r) ∧ ∃ n D, n ≤ m + 1 ∧ w'.ownsMap Tryz.prog 3 (plainElem (H := Unit) Tryz.prog 3) r n D ∧ GCnt D (τ.R.erase x) := by
  have hwf : (gi x).wf = true := by obtain ⟨n, D, hn, hown, hcn⟩ := h.own; exact hcn.wf x hx
  have hpos : 0 < τ.R.count x := List.count_pos_iff.2 hx
  by_cases h1 : τ.R.count x = 1
  · exact takeRight_one t r m τ w h x hwf h1
  · exact takeRight_more t r m τ w h x hwf (by omega) hm
def putW (w : World) (x : O) (t : Nat) (c s : Int) : World :=
  if x.hl then (((w.setCell ⟨t, 0, none⟩ (.int .i64 (c + 1))).setCell ⟨t, 1, none⟩ (.int .i64 (wrap64 (s + x.lv)))).alloc (.cells (encO x).toArray 89)).drew.drew
  else ((w.setCell ⟨t, 0, none⟩ (.int .i64 (c + 1))).alloc (.cells (encO x).toArray 89)).drew
theorem putW_at {w : World} {t r : Nat} (τ : Tl) (x : O) (h : w.heap[t]? = some (.cells #[.int .i64 τ.c, .int .i64 τ.s, .map (some r)] 283)) :
    (putW w x t τ.c τ.s).heap[t]? = some (.cells #[.int .i64 (putT τ x).c, .int .i64 (putT τ x).s, .map (some r)] 283) ∧ (putW w x t τ.c τ.s).heap.size = w.heap.size + 1 ∧
    (∀ j, j < w.heap.size → j ≠ t → (putW w x t τ.c τ.s).heap[j]? = w.heap[j]?) ∧ (putW w x t τ.c τ.s).os = w.os ∧ (putW w x t τ.c τ.s).tape = w.tape ∧ (putW w x t τ.c τ.s).output = w.output := by
  have hlt : t < w.heap.size := (Array.getElem?_eq_some_iff.1 h).1
  have hb1 : (w.setCell ⟨t, 0, none⟩ (.int .i64 ((τ.c : Int) + 1))).heap[t]? = some (.cells #[.int .i64 ((τ.c : Int) + 1), .int .i64 τ.s, .map (some r)] 283) := by
    rw [Go.Joins.block_setCell h]; rfl
  have ho : ∀ j, j ≠ t → (w.setCell ⟨t, 0, none⟩ (.int .i64 ((τ.c : Int) + 1))).heap[j]? = w.heap[j]? := fun j hne => Below.heap_setCell _ _ _ _ hne
  have hput : (putT τ x).c = τ.c + 1 := rfl
  have e1 : (((τ.c + 1 : Nat) : Int)) = (τ.c : Int) + 1 := by omega
  rw [hput, e1]
  unfold putW
  cases hl : x.hl
  · simp only [Bool.false_eq_true, if_false]
    refine ⟨?_, by simp, fun j hj hne => ?_, rfl, rfl, rfl⟩
    · refine (Below.heap_alloc _ _ t (by simpa using hlt)).trans ?_
      rw [hb1]; simp [putT, hl]
    · exact (Below.heap_alloc _ _ j (by simpa using hj)).trans (ho j hne)
  · simp only [if_true]
    refine ⟨?_, by simp, fun j hj hne => ?_, rfl, rfl, rfl⟩
    · refine (Below.heap_alloc _ _ t (by simpa using hlt)).trans ?_
      rw [Go.Joins.block_setCell hb1]; simp [putT, hl]
    · refine (Below.heap_alloc _ _ j (by simpa using hj)).trans ?_
      rw [Below.heap_setCell _ _ _ _ hne]; exact ho j hne
set_option maxHeartbeats 2000000 in
theorem put_there (b o bm m n : Nat) (tal : Int → Nat × Nat) (G : Int → Option Tl) (D : DataW Value) (w : World) (hcell : w.cell? ⟨b, o, none⟩ = some (.map (some bm))) (hblt : b < w.heap.size) (h : GMap w b bm tal m G n D) (x : O) (hx : x.wf) (τ : Tl) (hk : G x.k = some τ) (hm : m < 100000000) :
    Calls Tryz.prog 182 #[.pointer (some ⟨b, o, none⟩), vO x] w fun e w' => e = .returned (.tuple #[]) ∧
      ((x.hr = false ∧ w' = putW w x (tal x.k).1 τ.c τ.s) ∨ (x.hr = true ∧ ∃ n D, n ≤ m + 1 ∧ w'.ownsMap Tryz.prog 3 (plainElem (H := Unit) Tryz.prog 3) (tal x.k).2 n D ∧ GCnt D (x.rv :: τ.R) ∧ (putW w x (tal x.k).1 τ.c τ.s).drew.grownBy w' (some (tal x.k).2))) := by
  have hT := h.tals x.k τ hk
  have hlook := h.look (W := (w.alloc (.cells (encO x).toArray 89)).drew) (Below.heap_alloc w _ bm h.own.lt) hx.k hk
  have hc := hT.cells
  have htlt := hT.lt
  have hnb := h.nb x.k τ hk
  have hlo : (1 : Int) ≤ τ.c := by have := hT.lo; omega
  have hhi : (τ.c : Int) < 100000000 := by have := hT.hi; omega
  have hne := hT.ne
  obtain ⟨p1, p2, p3, p4, p5, p6⟩ := putW_at τ x hT.blk
  obtain ⟨nr, Dr, hnr, hownr, hcr⟩ := hT.own
  have hownW : ((putW w x (tal x.k).1 τ.c τ.s).drew).ownsMap Tryz.prog 3 (plainElem (H := Unit) Tryz.prog 3) (tal x.k).2 nr Dr := ownsMap_at hownr (p3 _ htlt.2 hne.symm)
  have hcle : τ.R.count x.rv ≤ τ.R.length := List.count_le_length
  have hlen := hT.len
  have hrl := glook hownW hcr x.rv hx.rv
  obtain ⟨W2, hst, hown2, htn⟩ := hownW.store gkeyed Tryz.underlying281 (by unfold maxLen; omega) (gkey hx.rv) (plainElem_int (H := Unit) (a := (τ.R.count x.rv : Int) + 1) Tryz.underlying3 (WalkArith.wf_i64 (by omega)))
  have hend : Hid (∃ n D, n ≤ m + 1 ∧ W2.ownsMap Tryz.prog 3 (plainElem (H := Unit) Tryz.prog 3) (tal x.k).2 n D ∧ GCnt D (x.rv :: τ.R) ∧ (putW w x (tal x.k).1 τ.c τ.s).drew.grownBy W2 (some (tal x.k).2)) :=
    ⟨nr + 1, _, by omega, hown2, hcr.put x.rv hx.rv, htn.grown⟩
  have hcnt : (τ.R.count x.rv : Int) < 100000000 := by omega
  have hcnt0 : 0 ≤ (τ.R.count x.rv : Int) := by omega
  clear p1 p2 p3 p4 p5 p6 hownW hown2 htn hcr hownr hnr h hT hk hcle hlen
  generalize (τ.R.count x.rv : Int) = cn at *
  generalize (tal x.k).1 = t at *
  generalize (tal x.k).2 = r at *
  generalize (τ.c : Int) = c at *
  generalize τ.s = s at *
  have hq := geq_some bm
  obtain ⟨k, lk, lt, lv, rk, rt, rv, hl, hr⟩ := x
  cases hl <;> cases hr
  · clear hend hrl hst
    simp only [vO, encO, putW, Bool.false_eq_true, if_false] at hlook ⊢
    go_enter Tryz.func182, Tryz.ntmps182
    go_wp2
    go_region
    all_goals (try go_wp2)
    all_goals go_end0
    all_goals exact ⟨rfl, .inl ⟨trivial, rfl⟩⟩
  · have hend' := hend
    clear hend
    simp only [vO, encO, putW, Bool.false_eq_true, if_false] at hlook hrl hst ⊢
    simp only [encO, putW, Bool.false_eq_true, if_false] at hend'
    have hend : Hid _ := hend'
    clear hend'
    go_enter Tryz.func182, Tryz.ntmps182
    go_wp2
    go_region
    all_goals (try go_wp2)
    all_goals go_region
    all_goals (try go_wp2)
    all_goals go_end0
    all_goals exact ⟨rfl, .inr ⟨trivial, hend⟩⟩
  · clear hend hrl hst
    simp only [vO, encO, putW, Bool.false_eq_true, if_true] at hlook ⊢
    go_enter Tryz.func182, Tryz.ntmps182
    go_wp2
    go_region
    all_goals (try go_wp2)
    all_goals go_region
    all_goals (try go_wp2)
    all_goals go_end0
    all_goals exact ⟨rfl, .inl ⟨trivial, rfl⟩⟩
  · have hend' := hend
    clear hend
    simp only [vO, encO, putW, if_true] at hlook hrl hst ⊢
    simp only [encO, putW, if_true] at hend'
    have hend : Hid _ := hend'
    clear hend'
    go_enter Tryz.func182, Tryz.ntmps182
    go_wp2
    go_region
    all_goals (try go_wp2)
    all_goals go_region
    all_goals (try go_wp2)
    all_goals go_region
    all_goals (try go_wp2)
    all_goals go_end0
    all_goals exact ⟨rfl, .inr ⟨trivial, hend⟩⟩
end Go.Proofs.YthfpipieboophaaGreatDoor

/- Package group: put where the tally is not there yet. -/
namespace Go.Proofs.YthfpipieboophaaGreatDoor
open Go.RowKit Go.Sort
set_option maxRecDepth 100000
def putV (W : World) (x : O) (t : Nat) : World :=
  if x.hl then ((W.setCell ⟨t, 0, none⟩ (.int .i64 1)).setCell ⟨t, 1, none⟩ (.int .i64 (wrap64 x.lv))).drew
  else W.setCell ⟨t, 0, none⟩ (.int .i64 1)
abbrev τ0 : Tl := ⟨0, 0, []⟩
theorem putV_at {W : World} {t r : Nat} (x : O) (h : W.heap[t]? = some (.cells #[.int .i64 0, .int .i64 0, .map (some r)] 283)) :
    (putV W x t).heap[t]? = some (.cells #[.int .i64 (putT τ0 x).c, .int .i64 (putT τ0 x).s, .map (some r)] 283) ∧ (putV W x t).heap.size = W.heap.size ∧
    (∀ j, j ≠ t → (putV W x t).heap[j]? = W.heap[j]?) ∧ (putV W x t).os = W.os ∧ (putV W x t).tape = W.tape ∧ (putV W x t).output = W.output := by
  have hb1 : (W.setCell ⟨t, 0, none⟩ (.int .i64 1)).heap[t]? = some (.cells #[.int .i64 1, .int .i64 0, .map (some r)] 283) := by
    rw [Go.Joins.block_setCell h]; rfl
  have ho : ∀ j, j ≠ t → (W.setCell ⟨t, 0, none⟩ (.int .i64 1)).heap[j]? = W.heap[j]? := fun j hne => Below.heap_setCell _ _ _ _ hne
  unfold putV
  cases hl : x.hl
  · simp only [Bool.false_eq_true, if_false]
    refine ⟨?_, by simp, ho, rfl, rfl, rfl⟩
    rw [hb1]; simp [putT, hl]
  · simp only [if_true]
    refine ⟨?_, by simp, fun j hne => ?_, rfl, rfl, rfl⟩
    · refine (Go.Joins.block_setCell hb1 _).trans ?_
      simp [putT, hl]
    · refine (Below.heap_setCell _ _ _ _ hne).trans ?_
      exact ho j hne
def newV (V : World) : World := ((V.alloc (.map #[] 0)).alloc (.cells #[.int .i64 0, .int .i64 0, .map (some V.heap.size)] 283)).drew
structure NewAt (V W2 : World) (bm n : Nat) (D : DataW Value) (k : Int) : Prop where
  own : W2.ownsMap Tryz.prog 3 gR bm (n + 1) (D.put (gi k) (.held (tp (V.heap.size + 1))))
  size : W2.heap.size = V.heap.size + 2
  block : ∀ j, j < V.heap.size → j ≠ bm → W2.heap[j]? = V.heap[j]?
  rb : W2.heap[V.heap.size]? = some (.map #[] 0)
  tb : W2.heap[V.heap.size + 1]? = some (.cells #[.int .i64 0, .int .i64 0, .map (some V.heap.size)] 283)
  os : W2.os = V.os
  tape : W2.tape = V.tape
  output : W2.output = V.output
theorem new_at {V : World} {b bm m n : Nat} {tal : Int → Nat × Nat} {G : Int → Option Tl} {D : DataW Value} (h : GMap V b bm tal m G n D) {k : Int} (hw : (gi k).wf = true) (hm : m < 100000000) :
    ∃ W2, (Instr.mapUpdate 104 (.map (some bm)) (.int .i64 k) (tp (V.heap.size + 1))).run Tryz.prog (newV V) = .ok () W2 ∧ NewAt V W2 bm n D k := by
  have hlt := h.own.lt
  have hsz : (newV V).heap.size = V.heap.size + 2 := by unfold newV; simp
  have hb : ∀ j, j < V.heap.size → (newV V).heap[j]? = V.heap[j]? := fun j hj => by
    unfold newV
    refine (Below.heap_alloc _ _ j (by simp; omega)).trans (Below.heap_alloc _ _ j hj)
  have hown : (newV V).ownsMap Tryz.prog 3 gR bm n D := ownsMap_at h.own (hb bm hlt)
  have hr : (newV V).heap[V.heap.size]? = some (.map #[] 0) := by
    unfold newV
    refine (Below.heap_alloc _ _ _ (by simp)).trans ?_
    exact (MapKept.heap_alloc V _).1
  have ht : (newV V).heap[V.heap.size + 1]? = some (.cells #[.int .i64 0, .int .i64 0, .map (some V.heap.size)] 283) := by
    have := (MapKept.heap_alloc (V.alloc (.map #[] 0)) (.cells #[.int .i64 0, .int .i64 0, .map (some V.heap.size)] 283)).1
    have e : (V.alloc (.map #[] 0)).heap.size = V.heap.size + 1 := by simp
    rw [e] at this
    exact this
  obtain ⟨W2, hrun, hown2, htn⟩ := hown.store gkeyed Tryz.underlying104 (by have := h.le; unfold maxLen; omega) (gkey hw) (val := tp (V.heap.size + 1)) (d := .held (tp (V.heap.size + 1))) (ps := []) rfl
  have hg := htn.grown
  have hs2 : W2.heap.size = V.heap.size + 2 := by
    obtain ⟨_, _, _, _, _, rfl⟩ := htn
    simp [ChangeMaps.setBlock, hsz]
  refine ⟨W2, hrun, hown2, hs2, fun j hj hne => ?_, ?_, ?_, hg.os, hg.tape, hg.output⟩
  · rw [hg.block j (by omega) (fun e => hne (by injection e))]; exact hb j hj
  · rw [hg.block _ (by omega) (fun e => by injection e; omega)]; exact hr
  · rw [hg.block _ (by omega) (fun e => by injection e; omega)]; exact ht
def Ends (V W' : World) (b bm m n : Nat) (tal : Int → Nat × Nat) (G : Int → Option Tl) (D : DataW Value) (x : O) : Prop :=
  GMap W' b bm (setTal tal x.k (V.heap.size + 1, V.heap.size)) (m + 1) (setG G x.k (some (putT τ0 x))) (n + 1) (D.put (gi x.k) (.held (tp (V.heap.size + 1)))) ∧
  (∀ j, j < V.heap.size → j ≠ bm → W'.heap[j]? = V.heap[j]?) ∧ V.heap.size ≤ W'.heap.size ∧ W'.os = V.os ∧ W'.tape = V.tape ∧ W'.output = V.output
theorem ends0 {V W2 : World} {b bm m n : Nat} {tal : Int → Nat × Nat} {G : Int → Option Tl} {D : DataW Value} (h : GMap V b bm tal m G n D) (hb : b < V.heap.size) (x : O) (hx : x.wf) (hk : G x.k = none) (hN : NewAt V W2 bm n D x.k) (hr : x.hr = false) :
    Ends V (putV W2 x (V.heap.size + 1)) b bm m n tal G D x := by
  obtain ⟨p1, p2, p3, p4, p5, p6⟩ := putV_at x hN.tb
  have hbm := h.own.lt
  have hs := hN.size
  refine ⟨h.new hx.k hk hb (by omega) (by omega) (ownsMap_at hN.own (p3 _ (by omega))) ?_ (fun j hj _ hne => (p3 j (by omega)).trans (hN.block j hj hne)), fun j hj hne => (p3 j (by omega)).trans (hN.block j hj hne), by omega, p4.trans hN.os, p5.trans hN.tape, p6.trans hN.output⟩
  refine ⟨p1, ⟨0, .map [], by omega, ?_, ?_⟩, by simp [putT], by simp [putT], by simp [putT, hr]⟩
  · have h0 := World.ownsMap_made (H := Unit) V Tryz.prog 3 (plainElem Tryz.prog 3)
    refine ownsMap_at h0 ?_
    rw [(MapKept.heap_alloc V _).1, p3 _ (by omega), hN.rb]
  · have : (putT τ0 x).R = [] := by simp [putT, hr]
    rw [this]; exact gcnt_nil
theorem ends1 {V W2 : World} {b bm m n : Nat} {tal : Int → Nat × Nat} {G : Int → Option Tl} {D : DataW Value} (h : GMap V b bm tal m G n D) (hb : b < V.heap.size) (x : O) (hx : x.wf) (hk : G x.k = none) (hN : NewAt V W2 bm n D x.k) (hr : x.hr = true) :
    ∃ W3, (Instr.lookup 281 (.map (some V.heap.size)) (.int .i64 x.rv) false).run Tryz.prog (putV W2 x (V.heap.size + 1)).drew = .ok (.int .i64 0) (putV W2 x (V.heap.size + 1)).drew ∧
      (Instr.mapUpdate 281 (.map (some V.heap.size)) (.int .i64 x.rv) (.int .i64 1)).run Tryz.prog (putV W2 x (V.heap.size + 1)).drew = .ok () W3 ∧ Ends V W3 b bm m n tal G D x := by
  obtain ⟨p1, p2, p3, p4, p5, p6⟩ := putV_at x hN.tb
  have hbm := h.own.lt
  have hs := hN.size
  have h0 : (putV W2 x (V.heap.size + 1)).drew.ownsMap Tryz.prog 3 (plainElem (H := Unit) Tryz.prog 3) V.heap.size 0 (.map []) := by
    refine ownsMap_at (World.ownsMap_made (H := Unit) V Tryz.prog 3 (plainElem Tryz.prog 3)) ?_
    rw [(MapKept.heap_alloc V _).1]
    exact (p3 _ (by omega)).trans hN.rb
  have hl := glook h0 gcnt_nil x.rv hx.rv
  obtain ⟨W3, hrun, hown3, htn⟩ := h0.store gkeyed Tryz.underlying281 (by unfold maxLen; omega) (gkey hx.rv) (plainElem_int (H := Unit) (a := 1) Tryz.underlying3 (by decide))
  have hg := htn.grown
  have q : ∀ j, j < W2.heap.size → j ≠ V.heap.size → W3.heap[j]? = (putV W2 x (V.heap.size + 1)).heap[j]? := fun j hj hne => hg.block j (by show j < (putV W2 x (V.heap.size + 1)).heap.size; omega) (fun e => hne (by injection e))
  have hs3 : (putV W2 x (V.heap.size + 1)).heap.size ≤ W3.heap.size := hg.size
  refine ⟨W3, hl, hrun, h.new hx.k hk hb (by omega) (by omega) (ownsMap_at hN.own ((q _ (by omega) (by omega)).trans (p3 _ (by omega)))) ?_ (fun j hj _ hne => (q j (by omega) (by omega)).trans ((p3 j (by omega)).trans (hN.block j hj hne))), fun j hj hne => (q j (by omega) (by omega)).trans ((p3 j (by omega)).trans (hN.block j hj hne)), by omega, hg.os.trans (p4.trans hN.os), hg.tape.trans (p5.trans hN.tape), hg.output.trans (p6.trans hN.output)⟩
  refine ⟨(q _ (by omega) (by omega)).trans p1, ⟨0 + 1, _, by omega, hown3, ?_⟩, by simp [putT], by simp [putT], by simp [putT, hr]⟩
  have : (putT τ0 x).R = [x.rv] := by simp [putT, hr]
  rw [this]
  exact gcnt_nil.put x.rv hx.rv
end Go.Proofs.YthfpipieboophaaGreatDoor

/- Package group: put's walk where the tally is not there yet. -/
namespace Go.Proofs.YthfpipieboophaaGreatDoor
open Go.RowKit Go.Sort
set_option maxRecDepth 100000
theorem box_cells {W : World} {a : Nat} {x : O} (h : W.heap[a]? = some (.cells (encO x).toArray 89)) :
    W.cell? ⟨a, 0, none⟩ = some (.int .i64 x.k) ∧ W.cell? ⟨a, 3, none⟩ = some (.int .i64 x.lv) ∧ W.cell? ⟨a, 6, none⟩ = some (.int .i64 x.rv) ∧ W.cell? ⟨a, 7, none⟩ = some (.bool x.hl) ∧ W.cell? ⟨a, 8, none⟩ = some (.bool x.hr) := by
  refine ⟨?_, ?_, ?_, ?_, ?_⟩ <;> (rw [Go.Joins.cell_of_block h]; rfl)
theorem new_cells {V W2 : World} {bm n : Nat} {D : DataW Value} {k : Int} (h : NewAt V W2 bm n D k) :
    W2.cell? ⟨V.heap.size + 1, 0, none⟩ = some (.int .i64 0) ∧ W2.cell? ⟨V.heap.size + 1, 1, none⟩ = some (.int .i64 0) ∧ W2.cell? ⟨V.heap.size + 1, 2, none⟩ = some (.map (some V.heap.size)) ∧ W2.frozen? ⟨V.heap.size + 1, 0, none⟩ = false ∧ W2.frozen? ⟨V.heap.size + 1, 1, none⟩ = false := by
  refine ⟨?_, ?_, ?_, Go.Joins.unfrozen_of_block h.tb 0, Go.Joins.unfrozen_of_block h.tb 1⟩ <;> (rw [Go.Joins.cell_of_block h.tb]; rfl)
def lookW (w : World) (x : O) : World := (w.alloc (.cells (encO x).toArray 89)).drew
set_option maxHeartbeats 4000000 in
theorem put_new (b o bm m n : Nat) (tal : Int → Nat × Nat) (G : Int → Option Tl) (D : DataW Value) (w : World) (hcell : w.cell? ⟨b, o, none⟩ = some (.map (some bm))) (hblt : b < w.heap.size) (h : GMap w b bm tal m G n D) (x : O) (hx : x.wf) (hk : G x.k = none) (hm : m < 100000000) :
    Calls Tryz.prog 182 #[.pointer (some ⟨b, o, none⟩), vO x] w fun e w' => e = .returned (.tuple #[]) ∧ Ends (lookW w x) w' b bm m n tal G D x := by
  have hV : GMap (lookW w x) b bm tal m G n D := h.kept fun j hj hne => Below.heap_alloc w _ j (h.lt hj hne)
  have hsV : (lookW w x).heap.size = w.heap.size + 1 := by simp [lookW]
  have hbmlt := h.own.lt
  have hlook := hV.look_none rfl hx.k hk
  obtain ⟨W2, hst0, hN⟩ := new_at hV hx.k hm
  have hst : (Instr.mapUpdate 104 (.map (some bm)) (.int .i64 x.k) (tp (w.heap.size + 1 + 1))).run Tryz.prog ((((w.alloc (.cells (encO x).toArray 89)).alloc (.map #[] 0)).alloc (.cells #[.int .i64 0, .int .i64 0, .map (some (w.heap.size + 1))] 283)).drew.drew) = .ok () W2 := by
    have e : newV (lookW w x) = ((((w.alloc (.cells (encO x).toArray 89)).alloc (.map #[] 0)).alloc (.cells #[.int .i64 0, .int .i64 0, .map (some (w.heap.size + 1))] 283)).drew.drew) := by
      unfold newV
      rw [hsV]
      rfl
    rw [← e, ← hst0, hsV]
  have hc3 : (((w.alloc (.cells (encO x).toArray 89)).alloc (.map #[] 0)).alloc (.cells #[.int .i64 0, .int .i64 0, .map (some (w.heap.size + 1))] 283)).cell? ⟨b, o, none⟩ = some (.map (some bm)) := by
    rw [World.cell?_alloc_past _ _ _ (by simp; omega), World.cell?_alloc_past _ _ _ (by simp; omega), World.cell?_alloc_past _ _ _ hblt, hcell]
  clear hst0
  have hbox : W2.heap[w.heap.size]? = some (.cells (encO x).toArray 89) := (hN.block _ (by omega) (by omega)).trans (MapKept.heap_alloc w _).1
  have hcx := box_cells hbox
  have hcn := new_cells hN
  have hq := geq_some bm
  have hmm := @run_makeMap Tryz.prog
  have hbV : b < (lookW w x).heap.size := by omega
  cases hrr : x.hr
  · have hend : Hid (Ends (lookW w x) (putV W2 x ((lookW w x).heap.size + 1)) b bm m n tal G D x) := ends0 hV hbV x hx hk hN hrr
    rw [hsV] at hend
    have HE : Hid (∀ W', W' = putV W2 x (w.heap.size + 1 + 1) → Ends (lookW w x) W' b bm m n tal G D x) := fun W' e => by rw [e]; exact hend
    clear hend
    have hlt2 : w.heap.size + 1 + 1 < W2.heap.size := by have := hN.size; omega
    clear hV h hN hbox hk
    rw [hsV] at hcn
    generalize hEnds : Ends (lookW w x) = E at *
    clear hEnds
    simp only [lookW] at hlook
    clear hsV hbV
    obtain ⟨k, lk, lt, lv, rk, rt, rv, hl, hr⟩ := x
    simp only at hrr
    subst hrr
    cases hl
    · simp only [vO, encO, putV, Bool.false_eq_true, if_false] at hlook hst hc3 hcx HE ⊢
      go_enter Tryz.func182, Tryz.ntmps182
      go_wp2
      go_region
      all_goals (try go_wp2)
      all_goals go_region
      all_goals (try go_wp2)
      all_goals go_end0
      all_goals exact ⟨rfl, HE.out _ rfl⟩
    · simp only [vO, encO, putV, if_true] at hlook hst hc3 hcx HE ⊢
      go_enter Tryz.func182, Tryz.ntmps182
      go_wp2
      go_region
      all_goals (try go_wp2)
      all_goals go_region
      all_goals (try go_wp2)
      all_goals go_region
      all_goals (try go_wp2)
      all_goals go_end0
      all_goals exact ⟨rfl, HE.out _ rfl⟩
  · obtain ⟨W3, hl3, hs3, hend0⟩ := ends1 hV hbV x hx hk hN hrr
    rw [hsV] at hl3 hs3
    have hend : Hid (Ends (lookW w x) W3 b bm m n tal G D x) := hend0
    have HE : Hid (∀ W', W' = W3 → Ends (lookW w x) W' b bm m n tal G D x) := fun W' e => by rw [e]; exact hend
    clear hend hend0
    have hlt2 : w.heap.size + 1 + 1 < W2.heap.size := by have := hN.size; omega
    clear hV h hN hbox hk
    rw [hsV] at hcn
    generalize hEnds : Ends (lookW w x) = E at *
    clear hEnds
    simp only [lookW] at hlook
    clear hsV hbV
    obtain ⟨k, lk, lt, lv, rk, rt, rv, hl, hr⟩ := x
    simp only at hrr
    subst hrr
    cases hl
    · simp only [vO, encO, putV, Bool.false_eq_true, if_false] at hlook hst hc3 hcx hl3 hs3 ⊢
      go_enter Tryz.func182, Tryz.ntmps182
      go_wp2
      go_region
      all_goals (try go_wp2)
      all_goals go_region
      all_goals (try go_wp2)
      all_goals go_region
      all_goals (try go_wp2)
      all_goals go_end0
      all_goals exact ⟨rfl, HE.out _ rfl⟩
    · simp only [vO, encO, putV, if_true] at hlook hst hc3 hcx hl3 hs3 ⊢
      go_enter Tryz.func182, Tryz.ntmps182
      go_wp2
      go_region
      all_goals (try go_wp2)
      all_goals go_region
      all_goals (try go_wp2)
      all_goals go_region
      all_goals (try go_wp2)
      all_goals go_region
      all_goals (try go_wp2)
      all_goals go_end0
      all_goals exact ⟨rfl, HE.out _ rfl⟩
end Go.Proofs.YthfpipieboophaaGreatDoor

/- Package group: put's walk where there is no map yet. -/
namespace Go.Proofs.YthfpipieboophaaGreatDoor
open Go.RowKit Go.Sort
set_option maxRecDepth 100000
def lookN (w : World) (b o : Nat) (x : O) : World := (((w.setCell ⟨b, o, none⟩ (.map (some (w.heap.size + 1)))).alloc (.cells (encO x).toArray 89)).alloc (.map #[] 0)).drew
theorem made_map {w : World} {b m : Nat} (tal : Int → Nat × Nat) (x : O) (o : Nat) (hblt : b < w.heap.size) : GMap (lookN w b o x) b (w.heap.size + 1) tal m (fun _ => none) 0 (.map []) := by
  refine ⟨Nat.zero_le _, ?_, gdat_nil tal, (fun _ _ h => by cases h), by omega, (fun _ _ h => by cases h), (fun _ _ _ _ h => by cases h)⟩
  have h0 := World.ownsMap_made (H := Value) ((w.setCell ⟨b, o, none⟩ (.map (some (w.heap.size + 1)))).alloc (.cells (encO x).toArray 89)) Tryz.prog 3 gR
  have e : ((w.setCell ⟨b, o, none⟩ (.map (some (w.heap.size + 1)))).alloc (.cells (encO x).toArray 89)).heap.size = w.heap.size + 1 := by simp
  rw [e] at h0
  exact h0.drew
theorem made_box {w : World} (x : O) (b o : Nat) : (lookN w b o x).heap[w.heap.size]? = some (.cells (encO x).toArray 89) := by
  have e : (w.setCell ⟨b, o, none⟩ (.map (some (w.heap.size + 1)))).heap.size = w.heap.size := by simp
  refine (Below.heap_alloc _ _ _ (by simp)).trans ?_
  have := (MapKept.heap_alloc (w.setCell ⟨b, o, none⟩ (.map (some (w.heap.size + 1)))) (.cells (encO x).toArray 89)).1
  rw [e] at this
  exact this
theorem cell_set_same {w : World} {b o : Nat} {v : Value} (h : w.cell? ⟨b, o, none⟩ = some v) (u : Value) : (w.setCell ⟨b, o, none⟩ u).cell? ⟨b, o, none⟩ = some u := World.cell?_setCell_same _ _ _ h
set_option maxHeartbeats 4000000 in
theorem put_nil (b o m : Nat) (tal : Int → Nat × Nat) (w : World) (hcell : w.cell? ⟨b, o, none⟩ = some (.map none)) (hfr : w.frozen? ⟨b, o, none⟩ = false) (hblt : b < w.heap.size) (x : O) (hx : x.wf) (hm : m < 100000000) :
    Calls Tryz.prog 182 #[.pointer (some ⟨b, o, none⟩), vO x] w fun e w' => e = .returned (.tuple #[]) ∧ Ends (lookN w b o x) w' b (w.heap.size + 1) m 0 tal (fun _ => none) (.map []) x := by
  have hV := made_map (m := m) tal x o hblt
  have hk : (fun _ => none : Int → Option Tl) x.k = none := rfl
  have hsV : (lookN w b o x).heap.size = w.heap.size + 2 := by simp [lookN]
  have hlook := hV.look_none rfl hx.k hk
  obtain ⟨W2, hst0, hN⟩ := new_at hV hx.k hm
  have hst : (Instr.mapUpdate 104 (.map (some (w.heap.size + 1))) (.int .i64 x.k) (tp (w.heap.size + 2 + 1))).run Tryz.prog (((((w.setCell ⟨b, o, none⟩ (.map (some (w.heap.size + 1)))).alloc (.cells (encO x).toArray 89)).alloc (.map #[] 0)).alloc (.map #[] 0)).alloc (.cells #[.int .i64 0, .int .i64 0, .map (some (w.heap.size + 2))] 283)).drew.drew = .ok () W2 := by
    have e : newV (lookN w b o x) = (((((w.setCell ⟨b, o, none⟩ (.map (some (w.heap.size + 1)))).alloc (.cells (encO x).toArray 89)).alloc (.map #[] 0)).alloc (.map #[] 0)).alloc (.cells #[.int .i64 0, .int .i64 0, .map (some (w.heap.size + 2))] 283)).drew.drew := by
      unfold newV
      rw [hsV]
      rfl
    rw [← e, ← hst0, hsV]
  have hbw : (w.setCell ⟨b, o, none⟩ (.map (some (w.heap.size + 1)))).cell? ⟨b, o, none⟩ = some (.map (some (w.heap.size + 1))) := cell_set_same hcell _
  have hc2 : (((w.setCell ⟨b, o, none⟩ (.map (some (w.heap.size + 1)))).alloc (.cells (encO x).toArray 89)).alloc (.map #[] 0)).cell? ⟨b, o, none⟩ = some (.map (some (w.heap.size + 1))) := by
    rw [World.cell?_alloc_past _ _ _ (by simp; omega), World.cell?_alloc_past _ _ _ (by simpa using hblt), hbw]
  have hc4 : ((((w.setCell ⟨b, o, none⟩ (.map (some (w.heap.size + 1)))).alloc (.cells (encO x).toArray 89)).alloc (.map #[] 0)).alloc (.map #[] 0)).cell? ⟨b, o, none⟩ = some (.map (some (w.heap.size + 1))) := by
    rw [World.cell?_alloc_past _ _ _ (by simp; omega), hc2]
  have hc3 : (((((w.setCell ⟨b, o, none⟩ (.map (some (w.heap.size + 1)))).alloc (.cells (encO x).toArray 89)).alloc (.map #[] 0)).alloc (.map #[] 0)).alloc (.cells #[.int .i64 0, .int .i64 0, .map (some (w.heap.size + 2))] 283)).cell? ⟨b, o, none⟩ = some (.map (some (w.heap.size + 1))) := by
    rw [World.cell?_alloc_past _ _ _ (by simp; omega), hc4]
  clear hst0
  have hbox : W2.heap[w.heap.size]? = some (.cells (encO x).toArray 89) := (hN.block _ (by omega) (by omega)).trans (made_box x b o)
  have hcx := box_cells hbox
  have hcn := new_cells hN
  have hq := geq_none
  have hmm := @run_makeMap Tryz.prog
  have hbV : b < (lookN w b o x).heap.size := by omega
  cases hrr : x.hr
  · have hend : Hid (Ends (lookN w b o x) (putV W2 x ((lookN w b o x).heap.size + 1)) b (w.heap.size + 1) m 0 tal (fun _ => none) (.map []) x) := ends0 hV hbV x hx hk hN hrr
    rw [hsV] at hend
    have HE : Hid (∀ W', W' = putV W2 x (w.heap.size + 2 + 1) → Ends (lookN w b o x) W' b (w.heap.size + 1) m 0 tal (fun _ => none) (.map []) x) := fun W' e => by rw [e]; exact hend
    clear hend
    have hlt2 : w.heap.size + 2 + 1 < W2.heap.size := by have := hN.size; omega
    clear hV hN hbox hk
    rw [hsV] at hcn
    generalize hEnds : Ends (lookN w b o x) = E at *
    clear hEnds
    simp only [lookN] at hlook
    clear hsV hbV
    obtain ⟨k, lk, lt, lv, rk, rt, rv, hl, hr⟩ := x
    simp only at hrr
    subst hrr
    cases hl
    · simp only [vO, encO, putV, Bool.false_eq_true, if_false] at hlook hst hc2 hc3 hc4 hcx HE ⊢
      go_enter Tryz.func182, Tryz.ntmps182
      go_wp2
      go_region
      all_goals (try go_wp2)
      all_goals go_region
      all_goals (try go_wp2)
      all_goals go_end0
      all_goals exact ⟨rfl, HE.out _ rfl⟩
    · simp only [vO, encO, putV, if_true] at hlook hst hc2 hc3 hc4 hcx HE ⊢
      go_enter Tryz.func182, Tryz.ntmps182
      go_wp2
      go_region
      all_goals (try go_wp2)
      all_goals go_region
      all_goals (try go_wp2)
      all_goals go_region
      all_goals (try go_wp2)
      all_goals go_end0
      all_goals exact ⟨rfl, HE.out _ rfl⟩
  · obtain ⟨W3, hl3, hs3, hend0⟩ := ends1 hV hbV x hx hk hN hrr
    rw [hsV] at hl3 hs3
    have hend : Hid (Ends (lookN w b o x) W3 b (w.heap.size + 1) m 0 tal (fun _ => none) (.map []) x) := hend0
    have HE : Hid (∀ W', W' = W3 → Ends (lookN w b o x) W' b (w.heap.size + 1) m 0 tal (fun _ => none) (.map []) x) := fun W' e => by rw [e]; exact hend
    clear hend hend0
    have hlt2 : w.heap.size + 2 + 1 < W2.heap.size := by have := hN.size; omega
    clear hV hN hbox hk
    rw [hsV] at hcn
    generalize hEnds : Ends (lookN w b o x) = E at *
    clear hEnds
    simp only [lookN] at hlook
    clear hsV hbV
    obtain ⟨k, lk, lt, lv, rk, rt, rv, hl, hr⟩ := x
    simp only at hrr
    subst hrr
    cases hl
    · simp only [vO, encO, putV, Bool.false_eq_true, if_false] at hlook hst hc2 hc3 hc4 hcx hl3 hs3 ⊢
      go_enter Tryz.func182, Tryz.ntmps182
      go_wp2
      go_region
      all_goals (try go_wp2)
      all_goals go_region
      all_goals (try go_wp2)
      all_goals go_region
      all_goals (try go_wp2)
      all_goals go_end0
      all_goals exact ⟨rfl, HE.out _ rfl⟩
    · simp only [vO, encO, putV, if_true] at hlook hst hc2 hc3 hc4 hcx hl3 hs3 ⊢
      go_enter Tryz.func182, Tryz.ntmps182
      go_wp2
      go_region
      all_goals (try go_wp2)
      all_goals go_region
      all_goals (try go_wp2)
      all_goals go_region
      all_goals (try go_wp2)
      all_goals go_region
      all_goals (try go_wp2)
      all_goals go_end0
      all_goals exact ⟨rfl, HE.out _ rfl⟩
end Go.Proofs.YthfpipieboophaaGreatDoor

/- Package group: put, whatever is there. -/
namespace Go.Proofs.YthfpipieboophaaGreatDoor
open Go.RowKit Go.Sort
set_option maxRecDepth 100000
def putG (G : Int → Option Tl) (x : O) : Int → Option Tl := setG G x.k (some (putT ((G x.k).getD τ0) x))
def More (S : Nat → Prop) (w w' : World) (j : Nat) : Prop := S j ∨ (w.heap.size ≤ j ∧ j < w'.heap.size)
theorem More.new {S : Nat → Prop} {w w' : World} {j : Nat} (h : More S w w' j) : S j ∨ w.heap.size ≤ j := h.imp id fun h => h.1
theorem grp_set {w w' : World} {b o bm m m' n : Nat} {tal : Int → Nat × Nat} {G : Int → Option Tl} {D : DataW Value} {S : Nat → Prop} (hg : GAt w b o (some bm) tal m G) (h : GMap w b bm tal m G n D) (hS : ∀ j, foot b (some bm) tal G j → S j) (hlt : ∀ j, S j → j < w.heap.size)
    {k : Int} {τ τ' : Tl} (hk : G k = some τ) (hm : m ≤ m') (hT : TalAt w' (tal k).1 (tal k).2 m' τ') (hb : ∀ j, j < w.heap.size → j ≠ (tal k).1 → j ≠ (tal k).2 → w'.heap[j]? = w.heap[j]?)
    (hs : w.heap.size ≤ w'.heap.size) (h1 : w'.os = w.os) (h2 : w'.tape = w.tape) (h3 : w'.output = w.output) :
    Grp w' b o m' (More S w w') (setG G k (some τ')) ∧ Turn S b o w w' := by
  have hnb := h.nb k τ hk
  have hbb : w'.heap[b]? = w.heap[b]? := hb b hg.blt hnb.1.symm hnb.2.1.symm
  refine ⟨⟨some bm, tal, ⟨?_, .inr ⟨bm, n, D, rfl, h.set hk hm hT fun j hj _ => hb j hj⟩⟩, fun j hj => .inl (hS j ?_), fun j hj => ?_⟩, ⟨h1, h2, h3, hs, fun j hj hn => hb j hj (fun e => hn (hS j (.inr (.inr ⟨k, τ, hk, .inl e⟩)))) (fun e => hn (hS j (.inr (.inr ⟨k, τ, hk, .inr e⟩)))), fun cs T hc => ⟨cs, hbb.trans hc, rfl, fun _ _ => rfl⟩⟩⟩
  · obtain ⟨cs, T, k1, k2⟩ := hg.blk
    exact ⟨cs, T, hbb.trans k1, k2⟩
  · rcases hj with e | e | ⟨i, τi, hi, e⟩
    · exact .inl e
    · exact .inr (.inl e)
    · by_cases ei : i = k
      · rw [ei] at e; exact .inr (.inr ⟨k, τ, hk, e⟩)
      · rw [setG_other _ _ ei] at hi; exact .inr (.inr ⟨i, τi, hi, e⟩)
  · rcases hj with hj | hj
    · exact Nat.lt_of_lt_of_le (hlt j hj) hs
    · exact hj.2
theorem grp_new {w V w' : World} {b o bm m n : Nat} {tal : Int → Nat × Nat} {G : Int → Option Tl} {D : DataW Value} {S : Nat → Prop} {om : Option Nat} {x : O} (hS : ∀ j, foot b om tal G j → S j) (hlt : ∀ j, S j → j < w.heap.size)
    (hE : Ends V w' b bm m n tal G D x) (hV : w.heap.size ≤ V.heap.size) (hbm : om = some bm ∨ (w.heap.size ≤ bm ∧ bm < V.heap.size)) (hbb : ∃ cs T, w.heap[b]? = some (.cells cs T) ∧ o < cs.size ∧ V.heap[b]? = some (.cells (cs.setIfInBounds o (.map (some bm))) T))
    (hvb : ∀ j, j < w.heap.size → j ≠ b → V.heap[j]? = w.heap[j]?) (h1 : V.os = w.os) (h2 : V.tape = w.tape) (h3 : V.output = w.output) (hk : G x.k = none) :
    Grp w' b o (m + 1) (More S w w') (putG G x) ∧ Turn S b o w w' := by
  obtain ⟨hM, hblk, hsz, e1, e2, e3⟩ := hE
  obtain ⟨cs, T, c1, c2, c3⟩ := hbb
  have hbS : S b := hS b (.inl rfl)
  have hblt := hlt b hbS
  have hput : putG G x = setG G x.k (some (putT τ0 x)) := by unfold putG; rw [hk]; rfl
  have hbmb : bm ≠ b := hM.bmb
  have hb' : w'.heap[b]? = some (.cells (cs.setIfInBounds o (.map (some bm))) T) := (hblk b (by omega) hbmb.symm).trans c3
  rw [hput]
  have hlt' : ∀ j, foot b (some bm) (setTal tal x.k (V.heap.size + 1, V.heap.size)) (setG G x.k (some (putT τ0 x))) j → j ≠ b → j < w'.heap.size := fun j hj hne => hM.lt hj hne
  refine ⟨⟨some bm, _, ⟨⟨_, T, hb', by simp [c2]⟩, .inr ⟨bm, _, _, rfl, hM⟩⟩, fun j hj => ?_, fun j hj => ?_⟩, ⟨e1.trans h1, e2.trans h2, e3.trans h3, by omega, fun j hj hn => ?_, fun cs' T' hc' => ?_⟩⟩
  · have hj' := hj
    rcases hj with e | e | ⟨i, τi, hi, e⟩
    · exact .inl (by rw [e]; exact hbS)
    · injection e with e
      rcases hbm with hb | hb
      · exact .inl (hS j (.inr (.inl (by rw [hb, e]))))
      · exact .inr ⟨by omega, by omega⟩
    · by_cases ei : i = x.k
      · rw [ei] at e
        simp only [setTal, if_true] at e
        refine .inr ⟨by omega, hlt' j hj' (fun e' => ?_)⟩
        omega
      · rw [setG_other _ _ ei] at hi
        simp only [setTal, ei, if_false] at e
        exact .inl (hS j (.inr (.inr ⟨i, τi, hi, e⟩)))
  · rcases hj with hj | hj
    · have := hlt j hj; omega
    · exact hj.2
  · have n1 : j ≠ b := fun e => hn (by rw [e]; exact hbS)
    have n2 : j ≠ bm := fun e => by
      rcases hbm with hb | hb
      · exact hn (hS j (.inr (.inl (by rw [hb, e]))))
      · omega
    exact (hblk j (by omega) n2).trans (hvb j hj n1)
  · rw [c1] at hc'
    injection hc' with hc'
    injection hc' with k1 k2
    subst k1; subst k2
    exact ⟨_, hb', by simp, fun i hi => by simp [Ne.symm hi]⟩
theorem gput_any (b o m : Nat) (S : Nat → Prop) (G : Int → Option Tl) (w : World) (h : Grp w b o m S G) (x : O) (hx : x.wf) (hm : m < 100000000) :
    Calls Tryz.prog 182 #[.pointer (some ⟨b, o, none⟩), vO x] w fun e w' => e = .returned (.tuple #[]) ∧ Grp w' b o (m + 1) (More S w w') (putG G x) ∧ Turn S b o w w' := by
  obtain ⟨om, tal, hg, hS, hlt⟩ := h
  have hcell := hg.cell
  have hblt := hg.blt
  obtain ⟨cs, T, hb1, hb2⟩ := hg.blk
  have hosz : o < cs.size := (Array.getElem?_eq_some_iff.1 hb2).1
  rcases hg.map with ⟨rfl, rfl⟩ | ⟨bm, n, D, rfl, hM⟩
  · refine (put_nil b o m tal w hcell.1 hcell.2 hblt x hx hm).mono fun e w' ⟨h1, hE⟩ => ⟨h1, ?_⟩
    have hsz : (lookN w b o x).heap.size = w.heap.size + 2 := by simp [lookN]
    refine grp_new hS hlt hE (by omega) (.inr ⟨by omega, by omega⟩) ⟨cs, T, hb1, hosz, ?_⟩ (fun j hj hne => ?_) rfl rfl rfl rfl
    · refine (Below.heap_alloc _ _ _ (by simp; omega)).trans ((Below.heap_alloc _ _ _ (by simpa using hblt)).trans ?_)
      exact Go.Joins.block_setCell hb1 _
    · refine (Below.heap_alloc _ _ _ (by simp; omega)).trans ((Below.heap_alloc _ _ _ (by simpa using hj)).trans ?_)
      exact Below.heap_setCell _ _ _ _ hne
  · cases hk : G x.k with
    | none =>
      refine (put_new b o bm m n tal G D w hcell.1 hblt hM x hx hk hm).mono fun e w' ⟨h1, hE⟩ => ⟨h1, ?_⟩
      have hsz : (lookW w x).heap.size = w.heap.size + 1 := by simp [lookW]
      refine grp_new hS hlt hE (by omega) (.inl rfl) ⟨cs, T, hb1, hosz, ?_⟩ (fun j hj _ => Below.heap_alloc w _ j hj) rfl rfl rfl hk
      refine (Below.heap_alloc w _ b hblt).trans (hb1.trans ?_)
      have : cs.setIfInBounds o (.map (some bm)) = cs := by
        apply Array.ext_getElem?
        intro i
        by_cases ei : i = o
        · subst ei; rw [hb2]; simp [hosz]
        · simp [Ne.symm ei]
      rw [this]
    | some τ =>
      refine (put_there b o bm m n tal G D w hcell.1 hblt hM x hx τ hk hm).mono fun e w' ⟨h1, hE⟩ => ⟨h1, ?_⟩
      have hput : putG G x = setG G x.k (some (putT τ x)) := by unfold putG; rw [hk]; rfl
      rw [hput]
      have hT := hM.tals x.k τ hk
      have hne := hT.ne
      have htlt := hT.lt
      obtain ⟨p1, p2, p3, p4, p5, p6⟩ := putW_at τ x hT.blk
      obtain ⟨nr, Dr, hnr, hownr, hcr⟩ := hT.own
      have hlo := hT.lo
      have hhi := hT.hi
      have hlen := hT.len
      rcases hE with ⟨hr, rfl⟩ | ⟨hr, n', D', hn', hown', hc', hg'⟩
      · refine grp_set hg hM hS hlt hk (Nat.le_succ m) ⟨p1, ⟨nr, Dr, by omega, ownsMap_at hownr (p3 _ htlt.2 hne.symm), ?_⟩, by simp [putT], by simp [putT]; omega, ?_⟩ (fun j hj n1 _ => p3 j hj n1) (by omega) p4 p5 p6
        · simpa [putT, hr] using hcr
        · simp [putT, hr]; omega
      · have q : ∀ j, j < w.heap.size → j ≠ (tal x.k).2 → w'.heap[j]? = (putW w x (tal x.k).1 τ.c τ.s).heap[j]? := fun j hj n2 => hg'.block j (by show j < (putW w x (tal x.k).1 τ.c τ.s).heap.size; omega) (fun e => n2 (by injection e))
        have hs' : (putW w x (tal x.k).1 τ.c τ.s).heap.size ≤ w'.heap.size := hg'.size
        refine grp_set hg hM hS hlt hk (Nat.le_succ m) ⟨(q _ htlt.1 hne).trans p1, ⟨n', D', hn', hown', ?_⟩, by simp [putT], by simp [putT]; omega, ?_⟩ (fun j hj n1 n2 => (q j hj n2).trans (p3 j hj n1)) (by omega) (hg'.os.trans p4) (hg'.tape.trans p5) (hg'.output.trans p6)
        · simpa [putT, hr] using hc'
        · simp [putT, hr]; omega
end Go.Proofs.YthfpipieboophaaGreatDoor

/- Package group: take. -/
namespace Go.Proofs.YthfpipieboophaaGreatDoor
open Go.RowKit Go.Sort
set_option maxRecDepth 100000
def noG (G : Int → Option Tl) (x : O) : Prop := G x.k = none ∨ ∃ τ, G x.k = some τ ∧ x.hr = true ∧ x.rv ∉ τ.R
def yesG (x : O) (τ : Tl) : Prop := x.hr = true → x.rv ∈ τ.R
set_option maxHeartbeats 2000000 in
theorem gtake_last (b o bm m n : Nat) (tal : Int → Nat × Nat) (G : Int → Option Tl) (D : DataW Value) (w : World) (hcell : w.cell? ⟨b, o, none⟩ = some (.map (some bm))) (hblt : b < w.heap.size) (h : GMap w b bm tal m G n D) (x : O) (hx : x.wf) (τ : Tl) (hk : G x.k = some τ) (hy : yesG x τ) (h1 : τ.c = 1) (hm : m < 100000000) :
    Calls Tryz.prog 181 #[.pointer (some ⟨b, o, none⟩), vO x] w fun e w' => e = .returned .nilIface ∧ w'.ownsMap Tryz.prog 3 gR bm n (D.del (gi x.k)) ∧ (w.alloc (.cells (encO x).toArray 89)).grownBy w' (some bm) := by
  have hT := h.tals x.k τ hk
  have hlook := h.look (W := (w.alloc (.cells (encO x).toArray 89)).drew) (Below.heap_alloc w _ bm h.own.lt) hx.k hk
  have hc := hT.cells
  have htlt := hT.lt
  have hlen := hT.len
  obtain ⟨nr, Dr, hnr, hownr, hcr⟩ := hT.own
  have hrl := glook (W := (w.alloc (.cells (encO x).toArray 89)).drew.drew) (ownsMap_at hownr (Below.heap_alloc w _ _ htlt.2)) hcr x.rv hx.rv
  have hcle : τ.R.count x.rv ≤ τ.R.length := List.count_le_length
  have hpos : x.hr = true → (1 : Int) ≤ τ.R.count x.rv := fun e => by have := List.count_pos_iff.2 (hy e); omega
  have hhi : (τ.R.count x.rv : Int) < 100000000 := by omega
  have hown : (w.alloc (.cells (encO x).toArray 89)).drew.drew.drew.ownsMap Tryz.prog 3 gR bm n D := ownsMap_at h.own (Below.heap_alloc w _ bm h.own.lt)
  obtain ⟨W2, hd, hown2, ht⟩ := hown.drop gkeyed Tryz.underlying104 (gkey hx.k) 0
  have hend : Hid (W2.ownsMap Tryz.prog 3 gR bm n (D.del (gi x.k)) ∧ (w.alloc (.cells (encO x).toArray 89)).grownBy W2 (some bm)) := ⟨hown2, ht.grown.os, ht.grown.tape, ht.grown.output, ht.grown.size, ht.grown.block⟩
  rw [h1] at hc
  clear hcr hownr h hT hk hown hown2 ht hcle hlen hy h1
  generalize (τ.R.count x.rv : Int) = cn at *
  generalize (tal x.k).1 = t at *
  generalize (tal x.k).2 = r at *
  obtain ⟨k, lk, lt, lv, rk, rt, rv, hl, hr⟩ := x
  cases hr
  · clear hrl hpos
    simp only [vO, encO] at hlook hd hend ⊢
    go_enter Tryz.func181, Tryz.ntmps181
    go_wp2
    go_region
    all_goals (try go_wp2)
    all_goals go_region
    all_goals (try go_wp2)
    all_goals go_region
    all_goals (try go_wp2)
    all_goals go_ret
    all_goals exact ⟨rfl, hend.out⟩
  · have hpos' := hpos rfl
    clear hpos
    simp only [vO, encO] at hlook hd hrl hend hpos' hhi ⊢
    go_enter Tryz.func181, Tryz.ntmps181
    go_wp2
    go_region
    all_goals (try go_wp2)
    all_goals go_region
    all_goals (try go_wp2)
    all_goals go_region
    all_goals (try go_wp2)
    all_goals go_ret
    all_goals exact ⟨rfl, hend.out⟩
def takeW (w : World) (x : O) (t : Nat) (c s : Int) : World :=
  if x.hl then (((w.setCell ⟨t, 0, none⟩ (.int .i64 (c - 1))).setCell ⟨t, 1, none⟩ (.int .i64 (wrap64 (s - x.lv)))).alloc (.cells (encO x).toArray 89)).drew.drew.drew
  else ((w.setCell ⟨t, 0, none⟩ (.int .i64 (c - 1))).alloc (.cells (encO x).toArray 89)).drew.drew
def lessT (τ : Tl) (x : O) : Tl := ⟨τ.c - 1, if x.hl then wrap64 (τ.s - x.lv) else τ.s, τ.R⟩
theorem takeW_at {w : World} {t r : Nat} (τ : Tl) (x : O) (h2 : 1 ≤ τ.c) (h : w.heap[t]? = some (.cells #[.int .i64 τ.c, .int .i64 τ.s, .map (some r)] 283)) :
    (takeW w x t τ.c τ.s).heap[t]? = some (.cells #[.int .i64 (lessT τ x).c, .int .i64 (lessT τ x).s, .map (some r)] 283) ∧ (takeW w x t τ.c τ.s).heap.size = w.heap.size + 1 ∧
    (∀ j, j < w.heap.size → j ≠ t → (takeW w x t τ.c τ.s).heap[j]? = w.heap[j]?) ∧ (takeW w x t τ.c τ.s).os = w.os ∧ (takeW w x t τ.c τ.s).tape = w.tape ∧ (takeW w x t τ.c τ.s).output = w.output := by
  have hlt : t < w.heap.size := (Array.getElem?_eq_some_iff.1 h).1
  have hb1 : (w.setCell ⟨t, 0, none⟩ (.int .i64 ((τ.c : Int) - 1))).heap[t]? = some (.cells #[.int .i64 ((τ.c : Int) - 1), .int .i64 τ.s, .map (some r)] 283) := by
    rw [Go.Joins.block_setCell h]; rfl
  have ho : ∀ j, j ≠ t → (w.setCell ⟨t, 0, none⟩ (.int .i64 ((τ.c : Int) - 1))).heap[j]? = w.heap[j]? := fun j hne => Below.heap_setCell _ _ _ _ hne
  have hput : (lessT τ x).c = τ.c - 1 := rfl
  have e1 : (((τ.c - 1 : Nat) : Int)) = (τ.c : Int) - 1 := by omega
  rw [hput, e1]
  unfold takeW
  cases hl : x.hl
  · simp only [Bool.false_eq_true, if_false]
    refine ⟨?_, by simp, fun j hj hne => ?_, rfl, rfl, rfl⟩
    · refine (Below.heap_alloc _ _ t (by simpa using hlt)).trans ?_
      rw [hb1]; simp [lessT, hl]
    · exact (Below.heap_alloc _ _ j (by simpa using hj)).trans (ho j hne)
  · simp only [if_true]
    refine ⟨?_, by simp, fun j hj hne => ?_, rfl, rfl, rfl⟩
    · refine (Below.heap_alloc _ _ t (by simpa using hlt)).trans ?_
      rw [Go.Joins.block_setCell hb1]; simp [lessT, hl]
    · refine (Below.heap_alloc _ _ j (by simpa using hj)).trans ?_
      rw [Below.heap_setCell _ _ _ _ hne]; exact ho j hne
set_option maxHeartbeats 4000000 in
theorem gtake_more (b o bm m n : Nat) (tal : Int → Nat × Nat) (G : Int → Option Tl) (D : DataW Value) (w : World) (hcell : w.cell? ⟨b, o, none⟩ = some (.map (some bm))) (hblt : b < w.heap.size) (h : GMap w b bm tal m G n D) (x : O) (hx : x.wf) (τ : Tl) (hk : G x.k = some τ) (hy : yesG x τ) (h2 : 2 ≤ τ.c) (hm : m < 100000000) :
    Calls Tryz.prog 181 #[.pointer (some ⟨b, o, none⟩), vO x] w fun e w' => e = .returned .nilIface ∧
      ((x.hr = false ∧ w' = takeW w x (tal x.k).1 τ.c τ.s) ∨ (x.hr = true ∧ w'.heap.size = (takeW w x (tal x.k).1 τ.c τ.s).heap.size ∧ (takeW w x (tal x.k).1 τ.c τ.s).grownBy w' (some (tal x.k).2) ∧ ∃ n D, n ≤ m + 1 ∧ w'.ownsMap Tryz.prog 3 (plainElem (H := Unit) Tryz.prog 3) (tal x.k).2 n D ∧ GCnt D (τ.R.erase x.rv))) := by
  have hT := h.tals x.k τ hk
  have hlook := h.look (W := (w.alloc (.cells (encO x).toArray 89)).drew) (Below.heap_alloc w _ bm h.own.lt) hx.k hk
  have hc := hT.cells
  have htlt := hT.lt
  have hne := hT.ne
  have hnb := h.nb x.k τ hk
  have hlen := hT.len
  have hlo : (2 : Int) ≤ τ.c := by omega
  have hthi := hT.hi
  have hhi : (τ.c : Int) < 100000000 := by omega
  obtain ⟨p1, p2, p3, p4, p5, p6⟩ := takeW_at τ x (by omega) hT.blk
  obtain ⟨nr, Dr, hnr, hownr, hcr⟩ := hT.own
  have hrl := glook (W := (w.alloc (.cells (encO x).toArray 89)).drew.drew) (ownsMap_at hownr (Below.heap_alloc w _ _ htlt.2)) hcr x.rv hx.rv
  have hcle : τ.R.count x.rv ≤ τ.R.length := List.count_le_length
  have hpos : x.hr = true → (1 : Int) ≤ τ.R.count x.rv := fun e => by have := List.count_pos_iff.2 (hy e); omega
  have hhi2 : (τ.R.count x.rv : Int) < 100000000 := by omega
  have hT2 : TalAt (takeW w x (tal x.k).1 τ.c τ.s) (tal x.k).1 (tal x.k).2 m (lessT τ x) :=
    ⟨p1, ⟨nr, Dr, hnr, ownsMap_at hownr (p3 _ htlt.2 hne.symm), hcr⟩, by show 1 ≤ τ.c - 1; omega, by show τ.c - 1 ≤ m; omega, hlen⟩
  have HR : Hid (x.hr = true → Calls Tryz.prog 250 #[tp (tal x.k).1, .int .i64 x.rv] (takeW w x (tal x.k).1 τ.c τ.s) fun e w' => e = .returned (.tuple #[]) ∧ (w'.heap.size = (takeW w x (tal x.k).1 τ.c τ.s).heap.size ∧ (takeW w x (tal x.k).1 τ.c τ.s).grownBy w' (some (tal x.k).2) ∧ ∃ n D, n ≤ m + 1 ∧ w'.ownsMap Tryz.prog 3 (plainElem (H := Unit) Tryz.prog 3) (tal x.k).2 n D ∧ GCnt D (τ.R.erase x.rv))) :=
    fun e => takeRight_any _ _ m _ _ hT2 x.rv (hy e) hm
  clear p1 p2 p3 p4 p5 p6 hcr hownr h hT hk hcle hlen hy h2 hT2 hthi
  generalize (τ.R.count x.rv : Int) = cn at *
  generalize (tal x.k).1 = t at *
  generalize (tal x.k).2 = r at *
  generalize (τ.c : Int) = c at *
  generalize τ.s = s at *
  generalize τ.R = R at *
  obtain ⟨k, lk, lt, lv, rk, rt, rv, hl, hr⟩ := x
  cases hr
  · clear hrl hpos HR
    cases hl
    · simp only [vO, encO, takeW, Bool.false_eq_true, if_false] at hlook ⊢
      go_enter Tryz.func181, Tryz.ntmps181
      go_wp2
      go_region
      all_goals (try go_wp2)
      all_goals go_region
      all_goals (try go_wp2)
      all_goals go_ret
      all_goals exact ⟨rfl, .inl ⟨trivial, rfl⟩⟩
    · simp only [vO, encO, takeW, Bool.false_eq_true, if_true] at hlook ⊢
      go_enter Tryz.func181, Tryz.ntmps181
      go_wp2
      go_region
      all_goals (try go_wp2)
      all_goals go_region
      all_goals (try go_wp2)
      all_goals go_region
      all_goals (try go_wp2)
      all_goals go_ret
      all_goals exact ⟨rfl, .inl ⟨trivial, rfl⟩⟩
  · have hpos' := hpos rfl
    have HR' := HR.out rfl
    clear hpos HR
    cases hl
    · simp only [vO, encO, takeW, Bool.false_eq_true, if_false] at hlook hrl HR' hpos' hhi2 ⊢
      have HR : Hid _ := HR'
      clear HR'
      go_enter Tryz.func181, Tryz.ntmps181
      go_wp2
      go_region
      all_goals (try go_wp2)
      all_goals go_region
      all_goals (go_wp2_with (go_at_call 250; refine Calls.mono (Hid.out HR) ?_; rintro e w' ⟨rfl, hpost⟩))
      all_goals go_ret
      all_goals exact ⟨rfl, .inr ⟨trivial, hpost⟩⟩
    · simp only [vO, encO, takeW, if_true] at hlook hrl HR' hpos' hhi2 ⊢
      have HR : Hid _ := HR'
      clear HR'
      go_enter Tryz.func181, Tryz.ntmps181
      go_wp2
      go_region
      all_goals (try go_wp2)
      all_goals go_region
      all_goals (try go_wp2)
      all_goals go_region
      all_goals (go_wp2_with (go_at_call 250; refine Calls.mono (Hid.out HR) ?_; rintro e w' ⟨rfl, hpost⟩))
      all_goals go_ret
      all_goals exact ⟨rfl, .inr ⟨trivial, hpost⟩⟩
end Go.Proofs.YthfpipieboophaaGreatDoor

/- Package group: take and Apply, whatever is there. -/
namespace Go.Proofs.YthfpipieboophaaGreatDoor
open Go.RowKit Go.Sort
set_option maxRecDepth 100000
def takeG (G : Int → Option Tl) (x : O) (τ : Tl) : Int → Option Tl := setG G x.k (if τ.c = 1 then none else some (takeT τ x))
theorem gtake_any (b o m : Nat) (S : Nat → Prop) (G : Int → Option Tl) (w : World) (h : Grp w b o m S G) (x : O) (hx : x.wf) (τ : Tl) (hk : G x.k = some τ) (hy : yesG x τ) (hm : m < 100000000) :
    Calls Tryz.prog 181 #[.pointer (some ⟨b, o, none⟩), vO x] w fun e w' => e = .returned .nilIface ∧ Grp w' b o (m + 1) (More S w w') (takeG G x τ) ∧ Turn S b o w w' := by
  obtain ⟨om, tal, hg, hS, hlt⟩ := h
  rcases hg.map with ⟨rfl, rfl⟩ | ⟨bm, n, D, rfl, hM⟩
  · cases hk
  have hT := hM.tals x.k τ hk
  have hlo := hT.lo
  have hhi := hT.hi
  have hlen := hT.len
  have hbmlt := hM.own.lt
  have hblt := hg.blt
  by_cases h1 : τ.c = 1
  · refine (gtake_last b o bm m n tal G D w hg.cell.1 hg.blt hM x hx τ hk hy h1 hm).mono fun e w' ⟨e1, hown, hgr⟩ => ⟨e1, ?_⟩
    have ht : takeG G x τ = setG G x.k none := by simp [takeG, h1]
    have hb : ∀ j, j < w.heap.size → j ≠ bm → w'.heap[j]? = w.heap[j]? := fun j hj hne => (hgr.block j (by simp; omega) (fun e => hne (by injection e))).trans (Below.heap_alloc w _ j hj)
    have hsz : w.heap.size ≤ w'.heap.size := by have := hgr.size; simp at this; omega
    have hbb := hb b hblt hM.bmb.symm
    rw [ht]
    refine ⟨⟨some bm, tal, ⟨?_, .inr ⟨bm, n, _, rfl, (hM.del x.k hown fun j hj _ => hb j hj).mono (Nat.le_succ m)⟩⟩, fun j hj => .inl (hS j ?_), fun j hj => ?_⟩, ⟨hgr.os, hgr.tape, hgr.output, hsz, fun j hj hn => hb j hj (fun e => hn (hS j (.inr (.inl (by rw [e]))))), fun cs T hc => ⟨cs, hbb.trans hc, rfl, fun _ _ => rfl⟩⟩⟩
    · obtain ⟨cs, T, k1, k2⟩ := hg.blk
      exact ⟨cs, T, hbb.trans k1, k2⟩
    · rcases hj with e | e | ⟨i, τi, hi, e⟩
      · exact .inl e
      · exact .inr (.inl e)
      · by_cases ei : i = x.k
        · rw [ei, setG_same] at hi; cases hi
        · rw [setG_other _ _ ei] at hi; exact .inr (.inr ⟨i, τi, hi, e⟩)
    · rcases hj with hj | hj
      · exact Nat.lt_of_lt_of_le (hlt j hj) hsz
      · exact hj.2
  · refine (gtake_more b o bm m n tal G D w hg.cell.1 hg.blt hM x hx τ hk hy (by omega) hm).mono fun e w' ⟨e1, hE⟩ => ⟨e1, ?_⟩
    have ht : takeG G x τ = setG G x.k (some (takeT τ x)) := by simp [takeG, h1]
    rw [ht]
    have hne := hT.ne
    have htlt := hT.lt
    obtain ⟨p1, p2, p3, p4, p5, p6⟩ := takeW_at τ x (by omega) hT.blk
    obtain ⟨nr, Dr, hnr, hownr, hcr⟩ := hT.own
    rcases hE with ⟨hr, rfl⟩ | ⟨hr, hsz, hg', n', D', hn', hown', hc'⟩
    · refine grp_set hg hM hS hlt hk (Nat.le_succ m) ⟨p1, ⟨nr, Dr, by omega, ownsMap_at hownr (p3 _ htlt.2 hne.symm), ?_⟩, by simp [takeT]; omega, by simp [takeT]; omega, ?_⟩ (fun j hj n1 _ => p3 j hj n1) (by omega) p4 p5 p6
      · simpa [takeT, hr] using hcr
      · simp [takeT, hr]; omega
    · have q : ∀ j, j < w.heap.size → j ≠ (tal x.k).2 → w'.heap[j]? = (takeW w x (tal x.k).1 τ.c τ.s).heap[j]? := fun j hj n2 => hg'.block j (by omega) (fun e => n2 (by injection e))
      refine grp_set hg hM hS hlt hk (Nat.le_succ m) ⟨(q _ htlt.1 hne).trans p1, ⟨n', D', hn', hown', ?_⟩, by simp [takeT]; omega, by simp [takeT]; omega, ?_⟩ (fun j hj n1 n2 => (q j hj n2).trans (p3 j hj n1)) (by omega) (hg'.os.trans p4) (hg'.tape.trans p5) (hg'.output.trans p6)
      · simpa [takeT, hr] using hc'
      · have := List.length_erase_le (a := x.rv) (l := τ.R)
        simp [takeT, hr]; omega
def gvC (x : O) (g : Bool) : Value := .agg #[.int .i64 x.k, .int .i64 x.lk, .int .i64 x.lt, .int .i64 x.lv, .int .i64 x.rk, .int .i64 x.rt, .int .i64 x.rv, .bool x.hl, .bool x.hr, .bool g]
abbrev boxC (x : O) (g : Bool) : Obj := .cells #[.int .i64 x.k, .int .i64 x.lk, .int .i64 x.lt, .int .i64 x.lv, .int .i64 x.rk, .int .i64 x.rt, .int .i64 x.rv, .bool x.hl, .bool x.hr, .bool g] 95
theorem more_box {S : Nat → Prop} {w w' : World} {o : Obj} {b oo m : Nat} {G : Int → Option Tl} (h : Grp w' b oo m (More S (w.alloc o) w') G) (ht : Turn S b oo (w.alloc o) w') : Grp w' b oo m (More S w w') G ∧ Turn S b oo w w' := by
  refine ⟨?_, (Turn.of_below (Go.Joins.below_alloc1 w o)).trans ht fun _ _ h => h⟩
  obtain ⟨om, tal, h1, h2, h3⟩ := h
  have hs := ht.size
  simp at hs
  refine ⟨om, tal, h1, fun j hj => (h2 j hj).imp id fun h => ?_, fun j hj => ?_⟩
  · simp at h; exact ⟨by omega, h.2⟩
  · rcases hj with hj | hj
    · exact h3 j (.inl hj)
    · exact hj.2
set_option maxHeartbeats 400000 in
theorem gapply_put (b o m : Nat) (S : Nat → Prop) (G : Int → Option Tl) (w : World) (h : Grp w b o m S G) (x : O) (hx : x.wf) (hm : m < 100000000) :
    Calls Tryz.prog 108 #[.pointer (some ⟨b, o, none⟩), gvC x false] w fun e w' => e = .returned .nilIface ∧ Grp w' b o (m + 1) (More S w w') (putG G x) ∧ Turn S b o w w' := by
  have HP : Hid (Calls Tryz.prog 182 #[.pointer (some ⟨b, o, none⟩), vO x] (w.alloc (boxC x false)) fun e w' => e = .returned (.tuple #[]) ∧ Grp w' b o (m + 1) (More S w w') (putG G x) ∧ Turn S b o w w') :=
    (gput_any b o m S G _ (h.below (Go.Joins.below_alloc1 w (boxC x false))) x hx hm).mono fun e w' ⟨h1, h2, h3⟩ => ⟨h1, more_box h2 h3⟩
  clear h
  simp only [vO] at HP
  simp only [gvC]
  go_enter Tryz.func108, Tryz.ntmps108
  go_wp2_with (go_at_call 182; refine Calls.mono (Hid.out HP) ?_; rintro e w' ⟨rfl, hpost⟩)
  go_ret
  exact ⟨rfl, hpost⟩
set_option maxHeartbeats 400000 in
theorem gapply_take (b o m : Nat) (S : Nat → Prop) (G : Int → Option Tl) (w : World) (h : Grp w b o m S G) (x : O) (hx : x.wf) (τ : Tl) (hk : G x.k = some τ) (hy : yesG x τ) (hm : m < 100000000) :
    Calls Tryz.prog 108 #[.pointer (some ⟨b, o, none⟩), gvC x true] w fun e w' => e = .returned .nilIface ∧ Grp w' b o (m + 1) (More S w w') (takeG G x τ) ∧ Turn S b o w w' := by
  have HP : Hid (Calls Tryz.prog 181 #[.pointer (some ⟨b, o, none⟩), vO x] (w.alloc (boxC x true)) fun e w' => e = .returned .nilIface ∧ Grp w' b o (m + 1) (More S w w') (takeG G x τ) ∧ Turn S b o w w') :=
    (gtake_any b o m S G _ (h.below (Go.Joins.below_alloc1 w (boxC x true))) x hx τ hk hy hm).mono fun e w' ⟨h1, h2, h3⟩ => ⟨h1, more_box h2 h3⟩
  clear h hk hy
  simp only [vO] at HP
  simp only [gvC]
  go_enter Tryz.func108, Tryz.ntmps108
  go_wp2_with (go_at_call 181; refine Calls.mono (Hid.out HP) ?_; rintro e w' ⟨rfl, hpost⟩)
  go_ret
  exact ⟨rfl, hpost⟩
end Go.Proofs.YthfpipieboophaaGreatDoor

/- Package group: what a tally comes to. -/
namespace Go.Proofs.YthfpipieboophaaGreatDoor
open Go.RowKit Go.Sort
set_option maxRecDepth 100000
def lo : List Int → Int
  | [] => 0
  | [x] => x
  | x :: y :: r => min x (lo (y :: r))
def hi : List Int → Int
  | [] => 0
  | [x] => x
  | x :: y :: r => max x (hi (y :: r))
theorem lo_cons (x : Int) {r : List Int} (h : r ≠ []) : lo (x :: r) = min x (lo r) := by
  cases r with
  | nil => exact absurd rfl h
  | cons y r => rfl
theorem hi_cons (x : Int) {r : List Int} (h : r ≠ []) : hi (x :: r) = max x (hi r) := by
  cases r with
  | nil => exact absurd rfl h
  | cons y r => rfl
theorem lo_spec : ∀ {R : List Int}, R ≠ [] → lo R ∈ R ∧ ∀ y ∈ R, lo R ≤ y
  | [], h => absurd rfl h
  | [x], _ => by simp [lo]
  | x :: y :: r, _ => by
    have ih := lo_spec (R := y :: r) (by simp)
    rw [lo_cons x (by simp)]
    refine ⟨?_, fun z hz => ?_⟩
    · by_cases h : x ≤ lo (y :: r)
      · rw [Int.min_eq_left h]; simp
      · rw [Int.min_eq_right (by omega)]; exact List.mem_cons_of_mem _ ih.1
    · rcases List.mem_cons.1 hz with rfl | hz
      · omega
      · have := ih.2 z hz; omega
theorem hi_spec : ∀ {R : List Int}, R ≠ [] → hi R ∈ R ∧ ∀ y ∈ R, y ≤ hi R
  | [], h => absurd rfl h
  | [x], _ => by simp [hi]
  | x :: y :: r, _ => by
    have ih := hi_spec (R := y :: r) (by simp)
    rw [hi_cons x (by simp)]
    refine ⟨?_, fun z hz => ?_⟩
    · by_cases h : hi (y :: r) ≤ x
      · rw [Int.max_eq_left h]; simp
      · rw [Int.max_eq_right (by omega)]; exact List.mem_cons_of_mem _ ih.1
    · rcases List.mem_cons.1 hz with rfl | hz
      · omega
      · have := ih.2 z hz; omega
theorem lo_same {R R' : List Int} (h : ∀ x, x ∈ R ↔ x ∈ R') : lo R = lo R' := by
  by_cases e : R = []
  · subst e
    have : R' = [] := List.eq_nil_iff_forall_not_mem.2 fun x hx => by simpa using (h x).2 hx
    rw [this]
  · have e' : R' ≠ [] := fun e2 => e (List.eq_nil_iff_forall_not_mem.2 fun x hx => by have := (h x).1 hx; rw [e2] at this; cases this)
    have h1 := lo_spec e
    have h2 := lo_spec e'
    have a := h1.2 _ ((h _).2 h2.1)
    have b := h2.2 _ ((h _).1 h1.1)
    omega
theorem hi_same {R R' : List Int} (h : ∀ x, x ∈ R ↔ x ∈ R') : hi R = hi R' := by
  by_cases e : R = []
  · subst e
    have : R' = [] := List.eq_nil_iff_forall_not_mem.2 fun x hx => by simpa using (h x).2 hx
    rw [this]
  · have e' : R' ≠ [] := fun e2 => e (List.eq_nil_iff_forall_not_mem.2 fun x hx => by have := (h x).1 hx; rw [e2] at this; cases this)
    have h1 := hi_spec e
    have h2 := hi_spec e'
    have a := h1.2 _ ((h _).2 h2.1)
    have b := h2.2 _ ((h _).1 h1.1)
    omega
def some? (R : List Int) : Bool := !R.isEmpty
theorem some_same {R R' : List Int} (h : ∀ x, x ∈ R ↔ x ∈ R') : some? R = some? R' := by
  cases R with
  | nil =>
    have : R' = [] := List.eq_nil_iff_forall_not_mem.2 fun x hx => by simpa using (h x).2 hx
    rw [this]
  | cons a r =>
    cases R' with
    | nil => have := (h a).1 (by simp); cases this
    | cons b s => rfl
def vG (k : Int) (τ : Tl) : Value := .agg #[.int .i64 k, .int .i64 τ.c, .int .i64 τ.s, .int .i64 (lo τ.R), .int .i64 (hi τ.R), .bool (some? τ.R)]
structure Gl (w : World) (ob : Nat) (k : Int) (τ : Tl) (left : Lit → Bool) (xs : List Int) (wr : World) : Prop where
  blk : wr.heap[ob]? = some (.cells #[.int .i64 k, .int .i64 τ.c, .int .i64 τ.s, .int .i64 (lo xs), .int .i64 (hi xs), .bool (some? xs)] 140)
  below : Below w.heap.size w wr
  mem : ∀ x, x ∈ xs ↔ x ∈ τ.R ∧ left (gi x) = false
theorem gl_cells {wr : World} {ob : Nat} {k c s l h : Int} {b : Bool} (hb : wr.heap[ob]? = some (.cells #[.int .i64 k, .int .i64 c, .int .i64 s, .int .i64 l, .int .i64 h, .bool b] 140)) :
    wr.cell? ⟨ob, 0, none⟩ = some (.int .i64 k) ∧ wr.cell? ⟨ob, 1, none⟩ = some (.int .i64 c) ∧ wr.cell? ⟨ob, 2, none⟩ = some (.int .i64 s) ∧ wr.cell? ⟨ob, 3, none⟩ = some (.int .i64 l) ∧ wr.cell? ⟨ob, 4, none⟩ = some (.int .i64 h) ∧ wr.cell? ⟨ob, 5, none⟩ = some (.bool b) ∧
    wr.frozen? ⟨ob, 0, none⟩ = false ∧ wr.frozen? ⟨ob, 1, none⟩ = false ∧ wr.frozen? ⟨ob, 2, none⟩ = false ∧ wr.frozen? ⟨ob, 3, none⟩ = false ∧ wr.frozen? ⟨ob, 4, none⟩ = false ∧ wr.frozen? ⟨ob, 5, none⟩ = false := by
  refine ⟨?_, ?_, ?_, ?_, ?_, ?_, Go.Joins.unfrozen_of_block hb 0, Go.Joins.unfrozen_of_block hb 1, Go.Joins.unfrozen_of_block hb 2, Go.Joins.unfrozen_of_block hb 3, Go.Joins.unfrozen_of_block hb 4, Go.Joins.unfrozen_of_block hb 5⟩ <;> (rw [Go.Joins.cell_of_block hb]; rfl)
set_option maxHeartbeats 4000000 in
theorem group_any (t r m : Nat) (τ : Tl) (w : World) (h : TalAt w t r m τ) (k : Int) :
    Calls Tryz.prog 130 #[tp t, .int .i64 k] w fun e w' => e = .returned (vG k τ) ∧ Below w.heap.size w w' := by
  have hc := h.cells
  have htlt := h.lt
  obtain ⟨n, D, hn, hown, hcn⟩ := h.own
  let z0 : Obj := .cells #[.int .i64 0, .int .i64 0, .int .i64 0, .int .i64 0, .int .i64 0, .bool false] 140
  let g0 : Obj := .cells #[.int .i64 k, .int .i64 τ.c, .int .i64 τ.s, .int .i64 0, .int .i64 0, .bool false] 140
  have hown0 : ((w.alloc z0).alloc g0).drew.ownsMap Tryz.prog 3 (plainElem (H := Unit) Tryz.prog 3) r n D := ((hown.alloc z0).alloc g0).drew
  have hb0 : ((w.alloc z0).alloc g0).drew.heap[w.heap.size + 1]? = some g0 := by
    have e : (w.alloc z0).heap.size = w.heap.size + 1 := by simp
    have := (MapKept.heap_alloc (w.alloc z0) g0).1
    rw [e] at this
    exact this
  have hz0 : ((w.alloc z0).alloc g0).drew.heap[w.heap.size]? = some z0 := (Below.heap_alloc (w.alloc z0) g0 _ (by simp)).trans (MapKept.heap_alloc w z0).1
  have hbl0 : Below w.heap.size w ((w.alloc z0).alloc g0).drew := (((Below.refl _ w).alloc (Nat.le_refl _) z0).alloc (by simp) g0).drew
  have es : ((w.alloc z0).alloc g0).drew.heap.size = w.heap.size + 2 := by simp
  have HB0 : Hid _ := hb0
  have HZ0 : Hid _ := hz0
  have HBL0 : Hid _ := hbl0
  have ES : Hid _ := es
  clear hb0 hz0 hbl0 es
  simp only [z0, g0] at hown0 HB0 HZ0 HBL0 ES
  clear z0 g0
  go_enter Tryz.func130, Tryz.ntmps130
  go_wp2
  go_region
  go_wp2_with (first
    | (at_range; refine wpList_range_own _ rfl _ 281 rfl 3 3 gkeyed Tryz.underlying281 _ r n _ rfl hown0 ?_; intro w0 hrg0 hg0 hs0)
    | go_in)
  go_frame
  rw [ES.out] at hrg0 hs0 ⊢
  go_loopw [6] (fun _ wr => ∃ (left : Lit → Bool) (cnt : Nat) (xs : List Int), wr.ranges Tryz.prog 3 (plainElem (H := Unit) Tryz.prog 3) r (w.heap.size + 2) n D left cnt ∧ Hid (Gl w (w.heap.size + 1) k τ left xs wr ∧ wr.heap[w.heap.size]? = some (.cells #[.int .i64 0, .int .i64 0, .int .i64 0, .int .i64 0, .int .i64 0, .bool false] 140)))
    (fun _ wr => wr.rangeLeft r (w.heap.size + 2))
  case atStart =>
    have hblt : w.heap.size + 1 < w.heap.size + 2 := by omega
    refine ⟨_, _, [], hrg0, ⟨(hg0.block _ (by rw [ES.out]; omega) (by simp)).trans HB0.out, ?_, fun x => ?_⟩, (hg0.block _ (by rw [ES.out]; omega) (by simp)).trans HZ0.out⟩
    · exact HBL0.out.trans ⟨hg0.os, hg0.tape, hg0.output, hg0.size, fun j hj => hg0.block j (by rw [ES.out]; omega) (by simp)⟩
    · constructor
      · intro hx; cases hx
      · rintro ⟨hx, hl⟩
        rw [hcn.has x (hcn.wf x hx)] at hl
        simp [hx] at hl
  case round =>
    obtain ⟨left, cnt, xs, hrg, HG⟩ := hrel
    go_wp2_with (first
      | (at_next; refine wpList_next_ranges_ii _ rfl _ rfl 3 3 .i64 .i64 gkeyed Tryz.underlying3 Tryz.underlying3 r (w.heap.size + 2) n _ _ _ rfl hrg ?_ ?_)
      | go_in)
    · intro hc0 hl0
      obtain ⟨hG, hzr⟩ := HG.out
      have hsame : ∀ x, x ∈ xs ↔ x ∈ τ.R := fun x => by rw [hG.mem x, hl0]; simp
      have hcl := gl_cells hG.blk
      have hcz := gl_cells hzr
      rw [lo_same hsame, hi_same hsame, some_same hsame] at hcl
      have HB : Hid (Below w.heap.size w wr) := hG.below
      have hsz : w.heap.size + 1 < wr.heap.size := (Array.getElem?_eq_some_iff.1 hG.blk).1
      clear hG hzr HG
      go_wp2
      refine bodyPost_ret (v := vG k τ) (by simp [results, Tryz.results130, go_sem, hcz, vG]) rfl ⟨rfl, ?_⟩
      exact (((((HB.out.setCell (p := ⟨w.heap.size, 0, none⟩) (Nat.le_refl _) _).setCell (p := ⟨w.heap.size, 1, none⟩) (Nat.le_refl _) _).setCell (p := ⟨w.heap.size, 2, none⟩) (Nat.le_refl _) _).setCell (p := ⟨w.heap.size, 3, none⟩) (Nat.le_refl _) _).setCell (p := ⟨w.heap.size, 4, none⟩) (Nat.le_refl _) _).setCell (p := ⟨w.heap.size, 5, none⟩) (Nat.le_refl _) _
    · intro x c w1 cnt1 hwx hwc hlx hat hrg1 hlt hg1 hs1 hen
      obtain ⟨hG, hzr⟩ := HG.out
      have hr2 := hrg.lt
      have hblk1 := (hg1.block (w.heap.size + 1) (by omega) (fun e => by injection e; omega)).trans hG.blk
      have hz1 := (hg1.block w.heap.size (by omega) (fun e => by injection e; omega)).trans hzr
      have hcl := gl_cells hblk1
      have hhas : Maps.has D (gi x) = true := Maps.has_true_of_atKey hat
      have hmemR : x ∈ τ.R := by
        have := hcn.has x hwx
        rw [hhas] at this
        simpa using this.symm
      have hmem : ∀ y, y ∈ x :: xs ↔ y ∈ τ.R ∧ (left (gi y) && !(gi y).sameKey (gi x)) = false := fun y => by
        by_cases e : y = x
        · subst e; simp [hmemR, WideAt.sameKey_self (gisKey hwx)]
        · simp [e, hG.mem y, Maps.sameKey_ne (gi_ne e)]
      have hstep : ∀ W' : World, W'.heap[w.heap.size + 1]? = some (.cells #[.int .i64 k, .int .i64 τ.c, .int .i64 τ.s, .int .i64 (lo (x :: xs)), .int .i64 (hi (x :: xs)), .bool (some? (x :: xs))] 140) → w1.grownBy W' (some (w.heap.size + 1)) →
          (∃ left cnt xs, W'.ranges Tryz.prog 3 (plainElem (H := Unit) Tryz.prog 3) r (w.heap.size + 2) n D left cnt ∧ Hid (Gl w (w.heap.size + 1) k τ left xs W' ∧ W'.heap[w.heap.size]? = some (.cells #[.int .i64 0, .int .i64 0, .int .i64 0, .int .i64 0, .int .i64 0, .bool false] 140))) ∧ W'.rangeLeft r (w.heap.size + 2) < wr.rangeLeft r (w.heap.size + 2) := fun W' hb' hg' => by
        have hrg2 := hrg1.kept hg' (fun e => by injection e; omega) (fun e => by injection e; omega)
        refine ⟨⟨_, _, x :: xs, hrg2, ⟨hb', ?_, hmem⟩, (hg'.block _ (by omega) (fun e => by injection e; omega)).trans hz1⟩, ?_⟩
        · exact hG.below.trans ⟨hg'.os.trans hg1.os, hg'.tape.trans hg1.tape, hg'.output.trans hg1.output, Nat.le_trans hg1.size hg'.size, fun j hj => (hg'.block j (by omega) (fun e => by injection e; omega)).trans (hg1.block j (by omega) (fun e => by injection e; omega))⟩
        · rw [hrg2.left_eq, hrg.left_eq]; exact hlt
      have HS : Hid _ := hstep
      have HB1 : Hid _ := hblk1
      clear HG hcn hstep hmem hhas hmemR hz1 hblk1 hG hzr
      by_cases hx : xs = []
      · subst hx
        simp only [lo, hi, some?, List.isEmpty_nil, Bool.not_true] at hcl
        go_wp2
        refine HS.out _ ?_ ?_
        · rw [Go.Joins.block_setCell (Go.Joins.block_setCell (Go.Joins.block_setCell (Go.Joins.block_setCell (Go.Joins.block_setCell HB1.out _) _) _) _)]
          simp [lo, hi, some?]
        · exact ⟨rfl, rfl, rfl, by simp, fun j _ hj => by
            have hne : j ≠ w.heap.size + 1 := fun e => hj (by rw [e])
            rw [Below.heap_setCell _ _ _ _ hne, Below.heap_setCell _ _ _ _ hne, Below.heap_setCell _ _ _ _ hne, Below.heap_setCell _ _ _ _ hne, Below.heap_setCell _ _ _ _ hne]⟩
      · have hsm : some? xs = true := by cases xs with
          | nil => exact absurd rfl hx
          | cons a r => rfl
        rw [hsm] at hcl
        have HX : Hid (xs ≠ []) := hx
        have HSM : Hid (some? xs = true) := hsm
        clear hx hsm
        go_wp2
        refine HS.out _ ?_ ?_
        · rw [Go.Joins.block_setCell (Go.Joins.block_setCell HB1.out _) _]
          have e1 : min x (lo xs) = if x < lo xs then x else lo xs := by split <;> omega
          have e2 : max x (hi xs) = if hi xs < x then x else hi xs := by split <;> omega
          rw [lo_cons x HX.out, hi_cons x HX.out, e1, e2, HSM.out]
          rfl
        · exact ⟨rfl, rfl, rfl, by simp, fun j _ hj => by
            have hne : j ≠ w.heap.size + 1 := fun e => hj (by rw [e])
            rw [Below.heap_setCell _ _ _ _ hne, Below.heap_setCell _ _ _ _ hne]⟩
end Go.Proofs.YthfpipieboophaaGreatDoor
