/- The stable sort's merge on arrays: the runs that change places, one row's way up and down, halves, blocks. -/
import Derived.Test.YtfldfnphidehlaaDoorIns
namespace Go.Proofs.YtfldfnphidehlaaDoor
open Go.Sort
set_option maxRecDepth 100000

theorem swapsA_size (d : Array O) (a b k : Nat) : (swapsA d a b k).size = d.size := by
  induction k with
  | zero => rfl
  | succ k ih => rw [swapsA, swp_size, ih]

theorem swapsA_get (d : Array O) (a b k : Nat) (h1 : a + k ≤ b) (h2 : b + k ≤ d.size) (p : Nat) :
    (swapsA d a b k)[p]! = if a ≤ p ∧ p < a + k then d[p + (b - a)]! else if b ≤ p ∧ p < b + k then d[p - (b - a)]! else d[p]! := by
  induction k generalizing p with
  | zero => rw [swapsA, if_neg (by omega), if_neg (by omega)]
  | succ k ih =>
    have ih' := ih (by omega) (by omega)
    rw [swapsA, swp_get _ (by rw [swapsA_size]; omega) (by rw [swapsA_size]; omega)]
    by_cases e1 : p = b + k
    · subst e1
      rw [if_pos rfl, ih', if_neg (by omega), if_neg (by omega), if_neg (by omega), if_pos (by omega)]
      congr 1; omega
    · rw [if_neg e1]
      by_cases e2 : p = a + k
      · subst e2
        rw [if_pos rfl, ih', if_neg (by omega), if_neg (by omega), if_pos (by omega)]
        congr 1; omega
      · rw [if_neg e2, ih']
        by_cases c1 : a ≤ p ∧ p < a + k
        · rw [if_pos c1, if_pos (by omega)]
        · by_cases c2 : b ≤ p ∧ p < b + k
          · rw [if_neg c1, if_pos c2, if_neg (by omega), if_pos (by omega)]
          · rw [if_neg c1, if_neg c2, if_neg (by omega), if_neg (by omega)]

theorem swapsA_perm (d : Array O) (a b k lo hi : Nat) (h1 : lo ≤ a) (h2 : lo ≤ b) (h3 : a + k ≤ hi) (h4 : b + k ≤ hi) (h5 : hi ≤ d.size) : PermIn lo hi d (swapsA d a b k) := by
  induction k with
  | zero => exact permIn_refl _ _ _
  | succ k ih =>
    refine permIn_trans _ _ _ _ _ (ih (by omega) (by omega)) ?_
    rw [swapsA]
    exact swp_permIn _ _ _ _ _ (by omega) (by omega) (by omega) (by omega) (by rw [swapsA_size]; omega)

/-- The runs [s, m) and [m, e) have changed places. -/
def Turned (d r : Array O) (s m e : Nat) : Prop :=
  ∀ p, r[p]! = if s ≤ p ∧ p < s + (e - m) then d[p + (m - s)]! else if s + (e - m) ≤ p ∧ p < e then d[p - (e - m)]! else d[p]!

theorem rotA_size (f : Nat) (d : Array O) (m i j : Nat) : (rotA f d m i j).size = d.size := by
  induction f generalizing d i j with
  | zero => rfl
  | succ f ih =>
    rw [rotA]
    split
    · exact swapsA_size _ _ _ _
    · split
      · rw [ih, swapsA_size]
      · rw [ih, swapsA_size]

theorem rotA_perm (f : Nat) (d : Array O) (m i j lo hi : Nat) (h1 : lo + i ≤ m) (h2 : m + j ≤ hi) (h3 : hi ≤ d.size) : PermIn lo hi d (rotA f d m i j) := by
  induction f generalizing d i j with
  | zero => exact permIn_refl _ _ _
  | succ f ih =>
    rw [rotA]
    split
    · exact swapsA_perm _ _ _ _ _ _ (by omega) (by omega) (by omega) (by omega) h3
    · split
      · exact permIn_trans _ _ _ _ _ (swapsA_perm _ _ _ _ _ _ (by omega) (by omega) (by omega) (by omega) h3) (ih _ _ _ (by omega) (by omega) (by rw [swapsA_size]; exact h3))
      · exact permIn_trans _ _ _ _ _ (swapsA_perm _ _ _ _ _ _ (by omega) (by omega) (by omega) (by omega) h3) (ih _ _ _ (by omega) (by omega) (by rw [swapsA_size]; exact h3))

theorem rotA_turned (f : Nat) (d : Array O) (m i j : Nat) (hf : i + j ≤ f) (hi : 0 < i) (hj : 0 < j) (h1 : i ≤ m) (h2 : m + j ≤ d.size) : Turned d (rotA f d m i j) (m - i) m (m + j) := by
  induction f generalizing d i j with
  | zero => omega
  | succ f ih =>
    intro p
    rw [rotA]
    split
    · rename_i e
      subst e
      rw [swapsA_get _ _ _ _ (by omega) (by omega)]
      by_cases c1 : m - i ≤ p ∧ p < m - i + i
      · rw [if_pos c1, if_pos (by omega)]
      · by_cases c2 : m ≤ p ∧ p < m + i
        · rw [if_neg c1, if_pos c2, if_neg (by omega), if_pos (by omega)]; congr 1; omega
        · rw [if_neg c1, if_neg c2, if_neg (by omega), if_neg (by omega)]
    · rename_i e
      split
      · rename_i e2
        rw [ih _ _ _ (by omega) (by omega) hj (by omega) (by rw [swapsA_size]; omega) p]
        simp only [swapsA_get d (m - i) m j (by omega) (by omega)]
        by_cases c0 : p < m - i ∨ m + j ≤ p
        · rw [if_neg (by omega), if_neg (by omega), if_neg (by omega), if_neg (by omega), if_neg (by omega), if_neg (by omega)]
        · by_cases c1 : p < m - i + j
          · rw [if_neg (by omega), if_neg (by omega), if_pos (by omega), if_pos (by omega)]
          · by_cases c2 : p < m - (i - j) + (m + j - m)
            · rw [if_pos (by omega), if_neg (by omega), if_pos (by omega), if_neg (by omega), if_pos (by omega)]
              congr 1; omega
            · rw [if_neg (by omega), if_pos (by omega), if_neg (by omega), if_neg (by omega), if_neg (by omega), if_pos (by omega)]
      · rename_i e2
        rw [ih _ _ _ (by omega) hi (by omega) (by omega) (by rw [swapsA_size]; omega) p]
        simp only [swapsA_get d (m - i) (m + j - i) i (by omega) (by omega)]
        by_cases c0 : p < m - i ∨ m + j ≤ p
        · rw [if_neg (by omega), if_neg (by omega), if_neg (by omega), if_neg (by omega), if_neg (by omega), if_neg (by omega)]
        · by_cases c1 : m + j - i ≤ p
          · rw [if_neg (by omega), if_neg (by omega), if_neg (by omega), if_pos (by omega), if_neg (by omega), if_pos (by omega)]
            congr 1; omega
          · by_cases c2 : p < m - i + (m + (j - i) - m)
            · rw [if_pos (by omega), if_neg (by omega), if_neg (by omega), if_pos (by omega)]
            · rw [if_neg (by omega), if_pos (by omega), if_pos (by omega), if_pos (by omega)]
              congr 1; omega

/-- What lies at a moves up k places. -/
def mvUp (d : Array O) (a : Nat) : Nat → Array O
  | 0 => d
  | k + 1 => swp (mvUp d a k) (a + k) (a + k + 1)

theorem mvUp_size (d : Array O) (a k : Nat) : (mvUp d a k).size = d.size := by
  induction k with
  | zero => rfl
  | succ k ih => rw [mvUp, swp_size, ih]

theorem mvUp_get (d : Array O) (a k : Nat) (h : a + k < d.size) (p : Nat) : (mvUp d a k)[p]! = if a ≤ p ∧ p < a + k then d[p + 1]! else if p = a + k then d[a]! else d[p]! := by
  induction k generalizing p with
  | zero =>
    rw [mvUp, if_neg (by omega)]
    split
    · rename_i e; subst e; rfl
    · rfl
  | succ k ih =>
    have ih' := ih (by omega)
    rw [mvUp, swp_get _ (by rw [mvUp_size]; omega) (by rw [mvUp_size]; omega)]
    by_cases e1 : p = a + k + 1
    · subst e1
      rw [if_pos rfl, ih', if_neg (by omega), if_pos rfl, if_neg (by omega), if_pos (by omega)]
    · rw [if_neg e1]
      by_cases e2 : p = a + k
      · subst e2
        rw [if_pos rfl, ih', if_neg (by omega), if_neg (by omega), if_pos (by omega)]
      · rw [if_neg e2, ih']
        by_cases c1 : a ≤ p ∧ p < a + k
        · rw [if_pos c1, if_pos (by omega)]
        · rw [if_neg c1, if_neg (by omega), if_neg (by omega), if_neg (by omega)]

theorem mvUp_perm (d : Array O) (a k lo hi : Nat) (h1 : lo ≤ a) (h3 : a + k < hi) (h5 : hi ≤ d.size) : PermIn lo hi d (mvUp d a k) := by
  induction k with
  | zero => exact permIn_refl _ _ _
  | succ k ih =>
    refine permIn_trans _ _ _ _ _ (ih (by omega)) ?_
    rw [mvUp]
    exact swp_permIn _ _ _ _ _ (by omega) (by omega) (by omega) (by omega) (by rw [mvUp_size]; omega)

/-- What lies at m moves down k places. -/
def mvDn (d : Array O) (m : Nat) : Nat → Array O
  | 0 => d
  | k + 1 => swp (mvDn d m k) (m - k) (m - k - 1)

theorem mvDn_size (d : Array O) (m k : Nat) : (mvDn d m k).size = d.size := by
  induction k with
  | zero => rfl
  | succ k ih => rw [mvDn, swp_size, ih]

theorem mvDn_get (d : Array O) (m k : Nat) (h : k ≤ m) (h2 : m < d.size) (p : Nat) : (mvDn d m k)[p]! = if m - k < p ∧ p ≤ m then d[p - 1]! else if p = m - k then d[m]! else d[p]! := by
  induction k generalizing p with
  | zero =>
    rw [mvDn, if_neg (by omega)]
    split
    · rename_i e; subst e; rfl
    · rfl
  | succ k ih =>
    have ih' := ih (by omega)
    rw [mvDn, swp_get _ (by rw [mvDn_size]; omega) (by rw [mvDn_size]; omega)]
    by_cases e1 : p = m - k - 1
    · rw [if_pos e1, ih', if_neg (by omega), if_pos rfl, if_neg (by omega), if_pos (by omega)]
    · rw [if_neg e1]
      by_cases e2 : p = m - k
      · rw [if_pos e2, ih', if_neg (by omega), if_neg (by omega), if_pos (by omega)]
        congr 1; omega
      · rw [if_neg e2, ih']
        by_cases c1 : m - k < p ∧ p ≤ m
        · rw [if_pos c1, if_pos (by omega)]
        · rw [if_neg c1, if_neg (by omega), if_neg (by omega), if_neg (by omega)]

theorem mvDn_perm (d : Array O) (m k lo hi : Nat) (h : lo + k ≤ m) (h3 : m < hi) (h5 : hi ≤ d.size) : PermIn lo hi d (mvDn d m k) := by
  induction k with
  | zero => exact permIn_refl _ _ _
  | succ k ih =>
    refine permIn_trans _ _ _ _ _ (ih (by omega)) ?_
    rw [mvDn]
    exact swp_permIn _ _ _ _ _ (by omega) (by omega) (by omega) (by omega) (by rw [mvDn_size]; omega)

/-- One in front of a sorted run, at its place. -/
theorem up_sorted {lt : O → O → Bool} (hS : SWO lt) (d : Array O) (a b i : Nat) (h1 : a + 1 ≤ i) (h2 : i ≤ b) (h3 : b ≤ d.size) (hs : SortedIn lt (a + 1) b d)
    (hl : i = a + 1 ∨ lt d[i - 1]! d[a]! = true) (hr : i = b ∨ lt d[i]! d[a]! = false) : SortedIn lt a b (mvUp d a (i - 1 - a)) := by
  have g := mvUp_get d a (i - 1 - a) (by omega)
  intro p q hp hpq hq
  rw [g, g]
  by_cases c1 : q < i - 1
  · rw [if_pos (by omega), if_pos (by omega)]
    exact hs _ _ (by omega) (by omega) (by omega)
  · by_cases c2 : q = i - 1
    · rw [if_neg (by omega), if_pos (by omega), if_pos (by omega)]
      rcases hl with hl | hl
      · omega
      · have hx : lt d[p + 1]! d[a]! = true := by
          by_cases e : p + 1 = i - 1
          · rw [e]; exact hl
          · cases hh : lt d[p + 1]! d[a]! with
            | true => rfl
            | false =>
              have := hS.ntrans _ _ _ (hs (p + 1) (i - 1) (by omega) (by omega) (by omega)) hh
              rw [this] at hl; cases hl
        exact hS.asymmA hx
    · rw [if_neg (by omega), if_neg (by omega)]
      by_cases c3 : p < i - 1
      · rw [if_pos (by omega)]
        exact hs _ _ (by omega) (by omega) (by omega)
      · by_cases c4 : p = i - 1
        · rw [if_neg (by omega), if_pos (by omega)]
          rcases hr with hr | hr
          · omega
          · by_cases e : q = i
            · rw [e]; exact hr
            · exact hS.ntrans _ _ _ (hs i q (by omega) (by omega) (by omega)) hr
        · rw [if_neg (by omega), if_neg (by omega)]
          exact hs _ _ (by omega) (by omega) (by omega)

/-- One behind a sorted run, at its place. -/
theorem dn_sorted {lt : O → O → Bool} (hS : SWO lt) (d : Array O) (a m i : Nat) (h1 : a ≤ i) (h2 : i ≤ m) (h3 : m < d.size) (hs : SortedIn lt a m d)
    (hl : i = a ∨ lt d[m]! d[i - 1]! = false) (hr : i = m ∨ lt d[m]! d[i]! = true) : SortedIn lt a (m + 1) (mvDn d m (m - i)) := by
  have g := mvDn_get d m (m - i) (by omega) h3
  intro p q hp hpq hq
  rw [g, g]
  by_cases c1 : q < i
  · rw [if_neg (by omega), if_neg (by omega), if_neg (by omega), if_neg (by omega)]
    exact hs _ _ (by omega) (by omega) (by omega)
  · by_cases c2 : q = i
    · rw [if_neg (by omega), if_pos (by omega), if_neg (by omega), if_neg (by omega)]
      rcases hl with hl | hl
      · omega
      · by_cases e : p = i - 1
        · rw [e]; exact hl
        · exact hS.ntrans _ _ _ hl (hs p (i - 1) (by omega) (by omega) (by omega))
    · rw [if_pos (by omega)]
      by_cases c3 : p < i
      · rw [if_neg (by omega), if_neg (by omega)]
        exact hs _ _ (by omega) (by omega) (by omega)
      · by_cases c4 : p = i
        · rw [if_neg (by omega), if_pos (by omega)]
          rcases hr with hr | hr
          · omega
          · have hx : lt d[m]! d[q - 1]! = true := by
              by_cases e : q - 1 = i
              · rw [e]; exact hr
              · cases hh : lt d[m]! d[q - 1]! with
                | true => rfl
                | false =>
                  have := hS.ntrans _ _ _ hh (hs i (q - 1) (by omega) (by omega) (by omega))
                  rw [this] at hr; cases hr
            exact hS.asymmA hx
        · rw [if_pos (by omega)]
          exact hs _ _ (by omega) (by omega) (by omega)

/-- The two halves behind the turn. -/
structure Halves (lt : O → O → Bool) (a s mid e b : Nat) (d : Array O) : Prop where
  h1 : SortedIn lt a s d
  h2 : SortedIn lt s mid d
  h3 : SortedIn lt mid e d
  h4 : SortedIn lt e b d
  cross : ∀ i j, a ≤ i → i < mid → mid ≤ j → j < b → lt d[j]! d[i]! = false

theorem halves_of {lt : O → O → Bool} (hS : SWO lt) (d r : Array O) (a m b s mid : Nat) (ham : a < m) (hmid : mid = (a + b) / 2) (h1 : SortedIn lt a m d) (h2 : SortedIn lt m b d)
    (hlo : a ≤ s) (hlo2 : mid + m ≤ b + s) (hhi : s ≤ m) (hhi2 : s ≤ mid)
    (hL : s = a ∨ mid + m = b + s ∨ lt d[mid + m - s]! d[s - 1]! = false) (hR : s = m ∨ s = mid ∨ lt d[mid + m - s - 1]! d[s]! = true)
    (hT : Turned d r s m (mid + m - s)) : Halves lt a s mid (mid + m - s) b r := by
  have e1 : s + (mid + m - s - m) = mid := by omega
  have e2 : mid + m - s - m = mid - s := by omega
  unfold Turned at hT
  rw [e1, e2] at hT
  have A : ∀ p, p < s → r[p]! = d[p]! := fun p hp => by rw [hT, if_neg (by omega), if_neg (by omega)]
  have B : ∀ p, s ≤ p → p < mid → r[p]! = d[p + (m - s)]! := fun p hp hq => by rw [hT, if_pos (by omega)]
  have C : ∀ p, mid ≤ p → p < mid + m - s → r[p]! = d[p - (mid - s)]! := fun p hp hq => by rw [hT, if_neg (by omega), if_pos (by omega)]
  have D : ∀ p, mid + m - s ≤ p → r[p]! = d[p]! := fun p hp => by rw [hT, if_neg (by omega), if_neg (by omega)]
  have le : ∀ (lo hi i j : Nat), SortedIn lt lo hi d → lo ≤ i → i ≤ j → j < hi → lt d[j]! d[i]! = false := fun lo hi i j h a1 a2 a3 => by
    by_cases e : i = j
    · subst e; exact hS.irrefl _
    · exact h i j a1 (by omega) a3
  refine ⟨?_, ?_, ?_, ?_, ?_⟩
  · intro i j hi hij hj
    rw [A i (by omega), A j hj]
    exact h1 i j hi hij (by omega)
  · intro i j hi hij hj
    rw [B i hi (by omega), B j (by omega) hj]
    exact h2 _ _ (by omega) (by omega) (by omega)
  · intro i j hi hij hj
    rw [C i hi (by omega), C j (by omega) hj]
    exact h1 _ _ (by omega) (by omega) (by omega)
  · intro i j hi hij hj
    rw [D i hi, D j (by omega)]
    exact h2 _ _ (by omega) (by omega) (by omega)
  · intro i j hi hi2 hj hj2
    by_cases ci : i < s
    · rw [A i ci]
      by_cases cj : j < mid + m - s
      · rw [C j hj cj]
        exact h1 _ _ hi (by omega) (by omega)
      · rw [D j (by omega)]
        rcases hL with hL | hL | hL
        · omega
        · omega
        · exact hS.ntrans _ _ _ (le m b (mid + m - s) j h2 (by omega) (by omega) hj2) (hS.ntrans _ _ _ hL (le a m i (s - 1) h1 hi (by omega) (by omega)))
    · rw [B i (by omega) hi2]
      by_cases cj : j < mid + m - s
      · rw [C j hj cj]
        rcases hR with hR | hR | hR
        · omega
        · omega
        · exact hS.ntrans _ _ _ (le a m s (j - (mid - s)) h1 hlo (by omega) (by omega)) (hS.ntrans _ _ _ (hS.asymmA hR) (le m b (i + (m - s)) (mid + m - s - 1) h2 (by omega) (by omega) (by omega)))
      · rw [D j (by omega)]
        exact h2 _ _ (by omega) (by omega) (by omega)

theorem sorted_of_none {lt : O → O → Bool} (d : Array O) (a b : Nat) (h : b ≤ a) : SortedIn lt a b d := fun _ _ _ _ _ => by omega

theorem sorted_of_eq {lt : O → O → Bool} {d r : Array O} {a b : Nat} (h : SortedIn lt a b d) (he : ∀ p, a ≤ p → p < b → r[p]! = d[p]!) : SortedIn lt a b r := fun i j hi hij hj => by
  rw [he i hi (by omega), he j (by omega) hj]; exact h i j hi hij hj

/-- Both halves sorted, none of the right one less than one of the left one. -/
theorem sorted_join {lt : O → O → Bool} {d : Array O} {a mid b : Nat} (h1 : SortedIn lt a mid d) (h2 : SortedIn lt mid b d) (hc : ∀ i j, a ≤ i → i < mid → mid ≤ j → j < b → lt d[j]! d[i]! = false) : SortedIn lt a b d := fun i j hi hij hj => by
  by_cases c1 : j < mid
  · exact h1 i j hi hij c1
  · by_cases c2 : i < mid
    · exact hc i j hi c2 (by omega) hj
    · exact h2 i j (by omega) hij hj

theorem cross_perm {lt : O → O → Bool} {d r : Array O} {a mid b : Nat} (hb : b ≤ d.size) (hm : mid ≤ b) (hc : ∀ i j, a ≤ i → i < mid → mid ≤ j → j < b → lt d[j]! d[i]! = false) (hP : PermIn a mid d r) : ∀ i j, a ≤ i → i < mid → mid ≤ j → j < b → lt r[j]! r[i]! = false := by
  intro i j hi hi2 hj hj2
  rw [hP.2.1 j (Or.inr hj)]
  exact permIn_all d r a mid (fun x => lt d[j]! x = false) (by omega) hP (fun k hk hk2 => hc k j hk hk2 hj hj2) i hi hi2

theorem cross_perm' {lt : O → O → Bool} {d r : Array O} {a mid b : Nat} (hb : b ≤ d.size) (hc : ∀ i j, a ≤ i → i < mid → mid ≤ j → j < b → lt d[j]! d[i]! = false) (hP : PermIn mid b d r) : ∀ i j, a ≤ i → i < mid → mid ≤ j → j < b → lt r[j]! r[i]! = false := by
  intro i j hi hi2 hj hj2
  rw [hP.2.1 i (Or.inl hi2)]
  exact permIn_all d r mid b (fun x => lt x d[i]! = false) hb hP (fun k hk hk2 => hc i k hi hi2 hk hk2) j hj hj2

/-- A half: as it is, or merged. -/
def Merged (lt : O → O → Bool) (a b : Nat) (d r : Array O) : Prop := PermIn a b d r ∧ SortedIn lt a b r

theorem Halves.done {lt : O → O → Bool} {a s mid e b : Nat} {d d2 d3 : Array O} (h : Halves lt a s mid e b d) (hb : b ≤ d.size) (ham : a ≤ mid) (hmb : mid ≤ b) (m1 : Merged lt a mid d d2) (m2 : Merged lt mid b d2 d3) : Merged lt a b d d3 := by
  have z : d2.size = d.size := m1.1.1
  refine ⟨permIn_trans _ _ _ _ _ (permIn_mono _ _ _ _ _ _ (Nat.le_refl _) hmb hb m1.1) (permIn_mono _ _ _ _ _ _ ham (Nat.le_refl _) (by omega) m2.1), sorted_join ?_ m2.2 ?_⟩
  · exact sorted_of_eq m1.2 fun p _ hp => m2.1.2.1 p (Or.inl hp)
  · exact cross_perm' (by omega) (cross_perm hb hmb h.cross m1.1) m2.1

theorem Halves.right {lt : O → O → Bool} {a s mid e b : Nat} {d d2 : Array O} (h : Halves lt a s mid e b d) (m1 : Merged lt a mid d d2) : SortedIn lt mid e d2 ∧ SortedIn lt e b d2 ∨ e < mid := by
  by_cases c : e < mid
  · exact Or.inr c
  · exact Or.inl ⟨sorted_of_eq h.h3 fun p hp _ => m1.1.2.1 p (Or.inr hp), sorted_of_eq h.h4 fun p hp _ => m1.1.2.1 p (Or.inr (by omega))⟩

theorem merged_same {lt : O → O → Bool} {a b s : Nat} {d : Array O} (h1 : SortedIn lt a s d) (h2 : SortedIn lt s b d) (h : s ≤ a ∨ b ≤ s) : Merged lt a b d d := by
  refine ⟨permIn_refl _ _ _, ?_⟩
  intro i j hi hij hj
  rcases h with h | h
  · exact h2 i j (by omega) hij hj
  · exact h1 i j hi hij (by omega)

/-- Each block of s is sorted. -/
def Blk (lt : O → O → Bool) (s n : Nat) (d : Array O) : Prop := ∀ c, SortedIn lt (c * s) (min (c * s + s) n) d

/-- The first t blocks of 2 s are, and behind them each one of s. -/
structure Midw (lt : O → O → Bool) (s n t : Nat) (d : Array O) : Prop where
  two : ∀ c, c < t → SortedIn lt (c * (2 * s)) (c * (2 * s) + 2 * s) d
  one : ∀ c, 2 * t ≤ c → SortedIn lt (c * s) (min (c * s + s) n) d

theorem Blk.mid {lt : O → O → Bool} {s n : Nat} {d : Array O} (h : Blk lt s n d) : Midw lt s n 0 d := ⟨fun _ hc => by omega, fun c _ => h c⟩

theorem mul_step {s c t : Nat} (h : c < t) : c * s + s ≤ t * s := by
  rw [← Nat.succ_mul]; exact Nat.mul_le_mul_right s h

theorem two_mul_s (t s : Nat) : (2 * t) * s = t * (2 * s) := by rw [Nat.mul_comm 2 t, Nat.mul_assoc]

theorem Midw.step {lt : O → O → Bool} {s n t : Nat} {d r : Array O} (h : Midw lt s n t d) (m : Merged lt (t * (2 * s)) (t * (2 * s) + 2 * s) d r) : Midw lt s n (t + 1) r := by
  refine ⟨fun c hc => ?_, fun c hc => ?_⟩
  · by_cases e : c = t
    · subst e; exact m.2
    · have := mul_step (s := 2 * s) (show c < t by omega)
      exact sorted_of_eq (h.two c (by omega)) fun p _ hp => m.1.2.1 p (Or.inl (by omega))
  · have q : (2 * (t + 1)) * s ≤ c * s := Nat.mul_le_mul_right s hc
    rw [two_mul_s, Nat.succ_mul] at q
    exact sorted_of_eq (h.one c (by omega)) fun p hp _ => m.1.2.1 p (Or.inr (by omega))

theorem Midw.ahead {lt : O → O → Bool} {s n t : Nat} {d : Array O} (h : Midw lt s n t d) : SortedIn lt (t * (2 * s)) (min (t * (2 * s) + s) n) d := by
  have := h.one (2 * t) (Nat.le_refl _)
  rw [two_mul_s] at this; exact this

theorem Midw.next {lt : O → O → Bool} {s n t : Nat} {d : Array O} (h : Midw lt s n t d) : SortedIn lt (t * (2 * s) + s) (min (t * (2 * s) + 2 * s) n) d := by
  have := h.one (2 * t + 1) (by omega)
  rw [Nat.succ_mul, two_mul_s] at this
  rw [show t * (2 * s) + 2 * s = t * (2 * s) + s + s by omega]; exact this

theorem Midw.done {lt : O → O → Bool} {s n t : Nat} {d r : Array O} (h : Midw lt s n t d) (h2 : n < t * (2 * s) + 2 * s) (m : Merged lt (t * (2 * s)) n d r) : Blk lt (2 * s) n r := by
  intro c
  by_cases e : c < t
  · have := mul_step (s := 2 * s) e
    refine sorted_of_eq (d := d) ?_ fun p _ hp => m.1.2.1 p (Or.inl (by omega))
    intro i j hi hij hj
    exact h.two c e i j hi hij (by omega)
  · by_cases e2 : c = t
    · subst e2
      intro i j hi hij hj
      exact m.2 i j hi hij (by omega)
    · have := mul_step (s := 2 * s) (show t < c by omega)
      exact sorted_of_none _ _ _ (by omega)

theorem Midw.last {lt : O → O → Bool} {s n t : Nat} {d : Array O} (h : Midw lt s n t d) (h2 : n ≤ t * (2 * s) + s) : Merged lt (t * (2 * s)) n d d := by
  refine ⟨permIn_refl _ _ _, ?_⟩
  have := h.ahead
  rw [Nat.min_eq_right h2] at this; exact this

theorem Blk.whole {lt : O → O → Bool} {s n : Nat} {d : Array O} (h : Blk lt s n d) (hs : n ≤ s) : SortedIn lt 0 n d := by
  have := h 0
  rw [Nat.zero_mul, Nat.zero_add, Nat.min_eq_right hs] at this; exact this

/-- The first t blocks of 20 are sorted. -/
def Firsts (lt : O → O → Bool) (t : Nat) (d : Array O) : Prop := ∀ c, c < t → SortedIn lt (c * 20) (c * 20 + 20) d

theorem Firsts.step {lt : O → O → Bool} {t : Nat} {d r : Array O} (h : Firsts lt t d) (hp : PermIn (t * 20) (t * 20 + 20) d r) (hs : SortedIn lt (t * 20) (t * 20 + 20) r) : Firsts lt (t + 1) r := by
  intro c hc
  by_cases e : c = t
  · subst e; exact hs
  · exact sorted_of_eq (h c (by omega)) fun p _ hq => hp.2.1 p (Or.inl (by omega))

theorem Firsts.blk {lt : O → O → Bool} {t n : Nat} {d r : Array O} (h : Firsts lt t d) (h2 : n < t * 20 + 20) (hp : PermIn (t * 20) n d r) (hs : SortedIn lt (t * 20) n r) : Blk lt 20 n r := by
  intro c
  by_cases e : c < t
  · refine sorted_of_eq (d := d) ?_ fun p _ hq => hp.2.1 p (Or.inl (by omega))
    intro i j hi hij hj
    exact h c e i j hi hij (by omega)
  · by_cases e2 : c = t
    · subst e2
      intro i j hi hij hj
      exact hs i j hi hij (by omega)
    · exact sorted_of_none _ _ _ (by omega)

end Go.Proofs.YtfldfnphidehlaaDoor
