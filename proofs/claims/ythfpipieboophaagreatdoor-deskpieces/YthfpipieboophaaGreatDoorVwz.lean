/- Vwz: several texts in one. -/
import Derived.Test.YthfpipieboophaaGreatDoorJnz
/- What all rows come til, and what changes by one more row: plain lists. -/
namespace Go.Proofs.YthfpipieboophaaGreatDoor
open List
set_option maxRecDepth 100000
section
variable {α β : Type} (q : α → β → Bool) (P : α → β → O) (la : α → O) (lb : β → O) (ta tb : Bool)
def allOf (A : List α) (B : List β) : List O :=
  (A.flatMap fun a => (B.filter (q a)).map (P a)) ++ ((if ta = true then (A.filter fun a => !B.any (q a)).map la else []) ++ (if tb = true then (B.filter fun b => !A.any fun a => q a b).map lb else []))
theorem flatMap_nil' {γ δ : Type} (f : γ → List δ) (l : List γ) (h : ∀ x ∈ l, f x = []) : l.flatMap f = [] := by
  induction l with
  | nil => rfl
  | cons a r ih => rw [flatMap_cons, h a (by simp), ih (fun x hx => h x (by simp [hx]))]; rfl
theorem flatMap_append_perm {γ δ : Type} (f g : γ → List δ) (l : List γ) : (l.flatMap fun x => f x ++ g x) ~ l.flatMap f ++ l.flatMap g := by
  induction l with
  | nil => simp
  | cons a r ih =>
    simp only [flatMap_cons, append_assoc]
    refine Perm.append_left _ ?_
    refine (Perm.append_left (g a) ih).trans ?_
    rw [← append_assoc, ← append_assoc]
    exact Perm.append_right _ perm_append_comm
theorem pairs_swap (A : List α) (B : List β) : (A.flatMap fun a => (B.filter (q a)).map (P a)) ~ (B.flatMap fun b => (A.filter fun a => q a b).map fun a => P a b) := by
  induction A with
  | nil => rw [flatMap_nil' (fun b => (([] : List α).filter fun a => q a b).map fun a => P a b) B (fun _ _ => rfl)]; simp
  | cons a r ih =>
    rw [flatMap_cons]
    have h1 : (B.flatMap fun b => ((a :: r).filter fun a => q a b).map fun a => P a b) = B.flatMap fun b => (if q a b = true then [P a b] else []) ++ (r.filter fun a => q a b).map fun a => P a b := by
      congr 1
      funext b
      rw [filter_cons]
      split <;> simp
    rw [h1]
    refine (Perm.append_left _ ih).trans (Perm.trans ?_ (flatMap_append_perm _ _ B).symm)
    refine Perm.append_right _ ?_
    clear ih h1
    have h2 : (B.flatMap fun b => if q a b = true then [P a b] else []) = (B.filter (q a)).map (P a) := by
      induction B with
      | nil => rfl
      | cons b s ihb => rw [flatMap_cons, filter_cons, ihb]; split <;> simp
    rw [h2]
theorem allOf_swap (A : List α) (B : List β) : allOf q P la lb ta tb A B ~ allOf (fun b a => q a b) (fun b a => P a b) lb la tb ta B A := by
  unfold allOf
  exact (pairs_swap q P A B).append perm_append_comm
def goes (A : List α) (B : List β) (a : α) : List O := if tb = true then (B.filter fun b => q a b && !A.any fun a => q a b).map lb else []
def stays (A : List α) (B : List β) (a : α) : List O :=
  (A.flatMap fun a => (B.filter (q a)).map (P a)) ++ ((if ta = true then (A.filter fun a => !B.any (q a)).map la else []) ++ (if tb = true then (B.filter fun b => !(A ++ [a]).any fun a => q a b).map lb else []))
theorem allOf_split (A : List α) (B : List β) (a : α) : allOf q P la lb ta tb A B ~ goes q lb tb A B a ++ stays q P la lb ta tb A B a := by
  unfold allOf goes stays
  cases tb
  · simp
  · simp only [if_true]
    have h1 : (B.filter fun b => !A.any fun a => q a b).map lb ~ ((B.filter fun b => q a b && !A.any fun a => q a b).map lb) ++ ((B.filter fun b => !(A ++ [a]).any fun a => q a b).map lb) := by
      rw [← map_append]
      refine Perm.map _ ?_
      refine (filter_append_perm (fun b => q a b) (B.filter fun b => !A.any fun a => q a b)).symm.trans ?_
      rw [filter_filter, filter_filter]
      refine Perm.of_eq ?_
      congr 1
      apply filter_congr
      intro b _
      simp only [any_append, any_cons, any_nil, Bool.or_false, Bool.not_or]
      exact Bool.and_comm _ _
    refine (Perm.append_left _ (Perm.append_left _ h1)).trans ?_
    rw [← append_assoc, ← append_assoc]
    refine Perm.trans (Perm.append_right _ perm_append_comm) ?_
    rw [append_assoc, append_assoc]
theorem allOf_more (A : List α) (B : List β) (a : α) : allOf q P la lb ta tb (A ++ [a]) B ~ stays q P la lb ta tb A B a ++ ((B.filter (q a)).map (P a) ++ (if ta = true ∧ B.any (q a) = false then [la a] else [])) := by
  unfold allOf stays
  rw [flatMap_append, filter_append]
  simp only [flatMap_cons, flatMap_nil, append_nil]
  have h1 : (if ta = true then (A.filter (fun a => !B.any (q a)) ++ [a].filter (fun a => !B.any (q a))).map la else []) = (if ta = true then (A.filter fun a => !B.any (q a)).map la else []) ++ (if ta = true ∧ B.any (q a) = false then [la a] else []) := by
    cases ta
    · simp
    · cases hb : B.any (q a)
      · simp [hb]
      · simp [hb]
  rw [h1]
  generalize (A.flatMap fun a => (B.filter (q a)).map (P a)) = X1
  generalize (B.filter (q a)).map (P a) = X2
  generalize (if ta = true then (A.filter fun a => !B.any (q a)).map la else []) = X3
  generalize (if ta = true ∧ B.any (q a) = false then [la a] else []) = X4
  generalize (if tb = true then (B.filter fun b => !(A ++ [a]).any fun a => q a b).map lb else []) = X5
  rw [perm_iff_count]
  intro o
  simp only [count_append]
  omega
end
def appC (L : List O) (C : List Ch) : List O := C.foldl (fun L c => if c.g = true then L.erase c.x else c.x :: L) L
def okC : List O → List Ch → Prop
  | _, [] => True
  | L, c :: C => (c.g = true → c.x ∈ L ∧ (c.x.hl && c.x.hr) = false) ∧ okC (if c.g = true then L.erase c.x else c.x :: L) C
theorem appC_cons (L : List O) (c : Ch) (C : List Ch) : appC L (c :: C) = appC (if c.g = true then L.erase c.x else c.x :: L) C := rfl
theorem appC_append (L : List O) (C C' : List Ch) : appC L (C ++ C') = appC (appC L C) C' := by unfold appC; rw [foldl_append]
theorem app_met {β : Type} (lb : β → O) (Pa : β → O) (n : β → Bool) (tb : Bool) (hlone : ∀ b, ((lb b).hl && (lb b).hr) = false) (M : List β) : ∀ (L rest : List O), L ~ (if tb = true then (M.filter n).map lb else []) ++ rest →
    okC L (M.flatMap fun m => (if n m = true ∧ tb = true then [⟨lb m, true⟩] else []) ++ [⟨Pa m, false⟩]) ∧ appC L (M.flatMap fun m => (if n m = true ∧ tb = true then [⟨lb m, true⟩] else []) ++ [⟨Pa m, false⟩]) ~ rest ++ M.map Pa := by
  induction M with
  | nil =>
    intro L rest h
    refine ⟨trivial, ?_⟩
    show L ~ rest ++ []
    cases tb <;> simpa using h
  | cons m M ih =>
    intro L rest h
    rw [flatMap_cons]
    by_cases hc : n m = true ∧ tb = true
    · obtain ⟨h1, h2⟩ := hc
      subst h2
      simp only [if_true, filter_cons, h1, map_cons, cons_append] at h
      have hmem : lb m ∈ L := h.symm.subset (by simp)
      have he : L.erase (lb m) ~ (M.filter n).map lb ++ rest := by
        have := h.erase (lb m)
        rwa [erase_cons_head] at this
      have hn : (Pa m :: L.erase (lb m)) ~ (if true = true then (M.filter n).map lb else []) ++ (Pa m :: rest) := by
        rw [if_pos rfl]
        exact (Perm.cons _ he).trans perm_middle.symm
      obtain ⟨i1, i2⟩ := ih _ _ hn
      rw [if_pos ⟨h1, rfl⟩]
      refine ⟨⟨fun _ => ⟨hmem, hlone m⟩, ⟨fun e => (by cases e), ?_⟩⟩, ?_⟩
      · simpa using i1
      · show appC _ _ ~ _
        refine Perm.trans ?_ (i2.trans ?_)
        · exact Perm.of_eq rfl
        · rw [map_cons]
          exact (perm_middle (l₁ := rest) (a := Pa m) (l₂ := M.map Pa)).symm
    · rw [if_neg hc]
      have hg : (if tb = true then ((m :: M).filter n).map lb else []) = (if tb = true then (M.filter n).map lb else []) := by
        cases htb : tb
        · rfl
        · have hnm : n m = false := by
            cases hnm : n m
            · rfl
            · exact absurd ⟨hnm, htb⟩ hc
          simp [hnm]
      rw [hg] at h
      have hn : (Pa m :: L) ~ (if tb = true then (M.filter n).map lb else []) ++ (Pa m :: rest) := (Perm.cons _ h).trans perm_middle.symm
      obtain ⟨i1, i2⟩ := ih _ _ hn
      refine ⟨⟨fun e => (by cases e), ?_⟩, ?_⟩
      · simpa using i1
      · refine Perm.trans ?_ (i2.trans ?_)
        · exact Perm.of_eq rfl
        · rw [map_cons]
          exact (perm_middle (l₁ := rest) (a := Pa m) (l₂ := M.map Pa)).symm
end Go.Proofs.YthfpipieboophaaGreatDoor

/- Rows in order: what is met, put and dropped, told by filters and maps. -/
namespace Go.Proofs.YthfpipieboophaaGreatDoor
open List
set_option maxRecDepth 100000
def inWin (key frm til : Int) (x : D) : Bool := decide (x.k = key ∧ frm ≤ x.t ∧ x.t ≤ til)
theorem sorted_tail {a : D} {R : List D} (h : SortedR (a :: R)) : SortedR R := (pairwise_cons.1 h).2
theorem sorted_head {a : D} {R : List D} (h : SortedR (a :: R)) : ∀ b ∈ R, a.k < b.k ∨ (a.k = b.k ∧ a.t ≤ b.t) := (pairwise_cons.1 h).1
theorem pos_cons_true {key time : Int} {a : D} {R : List D} (ha : aheadOf key time a = true) : posR key time (a :: R) = posR key time R + 1 := by
  unfold posR; rw [countP_cons, if_pos ha]
theorem pos_cons_false {key time : Int} {a : D} {R : List D} (h : SortedR (a :: R)) (ha : aheadOf key time a = false) : posR key time (a :: R) = 0 := by
  unfold posR
  rw [countP_eq_zero]
  intro b hb
  rcases mem_cons.1 hb with rfl | hb
  · rw [ha]; simp
  · have h1 := sorted_head h b hb
    rw [aheadOf_false] at ha
    have h2 : aheadOf key time b = false := aheadOf_false.2 (by omega)
    rw [h2]; simp
theorem while_is_filter {key frm til : Int} : ∀ {R : List D}, SortedR R → (∀ x ∈ R, aheadOf key frm x = false) → R.takeWhile (meets key til) = R.filter (inWin key frm til)
  | [], _, _ => rfl
  | a :: R, h, h2 => by
    have ha := aheadOf_false.1 (h2 a (by simp))
    by_cases hm : meets key til a = true
    · have hw : inWin key frm til a = true := by simp [meets, inWin] at hm ⊢; omega
      rw [takeWhile_cons, if_pos hm, filter_cons, if_pos hw, while_is_filter (sorted_tail h) (fun x hx => h2 x (by simp [hx]))]
    · have hm2 : ¬ (a.k = key ∧ a.t ≤ til) := by simpa [meets] using hm
      rw [takeWhile_cons, if_neg hm]
      symm
      rw [filter_eq_nil_iff]
      intro x hx
      have h3 : inWin key frm til x = false := by
        simp only [inWin, decide_eq_false_iff_not]
        rcases mem_cons.1 hx with rfl | hx
        · omega
        · have := sorted_head h x hx
          omega
      rw [h3]; simp
theorem met_is_filter {key frm til : Int} : ∀ {R : List D}, SortedR R → metR key frm til R = R.filter (inWin key frm til)
  | [], _ => rfl
  | a :: R, h => by
    cases ha : aheadOf key frm a
    · unfold metR
      rw [pos_cons_false h ha, drop_zero]
      refine while_is_filter h (fun x hx => ?_)
      rcases mem_cons.1 hx with rfl | hx
      · exact ha
      · have h1 := sorted_head h x hx
        rw [aheadOf_false] at ha ⊢
        omega
    · have h1 : metR key frm til (a :: R) = metR key frm til R := by
        unfold metR
        rw [pos_cons_true ha, drop_succ_cons]
      have h2 : inWin key frm til a = false := by
        simp only [aheadOf, decide_eq_true_eq] at ha
        simp only [inWin, decide_eq_false_iff_not]
        omega
      rw [h1, filter_cons, if_neg (by rw [h2]; simp), met_is_filter (sorted_tail h)]
theorem map_same {f : D → D} {R : List D} (h : ∀ x ∈ R, f x = x) : R.map f = R := by
  rw [map_congr_left (g := id) h]; simp
theorem inc_while {key frm til : Int} : ∀ {R : List D}, SortedR R → (∀ x ∈ R, aheadOf key frm x = false) → incR R 0 (R.takeWhile (meets key til)).length = R.map fun x => if inWin key frm til x = true then moreD x else x
  | [], _, _ => rfl
  | a :: R, h, h2 => by
    have ha := aheadOf_false.1 (h2 a (by simp))
    by_cases hm : meets key til a = true
    · have hw : inWin key frm til a = true := by simp [meets, inWin] at hm ⊢; omega
      have ih := inc_while (til := til) (sorted_tail h) (fun x hx => h2 x (by simp [hx]))
      rw [takeWhile_cons, if_pos hm, map_cons, if_pos hw, ← ih]
      simp [incR]
    · have hm2 : ¬ (a.k = key ∧ a.t ≤ til) := by simpa [meets] using hm
      rw [takeWhile_cons, if_neg hm, length_nil, incR_zero]
      symm
      refine map_same ?_
      intro x hx
      have h3 : inWin key frm til x = false := by
        simp only [inWin, decide_eq_false_iff_not]
        rcases mem_cons.1 hx with rfl | hx
        · omega
        · have := sorted_head h x hx
          omega
      rw [h3]; simp
theorem inc_is_map {key frm til : Int} : ∀ {R : List D}, SortedR R → incR R (posR key frm R) (metR key frm til R).length = R.map fun x => if inWin key frm til x = true then moreD x else x
  | [], _ => rfl
  | a :: R, h => by
    cases ha : aheadOf key frm a
    · unfold metR
      rw [pos_cons_false h ha, drop_zero]
      refine inc_while h (fun x hx => ?_)
      rcases mem_cons.1 hx with rfl | hx
      · exact ha
      · have h1 := sorted_head h x hx
        rw [aheadOf_false] at ha ⊢
        omega
    · have h1 : metR key frm til (a :: R) = metR key frm til R := by
        unfold metR
        rw [pos_cons_true ha, drop_succ_cons]
      have h2 : inWin key frm til a = false := by
        simp only [aheadOf, decide_eq_true_eq] at ha
        simp only [inWin, decide_eq_false_iff_not]
        omega
      rw [h1, map_cons, if_neg (by rw [h2]; simp), pos_cons_true ha, ← inc_is_map (sorted_tail h)]
      simp [incR, show posR key frm R + 1 + (metR key frm til R).length = posR key frm R + (metR key frm til R).length + 1 by omega]
theorem sorted_map {f : D → D} (hf : ∀ x, (f x).k = x.k ∧ (f x).t = x.t) {R : List D} (h : SortedR R) : SortedR (R.map f) := by
  unfold SortedR at *
  rw [pairwise_map]
  refine h.imp ?_
  intro a b hab
  rw [(hf a).1, (hf b).1, (hf a).2, (hf b).2]
  exact hab
theorem sorted_keep {p : D → Bool} {R : List D} (h : SortedR R) : SortedR (keepR p R) := h.filter _
theorem sorted_inc {key frm til : Int} {R : List D} (h : SortedR R) : SortedR (incR R (posR key frm R) (metR key frm til R).length) := by
  rw [inc_is_map h]
  exact sorted_map (fun x => by split <;> exact ⟨rfl, rfl⟩) h
theorem sorted_ins (k t v n : Int) : ∀ {R : List D}, SortedR R → SortedR (insR R (posR k (t + 1) R) ⟨k, t, v, n⟩)
  | [], _ => by simp [insR, SortedR]
  | a :: R, h => by
    cases ha : aheadOf k (t + 1) a
    · rw [pos_cons_false h ha]
      simp only [insR, take_zero, drop_zero, nil_append]
      refine pairwise_cons.2 ⟨fun b hb => ?_, h⟩
      rw [aheadOf_false] at ha
      rcases mem_cons.1 hb with rfl | hb
      · show k < _ ∨ (k = _ ∧ t ≤ _)
        omega
      · have := sorted_head h b hb
        show k < _ ∨ (k = _ ∧ t ≤ _)
        omega
    · rw [pos_cons_true ha]
      have ih := sorted_ins k t v n (sorted_tail h)
      have e1 : insR (a :: R) (posR k (t + 1) R + 1) ⟨k, t, v, n⟩ = a :: insR R (posR k (t + 1) R) ⟨k, t, v, n⟩ := by simp [insR]
      rw [e1]
      refine pairwise_cons.2 ⟨fun b hb => ?_, ih⟩
      simp only [aheadOf, decide_eq_true_eq] at ha
      have hb2 : b = ⟨k, t, v, n⟩ ∨ b ∈ R := by
        simp only [insR, mem_append, mem_cons] at hb
        rcases hb with hb | hb | hb
        · exact Or.inr (mem_of_mem_take hb)
        · exact Or.inl hb
        · exact Or.inr (mem_of_mem_drop hb)
      rcases hb2 with rfl | hb
      · show _ < k ∨ (_ = k ∧ _ ≤ t)
        omega
      · exact sorted_head h b hb
theorem ins_perm (R : List D) (i : Nat) (x : D) : insR R i x ~ x :: R := by
  unfold insR
  refine perm_middle.trans ?_
  rw [take_append_drop]
end Go.Proofs.YthfpipieboophaaGreatDoor

/- A join holds just the rows that may meet others yet; what changes by a row leads from what all rows come til, til what they come til then. -/
namespace Go.Proofs.YthfpipieboophaaGreatDoor
open List
set_option maxRecDepth 100000
structure Rw where
  k : Int
  t : Int
  v : Int
  deriving DecidableEq, Inhabited
def D.rw (x : D) : Rw := ⟨x.k, x.t, x.v⟩
def dOf (r : Rw) (n : Nat) : D := ⟨r.k, r.t, r.v, n⟩
theorem zero_any (p : Rw → Bool) (A : List Rw) (b : Rw) : decide ((dOf b (A.countP p)).n = 0) = !A.any p := by
  have h : (dOf b (A.countP p)).n = ((A.countP p : Nat) : Int) := rfl
  cases hA : A.any p
  · have h0 : A.countP p = 0 := countP_eq_zero.2 (fun x hx e => by rw [any_eq_false] at hA; exact hA x hx e)
    rw [decide_eq_true (by rw [h, h0]; rfl)]; rfl
  · obtain ⟨x, hx, hxq⟩ := any_eq_true.1 hA
    have h0 : 0 < A.countP p := countP_pos_iff.2 ⟨x, hx, hxq⟩
    rw [decide_eq_false (by rw [h]; omega)]; rfl
theorem more_dOf (r : Rw) (c : Nat) (hc : c < 9223372036854775807) : moreD (dOf r c) = dOf r (c + 1) := by
  have h : moreI (c : Int) = ((c + 1 : Nat) : Int) := by unfold moreI; rw [if_neg (by omega)]; omega
  show (⟨r.k, r.t, r.v, moreI (c : Int)⟩ : D) = ⟨r.k, r.t, r.v, ((c + 1 : Nat) : Int)⟩
  rw [h]
theorem view_step (q : Rw → Rw → Bool) (P : Rw → Rw → O) (la lb : Rw → O) (ta tb : Bool) (hlone : ∀ b, ((lb b).hl && (lb b).hr) = false) (A B : List Rw) (a : Rw) (M : List D) (L : List O)
    (hM : M ~ (B.filter (q a)).map fun r => dOf r (A.countP fun a => q a r)) (hL : L ~ allOf q P la lb ta tb A B) :
    okC L (if M = [] then (if ta = true then [⟨la a, false⟩] else []) else M.flatMap fun m => (if m.n = 0 ∧ tb = true then [⟨lb m.rw, true⟩] else []) ++ [⟨P a m.rw, false⟩]) ∧
    appC L (if M = [] then (if ta = true then [⟨la a, false⟩] else []) else M.flatMap fun m => (if m.n = 0 ∧ tb = true then [⟨lb m.rw, true⟩] else []) ++ [⟨P a m.rw, false⟩]) ~ allOf q P la lb ta tb (A ++ [a]) B := by
  have hLs := hL.trans (allOf_split q P la lb ta tb A B a)
  have hmore := allOf_more q P la lb ta tb A B a
  by_cases h0 : M = []
  · have hB : B.filter (q a) = [] := by
      rw [h0] at hM
      exact map_eq_nil_iff.1 (nil_perm.1 hM)
    have hany : B.any (q a) = false := by
      rw [any_eq_false]
      intro b hb hq
      have : b ∈ B.filter (q a) := mem_filter.2 ⟨hb, hq⟩
      rw [hB] at this
      cases this
    have hg : goes q lb tb A B a = [] := by
      unfold goes
      have : (B.filter fun b => q a b && !A.any fun a => q a b) = [] := by
        rw [filter_eq_nil_iff]
        intro b hb
        have := (any_eq_false.1 hany) b hb
        simp [this]
      rw [this]; simp
    rw [hg, nil_append] at hLs
    rw [hB, hany] at hmore
    rw [if_pos h0]
    cases ta
    · refine ⟨trivial, ?_⟩
      show L ~ _
      exact hLs.trans (by simpa using hmore.symm)
    · refine ⟨⟨fun e => (by cases e), trivial⟩, ?_⟩
      show (la a :: L) ~ _
      refine (Perm.cons _ hLs).trans (Perm.trans ?_ hmore.symm)
      simpa using (perm_append_comm (l₁ := [la a]) (l₂ := stays q P la lb true tb A B a))
  · have hany : B.any (q a) = true := by
      have hB : B.filter (q a) ≠ [] := fun e => h0 (by rw [e] at hM; exact perm_nil.1 hM)
      obtain ⟨b, hb⟩ := exists_mem_of_ne_nil _ hB
      rw [mem_filter] at hb
      exact any_eq_true.2 ⟨b, hb.1, hb.2⟩
    rw [if_neg h0]
    have hgo : (if tb = true then (M.filter fun m => decide (m.n = 0)).map fun m => lb m.rw else []) ~ goes q lb tb A B a := by
      unfold goes
      cases tb
      · simp
      · simp only [if_true]
        refine ((hM.filter _).map _).trans ?_
        rw [filter_map, map_map, filter_filter]
        refine Perm.of_eq ?_
        have e1 : (fun m => lb (D.rw m)) ∘ (fun r => dOf r (A.countP fun a => q a r)) = lb := by funext r; rfl
        rw [e1]
        congr 1
        apply filter_congr
        intro b hb
        simp only [Function.comp, zero_any]
        exact Bool.and_comm _ _
    have hst : L ~ (if tb = true then (M.filter fun m => decide (m.n = 0)).map fun m => lb m.rw else []) ++ stays q P la lb ta tb A B a := hLs.trans (Perm.append_right _ hgo.symm)
    have key := app_met (fun m : D => lb m.rw) (fun m : D => P a m.rw) (fun m => decide (m.n = 0)) tb (fun m => hlone m.rw) M L _ hst
    have e2 : (fun m : D => (if m.n = 0 ∧ tb = true then [(⟨lb m.rw, true⟩ : Ch)] else []) ++ [⟨P a m.rw, false⟩]) = fun m : D => (if (decide (m.n = 0)) = true ∧ tb = true then [(⟨lb m.rw, true⟩ : Ch)] else []) ++ [⟨P a m.rw, false⟩] := by
      funext m
      simp only [decide_eq_true_eq]
    rw [e2]
    refine ⟨key.1, key.2.trans (Perm.trans ?_ hmore.symm)⟩
    refine Perm.append_left _ ?_
    rw [hany, if_neg (by simp), append_nil]
    refine (hM.map _).trans (Perm.of_eq ?_)
    rw [map_map]
    rfl
theorem rows_more (q : Rw → Rw → Bool) (h : Rw → Bool) (A B : List Rw) (a : Rw) (R : List D) (win : D → Bool) (hw : ∀ r n, win (dOf r n) = q a r) (hlen : A.length < 9223372036854775807)
    (hR : R ~ (B.filter h).map fun r => dOf r (A.countP fun a => q a r)) : (R.map fun x => if win x = true then moreD x else x) ~ (B.filter h).map fun r => dOf r ((A ++ [a]).countP fun a => q a r) := by
  refine (hR.map _).trans (Perm.of_eq ?_)
  rw [map_map]
  apply map_congr_left
  intro r _
  simp only [Function.comp, hw]
  rw [countP_append]
  cases hq : q a r
  · simp [hq]
  · have hc : A.countP (fun a => q a r) ≤ A.length := countP_le_length
    rw [if_pos rfl, more_dOf _ _ (by omega)]
    simp [hq]
def mB (lo hi : Int) (l r : Rw) : Bool := decide (l.k = r.k ∧ lo ≤ r.t - l.t ∧ r.t - l.t ≤ hi)
def pairRw (l r : Rw) : O := ⟨l.k, l.k, l.t, l.v, r.k, r.t, r.v, true, true⟩
def leftRw (l : Rw) : O := loneO 0 l.k l.t l.v
def rightRw (r : Rw) : O := loneO 1 r.k r.t r.v
def viewOf (lo hi mode : Int) (A B : List Rw) : List O := allOf (mB lo hi) pairRw leftRw rightRw (tellsB mode 0) (tellsB mode 1) A B
structure Holds (x : J) (A B : List Rw) : Prop where
  r0 : x.R0 ~ (A.filter fun l => decide (x.m1 < l.t + x.hi)).map fun l => dOf l (B.countP fun r => mB x.lo x.hi l r)
  r1 : x.R1 ~ (B.filter fun r => decide (x.m0 < r.t + -x.lo)).map fun r => dOf r (A.countP fun l => mB x.lo x.hi l r)
  s0 : SortedR x.R0
  s1 : SortedR x.R1
theorem Holds.met0 {x : J} {A B : List Rw} (h : Holds x A B) (a : Rw) (hl : x.m0 < a.t) : metR a.k (a.t + x.lo) (a.t + x.hi) x.R1 ~ (B.filter (mB x.lo x.hi a)).map fun r => dOf r (A.countP fun l => mB x.lo x.hi l r) := by
  rw [met_is_filter h.s1]
  refine (h.r1.filter _).trans (Perm.of_eq ?_)
  rw [filter_map, filter_filter]
  congr 1
  apply filter_congr
  intro r _
  show (decide (r.k = a.k ∧ a.t + x.lo ≤ r.t ∧ r.t ≤ a.t + x.hi) && decide (x.m0 < r.t + -x.lo)) = decide (a.k = r.k ∧ x.lo ≤ r.t - a.t ∧ r.t - a.t ≤ x.hi)
  rw [Bool.eq_iff_iff]
  simp only [Bool.and_eq_true, decide_eq_true_eq]
  omega
theorem Holds.met1 {x : J} {A B : List Rw} (h : Holds x A B) (b : Rw) (hl : x.m1 < b.t) : metR b.k (b.t + -x.hi) (b.t + -x.lo) x.R0 ~ (A.filter fun l => mB x.lo x.hi l b).map fun l => dOf l (B.countP fun r => mB x.lo x.hi l r) := by
  rw [met_is_filter h.s0]
  refine (h.r0.filter _).trans (Perm.of_eq ?_)
  rw [filter_map, filter_filter]
  congr 1
  apply filter_congr
  intro r _
  show (decide (r.k = b.k ∧ b.t + -x.hi ≤ r.t ∧ r.t ≤ b.t + -x.lo) && decide (x.m1 < r.t + x.hi)) = decide (r.k = b.k ∧ x.lo ≤ b.t - r.t ∧ b.t - r.t ≤ x.hi)
  rw [Bool.eq_iff_iff]
  simp only [Bool.and_eq_true, decide_eq_true_eq]
  omega
theorem Holds.fed0 {x : J} {A B : List Rw} (h : Holds x A B) (a : Rw) (hl : x.m0 < a.t) (hA : A.length < 9223372036854775807) : Holds (x.fed0 a.k a.t a.v) (A ++ [a]) B := by
  have hm := h.met0 a hl
  refine ⟨?_, ?_, ?_, sorted_inc h.s1⟩
  · show (if x.m1 < a.t + x.hi then _ else _) ~ (((A ++ [a]).filter fun l => decide (x.m1 < l.t + x.hi)).map fun l => dOf l (B.countP fun r => mB x.lo x.hi l r))
    rw [filter_append, map_append]
    by_cases hh : x.m1 < a.t + x.hi
    · rw [if_pos hh]
      refine (ins_perm _ _ _).trans ((Perm.cons _ h.r0).trans ?_)
      have e1 : (metR a.k (a.t + x.lo) (a.t + x.hi) x.R1).length = B.countP fun r => mB x.lo x.hi a r := by
        rw [hm.length_eq, length_map, countP_eq_length_filter]
      have e2 : ([a].filter fun l => decide (x.m1 < l.t + x.hi)) = [a] := by simp [hh]
      rw [e1, e2]
      exact (perm_append_comm (l₁ := [dOf a (B.countP fun r => mB x.lo x.hi a r)]))
    · rw [if_neg hh]
      have e2 : ([a].filter fun l => decide (x.m1 < l.t + x.hi)) = [] := by simp; omega
      rw [e2, map_nil, append_nil]
      exact h.r0
  · show incR x.R1 _ _ ~ ((B.filter fun r => decide (x.m0 < r.t + -x.lo)).map fun r => dOf r ((A ++ [a]).countP fun l => mB x.lo x.hi l r))
    rw [inc_is_map h.s1]
    refine rows_more (fun l r => mB x.lo x.hi l r) _ A B a x.R1 _ ?_ hA h.r1
    intro r n
    show decide (r.k = a.k ∧ a.t + x.lo ≤ r.t ∧ r.t ≤ a.t + x.hi) = decide (a.k = r.k ∧ x.lo ≤ r.t - a.t ∧ r.t - a.t ≤ x.hi)
    rw [Bool.eq_iff_iff]
    simp only [decide_eq_true_eq]
    omega
  · show SortedR (if x.m1 < a.t + x.hi then _ else _)
    split
    · exact sorted_ins _ _ _ _ h.s0
    · exact h.s0
theorem Holds.fed1 {x : J} {A B : List Rw} (h : Holds x A B) (b : Rw) (hl : x.m1 < b.t) (hB : B.length < 9223372036854775807) : Holds (x.fed1 b.k b.t b.v) A (B ++ [b]) := by
  have hm := h.met1 b hl
  refine ⟨?_, ?_, sorted_inc h.s0, ?_⟩
  · show incR x.R0 _ _ ~ ((A.filter fun l => decide (x.m1 < l.t + x.hi)).map fun l => dOf l ((B ++ [b]).countP fun r => mB x.lo x.hi l r))
    rw [inc_is_map h.s0]
    refine rows_more (fun r l => mB x.lo x.hi l r) _ B A b x.R0 _ ?_ hB h.r0
    intro r n
    show decide (r.k = b.k ∧ b.t + -x.hi ≤ r.t ∧ r.t ≤ b.t + -x.lo) = decide (r.k = b.k ∧ x.lo ≤ b.t - r.t ∧ b.t - r.t ≤ x.hi)
    rw [Bool.eq_iff_iff]
    simp only [decide_eq_true_eq]
    omega
  · show (if x.m0 < b.t + -x.lo then _ else _) ~ (((B ++ [b]).filter fun r => decide (x.m0 < r.t + -x.lo)).map fun r => dOf r (A.countP fun l => mB x.lo x.hi l r))
    rw [filter_append, map_append]
    by_cases hh : x.m0 < b.t + -x.lo
    · rw [if_pos hh]
      refine (ins_perm _ _ _).trans ((Perm.cons _ h.r1).trans ?_)
      have e1 : (metR b.k (b.t + -x.hi) (b.t + -x.lo) x.R0).length = A.countP fun l => mB x.lo x.hi l b := by
        rw [hm.length_eq, length_map, countP_eq_length_filter]
      have e2 : ([b].filter fun r => decide (x.m0 < r.t + -x.lo)) = [b] := by simp; omega
      rw [e1, e2]
      exact (perm_append_comm (l₁ := [dOf b (A.countP fun l => mB x.lo x.hi l b)]))
    · rw [if_neg hh]
      have e2 : ([b].filter fun r => decide (x.m0 < r.t + -x.lo)) = [] := by simp; omega
      rw [e2, map_nil, append_nil]
      exact h.r1
  · show SortedR (if x.m0 < b.t + -x.lo then _ else _)
    split
    · exact sorted_ins _ _ _ _ h.s1
    · exact h.s1
theorem Holds.moved0 {x : J} {A B : List Rw} (h : Holds x A B) (t : Int) (ht : x.m0 ≤ t) : Holds { x with m0 := t, R1 := keepR (fun y => decide (y.t ≤ t + x.lo)) x.R1 } A B := by
  refine ⟨h.r0, ?_, h.s0, sorted_keep h.s1⟩
  show keepR _ x.R1 ~ ((B.filter fun r => decide (t < r.t + -x.lo)).map fun r => dOf r (A.countP fun l => mB x.lo x.hi l r))
  unfold keepR
  refine (h.r1.filter _).trans (Perm.of_eq ?_)
  rw [filter_map, filter_filter]
  congr 1
  apply filter_congr
  intro r _
  show ((!decide (r.t ≤ t + x.lo)) && decide (x.m0 < r.t + -x.lo)) = decide (t < r.t + -x.lo)
  rw [Bool.eq_iff_iff]
  simp only [Bool.and_eq_true, Bool.not_eq_true', decide_eq_true_eq, decide_eq_false_iff_not]
  omega
theorem Holds.moved1 {x : J} {A B : List Rw} (h : Holds x A B) (t : Int) (ht : x.m1 ≤ t) : Holds { x with m1 := t, R0 := keepR (fun y => decide (y.t ≤ t - x.hi)) x.R0 } A B := by
  refine ⟨?_, h.r1, sorted_keep h.s0, h.s1⟩
  show keepR _ x.R0 ~ ((A.filter fun l => decide (t < l.t + x.hi)).map fun l => dOf l (B.countP fun r => mB x.lo x.hi l r))
  unfold keepR
  refine (h.r0.filter _).trans (Perm.of_eq ?_)
  rw [filter_map, filter_filter]
  congr 1
  apply filter_congr
  intro r _
  show ((!decide (r.t ≤ t - x.hi)) && decide (x.m1 < r.t + x.hi)) = decide (t < r.t + x.hi)
  rw [Bool.eq_iff_iff]
  simp only [Bool.and_eq_true, Bool.not_eq_true', decide_eq_true_eq, decide_eq_false_iff_not]
  omega
theorem Holds.view0 {x : J} {A B : List Rw} {L : List O} (h : Holds x A B) (a : Rw) (hl : x.m0 < a.t) (hL : L ~ viewOf x.lo x.hi x.mode A B) :
    okC L (chgs x.mode 0 a.k a.t a.v (metR a.k (a.t + x.lo) (a.t + x.hi) x.R1)) ∧ appC L (chgs x.mode 0 a.k a.t a.v (metR a.k (a.t + x.lo) (a.t + x.hi) x.R1)) ~ viewOf x.lo x.hi x.mode (A ++ [a]) B :=
  view_step (mB x.lo x.hi) pairRw leftRw rightRw (tellsB x.mode 0) (tellsB x.mode 1) (fun _ => rfl) A B a _ L (h.met0 a hl) hL
theorem Holds.view1 {x : J} {A B : List Rw} {L : List O} (h : Holds x A B) (b : Rw) (hl : x.m1 < b.t) (hL : L ~ viewOf x.lo x.hi x.mode A B) :
    okC L (chgs x.mode 1 b.k b.t b.v (metR b.k (b.t + -x.hi) (b.t + -x.lo) x.R0)) ∧ appC L (chgs x.mode 1 b.k b.t b.v (metR b.k (b.t + -x.hi) (b.t + -x.lo) x.R0)) ~ viewOf x.lo x.hi x.mode A (B ++ [b]) := by
  have key := view_step (fun r l => mB x.lo x.hi l r) (fun r l => pairRw l r) rightRw leftRw (tellsB x.mode 1) (tellsB x.mode 0) (fun _ => rfl) B A b _ L (h.met1 b hl) (hL.trans (allOf_swap _ _ _ _ _ _ A B))
  exact ⟨key.1, key.2.trans (allOf_swap (mB x.lo x.hi) pairRw leftRw rightRw (tellsB x.mode 0) (tellsB x.mode 1) A (B ++ [b])).symm⟩
end Go.Proofs.YthfpipieboophaaGreatDoor

/- What all rows come til hangs not on their order; and it is what a walk over both sides tells. -/
namespace Go.Proofs.YthfpipieboophaaGreatDoor
open List
set_option maxRecDepth 100000
section
variable {α β : Type} (q : α → β → Bool) (P : α → β → O) (la : α → O) (lb : β → O) (ta tb : Bool)
def walkOf (A : List α) (B : List β) : List O :=
  (A.flatMap fun a => (B.filter (q a)).map (P a) ++ (if B.any (q a) = false ∧ ta = true then [la a] else [])) ++ (if tb = true then (B.filter fun b => !A.any fun a => q a b).map lb else [])
theorem walk_perm (A : List α) (B : List β) : walkOf q P la lb ta tb A B ~ allOf q P la lb ta tb A B := by
  unfold walkOf allOf
  rw [← append_assoc]
  refine Perm.append_right _ ((flatMap_append_perm _ _ A).trans (Perm.append_left _ (Perm.of_eq ?_)))
  induction A with
  | nil => cases ta <;> rfl
  | cons a r ih =>
    rw [flatMap_cons, ih]
    cases ta
    · simp
    · cases hb : B.any (q a)
      · simp [hb]
      · simp [hb]
end
theorem Holds.yet0 {x : J} {A B : List Rw} (h : Holds x A B) (y : D) (hy : y ∈ x.R0) : x.m1 < y.t + x.hi ∧ 0 ≤ y.n ∧ y.n ≤ B.length ∧ y.rw ∈ A := by
  obtain ⟨l, hl, rfl⟩ := mem_map.1 (h.r0.subset hy)
  rw [mem_filter] at hl
  have hc : B.countP (fun r => mB x.lo x.hi l r) ≤ B.length := countP_le_length
  refine ⟨of_decide_eq_true hl.2, ?_, ?_, hl.1⟩
  · show (0 : Int) ≤ ((B.countP (fun r => mB x.lo x.hi l r) : Nat) : Int); omega
  · show ((B.countP (fun r => mB x.lo x.hi l r) : Nat) : Int) ≤ _; omega
theorem Holds.yet1 {x : J} {A B : List Rw} (h : Holds x A B) (y : D) (hy : y ∈ x.R1) : x.m0 < y.t + -x.lo ∧ 0 ≤ y.n ∧ y.n ≤ A.length ∧ y.rw ∈ B := by
  obtain ⟨l, hl, rfl⟩ := mem_map.1 (h.r1.subset hy)
  rw [mem_filter] at hl
  have hc : A.countP (fun r => mB x.lo x.hi r l) ≤ A.length := countP_le_length
  refine ⟨of_decide_eq_true hl.2, ?_, ?_, hl.1⟩
  · show (0 : Int) ≤ ((A.countP (fun r => mB x.lo x.hi r l) : Nat) : Int); omega
  · show ((A.countP (fun r => mB x.lo x.hi r l) : Nat) : Int) ≤ _; omega
theorem Holds.new (lo hi mode m0 m1 late : Int) : Holds ⟨lo, hi, mode, m0, m1, late, [], []⟩ [] [] := ⟨Perm.refl _, Perm.refl _, Pairwise.nil, Pairwise.nil⟩
end Go.Proofs.YthfpipieboophaaGreatDoor

/- What an engine is told by: it hangs on its footprint; changes as they lie. For seats without package estuarykeep. -/
namespace Go.Proofs.YthfpipieboophaaGreatDoor
open Go.RowKit Go.Sort
set_option maxRecDepth 100000
def encRw (r : Rw) : List Value := [.int .i64 r.k, .int .i64 r.t, .int .i64 r.v]
def zRw : Value := .agg #[.int .i64 0, .int .i64 0, .int .i64 0]
theorem flatC_get (xs : List Ch) (k j : Nat) (x : Ch) (hx : xs[k]? = some x) (hj : j < 10) : (xs.flatMap encC)[k * 10 + j]? = (encC x)[j]? := by
  induction xs generalizing k with
  | nil => simp at hx
  | cons a r ih =>
    rw [List.flatMap_cons]
    cases k with
    | zero =>
      simp at hx
      subst hx
      rw [List.getElem?_append_left (by rw [encC_len]; omega)]
      congr 1; omega
    | succ k =>
      rw [List.getElem?_append_right (by rw [encC_len]; omega), encC_len, show (k + 1) * 10 + j - 10 = k * 10 + j by omega]
      exact ih k (by simpa using hx)
theorem ch_cells {W : World} {base gs n ck : Nat} {xs : List Ch} (h : W.ownsRow base 95 10 (.slice (some ⟨gs, 0, none⟩) n ck) n (xs.flatMap encC)) (k : Nat) (c : Ch) (hx : xs[k]? = some c) :
    W.cell? ⟨gs, k * 10, none⟩ = some (.int .i64 c.x.k) ∧ W.cell? ⟨gs, k * 10 + 1, none⟩ = some (.int .i64 c.x.lk) ∧ W.cell? ⟨gs, k * 10 + 2, none⟩ = some (.int .i64 c.x.lt) ∧ W.cell? ⟨gs, k * 10 + 3, none⟩ = some (.int .i64 c.x.lv) ∧ W.cell? ⟨gs, k * 10 + 4, none⟩ = some (.int .i64 c.x.rk) ∧ W.cell? ⟨gs, k * 10 + 5, none⟩ = some (.int .i64 c.x.rt) ∧ W.cell? ⟨gs, k * 10 + 6, none⟩ = some (.int .i64 c.x.rv) ∧ W.cell? ⟨gs, k * 10 + 7, none⟩ = some (.bool c.x.hl) ∧ W.cell? ⟨gs, k * 10 + 8, none⟩ = some (.bool c.x.hr) ∧ W.cell? ⟨gs, k * 10 + 9, none⟩ = some (.bool c.g) := by
  have key := fun (j : Nat) (v : Value) (hj : j < 10) (hv : (encC c)[j]? = some v) => h.cells (g := gs) rfl (k * 10 + j) v ((flatC_get xs k j c hx hj).trans hv)
  simp only [add_at] at key
  exact ⟨key 0 _ (by omega) rfl, key 1 _ (by omega) rfl, key 2 _ (by omega) rfl, key 3 _ (by omega) rfl, key 4 _ (by omega) rfl, key 5 _ (by omega) rfl, key 6 _ (by omega) rfl, key 7 _ (by omega) rfl, key 8 _ (by omega) rfl, key 9 _ (by omega) rfl⟩
theorem okC_at : ∀ (C : List Ch) (F : List O) (i : Nat) (c : Ch), okC F C → C[i]? = some c → c.g = true → c.x ∈ appC F (C.take i) ∧ (c.x.hl && c.x.hr) = false
  | [], _, i, c, _, h, _ => by simp at h
  | a :: C, F, 0, c, ho, h, hg => by
    simp at h
    subst h
    exact ho.1 hg
  | a :: C, F, i + 1, c, ho, h, hg => by
    rw [List.take_succ_cons, appC_cons]
    exact okC_at C _ i c ho.2 (by simpa using h) hg
theorem appC_take (C : List Ch) (F : List O) (i : Nat) (c : Ch) (h : C[i]? = some c) : appC F (C.take (i + 1)) = if c.g = true then (appC F (C.take i)).erase c.x else c.x :: appC F (C.take i) := by
  rw [List.take_add_one, h, appC_append]
  rfl
theorem appC_len : ∀ (C : List Ch) (F : List O), (appC F C).length ≤ F.length + C.length
  | [], F => Nat.le_refl _
  | c :: C, F => by
    rw [appC_cons]
    refine Nat.le_trans (appC_len C _) ?_
    split
    · have := List.length_erase_le (a := c.x) (l := F); simp; omega
    · simp; omega
def Steady (Eng : (Nat → Prop) → World → Prop) : Prop := ∀ S W W', Eng S W → W.heap.size ≤ W'.heap.size → (∀ k, S k → W'.heap[k]? = W.heap[k]?) → Eng S W'
end Go.Proofs.YthfpipieboophaaGreatDoor

/- An error is not none. -/
namespace Go.Proofs.YthfpipieboophaaGreatDoor
open Go.RowKit Go.Sort
set_option maxRecDepth 100000
theorem ne_err55 (k : Int) (w : World) : (binOp .neq 29 (.iface 24 (.int .i64 k)) .nilIface).run Tryz.prog w = .ok (.bool true) w := by kernel_rfl
end Go.Proofs.YthfpipieboophaaGreatDoor
