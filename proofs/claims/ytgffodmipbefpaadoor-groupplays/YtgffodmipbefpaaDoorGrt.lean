/- Package group: put, whatever is there. -/
import Derived.Test.YtgffodmipbefpaaDoorGrs
namespace Go.Proofs.YtgffodmipbefpaaDoor
open Go.RowKit Go.Sort
set_option maxRecDepth 100000

def putG (G : Int → Option Tl) (x : O) : Int → Option Tl := setG G x.k (some (putT ((G x.k).getD τ0) x))

/-- The blocks behind it: those that were, and new ones. -/
def More (S : Nat → Prop) (w w' : World) (j : Nat) : Prop := S j ∨ (w.heap.size ≤ j ∧ j < w'.heap.size)
theorem More.new {S : Nat → Prop} {w w' : World} {j : Nat} (h : More S w w' j) : S j ∨ w.heap.size ≤ j := h.imp id fun h => h.1

/-- Groups whose map is there, and one tally has turned. -/
theorem grp_set {w w' : World} {b o bm m m' n : Nat} {tal : Int → Nat × Nat} {G : Int → Option Tl} {D : DataW Value} {S : Nat → Prop} (hg : GAt w b o (some bm) tal m G) (h : GMap w b bm tal m G n D) (hS : ∀ j, foot b (some bm) tal G j → S j) (hlt : ∀ j, S j → j < w.heap.size)
    {k : Int} {τ τ' : Tl} (hk : G k = some τ) (hm : m ≤ m') (hT : TalAt w' (tal k).1 (tal k).2 m' τ') (hb : ∀ j, j < w.heap.size → j ≠ (tal k).1 → j ≠ (tal k).2 → w'.heap[j]? = w.heap[j]?)
    (hs : w.heap.size ≤ w'.heap.size) (h1 : w'.os = w.os) (h2 : w'.tape = w.tape) (h3 : w'.output = w.output) :
    Grp w' b o m' (More S w w') (setG G k (some τ')) ∧ Turn S b o w w' := by
  have hnb := h.nb k τ hk
  have hbb : w'.heap[b]? = w.heap[b]? := hb b hg.blt hnb.1.symm hnb.2.1.symm
  refine ⟨⟨some bm, tal, ⟨?_, .inr ⟨bm, n, D, rfl, h.set hk hm hT fun j hj _ => hb j hj⟩⟩, fun j hj => .inl (hS j ?_), fun j hj => ?_⟩, ⟨h1, h2, h3, hs, fun j hj hn => hb j hj (fun e => hn (hS j (.inr (.inr ⟨k, τ, hk, .inl e⟩)))) (fun e => hn (hS j (.inr (.inr ⟨k, τ, hk, .inr e⟩)))), fun cs T hc => ⟨cs, hbb.trans hc, rfl, fun _ _ => rfl⟩⟩⟩
  · obtain ⟨cs, T, k1, k2⟩ := hg.blk
    exact ⟨cs, T, hbb.trans k1, k2⟩
  · rcases hj with e | e | ⟨i, τi, hi, e⟩
    · exact .inl e
    · exact .inr (.inl e)
    · by_cases ei : i = k
      · rw [ei] at e; exact .inr (.inr ⟨k, τ, hk, e⟩)
      · rw [setG_other _ _ ei] at hi; exact .inr (.inr ⟨i, τi, hi, e⟩)
  · rcases hj with hj | hj
    · exact Nat.lt_of_lt_of_le (hlt j hj) hs
    · exact hj.2

/-- Groups where a tally has come. -/
theorem grp_new {w V w' : World} {b o bm m n : Nat} {tal : Int → Nat × Nat} {G : Int → Option Tl} {D : DataW Value} {S : Nat → Prop} {om : Option Nat} {x : O} (hS : ∀ j, foot b om tal G j → S j) (hlt : ∀ j, S j → j < w.heap.size)
    (hE : Ends V w' b bm m n tal G D x) (hV : w.heap.size ≤ V.heap.size) (hbm : om = some bm ∨ (w.heap.size ≤ bm ∧ bm < V.heap.size)) (hbb : ∃ cs T, w.heap[b]? = some (.cells cs T) ∧ o < cs.size ∧ V.heap[b]? = some (.cells (cs.setIfInBounds o (.map (some bm))) T))
    (hvb : ∀ j, j < w.heap.size → j ≠ b → V.heap[j]? = w.heap[j]?) (h1 : V.os = w.os) (h2 : V.tape = w.tape) (h3 : V.output = w.output) (hk : G x.k = none) :
    Grp w' b o (m + 1) (More S w w') (putG G x) ∧ Turn S b o w w' := by
  obtain ⟨hM, hblk, hsz, e1, e2, e3⟩ := hE
  obtain ⟨cs, T, c1, c2, c3⟩ := hbb
  have hbS : S b := hS b (.inl rfl)
  have hblt := hlt b hbS
  have hput : putG G x = setG G x.k (some (putT τ0 x)) := by unfold putG; rw [hk]; rfl
  have hbmb : bm ≠ b := hM.bmb
  have hb' : w'.heap[b]? = some (.cells (cs.setIfInBounds o (.map (some bm))) T) := (hblk b (by omega) hbmb.symm).trans c3
  rw [hput]
  have hlt' : ∀ j, foot b (some bm) (setTal tal x.k (V.heap.size + 1, V.heap.size)) (setG G x.k (some (putT τ0 x))) j → j ≠ b → j < w'.heap.size := fun j hj hne => hM.lt hj hne
  refine ⟨⟨some bm, _, ⟨⟨_, T, hb', by simp [c2]⟩, .inr ⟨bm, _, _, rfl, hM⟩⟩, fun j hj => ?_, fun j hj => ?_⟩, ⟨e1.trans h1, e2.trans h2, e3.trans h3, by omega, fun j hj hn => ?_, fun cs' T' hc' => ?_⟩⟩
  · have hj' := hj
    rcases hj with e | e | ⟨i, τi, hi, e⟩
    · exact .inl (by rw [e]; exact hbS)
    · injection e with e
      rcases hbm with hb | hb
      · exact .inl (hS j (.inr (.inl (by rw [hb, e]))))
      · exact .inr ⟨by omega, by omega⟩
    · by_cases ei : i = x.k
      · rw [ei] at e
        simp only [setTal, if_true] at e
        refine .inr ⟨by omega, hlt' j hj' (fun e' => ?_)⟩
        omega
      · rw [setG_other _ _ ei] at hi
        simp only [setTal, ei, if_false] at e
        exact .inl (hS j (.inr (.inr ⟨i, τi, hi, e⟩)))
  · rcases hj with hj | hj
    · have := hlt j hj; omega
    · exact hj.2
  · have n1 : j ≠ b := fun e => hn (by rw [e]; exact hbS)
    have n2 : j ≠ bm := fun e => by
      rcases hbm with hb | hb
      · exact hn (hS j (.inr (.inl (by rw [hb, e]))))
      · omega
    exact (hblk j (by omega) n2).trans (hvb j hj n1)
  · rw [c1] at hc'
    injection hc' with hc'
    injection hc' with k1 k2
    subst k1; subst k2
    exact ⟨_, hb', by simp, fun i hi => by simp [Ne.symm hi]⟩

theorem gput_any (b o m : Nat) (S : Nat → Prop) (G : Int → Option Tl) (w : World) (h : Grp w b o m S G) (x : O) (hx : x.wf) (hm : m < 100000000) :
    Calls Tryd.prog 59 #[.pointer (some ⟨b, o, none⟩), vO x] w fun e w' => e = .returned (.tuple #[]) ∧ Grp w' b o (m + 1) (More S w w') (putG G x) ∧ Turn S b o w w' := by
  obtain ⟨om, tal, hg, hS, hlt⟩ := h
  have hcell := hg.cell
  have hblt := hg.blt
  obtain ⟨cs, T, hb1, hb2⟩ := hg.blk
  have hosz : o < cs.size := (Array.getElem?_eq_some_iff.1 hb2).1
  rcases hg.map with ⟨rfl, rfl⟩ | ⟨bm, n, D, rfl, hM⟩
  · refine (put_nil b o m tal w hcell.1 hcell.2 hblt x hx hm).mono fun e w' ⟨h1, hE⟩ => ⟨h1, ?_⟩
    have hsz : (lookN w b o x).heap.size = w.heap.size + 2 := by simp [lookN]
    refine grp_new hS hlt hE (by omega) (.inr ⟨by omega, by omega⟩) ⟨cs, T, hb1, hosz, ?_⟩ (fun j hj hne => ?_) rfl rfl rfl rfl
    · refine (Below.heap_alloc _ _ _ (by simp; omega)).trans ((Below.heap_alloc _ _ _ (by simpa using hblt)).trans ?_)
      exact Go.Joins.block_setCell hb1 _
    · refine (Below.heap_alloc _ _ _ (by simp; omega)).trans ((Below.heap_alloc _ _ _ (by simpa using hj)).trans ?_)
      exact Below.heap_setCell _ _ _ _ hne
  · cases hk : G x.k with
    | none =>
      refine (put_new b o bm m n tal G D w hcell.1 hblt hM x hx hk hm).mono fun e w' ⟨h1, hE⟩ => ⟨h1, ?_⟩
      have hsz : (lookW w x).heap.size = w.heap.size + 1 := by simp [lookW]
      refine grp_new hS hlt hE (by omega) (.inl rfl) ⟨cs, T, hb1, hosz, ?_⟩ (fun j hj _ => Below.heap_alloc w _ j hj) rfl rfl rfl hk
      refine (Below.heap_alloc w _ b hblt).trans (hb1.trans ?_)
      have : cs.setIfInBounds o (.map (some bm)) = cs := by
        apply Array.ext_getElem?
        intro i
        by_cases ei : i = o
        · subst ei; rw [hb2]; simp [hosz]
        · simp [Ne.symm ei]
      rw [this]
    | some τ =>
      refine (put_there b o bm m n tal G D w hcell.1 hblt hM x hx τ hk hm).mono fun e w' ⟨h1, hE⟩ => ⟨h1, ?_⟩
      have hput : putG G x = setG G x.k (some (putT τ x)) := by unfold putG; rw [hk]; rfl
      rw [hput]
      have hT := hM.tals x.k τ hk
      have hne := hT.ne
      have htlt := hT.lt
      obtain ⟨p1, p2, p3, p4, p5, p6⟩ := putW_at τ x hT.blk
      obtain ⟨nr, Dr, hnr, hownr, hcr⟩ := hT.own
      have hlo := hT.lo
      have hhi := hT.hi
      have hlen := hT.len
      rcases hE with ⟨hr, rfl⟩ | ⟨hr, n', D', hn', hown', hc', hg'⟩
      · refine grp_set hg hM hS hlt hk (Nat.le_succ m) ⟨p1, ⟨nr, Dr, by omega, ownsMap_at hownr (p3 _ htlt.2 hne.symm), ?_⟩, by simp [putT], by simp [putT]; omega, ?_⟩ (fun j hj n1 _ => p3 j hj n1) (by omega) p4 p5 p6
        · simpa [putT, hr] using hcr
        · simp [putT, hr]; omega
      · have q : ∀ j, j < w.heap.size → j ≠ (tal x.k).2 → w'.heap[j]? = (putW w x (tal x.k).1 τ.c τ.s).heap[j]? := fun j hj n2 => hg'.block j (by show j < (putW w x (tal x.k).1 τ.c τ.s).heap.size; omega) (fun e => n2 (by injection e))
        have hs' : (putW w x (tal x.k).1 τ.c τ.s).heap.size ≤ w'.heap.size := hg'.size
        refine grp_set hg hM hS hlt hk (Nat.le_succ m) ⟨(q _ htlt.1 hne).trans p1, ⟨n', D', hn', hown', ?_⟩, by simp [putT], by simp [putT]; omega, ?_⟩ (fun j hj n1 n2 => (q j hj n2).trans (p3 j hj n1)) (by omega) (hg'.os.trans p4) (hg'.tape.trans p5) (hg'.output.trans p6)
        · simpa [putT, hr] using hc'
        · simp [putT, hr]; omega

end Go.Proofs.YtgffodmipbefpaaDoor
