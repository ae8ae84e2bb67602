/- BagPlays: the program's bag and the document's side by side. -/
import Derived.Test.YtfldfnphidehlaaDoorRefs
import Derived.Shelf.SlSortCmp.NoneTotal
import Derived.BigQuiet
namespace Go.Proofs.YtfldfnphidehlaaDoor
open Go.Shelf Go.RowKit Go.Lib
set_option maxRecDepth 100000

theorem nil_says : NilSays := fun w =>
  (AnyF.slices_SortFunc_none { Tryd.sortO with } none 0 (.func (.func 24) #[] #[]) w).mono fun _ _ h => h

theorem bag_all (b m : Nat) (om : Option Nat) (L : List O) (w : World) (h : BagAt w b om m L) (hm : m ≤ 100000000) (hL : L.length ≤ 1000000) :
    Calls Tryd.prog 12 #[.pointer (some ⟨b, 0, none⟩)] w fun e w' => ∃ v Z, e = .returned v ∧ Z.Perm L ∧ InOrder Z ∧ w'.ownsRow w.heap.size 37 9 v Z.length (Z.flatMap encO) ∧ Below w.heap.size w w' :=
  all_any (sorted_says nil_says) b m om L w h hm hL

theorem order_eq {Z Z' : List O} (h : Z.Perm Z') (h1 : InOrder Z) (h2 : InOrder Z') : Z = Z' := by
  refine List.Perm.eq_of_pairwise (le := fun a b => cO a b ≤ 0) (fun a b _ _ h3 h4 => ?_) h1 h2 h
  rw [cO_neg] at h4
  exact (cO_zero a b).1 (by omega)

/-- Both bags in the call's own memory (from block w.heap.size on). -/
structure Both (w : World) (ba br : Nat) (om : Option Nat) (m : Nat) (L : List O) (v : Value) (M : List O) (W : World) : Prop where
  below : Below w.heap.size w W
  bag : BagAt W ba om m L
  ref : RefAt W w.heap.size br v M
  abase : w.heap.size ≤ ba
  rbase : w.heap.size ≤ br
  mbase : ∀ k, om = some k → w.heap.size ≤ k
  ne : ba ≠ br

theorem Both.not_map {w W : World} {ba br m : Nat} {om : Option Nat} {L M : List O} {v : Value} (h : Both w ba br om m L v M W) : om ≠ some br := by
  intro e
  rcases h.bag.map with ⟨h1, _⟩ | ⟨bm, n, D, h1, _, hown, _⟩
  · rw [h1] at e; cases e
  · rw [h1] at e; cases e
    obtain ⟨es, cl, hh, _⟩ := hown
    rw [h.ref.blk] at hh; cases hh
theorem Both.not_bag {w W : World} {ba br m : Nat} {om : Option Nat} {L M : List O} {v : Value} (h : Both w ba br om m L v M W) : v.ownBlock ≠ some ba := by
  rcases h.ref.row.2 with ⟨rfl, _⟩ | ⟨g, cap, cur, rfl, hb, hg, _⟩
  · simp [Value.ownBlock]
  · intro e
    simp [Value.ownBlock] at e
    subst e
    rw [h.bag.blk] at hg
    cases hg
theorem Both.not_own {w W : World} {ba br m : Nat} {om : Option Nat} {L M : List O} {v : Value} (h : Both w ba br om m L v M W) (k : Nat) (hk : om = some k) : v.ownBlock ≠ some k := by
  rcases h.ref.row.2 with ⟨rfl, _⟩ | ⟨g, cap, cur, rfl, hb, hg, _⟩
  · simp [Value.ownBlock]
  · intro e
    simp [Value.ownBlock] at e
    subst e
    rcases h.bag.map with ⟨h1, _⟩ | ⟨bm, n, D, h1, _, hown, _⟩
    · rw [h1] at hk; cases hk
    · rw [h1] at hk; cases hk
      obtain ⟨es, cl, hh, _⟩ := hown
      rw [hg] at hh; cases hh

theorem Both.by_below {w W W' : World} {ba br m : Nat} {om : Option Nat} {L M : List O} {v : Value} (h : Both w ba br om m L v M W) (hb : Below W.heap.size W W') : Both w ba br om m L v M W' :=
  ⟨h.below.trans (hb.mono h.below.size), h.bag.below hb, h.ref.below hb, h.abase, h.rbase, h.mbase, h.ne⟩
theorem Both.drew {w W : World} {ba br m : Nat} {om : Option Nat} {L M : List O} {v : Value} (h : Both w ba br om m L v M W) : Both w ba br om m L v M W.drew := h.by_below (Below.refl _ _).drew

theorem Both.stepA {w W W' : World} {ba br m m' : Nat} {om om' : Option Nat} {L L' M : List O} {v : Value} (h : Both w ba br om m L v M W) (hb : BagAt W' ba om' m' L') (hk : Keep ba om W W') (hm : Moves W om om') : Both w ba br om' m' L' v M W' := by
  have hs := h.below.size
  refine ⟨h.below.trans (hk.below hs h.abase h.mbase), hb, ⟨(hk.block br h.ref.lt (Ne.symm h.ne) h.not_map).trans h.ref.blk, h.ref.row.1, ?_⟩, h.abase, h.rbase, fun k e => ?_, h.ne⟩
  · rcases h.ref.row.2 with hn | ⟨g, cap, cur, rfl, hbg, hg, rest⟩
    · exact .inl hn
    · refine .inr ⟨g, cap, cur, rfl, hbg, (hk.block g (Array.getElem?_eq_some_iff.1 hg).1 (fun e => h.not_bag (by rw [← e]; rfl)) (fun e => h.not_own g e rfl)).trans hg, rest⟩
  · rcases hm with rfl | ⟨j, rfl, hj⟩
    · exact h.mbase k e
    · cases e; omega
theorem Both.stepR {w W W' : World} {ba br m : Nat} {om : Option Nat} {L M M' : List O} {v v' : Value} (h : Both w ba br om m L v M W) (hr : RefAt W' w.heap.size br v' M') (hk : Keep br v.ownBlock W W') : Both w ba br om m L v' M' W' :=
  ⟨h.below.trans (hk.below h.below.size h.rbase (fun k e => (h.ref.row.lt k e).1)), h.bag.kept (hk.block ba h.bag.lt h.ne h.not_bag) (fun k e => hk.block k (h.bag.ne e).2 (fun e' => h.not_map (by rw [e, e'])) (h.not_own k e)), hr, h.abase, h.rbase, h.mbase, h.ne⟩

def nextL (gone : Bool) (x : O) (L : List O) : List O := if gone = true then L.erase x else x :: L
def nextM (gone : Bool) (x : O) (M : List O) : List O := if gone = true then M.erase x else M ++ [x]
def appE (gone : Bool) (x : O) (L : List O) : Int := if gone = true ∧ x ∉ L then 8 else 0

theorem next_perm (gone : Bool) (x : O) {L M : List O} (h : L.Perm M) : (nextL gone x L).Perm (nextM gone x M) := by
  unfold nextL nextM
  cases gone
  · simp; exact (List.perm_append_singleton x L).symm.trans (h.append_right [x])
  · simp; exact h.erase x
theorem appE_perm (gone : Bool) (x : O) {L M : List O} (h : L.Perm M) : appE gone x M = appE gone x L := by
  simp only [appE, h.mem_iff]
theorem next_len (gone : Bool) (x : O) (L : List O) : (nextL gone x L).length ≤ L.length + 1 := by
  unfold nextL
  cases gone
  · simp
  · simp; have := List.length_erase_le (a := x) (l := L); omega

theorem bag_apply {w W : World} {ba br m : Nat} {om : Option Nat} {L M : List O} {v : Value} (h : Both w ba br om m L v M W) (x : O) (hx : x.wf) (gone : Bool) (hm : m < 1000) (hL : L.length < 1000) :
    Calls Tryd.prog 6 #[.pointer (some ⟨ba, 0, none⟩), vC x gone] W fun e W' => e = .returned (errV (appE gone x L)) ∧ ∃ om', Both w ba br om' (m + 1) (nextL gone x L) v M W' := by
  cases gone
  · refine (apply_put ba m om L W h.bag x hx (by omega) (by omega)).mono ?_
    rintro e W' ⟨rfl, om', h1, h2, h3⟩
    exact ⟨by simp [appE, errV], om', h.stepA (by simpa [nextL] using h1) h2 h3⟩
  · by_cases hmem : x ∈ L
    · refine (apply_take ba m om L W h.bag x hx hmem (by omega) (by omega)).mono ?_
      rintro e W' ⟨rfl, h1, h2⟩
      exact ⟨by simp [appE, errV, hmem], om, h.stepA (by simpa [nextL] using h1) h2 (.inl rfl)⟩
    · refine (apply_none ba m om L W h.bag x hx hmem).mono ?_
      rintro e W' ⟨rfl, h1⟩
      refine ⟨by simp [appE, errV, hmem], om, ?_⟩
      have h4 := h.by_below h1
      have e1 : nextL true x L = L := by simp [nextL, List.erase_of_not_mem hmem]
      rw [e1]
      exact ⟨h4.below, h4.bag.mono (by omega), h4.ref, h4.abase, h4.rbase, h4.mbase, h4.ne⟩

theorem ref_form {w : World} {base b : Nat} {v : Value} {M : List O} (h : RefAt w base b v M) : ∃ oa c, v = .slice oa M.length c := by
  rcases h.row.2 with ⟨rfl, h0⟩ | ⟨g, cap, cur, rfl, _⟩
  · exact ⟨none, 0, by rw [h0]⟩
  · exact ⟨_, _, rfl⟩

theorem ref_apply {w W : World} {ba br m : Nat} {om : Option Nat} {L M : List O} {v : Value} (h : Both w ba br om m L v M W) (x : O) (gone : Bool) (hM : M.length ≤ 1000) (n : Nat) (hn : (nextM gone x M).length = n) :
    Calls Tryd.prog 7 #[.pointer (some ⟨br, 0, none⟩), vC x gone] W fun e W' => e = .returned (.int .i64 (appE gone x M)) ∧ ∃ oa c, Both w ba br om m L (.slice oa n c) (nextM gone x M) W' := by
  have hb : w.heap.size ≤ W.heap.size := h.below.size
  have fin : ∀ v' W', Both w ba br om m L v' (nextM gone x M) W' → ∃ oa c, Both w ba br om m L (.slice oa n c) (nextM gone x M) W' := fun v' W' hB => by
    obtain ⟨oa, c, rfl⟩ := ref_form hB.ref
    exact ⟨oa, c, by rw [← hn]; exact hB⟩
  cases gone
  · refine (rput_any w.heap.size br v M W h.ref x hM hb).mono ?_
    rintro e W' ⟨rfl, v', h1, h2, _⟩
    exact ⟨by simp [appE], fin v' W' (h.stepR (by simpa [nextM] using h1) h2)⟩
  · by_cases hmem : x ∈ M
    · refine (rtake_any w.heap.size br v M W h.ref x hM hb hmem).mono ?_
      rintro e W' ⟨rfl, v', h1, h2, _⟩
      exact ⟨by simp [appE, hmem], fin v' W' (h.stepR (by simpa [nextM] using h1) h2)⟩
    · refine (rnone_any w.heap.size br v M W h.ref x hM hmem).mono ?_
      rintro e W' ⟨rfl, h1⟩
      refine ⟨by simp [appE, hmem], fin v W' ?_⟩
      have e1 : nextM true x M = M := by simp [nextM, List.erase_of_not_mem hmem]
      rw [e1]; exact h.by_below h1

theorem neq_out (x : O) (w : World) : (binOp .neq 37 (vO x) (vO x)).run Tryd.prog w = .ok (.bool false) w := by
  unfold vO; go_simp

set_option maxHeartbeats 1000000 in
theorem same_outs (v1 v2 : Value) (Z : List O) (b1 b2 : Nat) (w : World) (h1 : w.ownsRow b1 37 9 v1 Z.length (Z.flatMap encO)) (h2 : w.ownsRow b2 37 9 v2 Z.length (Z.flatMap encO)) (hZ : Z.length ≤ 1000) :
    Calls Tryd.prog 11 #[v1, v2] w fun e w' => e = .returned (.bool true) ∧ Below w.heap.size w w' := by
  by_cases hz0 : Z.length = 0
  · rw [hz0] at h1 h2
    rcases Go.Joins.ownsRow_forms h1 with ⟨rfl, _⟩ | ⟨ga, ca, rfl⟩ <;> rcases Go.Joins.ownsRow_forms h2 with ⟨rfl, _⟩ | ⟨gb, cb, rfl⟩
    all_goals
      clear h1 h2
      go_enter Tryd.func11, Tryd.ntmps11
      go_wp2
      refine wp_loop_rounds 1 ?_
      rw [rounds_succ]
      go_wp2
      go_ret
      exact ⟨rfl, Below.refl _ _⟩
  · obtain ⟨ga, ca, rfl⟩ := Go.Joins.ownsRow_form h1 (by omega)
    obtain ⟨gb, cb, rfl⟩ := Go.Joins.ownsRow_form h2 (by omega)
    have HRa : Hid (w.ownsRow b1 37 9 (.slice (some ⟨ga, 0, none⟩) Z.length ca) Z.length (Z.flatMap encO)) := h1
    have HRb : Hid (w.ownsRow b2 37 9 (.slice (some ⟨gb, 0, none⟩) Z.length cb) Z.length (Z.flatMap encO)) := h2
    clear h1 h2
    go_enter Tryd.func11, Tryd.ntmps11
    go_wp2
    go_loopg [5] Z.length (fun g i wr => ∃ i' : Nat, i' ≤ Z.length ∧ g = Z.length - i' ∧ i = .int .i64 i' ∧ Below w.heap.size w wr)
    case atStart => exact ⟨0, Nat.zero_le _, rfl, rfl, Below.refl _ _⟩
    case round =>
      obtain ⟨i', hi', hgi, rfl, hBr⟩ := hrel
      have HGi : Hid (gk = Z.length - i') := hgi
      have HBr : Hid (Below w.heap.size w wr) := hBr
      clear hgi
      by_cases hlt : i' < Z.length
      · obtain ⟨z, hz⟩ : ∃ z, Z[i']? = some z := ⟨_, List.getElem?_eq_getElem hlt⟩
        have hca := ks_cells (kept_below HRa.out hBr) i' z hz
        have hcb := ks_cells (kept_below HRb.out hBr) i' z hz
        have hnq := neq_out z
        simp only [vO] at hnq
        have i1 : (0 : Int) ≤ (i' : Int) := by omega
        have i2 : (i' : Int) < (Z.length : Int) := by omega
        clear hBr hz
        go_wp2
        go_region
        all_goals (try go_wp2)
        all_goals go_roundg (Z.length - (i' + 1))
        all_goals first
          | exact ⟨i' + 1, by omega, rfl, by go_num, HBr.out.drew⟩
          | (have := HGi.out; omega)
      · have e4 : i' = Z.length := by omega
        have hge4 : ¬ ((i' : Int) < (Z.length : Int)) := by omega
        clear hBr
        go_wp2
        go_ret
        exact ⟨rfl, HBr.out⟩

end Go.Proofs.YtfldfnphidehlaaDoor
