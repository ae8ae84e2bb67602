/- Whether a view is what it should be (estuarykeep.right). -/
import Derived.Test.YtmmbjbgimpgcfaaGreatDoorBagz
import Derived.Maps.RangeWalk
namespace Go.Proofs.YtmmbjbgimpgcfaaGreatDoor
open Go.RowKit Go.Sort
set_option maxRecDepth 100000

theorem own_map_kept {w w' : World} {bm n : Nat} {D : DataW Unit} (h : w.ownsMap Tryz.prog 50 (plainElem (H := Unit) Tryz.prog 3) bm n D) (hb : w'.heap[bm]? = w.heap[bm]?) : w'.ownsMap Tryz.prog 50 (plainElem (H := Unit) Tryz.prog 3) bm n D := by
  obtain ⟨es, c, h1, h2⟩ := h
  exact ⟨es, c, hb.trans h1, h2⟩

/-- The map tells how many there are of each of L; of others it may tell none. -/
structure Cn0 (D : DataW Unit) (L : List O) : Prop where
  isMap : Maps.IsMap D
  wf : ∀ x ∈ L, x.wf
  at_ : ∀ x, x.wf → D.atKey (kL x) (i64 0) = i64 (L.count x)
  sup : ∀ x ∈ L, Maps.has D (kL x) = true
theorem Cnt.cn0 {D : DataW Unit} {L : List O} (h : Cnt D L) : Cn0 D L := ⟨h.isMap, h.wf, h.at_, fun x hx => by rw [h.has x (h.wf x hx)]; simpa using hx⟩
theorem Cn0.put {D : DataW Unit} {L L' : List O} (h : Cn0 D L) (x : O) (hx : x.wf) (c : Nat) (hc : L'.count x = c) (ho : ∀ y, y ≠ x → L'.count y = L.count y) (hL : ∀ y ∈ L', y = x ∨ y ∈ L) : Cn0 (D.put (kL x) (i64 c)) L' := by
  refine ⟨h.isMap.put _ _, fun y hy => ?_, fun y hy => ?_, fun y hy => ?_⟩
  · rcases hL y hy with rfl | hy
    · exact hx
    · exact h.wf y hy
  · by_cases e : y = x
    · subst e; rw [Maps.atKey_put_same h.isMap (isKey y hy), hc]
    · rw [Maps.atKey_put_other (kL_ne hy hx e), h.at_ y hy, ho y e]
  · by_cases e : y = x
    · subst e; exact Maps.has_put_same h.isMap (isKey y hx) _
    · rcases hL y hy with rfl | hy
      · exact absurd rfl e
      · rw [Maps.has_put_other (kL_ne (h.wf y hy) hx e)]; exact h.sup y hy
/-- 'm[x]'. -/
theorem look0 {W : World} {bm n : Nat} {D : DataW Unit} {L : List O} (hown : W.ownsMap Tryz.prog 50 (plainElem (H := Unit) Tryz.prog 3) bm n D) (hc : Cn0 D L) (x : O) (hx : x.wf) :
    (Instr.lookup 36 (.map (some bm)) (vO x) false).run Tryz.prog W = .ok (.int .i64 (L.count x)) W := by
  obtain ⟨c, hrun, hat, _⟩ := hown.lookup_int keyed Tryz.underlying36 Tryz.underlying3 (zero3 _) (key_of x hx)
  rw [hc.at_ x hx] at hat
  injection hat with h1; injection h1 with _ h2
  rw [hrun, h2]

theorem count_split (W : List O) (p : O → Bool) (x : O) (hp : p x = true) : W.countP (fun y => p y && !decide (y = x)) + W.count x = W.countP p := by
  induction W with
  | nil => rfl
  | cons a r ih =>
    rw [List.countP_cons, List.countP_cons, List.count_cons]
    by_cases e : a = x
    · subst e
      simp [hp]
      omega
    · have e2 : (a == x) = false := by simp [e]
      simp [e, e2]
      omega

/-- The first i are counted. -/
structure Gt (w : World) (Z : List O) (i : Nat) (wr : World) : Prop where
  low : Below w.heap.size w wr
  map : ∃ n D, n ≤ i ∧ wr.ownsMap Tryz.prog 50 (plainElem (H := Unit) Tryz.prog 3) w.heap.size n D ∧ Cnt D (Z.take i).reverse

theorem Gt.start (w : World) (Z : List O) : Gt w Z 0 (w.alloc (.map #[] 0)) :=
  ⟨Go.Joins.below_alloc1 _ _, 0, .map [], Nat.le_refl _, World.ownsMap_made (H := Unit) w Tryz.prog 50 (plainElem Tryz.prog 3), by simpa using cnt_nil⟩

/-- What one round of the range needs to know. -/
structure Rg (w : World) (bm nn : Nat) (D : DataW Unit) (Z : List O) (r : Nat) (left : Lit → Bool) (cnt : Nat) (wr : World) : Prop where
  rng : wr.ranges Tryz.prog 50 (plainElem (H := Unit) Tryz.prog 3) bm r nn D left cnt
  low : Below w.heap.size w wr
  map : ∃ n D, wr.ownsMap Tryz.prog 50 (plainElem (H := Unit) Tryz.prog 3) w.heap.size n D ∧ Cnt D Z.reverse
  gr : w.heap.size < r

set_option maxHeartbeats 4000000 in
theorem right_true (base : Nat) (oa : Option Addr) (ck : Nat) (Z : List O) (bm nn : Nat) (D : DataW Unit) (V : List O) (w : World) (hZ : w.ownsRow base 50 9 (.slice oa Z.length ck) Z.length (Z.flatMap encO)) (hwf : ∀ x ∈ Z, x.wf)
    (hown : w.ownsMap Tryz.prog 50 (plainElem (H := Unit) Tryz.prog 3) bm nn D) (hc : Cn0 D V) (hp : Z.Perm V) (hl : Z.length ≤ 1000000) :
    Calls Tryz.prog 11 #[.slice oa Z.length ck, .map (some bm)] w fun e w' => e = .returned (.bool true) ∧ Below w.heap.size w w' := by
  have HZ : Hid (w.ownsRow base 50 9 (.slice oa Z.length ck) Z.length (Z.flatMap encO)) := hZ
  have HW : Hid (∀ x ∈ Z, x.wf) := hwf
  have HM : Hid (w.ownsMap Tryz.prog 50 (plainElem (H := Unit) Tryz.prog 3) bm nn D ∧ Cn0 D V ∧ Z.Perm V) := ⟨hown, hc, hp⟩
  have hmm := @run_makeMap Tryz.prog
  have G0 : Hid (Gt w Z 0 (w.alloc (.map #[] 0))) := Gt.start w Z
  have i1 : (Z.length : Int) ≤ 1000000 := by omega
  clear hZ hwf hown hc hp
  go_enter Tryz.func11, Tryz.ntmps11
  go_wp2
  clear hmm
  revert G0
  generalize w.alloc (.map #[] 0) = w0
  intro G0
  go_loopg [7] Z.length (fun gg s7 wr => ∃ i : Nat, i ≤ Z.length ∧ gg = Z.length - i ∧ s7 = .int .i64 i ∧ Hid (Gt w Z i wr))
  case atStart => exact ⟨0, Nat.zero_le _, rfl, rfl, G0⟩
  case round =>
    obtain ⟨i, hi, hg, rfl, I⟩ := hrel
    have HG : Hid (gk = Z.length - i) := hg
    clear hg G0
    by_cases hlt : i < Z.length
    · obtain ⟨x, hx⟩ : ∃ x, Z[i]? = some x := ⟨_, List.getElem?_eq_getElem hlt⟩
      obtain ⟨gs, ck', eoa⟩ := Go.Joins.ownsRow_form HZ.out (show 0 < Z.length by omega)
      cases eoa
      have hcx := ks_cells (kept_below HZ.out I.out.low) i x hx
      have hxw := HW.out x (List.mem_of_getElem? hx)
      obtain ⟨n', D', hn', hown', hcn'⟩ := I.out.map
      have hcle : (Z.take i).reverse.count x ≤ (Z.take i).reverse.length := List.count_le_length
      have hlen : (Z.take i).reverse.length ≤ 1000000 := by rw [List.length_reverse, List.length_take]; omega
      have hrun := look hown'.drew hcn' x hxw
      obtain ⟨v0, st, W1, W2, he1, he2, hown2, hgr⟩ := entry hown'.drew (by omega) x hxw ((Z.take i).reverse.count x + 1 : Nat) (wf_nat _ (by omega))
      have hrun1 := look_entry hown'.drew hcn' (by omega) x hxw he1
      have G2 : Hid (Gt w Z (i + 1) W2) := (show Gt w Z (i + 1) W2 from ⟨(I.out.low.drew).grown hgr I.out.low.size (fun k e => by cases e; exact Nat.le_refl _), n' + 1, _, by omega, hown2, by
        have e : (Z.take (i + 1)).reverse = x :: (Z.take i).reverse := by rw [List.take_add_one, hx]; simp
        rw [e]
        exact hcn'.put x hxw⟩)
      have e1 : (((Z.take i).reverse.count x + 1 : Nat) : Int) = ((Z.take i).reverse.count x : Int) + 1 := by omega
      rw [e1] at he2
      have hle' : ((Z.take i).reverse.count x : Int) ≤ 1000000 := by omega
      have hle0 : (0 : Int) ≤ ((Z.take i).reverse.count x : Int) := by omega
      generalize ((Z.take i).reverse.count x : Int) = cc at *
      have j1 : (0 : Int) ≤ (i : Int) := by omega
      have j2 : (i : Int) < (Z.length : Int) := by omega
      simp only [vO] at hrun hrun1 he1 he2
      clear hx hxw hn' hown' hcn' hcle hlen hown2 hgr e1
      go_wp2
      go_region
      all_goals (try go_wp2)
      all_goals go_roundg (Z.length - (i + 1))
      all_goals first
        | (have := HG.out; omega)
        | exact ⟨i + 1, by omega, rfl, by first | rfl | (congr 1; omega) | go_num, G2⟩
    · have j2 : ¬ ((i : Int) < (Z.length : Int)) := by omega
      have hie : Z.take i = Z := List.take_of_length_le (by omega)
      have IG : Hid (Below w.heap.size w wr ∧ ∃ n D, wr.ownsMap Tryz.prog 50 (plainElem (H := Unit) Tryz.prog 3) w.heap.size n D ∧ Cnt D Z.reverse) := by
        obtain ⟨n', D', hn', hown', hcn'⟩ := I.out.map
        rw [hie] at hcn'
        exact ⟨I.out.low, n', D', hown', hcn'⟩
      have hownR : wr.ownsMap Tryz.prog 50 (plainElem (H := Unit) Tryz.prog 3) bm nn D := own_map_kept HM.out.1 (I.out.low.block _ HM.out.1.lt)
      clear I hie
      go_wp2_with (first
        | (at_range; refine wpList_range_own _ rfl _ 36 rfl 50 3 keyed Tryz.underlying36 _ bm nn D rfl hownR ?_; intro w2 hrg0 hg0 hs0)
        | fail)
      (try go_frame)
      have R0 : Hid (Rg w bm nn D Z wr.heap.size (Maps.has D) (Maps.size D) w2) := (show Rg w bm nn D Z wr.heap.size (Maps.has D) (Maps.size D) w2 from ⟨hrg0, IG.out.1.trans ⟨hg0.os, hg0.tape, hg0.output, hg0.size, fun k hk => hg0.block k (Nat.lt_of_lt_of_le hk IG.out.1.size) (by simp)⟩, by
        obtain ⟨n', D', hown', hcn'⟩ := IG.out.2
        exact ⟨n', D', own_map_kept hown' (hg0.block _ hown'.lt (by simp)), hcn'⟩, by
        obtain ⟨n', D', hown', hcn'⟩ := IG.out.2
        exact hown'.lt⟩)
      have HV : Hid ((0 : Nat) + V.countP (fun y => Maps.has D (kL y)) = V.length) := by
        show 0 + V.countP (fun y => Maps.has D (kL y)) = V.length
        rw [Nat.zero_add, List.countP_eq_length]
        intro y hy
        exact HM.out.2.1.sup y hy
      have hvl : V.length = Z.length := HM.out.2.2.length_eq.symm
      have HVL : Hid (V.length = Z.length) := hvl
      clear hrg0 hg0 hs0 hownR IG hvl
      generalize wr.heap.size = r at *
      go_loopg [5] (Maps.size D) (fun gg v5 wz => ∃ (m : Nat) (left : Lit → Bool), v5 = .int .i64 m ∧ m ≤ 1000000 ∧ Hid (Rg w bm nn D Z r left gg wz ∧ m + V.countP (fun y => left (kL y)) = V.length))
      case atStart => exact ⟨0, _, rfl, Nat.zero_le _, R0.out, HV.out⟩
      case round =>
        obtain ⟨m, left, rfl, hm6, J⟩ := hrel
        have k1 : (m : Int) ≤ 1000000 := by omega
        have k0 : (0 : Int) ≤ (m : Int) := by omega
        clear R0 HV
        go_wp2_with (first
          | (at_next; refine wpList_next_ranges _ rfl _ rfl 50 keyed (plainElem (H := Unit) Tryz.prog 3) vO id (fun key kl hk => by obtain ⟨x, _, hx⟩ := key_inv hk; exact ⟨x, hx⟩) (fun v _ _ => ⟨v, rfl⟩) bm r nn _ _ _ rfl J.out.1.rng ?_ ?_)
          | fail)
        · intro hc0 hl0
          have hm : m = Z.length := by
            have h1 := J.out.2
            have h2 : V.countP (fun y => left (kL y)) = 0 := List.countP_eq_zero.2 (fun y _ => by rw [hl0]; simp)
            have := HVL.out
            omega
          subst hm
          clear hc0 hl0
          go_wp2
          go_ret
          exact ⟨rfl, J.out.1.low⟩
        · intro x c kl yd yp w3 cnt3 hkey hlk hv hat hrg3 hlt3 hg3 hs3 hen
          obtain ⟨x', hxw, ex⟩ := key_inv hkey
          obtain rfl := vO_inj ex
          obtain rfl : kl = kL x := Option.some.inj (hkey.symm.trans (key_of x hxw))
          obtain ⟨a, rfl, hyd, haw⟩ := plainElem_int_inv Tryz.underlying3 hv
          cases hyd
          have ha : a = (V.count x : Int) := by
            have h1 := (HM.out.2.1.at_ x hxw).symm.trans (hat (i64 0))
            injection h1 with h2; injection h2 with _ h3
            exact h3.symm
          have hcs := count_split V (fun y => left (kL y)) x hlk
          have hsame : V.countP (fun y => (fun z : Lit => left z && !z.sameKey (kL x)) (kL y)) = V.countP (fun y => left (kL y) && !decide (y = x)) := by
            apply List.countP_congr
            intro y hy
            have hyw := HM.out.2.1.wf y hy
            by_cases e : y = x
            · subst e
              simp [WideAt.sameKey_self (isKey y hyw)]
            · simp [e, Maps.sameKey_ne (kL_ne hyw hxw e)]
          have hgw : w.heap.size ≠ r := Nat.ne_of_lt J.out.1.gr
          have R3 : Hid (Rg w bm nn D Z r (fun z => left z && !z.sameKey (kL x)) cnt3 (w3.alloc (.cells (encO x).toArray 50)) ∧ (m + V.count x) + V.countP (fun y => (fun z : Lit => left z && !z.sameKey (kL x)) (kL y)) = V.length) := by
            refine ⟨⟨hrg3.alloc _, ?_, ?_, J.out.1.gr⟩, ?_⟩
            · exact (J.out.1.low.grown hg3 J.out.1.low.size (fun k e => by cases e; exact Nat.le_of_lt J.out.1.gr)).alloc (Nat.le_trans J.out.1.low.size hg3.size) _
            · obtain ⟨n', D', hown', hcn'⟩ := J.out.1.map
              refine ⟨n', D', ?_, hcn'⟩
              exact (own_map_kept hown' (hg3.block _ hown'.lt (by simp; exact hgw))).alloc _
            · have := J.out.2
              rw [hsame]
              omega
          have hrunL : (Instr.lookup 36 (.map (some w.heap.size)) (vO x) false).run Tryz.prog (w3.alloc (.cells (encO x).toArray 50)) = .ok (.int .i64 a) (w3.alloc (.cells (encO x).toArray 50)) := by
            obtain ⟨n', D', hown', hcn'⟩ := R3.out.1.map
            have h1 := look hown' hcn' x hxw
            rw [List.count_reverse, HM.out.2.2.count_eq x, ← ha] at h1
            exact h1
          have hcv : V.count x ≤ V.length := List.count_le_length
          have k2 : 0 ≤ a := by omega
          have k3 : a ≤ 1000000 := by have := HVL.out; omega
          have HA : Hid (a = (V.count x : Int)) := ha
          have HL3 : Hid (cnt3 < gk) := hlt3
          simp only [vO, encO] at hrunL hen R3
          clear ha hcv hsame hcs hlk hv hat hrg3 hlt3 hg3 hs3 hkey ex haw hxw hgw hm6

          go_wp2
          go_roundg cnt3
          case measure => exact HL3.out
          case rel =>
            have h5 := R3.out.2
            have h6 := HVL.out
            refine ⟨m + V.count x, _, ?_, by omega, R3.out⟩
            first
              | rfl
              | (congr 1; have := HA.out; omega)

end Go.Proofs.YtmmbjbgimpgcfaaGreatDoor
