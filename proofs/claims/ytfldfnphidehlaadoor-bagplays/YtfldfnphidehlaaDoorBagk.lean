/- maps.Keys of a bag's map: each Out once, in some order. -/
import Derived.Test.YtfldfnphidehlaaDoorKinv
import Derived.Test.YtfldfnphidehlaaDoorBagm
import Derived.RangeFuncNested
import Derived.RangeFuncBound
import Derived.RangeFuncCalls
import Derived.RangeFuncLeaves
import Derived.RangeFuncStops
import Derived.Shelf.Abstract
import Derived.Shelf.RegionOpen
import Derived.Sort.MapsRangeIn
import Derived.WalkKit
import Derived.OwnWalkIn
import Derived.TacticsInMore
import Derived.RegionIn
import Derived.LoopNIn
import Derived.LoopIn
namespace Go.Proofs.YtfldfnphidehlaaDoor
open Go.RowKit Go.Maps Go.Sort Go.Shelf
set_option maxRecDepth 100000

/-- Just those that are there and no longer to come have come, each once. -/
def Came (L : List O) (left : Lit → Bool) (xs : List O) : Prop := xs.Nodup ∧ ∀ x, x ∈ xs ↔ x ∈ L ∧ left (kL x) = false

theorem Came.start {D : DataW Unit} {L : List O} (hc : Cnt D L) : Came L (Maps.has D) [] :=
  ⟨List.nodup_nil, fun x => ⟨(fun h => by cases h), (fun ⟨h1, h2⟩ => by
    have h3 := (hc.has x (hc.wf x h1)).symm.trans h2
    simp [h1] at h3)⟩⟩
theorem Came.step {D : DataW Unit} {L : List O} (hc : Cnt D L) {left : Lit → Bool} {xs : List O} (h : Came L left xs) {x : O} (hx : x.wf) (hm : x ∈ L) (hl : left (kL x) = true) :
    Came L (fun z => left z && !z.sameKey (kL x)) (xs ++ [x]) := by
  have hno : x ∉ xs := fun hx' => by have := ((h.2 x).1 hx').2; rw [hl] at this; cases this
  refine ⟨?_, fun y => ?_⟩
  · rw [List.nodup_append]
    refine ⟨h.1, by simp, fun a ha b hb e => ?_⟩
    simp at hb; subst hb; subst e; exact hno ha
  · rw [List.mem_append, List.mem_singleton, h.2 y]
    by_cases e : y = x
    · subst e
      simp [hm, WideAt.sameKey_self (isKey y hx)]
    · constructor
      · rintro (⟨h1, h2⟩ | h1)
        · exact ⟨h1, by simp [h2]⟩
        · exact absurd h1 e
      · rintro ⟨h1, h2⟩
        refine .inl ⟨h1, ?_⟩
        have hne := kL_ne (hc.wf y h1) hx e
        simpa [Maps.sameKey_ne hne] using h2

set_option maxRecDepth 100000 in
set_option maxHeartbeats 1000000 in
/-- The iterator: for every loop body that leaves maps and iterators alone. -/
theorem keys1_in (F : Fence) (n : Nat) (h42 : F.fn 32) (hro : F.round = none) (hn : 1 ≤ n) (l Bm b nn : Nat) (D0 : DataW Unit) (L : List O) (hc : Cnt D0 L) (J Jx : List O → World → Prop)
    (hY : ∀ pre x W, J pre W → pre.length < Maps.size D0 → YieldAt F (n - 1) Tryd.prog l #[vO x] W fun e W' =>
      (e = .returned (.bool true) ∧ J (pre ++ [x]) W' ∧ KeepsWalks W W') ∨ (e = .returned (.bool false) ∧ Jx (pre ++ [x]) W'))
    (W : World) (hJ : AbidesFrom W.heap.size J) (hm : W.cell? ⟨Bm, 0, none⟩ = some (.map (some b))) (hown : W.ownsMap Tryd.prog 37 (plainElem (H := Unit) Tryd.prog 3) b nn D0) (h0 : J [] W) :
    CallsIn F n Tryd.prog 32 #[.func (.yield l) #[] #[], .pointer (some ⟨Bm, 0, none⟩)] W fun e W' => (∃ v, e = .returned v) ∧
      ((∃ xs : List O, (xs.Nodup ∧ ∀ x, x ∈ xs ↔ x ∈ L) ∧ J xs W') ∨ (∃ pre : List O, True ∧ Jx pre W')) := by
  refine callsIn_of_wp Tryd.func32 rfl h42 ?_ hro
  simp only [Tryd.ntmps32, List.size_toArray, List.length_cons, List.length_nil, Nat.reduceAdd, Nat.reduceSub, Array.replicate_succ, Array.replicate_zero, List.push_toArray, List.append_toArray, List.nil_append, List.cons_append]
  gi_wp2_with (first
    | (gi_at_range; refine wpListIn_range_own _ rfl _ 23 rfl 37 3 keyed Tryd.underlying23 _ b nn _ rfl hown ?_; intro w0 hrg0 hg0 hs0)
    | gi_in)
  go_frame
  gi_loopw [3] (fun _ wr => ∃ (left : Lit → Bool) (cnt : Nat) (xs : List O), wr.ranges Tryd.prog 37 (plainElem (H := Unit) Tryd.prog 3) b W.heap.size nn D0 left cnt ∧ xs.length + cnt ≤ Maps.size D0 ∧ Came L left xs ∧ J xs wr)
    (fun _ wr => wr.rangeLeft b W.heap.size)
  case atStart =>
    exact ⟨_, _, [], hrg0, by simp, Came.start hc, hJ [] W w0 none h0 hg0 (fun r e => by cases e)⟩
  case round =>
    obtain ⟨left, cnt, xs, hrg, hcs, hC, hJs⟩ := hrel
    gi_wp2_with (first
      | (gi_at_next; refine wpListIn_next_ranges _ rfl _ rfl 37 keyed (plainElem (H := Unit) Tryd.prog 3) vO id (fun key kl hk => by obtain ⟨x, _, hx⟩ := key_inv hk; exact ⟨x, hx⟩) (fun v _ _ => ⟨v, rfl⟩) b W.heap.size nn _ _ _ rfl hrg ?_ ?_)
      | gi_in)
    · intro hc0 hl0
      gi_wp2
      go_end0
      exact ⟨⟨_, rfl⟩, .inl ⟨xs, ⟨hC.1, fun x => by rw [hC.2 x, hl0]; simp⟩, hJs⟩⟩
    · intro x c kl yd yp w2 cnt2 hkey hlk hv hat hrg2 hlt hg2 hs2 hen
      obtain ⟨x', hx, ex⟩ := key_inv hkey
      obtain rfl := vO_inj ex
      obtain rfl : kl = kL x := Option.some.inj (hkey.symm.trans (key_of x hx))
      have hmem : x ∈ L := by
        have h1 := (hc.has x hx).symm.trans (Maps.has_true_of_atKey hat)
        simpa using h1
      have hJ2 : J xs w2 := hJ xs wr w2 (some W.heap.size) hJs hg2 (fun r e => by cases e; exact ⟨Nat.le_refl _, hrg.iter_walk⟩)
      have hJ3 : J xs (w2.alloc (.cells (encO x).toArray 37)) := hJ xs w2 _ none hJ2 (World.grownBy_alloc _ _ _) (fun r e => by cases e)
      obtain ⟨fn, tmps, assign, body, hy, hR⟩ := hY xs x _ hJ3 (by omega)
      have hC2 := hC.step hc hx hmem hlk
      have hk0 : KeepsWalks w2 (w2.alloc (.cells (encO x).toArray 37)) := KeepsWalks.alloc _ _
      have HC : Hid _ := hC2
      have HR : Hid (w2.ranges Tryd.prog 37 (plainElem (H := Unit) Tryd.prog 3) b W.heap.size nn D0 (fun z => left z && !z.sameKey (kL x)) cnt2) := hrg2
      have HK : Hid _ := hk0
      simp only [vO, encO] at hen hy hR HK
      clear hs2 hC2 hJ2 hJ3 hk0 hrg2 hat hkey ex
      gi_wp2
      refine hR.mono ?_
      rintro e W3 (⟨rfl, hJ4, hk3⟩ | ⟨rfl, hJx3⟩)
      · have HW : Hid _ := hk3
        clear hk3
        gi_wp2
        have hrg3 := (HR.out.of_walks HK.out).of_walks HW.out
        go_roundw
        case rel => exact ⟨_, cnt2, xs ++ [x], hrg3, by simp; omega, HC.out, hJ4⟩
        case measure => rw [hrg3.left_eq, hrg.left_eq]; exact hlt
      · gi_wp2
        refine bodyPost_ret (results_none rfl _ _ _) rfl ?_
        exact ⟨⟨_, rfl⟩, .inr ⟨xs ++ [x], trivial, hJx3⟩⟩

set_option maxHeartbeats 1000000 in
/-- maps.Keys: the map is boxed; the function value captures the box. -/
theorem keys_in (F : Fence) (n : Nat) (h37 : F.fn 23) (hro : F.round = none) (mb : Option Nat) (w : World) :
    CallsIn F n Tryd.prog 23 #[.map mb] w fun e w' => e = .returned (.func (.func 32) #[] #[.pointer (some ⟨w.heap.size, 0, none⟩)]) ∧ w' = w.alloc (.cells #[.map mb] 23) := by
  refine callsIn_of_wp Tryd.func23 rfl h37 ?_ hro
  simp only [Tryd.ntmps23, List.size_toArray, List.length_cons, List.length_nil, Nat.reduceAdd, Nat.reduceSub, Array.replicate_succ, Array.replicate_zero, List.push_toArray, List.append_toArray, List.nil_append, List.cons_append]
  gi_wp2
  go_ret
  exact ⟨rfl, rfl⟩

theorem keys_stops (F : Fence) (n : Nat) (h42 : F.fn 32) (hro : F.round = none) (hn : 1 ≤ n) (Bm b nn : Nat) (D0 : DataW Unit) (L : List O) (hc : Cnt D0 L) (w : World) (hBm : Bm < w.heap.size)
    (hm : w.cell? ⟨Bm, 0, none⟩ = some (.map (some b))) (hown : w.ownsMap Tryd.prog 37 (plainElem (H := Unit) Tryd.prog 3) b nn D0) :
    SeqStops F n Tryd.prog 32 #[.pointer (some ⟨Bm, 0, none⟩)] vO (fun xs => xs.Nodup ∧ ∀ x, x ∈ xs ↔ x ∈ L) (fun _ => True) (Maps.size D0) w := fun l J Jx W hW hJ _ hY h0 => by
  have hown' : W.ownsMap Tryd.prog 37 (plainElem (H := Unit) Tryd.prog 3) b nn D0 := by
    have hbl := hown.lt
    obtain ⟨es, clock, hb, Ft, hs, hD⟩ := hown
    exact ⟨es, clock, (hW.block b hbl).trans hb, Ft, hs, hD⟩
  exact keys1_in F n h42 hro hn l Bm b nn D0 L hc J Jx hY W hJ ((hW.cell (p := ⟨Bm, 0, none⟩) hBm).trans hm) hown' h0

end Go.Proofs.YtfldfnphidehlaaDoor
