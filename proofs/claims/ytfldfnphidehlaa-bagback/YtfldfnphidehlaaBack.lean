/- BagBack's small callees: pick, counted. -/
import Derived.Test.YtfldfnphidehlaaBagq
import Derived.Test.YtfldfnphidehlaaBagw
import Derived.Test.YtfldfnphidehlaaLone
import Derived.Shelf.SlSortCmp.NoneTotal
namespace Go.Proofs.Ytfldfnphidehlaa
open Go.Shelf Go.RowKit Go.Lib Go.Sort

theorem nil_says : NilSays := fun w =>
  (AnyF.slices_SortFunc_none { Try.sortO with } none 0 (.func (.func 13) #[] #[]) w).mono fun _ _ h => h

theorem bag_all (b m : Nat) (om : Option Nat) (L : List O) (w : World) (h : BagAt w b om m L) (hm : m ≤ 100000000) (hL : L.length ≤ 1000000) :
    Calls Try.prog 22 #[.pointer (some ⟨b, 0, none⟩)] w fun e w' => ∃ v Z, e = .returned v ∧ Z.Perm L ∧ InOrder Z ∧ w'.ownsRow w.heap.size 27 9 v Z.length (Z.flatMap encO) ∧ Below w.heap.size w w' :=
  all_any (sorted_says nil_says) b m om L w h hm hL

/-- A number below n. -/
def pickN (a : Int) (n : Nat) : Nat := ((IntKind.u64.wrap a).tmod n).toNat
theorem wrap_nonneg (a : Int) : 0 ≤ IntKind.u64.wrap a := by simp [IntKind.wrap, IntKind.bits, IntKind.signed]; omega
theorem pickN_lt (a : Int) (n : Nat) (hn : 0 < n) : pickN a n < n ∧ ((pickN a n : Nat) : Int) = (IntKind.u64.wrap a).tmod n := by
  have h0 := wrap_nonneg a
  unfold pickN
  rw [Int.tmod_eq_emod_of_nonneg h0]
  have h1 := Int.emod_nonneg (IntKind.u64.wrap a) (b := (n : Int)) (by omega)
  have h2 := Int.emod_lt_of_pos (IntKind.u64.wrap a) (b := (n : Int)) (by omega)
  omega
theorem pick_any (a : Int) (n : Nat) (w : World) (hn : 0 < n) (h60 : n ≤ 60) : Calls Try.prog 21 #[.int .i64 a, .int .i64 n] w fun e w' => e = .returned (.int .i64 (pickN a n)) ∧ w' = w := by
  obtain ⟨h1, h2⟩ := pickN_lt a n hn
  have h3 : wrap64 ((IntKind.u64.wrap a).tmod n) = (pickN a n : Int) := by rw [← h2]; unfold wrap64; omega
  clear h2
  go_enter Try.func21, Try.ntmps21
  go_wp2
  go_ret
  exact ⟨ret_int h3, rfl⟩

def x1 : O := ⟨1, 1, 0, 0, 0, 0, 0, true, false⟩
theorem x1_wf : x1.wf := ⟨by decide, by decide, by decide, by decide, by decide, by decide, by decide⟩

theorem bag_new (w : World) : BagAt (w.alloc (.cells #[.map none, .int .i64 0] 41)) w.heap.size none 0 [] := ⟨World.alloc_heap_new w _, .inl ⟨rfl, rfl⟩⟩

/-- A bag in the call's own memory (from block w.heap.size on). -/
structure Mine (w : World) (b : Nat) (om : Option Nat) (m : Nat) (L : List O) (W : World) : Prop where
  bag : BagAt W b om m L
  below : Below w.heap.size w W
  base : w.heap.size ≤ b
  mbase : ∀ k, om = some k → w.heap.size ≤ k

theorem Mine.go {w W W' : World} {b m m' : Nat} {om om' : Option Nat} {L L' : List O} (h : Mine w b om m L W) (hb : BagAt W' b om' m' L') (hk : Keep b om W W') (hm : Moves W om om') : Mine w b om' m' L' W' := by
  have hs := h.below.size
  refine ⟨hb, h.below.trans (hk.below hs h.base h.mbase), h.base, fun k e => ?_⟩
  rcases hm with rfl | ⟨j, rfl, hj⟩
  · exact h.mbase k e
  · cases e; omega
theorem Mine.by_below {w W W' : World} {b m : Nat} {om : Option Nat} {L : List O} (h : Mine w b om m L W) (hb : Below W.heap.size W W') : Mine w b om m L W' :=
  ⟨h.bag.below hb, h.below.trans (hb.mono h.below.size), h.base, h.mbase⟩

theorem OutAt.lt {W : World} {B : Nat} {x : O} (h : OutAt W B x) : B < W.heap.size := (Array.getElem?_eq_some_iff.1 (show W.heap[B]? = some _ from h)).1
/-- An Out's box is no bag's block, nor its map's. -/
theorem OutAt.apart {W : World} {B b m : Nat} {x : O} {om : Option Nat} {L : List O} (h : OutAt W B x) (hb : BagAt W b om m L) : B ≠ b ∧ om ≠ some B := by
  have h' : W.heap[B]? = some (.cells (encO x).toArray 27 (0, 0)) := h
  constructor
  · rintro rfl
    have := hb.blk
    rw [h'] at this; simp [encO] at this
  · intro e
    rcases hb.map with ⟨h1, _⟩ | ⟨bm, n, D, h1, _, hown, _⟩
    · rw [h1] at e; cases e
    · rw [h1] at e; cases e
      obtain ⟨es, c, hh, _⟩ := hown
      rw [h'] at hh; cases hh
theorem OutAt.keep {W W' : World} {B b m : Nat} {x : O} {om : Option Nat} {L : List O} (h : OutAt W B x) (hb : BagAt W b om m L) (hk : Keep b om W W') : OutAt W' B x :=
  (hk.block B h.lt (h.apart hb).1 (h.apart hb).2).trans h
theorem OutAt.by_below {W W' : World} {B : Nat} {x : O} (h : OutAt W B x) (hb : Below W.heap.size W W') : OutAt W' B x := (hb.block B h.lt).trans h

set_option maxRecDepth 20000 in
set_option maxHeartbeats 4000000 in
theorem counted_any (w : World) : Calls Try.prog 19 #[] w fun e w' => e = .returned (.bool true) ∧ Below w.heap.size w w' := by
  have hw1 := x1_wf
  go_enter Try.func19, Try.ntmps19
  go_wp2_with (first
    | (go_at_call 15; refine (lone_left 1 0 0 _).mono ?_; rintro e w1 ⟨rfl, hb1⟩)
    | fail)
  have M1 : Mine w w.heap.size none 0 [] (w1.alloc (.cells (encO x1).toArray 27)) :=
    (Mine.mk (bag_new w) (Go.Joins.below_alloc1 _ _) (Nat.le_refl _) (fun k e => by cases e)).by_below (hb1.trans ((Go.Joins.below_alloc1 _ _).mono hb1.size))
  have O1 : OutAt (w1.alloc (.cells (encO x1).toArray 27)) w1.heap.size x1 := World.alloc_heap_new w1 _
  refine (apply_put w.heap.size 0 none [] (w1.alloc (.cells (encO x1).toArray 27)) M1.bag x1 x1_wf (by omega) (by simp)).mono ?_
  rintro e w2 ⟨rfl, om2, hbag2, hk2, hm2⟩
  have M2 : Hid (Mine w w.heap.size om2 1 [x1] w2) := M1.go hbag2 hk2 hm2
  have O2 : Hid (OutAt w2 w1.heap.size x1) := O1.keep M1.bag hk2
  have c2 := O2.out.cells
  clear M1 O1 hbag2 hk2 hm2 hb1
  go_wp2_with fail
  refine (apply_put w.heap.size 1 om2 [x1] w2 M2.out.bag x1 x1_wf (by omega) (by simp)).mono ?_
  rintro e w3 ⟨rfl, om3, hbag3, hk3, hm3⟩
  have M3 : Hid (Mine w w.heap.size om3 2 [x1, x1] w3) := M2.out.go hbag3 hk3 hm3
  have O3 : Hid (OutAt w3 w1.heap.size x1) := O2.out.keep M2.out.bag hk3
  clear c2 M2 O2 hbag3 hk3 hm3
  have c3 := O3.out.cells
  go_wp2_with fail
  refine (apply_take w.heap.size 2 om3 [x1, x1] w3 M3.out.bag x1 x1_wf (by simp) (by omega) (by simp)).mono ?_
  rintro e w4 ⟨rfl, hbag4, hk4⟩
  have M4 : Hid (Mine w w.heap.size om3 3 [x1] w4) := M3.out.go (by simpa using hbag4) hk4 (.inl rfl)
  have O4 : Hid (OutAt w4 w1.heap.size x1) := O3.out.keep M3.out.bag hk4
  clear c3 M3 O3 hbag4 hk4
  have c4 := O4.out.cells
  go_wp2_with fail
  refine (many_any w.heap.size 3 om3 [x1] w4 M4.out.bag x1 x1_wf).mono ?_
  rintro e w5 ⟨rfl, hb5⟩
  have M5 : Hid (Mine w w.heap.size om3 3 [x1] w5) := M4.out.by_below hb5
  clear c4 M4 O4 hb5
  have e1 : List.count x1 [x1] = 1 := by decide
  rw [e1]
  go_wp2_with (go_at_call 23; refine (size_any w.heap.size 3 om3 [x1] w5 M5.out.bag).mono ?_; rintro e w6 ⟨rfl, rfl⟩; simp only [List.length_cons, List.length_nil, Nat.zero_add, Int.natCast_one])
  refine (bag_all w.heap.size 3 om3 [x1] _ M5.out.bag (by omega) (by simp)).mono ?_
  rintro e w7 ⟨v, Z, rfl, hp, _, hrow, hb7⟩
  have hz : Z.length = 0 + 1 := by rw [hp.length_eq]; rfl
  rw [hz] at hrow
  obtain ⟨g', cap', rfl⟩ := ownsRow_succ hrow
  have hfin := M5.out.below.trans (hb7.mono M5.out.below.size)
  clear hrow
  go_wp2
  go_ret
  exact ⟨rfl, hfin⟩

end Go.Proofs.Ytfldfnphidehlaa
