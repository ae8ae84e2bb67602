/- sort's stable sort, over whatever row, its less and its swap by what they do. -/
import Derived.Test.YtfldfnphidehlaaDoorBase
import Derived.Lib.SmallJoins
import Derived.Sort.LotA
namespace Go.Proofs.YtfldfnphidehlaaDoor
open Go.RowKit Go.Sort
set_option maxRecDepth 100000

/-- A row of n Outs at block blk, as 'less' and 'swap' see it. -/
structure Sorter (blk n : Nat) (lf : Nat) (lb : Array Value) (sf : Nat) (sb : Array Value) (Hd : Array O → World → Prop) : Prop where
  size : ∀ d W, Hd d W → d.size = n
  lt : ∀ d W, Hd d W → blk < W.heap.size
  kept : ∀ d W W', Hd d W → Below W.heap.size W W' → Hd d W'
  enters : ∀ args w, (callFunc lf args).run Tryd.prog w = .ok (.enter lf args) w
  less : ∀ d W i j, Hd d W → i < n → j < n → Calls Tryd.prog lf (#[.int .i64 (i : Nat), .int .i64 (j : Nat)] ++ lb) W fun e w' => e = .returned (.bool (decide (cO d[i]! d[j]! < 0))) ∧ Below W.heap.size W w'
  swap : ∀ d W i j, Hd d W → i < n → j < n → ∃ W', (callFunc sf (#[.int .i64 (i : Nat), .int .i64 (j : Nat)] ++ sb)).run Tryd.prog W = .ok (.value (.tuple #[])) W' ∧ Hd (swp d i j) W' ∧ W.grownBy W' (some blk)

/-- k swaps, from a and from b on. -/
def swapsA (d : Array O) (a b : Nat) : Nat → Array O
  | 0 => d
  | k + 1 => swp (swapsA d a b k) (a + k) (b + k)

set_option maxHeartbeats 1000000 in
theorem swapRange_any {blk n lf sf : Nat} {lb sb : Array Value} {Hd : Array O → World → Prop} (S : Sorter blk n lf lb sf sb Hd) (d : Array O) (a b k : Nat) (w : World) (hd : Hd d w) (ha : a + k ≤ n) (hb : b + k ≤ n) (hn : n ≤ 1000000) :
    Calls Tryd.prog 83 #[.agg #[.func (.func lf) #[] lb, .func (.func sf) #[] sb], .int .i64 a, .int .i64 b, .int .i64 k] w fun e w' => e = .returned (.tuple #[]) ∧ Hd (swapsA d a b k) w' ∧ w.grownBy w' (some blk) := by
  have hlt := S.lt d w hd
  have HS : Hid (Sorter blk n lf lb sf sb Hd) := S
  have HD : Hid (Hd d w) := hd
  clear S hd
  go_enter Tryd.func83, Tryd.ntmps83
  go_wp2
  go_loopg [8] k (fun g i wr => ∃ j : Nat, j ≤ k ∧ g = k - j ∧ i = .int .i64 j ∧ Hd (swapsA d a b j) wr ∧ w.grownBy wr (some blk) ∧ wr.heap[w.heap.size]? = some (.cells #[.func (.func lf) #[] lb, .func (.func sf) #[] sb] 93))
  case atStart => exact ⟨0, Nat.zero_le _, rfl, rfl, HS.out.kept _ _ _ HD.out (Go.Joins.below_alloc1 _ _), World.grownBy_alloc _ _ _, heap_alloc_new _ _⟩
  case round =>
    obtain ⟨j, hj, hg, rfl, hH, hB, hbox⟩ := hrel
    have HG : Hid (gk = k - j) := hg
    have HH : Hid (Hd (swapsA d a b j) wr) := hH
    have HB : Hid (w.grownBy wr (some blk)) := hB
    have HX : Hid (wr.heap[w.heap.size]? = some (.cells #[.func (.func lf) #[] lb, .func (.func sf) #[] sb] 93)) := hbox
    have c1 : wr.cell? ⟨w.heap.size, 1, none⟩ = some (.func (.func sf) #[] sb) := by rw [Go.Joins.cell_of_block hbox]; rfl
    clear hg
    by_cases hlt2 : j < k
    · obtain ⟨W', hrun, hH', hgr⟩ := HS.out.swap _ wr (a + j) (b + j) hH (by omega) (by omega)
      have hz : w.heap.size < wr.heap.size := (Array.getElem?_eq_some_iff.1 hbox).1
      have HN : Hid (Hd (swapsA d a b (j + 1)) W' ∧ w.grownBy W' (some blk) ∧ W'.heap[w.heap.size]? = some (.cells #[.func (.func lf) #[] lb, .func (.func sf) #[] sb] 93)) :=
        ⟨hH', hB.trans hgr, (hgr.block _ hz (by simp; omega)).trans hbox⟩
      have i1 : (a : Int) + (j : Int) = ((a + j : Nat) : Int) := by omega
      have i2 : (b : Int) + (j : Int) = ((b + j : Nat) : Int) := by omega
      have i3 : (j : Int) < (k : Int) := by omega
      have i4 : (k : Int) ≤ 1000000 := by omega
      have i5 : (a : Int) ≤ 1000000 := by omega
      have i6 : (b : Int) ≤ 1000000 := by omega
      rw [← i1, ← i2] at hrun
      clear hH hB hbox hH' hgr i1 i2
      go_wp2
      go_roundg (k - (j + 1))
      case measure => have := HG.out; omega
      case rel => exact ⟨j + 1, by omega, rfl, by go_num, HN.out.1, HN.out.2.1, HN.out.2.2⟩
    · have e1 : j = k := by omega
      subst e1
      have hge : ¬ ((j : Int) < (j : Int)) := by omega
      clear hH hB hbox
      go_wp2
      go_end0
      exact ⟨rfl, HH.out, HB.out⟩

/-- rotate, round for round; fuel first. -/
def rotA : Nat → Array O → Nat → Nat → Nat → Array O
  | 0, d, _, _, _ => d
  | f + 1, d, m, i, j => if i = j then swapsA d (m - i) m i else if j < i then rotA f (swapsA d (m - i) m j) m (i - j) j else rotA f (swapsA d (m - i) (m + j - i) i) m i (j - i)

set_option maxHeartbeats 2000000 in
theorem rotate_any {blk n lf sf : Nat} {lb sb : Array Value} {Hd : Array O → World → Prop} (S : Sorter blk n lf lb sf sb Hd) (d : Array O) (a m b : Nat) (w : World) (hd : Hd d w) (h1 : a < m) (h2 : m < b) (h3 : b ≤ n) (hn : n ≤ 1000000) :
    Calls Tryd.prog 74 #[.agg #[.func (.func lf) #[] lb, .func (.func sf) #[] sb], .int .i64 a, .int .i64 m, .int .i64 b] w fun e w' => e = .returned (.tuple #[]) ∧ Hd (rotA (b - a) d m (m - a) (b - m)) w' ∧ w.grownBy w' (some blk) := by
  have hlt := S.lt d w hd
  have HS : Hid (Sorter blk n lf lb sf sb Hd) := S
  have HD : Hid (Hd d w) := hd
  have i1 : (m : Int) - (a : Int) = ((m - a : Nat) : Int) := by omega
  have i2 : (b : Int) - (m : Int) = ((b - m : Nat) : Int) := by omega
  have i3 : (b : Int) ≤ 1000000 := by omega
  have i4 : (m : Int) ≤ 1000000 := by omega
  have i5 : (a : Int) ≤ 1000000 := by omega
  clear S hd
  go_enter Tryd.func74, Tryd.ntmps74
  go_wp2
  generalize hR : rotA (b - a) d m (m - a) (b - m) = R
  go_loopg [8, 9] (b - a) (fun g v8 v9 wr => ∃ (i j : Nat) (d' : Array O), 0 < i ∧ 0 < j ∧ i + j ≤ g ∧ i ≤ m - a ∧ j ≤ b - m ∧ v8 = .int .i64 i ∧ v9 = .int .i64 j ∧ rotA g d' m i j = R ∧ Hd d' wr ∧ w.grownBy wr (some blk) ∧ wr.heap[w.heap.size]? = some (.cells #[.func (.func lf) #[] lb, .func (.func sf) #[] sb] 93))
  case atStart =>
    refine ⟨m - a, b - m, d, by omega, by omega, by omega, Nat.le_refl _, Nat.le_refl _, ?_, ?_, hR, HS.out.kept _ _ _ HD.out (Go.Joins.below_alloc1 _ _), World.grownBy_alloc _ _ _, heap_alloc_new _ _⟩
    · first | rfl | (congr 1)
    · first | rfl | (congr 1)
  case round =>
    obtain ⟨i, j, d', hi, hj, hij, him, hjb, rfl, rfl, hR', hH, hB, hbox⟩ := hrel
    have HH : Hid (Hd d' wr) := hH
    have HB : Hid (w.grownBy wr (some blk)) := hB
    have HX : Hid (wr.heap[w.heap.size]? = some (.cells #[.func (.func lf) #[] lb, .func (.func sf) #[] sb] 93)) := hbox
    have c0 : wr.cell? ⟨w.heap.size, 0, none⟩ = some (.func (.func lf) #[] lb) := by rw [Go.Joins.cell_of_block hbox]; rfl
    have c1 : wr.cell? ⟨w.heap.size, 1, none⟩ = some (.func (.func sf) #[] sb) := by rw [Go.Joins.cell_of_block hbox]; rfl
    have hz : w.heap.size < wr.heap.size := (Array.getElem?_eq_some_iff.1 hbox).1
    have HR : Hid (rotA gk d' m i j = R) := hR'
    have q1 : ((m - i : Nat) : Int) = (m : Int) - (i : Int) := by omega
    have j1 : (i : Int) ≤ 1000000 := by omega
    have j2 : (j : Int) ≤ 1000000 := by omega
    have j3 : (0 : Int) < (i : Int) := by omega
    have j4 : (0 : Int) < (j : Int) := by omega
    clear hR' hH hB hbox
    by_cases e : i = j
    · subst e
      have hs := swapRange_any HS.out d' (m - i) m i wr HH.out (by omega) (by omega) hn
      rw [q1] at hs
      clear q1
      go_wp2_with (go_at_call 83; refine hs.mono ?_; rintro e w' ⟨rfl, hH', hB'⟩)
      go_end0
      refine ⟨rfl, ?_, HB.out.trans hB'⟩
      rw [hR, ← HR.out]
      obtain ⟨f, rfl⟩ : ∃ f, gk = f + 1 := ⟨gk - 1, by omega⟩
      rw [rotA, if_pos rfl]; exact hH'
    · have e' : (i : Int) ≠ (j : Int) := by omega
      by_cases hgt : j < i
      · have hs := swapRange_any HS.out d' (m - i) m j wr HH.out (by omega) (by omega) hn
        rw [q1] at hs
        have hgt' : (j : Int) < (i : Int) := by omega
        have q2 : (i : Int) - (j : Int) = ((i - j : Nat) : Int) := by omega
        clear q1
        go_wp2_with (go_at_call 83; refine hs.mono ?_; rintro e w' ⟨rfl, hH', hB'⟩)
        go_roundg (gk - 1)
        case measure => omega
        case rel =>
          obtain ⟨f, rfl⟩ : ∃ f, gk = f + 1 := ⟨gk - 1, by omega⟩
          have hr := HR.out
          rw [rotA, if_neg e, if_pos hgt] at hr
          exact ⟨i - j, j, _, by omega, hj, by omega, by omega, hjb, by first | rfl | (congr 1), rfl, hr, hH', HB.out.trans hB', (hB'.block _ hz (by simp; omega)).trans HX.out⟩
      · have hs := swapRange_any HS.out d' (m - i) (m + j - i) i wr HH.out (by omega) (by omega) hn
        have hle : (i : Int) ≤ (j : Int) := by omega
        have q3 : ((m + j - i : Nat) : Int) = (m : Int) + (j : Int) - (i : Int) := by omega
        have q2 : (j : Int) - (i : Int) = ((j - i : Nat) : Int) := by omega
        rw [q1, q3] at hs
        clear q1 q3
        go_wp2_with (go_at_call 83; refine hs.mono ?_; rintro e w' ⟨rfl, hH', hB'⟩)
        go_roundg (gk - 1)
        case measure => omega
        case rel =>
          obtain ⟨f, rfl⟩ : ∃ f, gk = f + 1 := ⟨gk - 1, by omega⟩
          have hr := HR.out
          rw [rotA, if_neg e, if_neg hgt] at hr
          exact ⟨i, j - i, _, hi, by omega, by omega, him, by omega, rfl, by first | rfl | (congr 1), hr, hH', HB.out.trans hB', (hB'.block _ hz (by simp; omega)).trans HX.out⟩

end Go.Proofs.YtfldfnphidehlaaDoor
