/- sort's symMerge over whatever row: where one of the runs is a single one. -/
import Derived.Test.YtfldfnphidehlaaDoorMrg
namespace Go.Proofs.YtfldfnphidehlaaDoor
open Go.RowKit Go.Sort
set_option maxRecDepth 100000

/-- What the walks carry: the row d' lies there, nothing else has turned, the box holds less and swap. -/
structure Lies (blk lf : Nat) (lb : Array Value) (sf : Nat) (sb : Array Value) (Hd : Array O → World → Prop) (w : World) (d' : Array O) (wr : World) : Prop where
  hd : Hd d' wr
  grown : w.grownBy wr (some blk)
  box : wr.heap[w.heap.size]? = some (.cells #[.func (.func lf) #[] lb, .func (.func sf) #[] sb] 93)

theorem Lies.start {blk n lf sf : Nat} {lb sb : Array Value} {Hd : Array O → World → Prop} (S : Sorter blk n lf lb sf sb Hd) {d : Array O} {w : World} (hd : Hd d w) :
    Lies blk lf lb sf sb Hd w d (w.alloc (.cells #[.func (.func lf) #[] lb, .func (.func sf) #[] sb] 93)) :=
  ⟨S.kept _ _ _ hd (Go.Joins.below_alloc1 _ _), World.grownBy_alloc _ _ _, heap_alloc_new _ _⟩
theorem Lies.lt {blk lf sf : Nat} {lb sb : Array Value} {Hd : Array O → World → Prop} {d : Array O} {w wr : World} (h : Lies blk lf lb sf sb Hd w d wr) : w.heap.size < wr.heap.size := (Array.getElem?_eq_some_iff.1 h.box).1
theorem Lies.c0 {blk lf sf : Nat} {lb sb : Array Value} {Hd : Array O → World → Prop} {d : Array O} {w wr : World} (h : Lies blk lf lb sf sb Hd w d wr) : wr.cell? ⟨w.heap.size, 0, none⟩ = some (.func (.func lf) #[] lb) := by rw [Go.Joins.cell_of_block h.box]; rfl
theorem Lies.c1 {blk lf sf : Nat} {lb sb : Array Value} {Hd : Array O → World → Prop} {d : Array O} {w wr : World} (h : Lies blk lf lb sf sb Hd w d wr) : wr.cell? ⟨w.heap.size, 1, none⟩ = some (.func (.func sf) #[] sb) := by rw [Go.Joins.cell_of_block h.box]; rfl
theorem Lies.below {blk n lf sf : Nat} {lb sb : Array Value} {Hd : Array O → World → Prop} (S : Sorter blk n lf lb sf sb Hd) {d : Array O} {w wr w3 : World} (h : Lies blk lf lb sf sb Hd w d wr) (hb : Below wr.heap.size wr w3) : Lies blk lf lb sf sb Hd w d w3 :=
  ⟨S.kept _ _ _ h.hd hb, h.grown.trans ⟨hb.os, hb.tape, hb.output, hb.size, fun k hk _ => hb.block k hk⟩, (hb.block _ h.lt).trans h.box⟩
theorem Lies.turn {blk lf sf : Nat} {lb sb : Array Value} {Hd : Array O → World → Prop} {d d2 : Array O} {w wr w3 : World} (h : Lies blk lf lb sf sb Hd w d wr) (hb : blk < w.heap.size) (hH : Hd d2 w3) (hg : wr.grownBy w3 (some blk)) : Lies blk lf lb sf sb Hd w d2 w3 :=
  ⟨hH, h.grown.trans hg, (hg.block _ h.lt (by simp; omega)).trans h.box⟩

set_option maxHeartbeats 2000000 in
theorem sym_one {blk n lf sf : Nat} {lb sb : Array Value} {Hd : Array O → World → Prop} (S : Sorter blk n lf lb sf sb Hd) (hO : SWO ltC) (d : Array O) (a m b : Nat) (w : World) (hd : Hd d w) (h1 : m ≤ a + 1) (h1' : a < m) (h2 : m < b) (h3 : b ≤ n) (hn : n ≤ 1000000) (hs : SortedIn ltC m b d) :
    Calls Tryd.prog 60 #[.agg #[.func (.func lf) #[] lb, .func (.func sf) #[] sb], .int .i64 a, .int .i64 m, .int .i64 b] w fun e w' => e = .returned (.tuple #[]) ∧ ∃ d', Hd d' w' ∧ Merged ltC a b d d' ∧ w.grownBy w' (some blk) := by
  have hlt := S.lt d w hd
  have hsz := S.size d w hd
  have HZ : Hid (d.size = n) := hsz
  have HO : Hid (SWO ltC) := hO
  have HSo : Hid (SortedIn ltC m b d) := hs
  have HS : Hid (Sorter blk n lf lb sf sb Hd) := S
  have HD : Hid (Hd d w) := hd
  have heg := S.enters
  have i1 : (m : Int) - (a : Int) = 1 := by omega
  have i3 : (b : Int) ≤ 1000000 := by omega
  have i4 : (m : Int) ≤ 1000000 := by omega
  have i5 : (a : Int) ≤ 1000000 := by omega
  clear S hd hs hO hsz
  go_enter Tryd.func60, Tryd.ntmps60
  go_wp2
  go_loopg [8, 9] (b - m) (fun g v8 v9 wr => ∃ (i j : Nat), m ≤ i ∧ i ≤ j ∧ j ≤ b ∧ j - i ≤ g ∧ v8 = .int .i64 i ∧ v9 = .int .i64 j ∧ Hid ((i = m ∨ ltC d[i - 1]! d[a]! = true) ∧ (j = b ∨ ltC d[j]! d[a]! = false)) ∧ Hid (Lies blk lf lb sf sb Hd w d wr))
  case atStart => exact ⟨m, b, Nat.le_refl _, by omega, Nat.le_refl _, Nat.le_refl _, rfl, rfl, ⟨Or.inl rfl, Or.inl rfl⟩, Lies.start HS.out HD.out⟩
  case round =>
    obtain ⟨i, j, hmi, hij, hjb, hg, rfl, rfl, I, L⟩ := hrel
    have hg' : Hid (j - i ≤ gk) := hg
    clear hg
    by_cases hlt2 : i < j
    · have k1 : (i : Int) < (j : Int) := by omega
      have k2 : (j : Int) ≤ 1000000 := by omega
      have hl := HS.out.less d wr ((i + j) / 2) a L.out.hd (by omega) (by omega)
      rw [show (((i + j) / 2 : Nat) : Int) = ((i : Int) + (j : Int)) / 2 by omega] at hl
      have c0 := L.out.c0
      go_wp2_with fail
      refine hl.mono ?_
      rintro e w3 ⟨rfl, hb3⟩
      have L3 : Hid (Lies blk lf lb sf sb Hd w d w3) := L.out.below HS.out hb3
      clear hl hb3 c0 L
      by_cases hless : cO d[(i + j) / 2]! d[a]! < 0
      · rw [decide_eq_true hless]
        have I2 : Hid (((i + j) / 2 + 1 = m ∨ ltC d[(i + j) / 2 + 1 - 1]! d[a]! = true) ∧ (j = b ∨ ltC d[j]! d[a]! = false)) := ⟨Or.inr (by rw [Nat.add_sub_cancel]; simp [ltC, hless]), I.out.2⟩
        clear hless
        go_wp2
        go_roundg (j - ((i + j) / 2 + 1))
        case measure => have := hg'.out; omega
        case rel => exact ⟨(i + j) / 2 + 1, j, by omega, by omega, hjb, Nat.le_refl _, by first | rfl | (congr 1; omega) | go_num, rfl, I2, L3⟩
      · rw [decide_eq_false hless]
        have I2 : Hid ((i = m ∨ ltC d[i - 1]! d[a]! = true) ∧ ((i + j) / 2 = b ∨ ltC d[(i + j) / 2]! d[a]! = false)) := ⟨I.out.1, Or.inr (by simp [ltC, hless])⟩
        clear hless
        go_wp2
        go_roundg ((i + j) / 2 - i)
        case measure => have := hg'.out; omega
        case rel => exact ⟨i, (i + j) / 2, hmi, by omega, by omega, Nat.le_refl _, rfl, by first | rfl | (congr 1; omega) | go_num, I2, L3⟩
    · obtain rfl : i = j := by omega
      have k1 : ¬ ((i : Int) < (i : Int)) := by omega
      have k2 : (i : Int) ≤ 1000000 := by omega
      have k3 : (1 : Int) ≤ (i : Int) := by omega
      have k4 : (i : Int) - 1 = ((i - 1 : Nat) : Int) := by omega
      have HM : Hid (Merged ltC a b d (mvUp d a (i - 1 - a))) := by
        have hz := HZ.out
        obtain rfl : m = a + 1 := by omega
        exact ⟨mvUp_perm _ _ _ _ _ (Nat.le_refl _) (by omega) (by omega), up_sorted HO.out d a b i hmi hjb (by omega) HSo.out I.out.1 I.out.2⟩
      go_wp2
      go_loopg [11] (i - 1 - a) (fun g v11 wr => ∃ (k : Nat), k ≤ i - 1 - a ∧ g = i - 1 - a - k ∧ v11 = .int .i64 ((a + k : Nat) : Int) ∧ Hid (Lies blk lf lb sf sb Hd w (mvUp d a k) wr))
      case atStart => exact ⟨0, Nat.zero_le _, rfl, rfl, L⟩
      case round =>
        obtain ⟨k, hk, hg2, rfl, L2⟩ := hrel
        have HG2 : Hid (gk = i - 1 - a - k) := hg2
        clear hg2
        have q2 : ((a + k : Nat) : Int) + 1 = ((a + k + 1 : Nat) : Int) := by omega
        have q3 : ((a + k : Nat) : Int) ≤ 1000000 := by omega
        have q4 : (0 : Int) ≤ ((a + k : Nat) : Int) := by omega
        by_cases hk2 : k < i - 1 - a
        · obtain ⟨W4, hrun, hH4, hg4⟩ := HS.out.swap _ wr (a + k) (a + k + 1) L2.out.hd (by omega) (by omega)
          have L4 : Hid (Lies blk lf lb sf sb Hd w (mvUp d a (k + 1)) W4) := L2.out.turn hlt hH4 hg4
          have c1 := L2.out.c1
          have q1 : ((a + k : Nat) : Int) < ((i - 1 : Nat) : Int) := by omega
          rw [← q2] at hrun
          clear hH4 hg4 q2
          generalize hX : ((a + k : Nat) : Int) = X at *
          go_wp2
          go_roundg (i - 1 - a - (k + 1))
          case measure => have := HG2.out; omega
          case rel => exact ⟨k + 1, by omega, rfl, by first | rfl | (congr 1; omega) | go_num, L4⟩
        · have e1 : Hid (k = i - 1 - a) := by show k = i - 1 - a; omega
          have q1 : ¬ (((a + k : Nat) : Int) < ((i - 1 : Nat) : Int)) := by omega
          clear q2
          generalize hX : ((a + k : Nat) : Int) = X at *
          go_wp2
          (try simp only [Exit.inBlock, Exit.then]); refine bodyPost_ret (results_none rfl _ _ _) rfl ?_
          exact ⟨rfl, _, L2.out.hd, by rw [e1.out]; exact HM.out, L2.out.grown⟩

set_option maxHeartbeats 2000000 in
theorem sym_last {blk n lf sf : Nat} {lb sb : Array Value} {Hd : Array O → World → Prop} (S : Sorter blk n lf lb sf sb Hd) (hO : SWO ltC) (d : Array O) (a m b : Nat) (w : World) (hd : Hd d w) (h0 : a + 1 < m) (h1 : b ≤ m + 1) (h1' : m < b) (h3 : b ≤ n) (hn : n ≤ 1000000) (hs : SortedIn ltC a m d) :
    Calls Tryd.prog 60 #[.agg #[.func (.func lf) #[] lb, .func (.func sf) #[] sb], .int .i64 a, .int .i64 m, .int .i64 b] w fun e w' => e = .returned (.tuple #[]) ∧ ∃ d', Hd d' w' ∧ Merged ltC a b d d' ∧ w.grownBy w' (some blk) := by
  have hlt := S.lt d w hd
  have hsz := S.size d w hd
  have HZ : Hid (d.size = n) := hsz
  have HO : Hid (SWO ltC) := hO
  have HSo : Hid (SortedIn ltC a m d) := hs
  have HS : Hid (Sorter blk n lf lb sf sb Hd) := S
  have HD : Hid (Hd d w) := hd
  have heg := S.enters
  have i1 : ((m : Int) - (a : Int) == 1) = false := by rw [beq_eq_false_iff_ne]; omega
  have i1' : (m : Int) - (a : Int) ≠ 1 := by omega
  have i2 : (b : Int) - (m : Int) = 1 := by omega
  have i3 : (b : Int) ≤ 1000000 := by omega
  have i4 : (m : Int) ≤ 1000000 := by omega
  have i5 : (a : Int) ≤ 1000000 := by omega
  clear S hd hs hO hsz
  go_enter Tryd.func60, Tryd.ntmps60
  go_wp2
  go_loopg [12, 13] (m - a) (fun g v8 v9 wr => ∃ (i j : Nat), a ≤ i ∧ i ≤ j ∧ j ≤ m ∧ j - i ≤ g ∧ v8 = .int .i64 i ∧ v9 = .int .i64 j ∧ Hid ((i = a ∨ ltC d[m]! d[i - 1]! = false) ∧ (j = m ∨ ltC d[m]! d[j]! = true)) ∧ Hid (Lies blk lf lb sf sb Hd w d wr))
  case atStart => exact ⟨a, m, Nat.le_refl _, by omega, Nat.le_refl _, Nat.le_refl _, rfl, rfl, ⟨Or.inl rfl, Or.inl rfl⟩, Lies.start HS.out HD.out⟩
  case round =>
    obtain ⟨i, j, hmi, hij, hjb, hg, rfl, rfl, I, L⟩ := hrel
    have hg' : Hid (j - i ≤ gk) := hg
    clear hg
    by_cases hlt2 : i < j
    · have k1 : (i : Int) < (j : Int) := by omega
      have k2 : (j : Int) ≤ 1000000 := by omega
      have hl := HS.out.less d wr m ((i + j) / 2) L.out.hd (by omega) (by omega)
      rw [show (((i + j) / 2 : Nat) : Int) = ((i : Int) + (j : Int)) / 2 by omega] at hl
      have c0 := L.out.c0
      go_wp2_with fail
      refine hl.mono ?_
      rintro e w3 ⟨rfl, hb3⟩
      have L3 : Hid (Lies blk lf lb sf sb Hd w d w3) := L.out.below HS.out hb3
      clear hl hb3 c0 L
      by_cases hless : cO d[m]! d[(i + j) / 2]! < 0
      · rw [decide_eq_true hless]
        have I2 : Hid ((i = a ∨ ltC d[m]! d[i - 1]! = false) ∧ ((i + j) / 2 = m ∨ ltC d[m]! d[(i + j) / 2]! = true)) := ⟨I.out.1, Or.inr (by simp [ltC, hless])⟩
        clear hless
        go_wp2
        go_roundg ((i + j) / 2 - i)
        case measure => have := hg'.out; omega
        case rel => exact ⟨i, (i + j) / 2, hmi, by omega, by omega, Nat.le_refl _, rfl, by first | rfl | (congr 1; omega) | go_num, I2, L3⟩
      · rw [decide_eq_false hless]
        have I2 : Hid (((i + j) / 2 + 1 = a ∨ ltC d[m]! d[(i + j) / 2 + 1 - 1]! = false) ∧ (j = m ∨ ltC d[m]! d[j]! = true)) := ⟨Or.inr (by rw [Nat.add_sub_cancel]; simp [ltC, hless]), I.out.2⟩
        clear hless
        go_wp2
        go_roundg (j - ((i + j) / 2 + 1))
        case measure => have := hg'.out; omega
        case rel => exact ⟨(i + j) / 2 + 1, j, by omega, by omega, hjb, Nat.le_refl _, by first | rfl | (congr 1; omega) | go_num, rfl, I2, L3⟩
    · obtain rfl : i = j := by omega
      have k1 : ¬ ((i : Int) < (i : Int)) := by omega
      have k2 : (i : Int) ≤ 1000000 := by omega
      have HM : Hid (Merged ltC a b d (mvDn d m (m - i))) := by
        have hz := HZ.out
        obtain rfl : b = m + 1 := by omega
        exact ⟨mvDn_perm _ _ _ _ _ (by omega) (by omega) (by omega), dn_sorted HO.out d a m i hmi hjb (by omega) HSo.out I.out.1 I.out.2⟩
      go_wp2
      go_loopg [15] (m - i) (fun g v15 wr => ∃ (k : Nat), k ≤ m - i ∧ g = m - i - k ∧ v15 = .int .i64 ((m - k : Nat) : Int) ∧ Hid (Lies blk lf lb sf sb Hd w (mvDn d m k) wr))
      case atStart => exact ⟨0, Nat.zero_le _, rfl, rfl, L⟩
      case round =>
        obtain ⟨k, hk, hg2, rfl, L2⟩ := hrel
        have HG2 : Hid (gk = m - i - k) := hg2
        clear hg2
        have q3 : ((m - k : Nat) : Int) ≤ 1000000 := by omega
        have q4 : (0 : Int) ≤ ((m - k : Nat) : Int) := by omega
        by_cases hk2 : k < m - i
        · obtain ⟨W4, hrun, hH4, hg4⟩ := HS.out.swap _ wr (m - k) (m - k - 1) L2.out.hd (by omega) (by omega)
          have q2 : ((m - k : Nat) : Int) - 1 = ((m - k - 1 : Nat) : Int) := by omega
          have L4 : Hid (Lies blk lf lb sf sb Hd w (mvDn d m (k + 1)) W4) := L2.out.turn hlt hH4 hg4
          have c1 := L2.out.c1
          have q1 : (i : Int) < ((m - k : Nat) : Int) := by omega
          rw [← q2] at hrun
          clear hH4 hg4 q2
          generalize hX : ((m - k : Nat) : Int) = X at *
          go_wp2
          go_roundg (m - i - (k + 1))
          case measure => have := HG2.out; omega
          case rel => exact ⟨k + 1, by omega, rfl, by first | rfl | (congr 1; omega) | go_num, L4⟩
        · have e1 : Hid (k = m - i) := by show k = m - i; omega
          have q1 : ¬ ((i : Int) < ((m - k : Nat) : Int)) := by omega
          generalize hX : ((m - k : Nat) : Int) = X at *
          go_wp2
          (try simp only [Exit.inBlock, Exit.then]); refine bodyPost_ret (results_none rfl _ _ _) rfl ?_
          exact ⟨rfl, _, L2.out.hd, by rw [e1.out]; exact HM.out, L2.out.grown⟩

end Go.Proofs.YtfldfnphidehlaaDoor
