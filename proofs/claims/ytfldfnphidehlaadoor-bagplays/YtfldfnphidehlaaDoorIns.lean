/- sort's insertion sort, over whatever row. -/
import Derived.Test.YtfldfnphidehlaaDoorStab
namespace Go.Proofs.YtfldfnphidehlaaDoor
open Go.RowKit Go.Sort
set_option maxRecDepth 100000

abbrev ltC (x y : O) : Bool := decide (cO x y < 0)

set_option maxHeartbeats 2000000 in
theorem ins_any {blk n lf sf : Nat} {lb sb : Array Value} {Hd : Array O → World → Prop} (S : Sorter blk n lf lb sf sb Hd) (d : Array O) (a b : Nat) (w : World) (hd : Hd d w) (h2 : b ≤ n) (hn : n ≤ 1000000) (ha : a ≤ 1000000) :
    Calls Tryd.prog 59 #[.agg #[.func (.func lf) #[] lb, .func (.func sf) #[] sb], .int .i64 a, .int .i64 b] w fun e w' => e = .returned (.tuple #[]) ∧ Hd (insertionSort ltC d a b) w' ∧ w.grownBy w' (some blk) := by
  have hlt := S.lt d w hd
  have HS : Hid (Sorter blk n lf lb sf sb Hd) := S
  have HD : Hid (Hd d w) := hd
  have heg := S.enters
  have i3 : (b : Int) ≤ 1000000 := by omega
  have i5 : (a : Int) ≤ 1000000 := by omega
  clear S hd
  go_enter Tryd.func59, Tryd.ntmps59
  go_wp2
  go_loopg [6] (b + 1 - (a + 1)) (fun g v6 wr => ∃ (i : Nat) (d' : Array O), a + 1 ≤ i ∧ i ≤ 1000001 ∧ g = b + 1 - i ∧ v6 = .int .i64 i ∧ insOuter ltC a b i d' = insertionSort ltC d a b ∧ Hd d' wr ∧ w.grownBy wr (some blk) ∧ wr.heap[w.heap.size]? = some (.cells #[.func (.func lf) #[] lb, .func (.func sf) #[] sb] 93))
  case atStart => exact ⟨a + 1, d, Nat.le_refl _, by omega, rfl, by go_num, rfl, HS.out.kept _ _ _ HD.out (Go.Joins.below_alloc1 _ _), World.grownBy_alloc _ _ _, heap_alloc_new _ _⟩
  case round =>
    obtain ⟨i, d', hi, hi2, hg, rfl, hR', hH, hB, hbox⟩ := hrel
    have HG : Hid (gk = b + 1 - i) := hg
    have HH : Hid (Hd d' wr) := hH
    have HB : Hid (w.grownBy wr (some blk)) := hB
    have HX : Hid (wr.heap[w.heap.size]? = some (.cells #[.func (.func lf) #[] lb, .func (.func sf) #[] sb] 93)) := hbox
    have HR : Hid (insOuter ltC a b i d' = insertionSort ltC d a b) := hR'
    clear hg hR' hH hB hbox
    by_cases hib : i < b
    · have k1 : (i : Int) < (b : Int) := by omega
      have k2 : (a : Int) < (i : Int) := by omega
      have HR2 : Hid (insOuter ltC a b (i + 1) (insInner ltC a i d') = insertionSort ltC d a b) := by
        have hr := HR.out
        rw [insOuter, if_pos hib] at hr
        exact hr
      go_wp2
      go_loopg [7] (i + 1) (fun g v7 wr => ∃ (j : Nat) (d2 : Array O), a ≤ j ∧ j ≤ i ∧ g = j + 1 ∧ v7 = .int .i64 j ∧ insInner ltC a j d2 = insInner ltC a i d' ∧ Hd d2 wr ∧ w.grownBy wr (some blk) ∧ wr.heap[w.heap.size]? = some (.cells #[.func (.func lf) #[] lb, .func (.func sf) #[] sb] 93))
      case atStart => exact ⟨i, d', by omega, Nat.le_refl _, rfl, rfl, rfl, HH.out, HB.out, HX.out⟩
      case round =>
        obtain ⟨j, d2, hj, hji, hg2, rfl, hR2, hH2, hB2, hbox2⟩ := hrel
        have HG2 : Hid (gk = j + 1) := hg2
        have HH2 : Hid (Hd d2 wr) := hH2
        have HB2 : Hid (w.grownBy wr (some blk)) := hB2
        have HX2 : Hid (wr.heap[w.heap.size]? = some (.cells #[.func (.func lf) #[] lb, .func (.func sf) #[] sb] 93)) := hbox2
        have HI : Hid (insInner ltC a j d2 = insInner ltC a i d') := hR2
        have c0 : wr.cell? ⟨w.heap.size, 0, none⟩ = some (.func (.func lf) #[] lb) := by rw [Go.Joins.cell_of_block hbox2]; rfl
        have hz : w.heap.size < wr.heap.size := (Array.getElem?_eq_some_iff.1 hbox2).1
        clear hg2 hH2 hB2 hbox2 hR2
        by_cases hja : a < j
        · obtain ⟨j', rfl⟩ : ∃ j', j = j' + 1 := ⟨j - 1, by omega⟩
          have m1 : (a : Int) < ((j' + 1 : Nat) : Int) := by omega
          have m2 : ((j' + 1 : Nat) : Int) - 1 = (j' : Int) := by omega
          have m3 : ((j' + 1 : Nat) : Int) ≤ 1000000 := by omega
          have hl := HS.out.less d2 wr (j' + 1) j' HH2.out (by omega) (by omega)
          generalize hjj : ((j' + 1 : Nat) : Int) = J at *
          go_wp2_with fail
          refine hl.mono ?_
          rintro e w3 ⟨rfl, hb3⟩
          have HH3 : Hid (Hd d2 w3) := HS.out.kept _ _ _ HH2.out hb3
          have HB3 : Hid (w.grownBy w3 (some blk)) := HB2.out.trans ⟨hb3.os, hb3.tape, hb3.output, hb3.size, fun k hk _ => hb3.block k hk⟩
          have HX3 : Hid (w3.heap[w.heap.size]? = some (.cells #[.func (.func lf) #[] lb, .func (.func sf) #[] sb] 93)) := (hb3.block _ hz).trans HX2.out
          have hz3 : w.heap.size < w3.heap.size := Nat.lt_of_lt_of_le hz hb3.size
          have c3 : w3.cell? ⟨w.heap.size, 1, none⟩ = some (.func (.func sf) #[] sb) := by rw [Go.Joins.cell_of_block HX3.out]; rfl
          clear hl hb3 c0
          by_cases hless : cO d2[j' + 1]! d2[j']! < 0
          · rw [decide_eq_true hless]
            obtain ⟨W4, hrun, hH4, hg4⟩ := HS.out.swap d2 w3 (j' + 1) j' HH3.out (by omega) (by omega)
            rw [hjj] at hrun
            have HN : Hid (Hd (swp d2 (j' + 1) j') W4 ∧ w.grownBy W4 (some blk) ∧ W4.heap[w.heap.size]? = some (.cells #[.func (.func lf) #[] lb, .func (.func sf) #[] sb] 93)) :=
              ⟨hH4, HB3.out.trans hg4, (hg4.block _ hz3 (by simp; omega)).trans HX3.out⟩
            have HI2 : Hid (insInner ltC a j' (swp d2 (j' + 1) j') = insInner ltC a i d') := by
              have hr := HI.out
              rw [insInner, if_pos (by simp [ltC, hless]; omega)] at hr
              exact hr
            clear hH4 hg4 hless
            go_wp2
            go_roundg (j' + 1)
            case measure => have := HG2.out; omega
            case rel => exact ⟨j', _, by omega, by omega, rfl, by first | rfl | go_num | (congr 1), HI2.out, HN.out.1, HN.out.2.1, HN.out.2.2⟩
          · rw [decide_eq_false hless]
            have HI2 : Hid (insInner ltC a i d' = d2) := by
              have hr := HI.out
              rw [insInner, if_neg (by simp [ltC, hless])] at hr
              exact hr.symm
            clear hless
            go_wp2
            go_roundg (b + 1 - (i + 1))
            case measure => have := HG.out; omega
            case rel => exact ⟨i + 1, d2, by omega, by omega, rfl, by go_num, by rw [← HI2.out]; exact HR2.out, HH3.out, HB3.out, HX3.out⟩
        · have e1 : j = a := by omega
          have m1 : ¬ ((a : Int) < (j : Int)) := by omega
          have HI2 : Hid (insInner ltC a i d' = d2) := by
            have hr := HI.out
            cases j with
            | zero => exact hr.symm
            | succ j' => rw [insInner, if_neg (by simp; omega)] at hr; exact hr.symm
          go_wp2
          go_roundg (b + 1 - (i + 1))
          case measure => have := HG.out; omega
          case rel => exact ⟨i + 1, d2, by omega, by omega, rfl, by go_num, by rw [← HI2.out]; exact HR2.out, HH2.out, HB2.out, HX2.out⟩
    · clear i3
      have k1 : ¬ ((i : Int) < (b : Int)) := by omega
      go_wp2
      go_end0
      refine ⟨rfl, ?_, HB.out⟩
      rw [← HR.out, insOuter, if_neg hib]; exact HH.out

end Go.Proofs.YtfldfnphidehlaaDoor
