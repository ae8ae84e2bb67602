/- sort's stable sort over whatever row: sorted, and the same ones. -/
import Derived.Test.YtfldfnphidehlaaDoorSymr
namespace Go.Proofs.YtfldfnphidehlaaDoor
open Go.RowKit Go.Sort
set_option maxRecDepth 100000

theorem min_sorted {lt : O → O → Bool} {a b n : Nat} {d : Array O} (h : SortedIn lt a (min b n) d) (hb : b ≤ n) : SortedIn lt a b d := by
  rw [Nat.min_eq_left hb] at h; exact h
theorem min_sorted' {lt : O → O → Bool} {a b n : Nat} {d : Array O} (h : SortedIn lt a (min b n) d) (hb : n ≤ b) : SortedIn lt a n d := by
  rw [Nat.min_eq_right hb] at h; exact h

set_option maxHeartbeats 4000000 in
theorem stable_any {blk n lf sf : Nat} {lb sb : Array Value} {Hd : Array O → World → Prop} (S : Sorter blk n lf lb sf sb Hd) (hO : SWO ltC) (d : Array O) (w : World) (hd : Hd d w) (hn : n ≤ 1000000) :
    Calls Tryd.prog 39 #[.agg #[.func (.func lf) #[] lb, .func (.func sf) #[] sb], .int .i64 n] w fun e w' => e = .returned (.tuple #[]) ∧ ∃ d', Hd d' w' ∧ PermIn 0 n d d' ∧ SortedIn ltC 0 n d' ∧ w.grownBy w' (some blk) := by
  have hlt := S.lt d w hd
  have hsz := S.size d w hd
  have HZ : Hid (d.size = n) := hsz
  have HO : Hid (SWO ltC) := hO
  have HS : Hid (Sorter blk n lf lb sf sb Hd) := S
  have HD : Hid (Hd d w) := hd
  have HI : Hid (SymSays blk n lf lb sf sb Hd n) := sym_any S hO hn n
  have i1 : (n : Int) ≤ 1000000 := by omega
  clear S hd hO hsz
  go_enter Tryd.func39, Tryd.ntmps39
  go_wp2
  go_loopg [5, 6] n (fun g v5 v6 wr => ∃ (t a : Nat) (d' : Array O), a ≤ n ∧ g = n - a ∧ v5 = .int .i64 a ∧ v6 = .int .i64 ((a + 20 : Nat) : Int) ∧ Hid (a = t * 20 ∧ Firsts ltC t d' ∧ PermIn 0 n d d') ∧ Hid (Lies blk lf lb sf sb Hd w d' wr))
  case atStart => exact ⟨0, 0, d, Nat.zero_le _, rfl, rfl, rfl, ⟨rfl, fun c hc => absurd hc (Nat.not_lt_zero _), permIn_refl _ _ _⟩, Lies.start HS.out HD.out⟩
  case round =>
    obtain ⟨t, a, d', ha, hg, rfl, rfl, I, L⟩ := hrel
    have HG : Hid (gk = n - a) := hg
    clear hg
    have k2 : (a : Int) ≤ 1000000 := by omega
    have c0 := L.out.c0
    have c1 := L.out.c1
    by_cases hb : a + 20 ≤ n
    · have k1 : ((a + 20 : Nat) : Int) ≤ (n : Int) := by omega
      have hi := ins_any HS.out d' a (a + 20) wr L.out.hd hb hn (by omega)
      have k4 : (0 : Int) ≤ ((a + 20 : Nat) : Int) := by omega
      have I2 : Hid (a + 20 = (t + 1) * 20 ∧ Firsts ltC (t + 1) (insertionSort ltC d' a (a + 20)) ∧ PermIn 0 n d (insertionSort ltC d' a (a + 20))) := by
        obtain ⟨e1, e2, e3⟩ := I.out
        have hz := HZ.out
        have hq : d'.size = d.size := e3.1
        have hp := insertionSort_holds HO.out d' a (a + 20) (by omega) (by omega)
        refine ⟨by omega, ?_, permIn_trans _ _ _ _ _ e3 (permIn_mono _ _ _ _ _ _ (Nat.zero_le _) hb (by omega) hp.1)⟩
        subst e1
        exact e2.step hp.1 hp.2
      generalize hX : ((a + 20 : Nat) : Int) = X at *
      go_wp2_with fail
      refine hi.mono ?_
      rintro e w1 ⟨rfl, hH1, hg1⟩
      have L1 : Hid (Lies blk lf lb sf sb Hd w (insertionSort ltC d' a (a + 20)) w1) := L.out.turn hlt hH1 hg1
      clear hH1 hg1 hi c0 c1 L
      go_wp2
      go_roundg (n - (a + 20))
      case measure => have := HG.out; omega
      case rel => exact ⟨t + 1, a + 20, _, hb, rfl, by first | rfl | (congr 1; omega) | go_num, by first | rfl | (congr 1; omega) | go_num, I2, L1⟩
    · have k1 : ¬ (((a + 20 : Nat) : Int) ≤ (n : Int)) := by omega
      have hi := ins_any HS.out d' a n wr L.out.hd (Nat.le_refl _) hn (by omega)
      have I2 : Hid (Blk ltC 20 n (insertionSort ltC d' a n) ∧ PermIn 0 n d (insertionSort ltC d' a n)) := by
        obtain ⟨e1, e2, e3⟩ := I.out
        have hz := HZ.out
        have hq : d'.size = d.size := e3.1
        have hp := insertionSort_holds HO.out d' a n (by omega) (by omega)
        refine ⟨?_, permIn_trans _ _ _ _ _ e3 (permIn_mono _ _ _ _ _ _ (Nat.zero_le _) (Nat.le_refl _) (by omega) hp.1)⟩
        subst e1
        exact e2.blk (by omega) hp.1 hp.2
      generalize hX : ((a + 20 : Nat) : Int) = X at *
      go_wp2_with fail
      refine hi.mono ?_
      rintro e w1 ⟨rfl, hH1, hg1⟩
      have L1 : Hid (Lies blk lf lb sf sb Hd w (insertionSort ltC d' a n) w1) := L.out.turn hlt hH1 hg1
      clear hH1 hg1 hi c0 c1 L
      generalize insertionSort ltC d' a n = d1 at L1 I2
      go_wp2
      go_loopg [4] n (fun g v4 wr => ∃ (s : Nat) (d2 : Array O), 20 ≤ s ∧ s ≤ 2000000 ∧ n - s ≤ g ∧ v4 = .int .i64 s ∧ Hid (Blk ltC s n d2 ∧ PermIn 0 n d d2) ∧ Hid (Lies blk lf lb sf sb Hd w d2 wr))
      case atStart => exact ⟨20, d1, Nat.le_refl _, by omega, by omega, rfl, I2, L1⟩
      case round =>
        obtain ⟨s, d2, hs1, hs2, hg2, rfl, J, L2⟩ := hrel
        have HG2 : Hid (n - s ≤ gk) := hg2
        clear hg2
        by_cases hsn : s < n
        · have j1 : (s : Int) < (n : Int) := by omega
          have j2 : (0 : Int) ≤ (s : Int) := by omega
          go_wp2
          go_loopg [5, 6] n (fun g v5 v6 wr => ∃ (t a : Nat) (d3 : Array O), a ≤ n ∧ g = n - a ∧ v5 = .int .i64 a ∧ v6 = .int .i64 ((a + 2 * s : Nat) : Int) ∧ Hid (a = t * (2 * s) ∧ Midw ltC s n t d3 ∧ PermIn 0 n d d3) ∧ Hid (Lies blk lf lb sf sb Hd w d3 wr))
          case atStart => exact ⟨0, 0, d2, Nat.zero_le _, rfl, rfl, by first | rfl | (congr 1; omega) | go_num, ⟨by rw [Nat.zero_mul], J.out.1.mid, J.out.2⟩, L2⟩
          case round =>
            obtain ⟨t, a3, d3, ha3, hg3, rfl, rfl, K, L3⟩ := hrel
            have HG3 : Hid (gk = n - a3) := hg3
            clear hg3
            have m2 : (a3 : Int) ≤ 1000000 := by omega
            have m3 : (a3 : Int) + (s : Int) = ((a3 + s : Nat) : Int) := by omega
            have m5 : ((a3 + 2 * s : Nat) : Int) ≤ 3000000 := by omega
            have m6 : (0 : Int) ≤ ((a3 + 2 * s : Nat) : Int) := by omega
            have c0 := L3.out.c0
            have c1 := L3.out.c1
            by_cases hb3 : a3 + 2 * s ≤ n
            · have m1 : ((a3 + 2 * s : Nat) : Int) ≤ (n : Int) := by omega
              have hi := HI.out d3 a3 (a3 + s) (a3 + 2 * s) wr (by omega) L3.out.hd (by omega) (by omega) hb3 (by
                obtain ⟨e1, e2, e3⟩ := K.out
                have := e2.ahead; rw [← e1] at this; exact min_sorted this (by omega)) (by
                obtain ⟨e1, e2, e3⟩ := K.out
                have := e2.next; rw [← e1] at this; exact min_sorted this (by omega))
              rw [← m3] at hi
              clear m3
              generalize hX : ((a3 + 2 * s : Nat) : Int) = X at *
              go_wp2_with fail
              refine Calls.mono hi ?_
              rintro e w4 ⟨rfl, d4, hH4, hM4, hg4⟩
              have L4 : Hid (Lies blk lf lb sf sb Hd w d4 w4) := L3.out.turn hlt hH4 hg4
              have K4 : Hid (a3 + 2 * s = (t + 1) * (2 * s) ∧ Midw ltC s n (t + 1) d4 ∧ PermIn 0 n d d4) := by
                obtain ⟨e1, e2, e3⟩ := K.out
                have hz := HZ.out
                have hq : d3.size = d.size := e3.1
                refine ⟨by rw [Nat.add_mul, Nat.one_mul, ← e1], ?_, permIn_trans _ _ _ _ _ e3 (permIn_mono _ _ _ _ _ _ (Nat.zero_le _) hb3 (by omega) hM4.1)⟩
                rw [e1] at hM4
                exact e2.step hM4
              clear hH4 hM4 hg4 hi c0 c1 L3 K
              go_wp2
              go_roundg (n - (a3 + 2 * s))
              case measure => have := HG3.out; omega
              case rel => exact ⟨t + 1, a3 + 2 * s, d4, hb3, rfl, by first | rfl | (congr 1; omega) | go_num, by first | rfl | (congr 1; omega) | go_num, K4, L4⟩
            · have m1 : ¬ (((a3 + 2 * s : Nat) : Int) ≤ (n : Int)) := by omega
              by_cases hm : a3 + s < n
              · have m7 : (a3 : Int) + (s : Int) < (n : Int) := by omega
                have hi := HI.out d3 a3 (a3 + s) n wr (by omega) L3.out.hd (by omega) hm (Nat.le_refl _) (by
                  obtain ⟨e1, e2, e3⟩ := K.out
                  have := e2.ahead; rw [← e1] at this; exact min_sorted this (by omega)) (by
                  obtain ⟨e1, e2, e3⟩ := K.out
                  have := e2.next; rw [← e1] at this; exact min_sorted' this (by omega))
                rw [← m3] at hi
                clear m3
                generalize hX : ((a3 + 2 * s : Nat) : Int) = X at *
                go_wp2_with fail
                refine Calls.mono hi ?_
                rintro e w4 ⟨rfl, d4, hH4, hM4, hg4⟩
                have L4 : Hid (Lies blk lf lb sf sb Hd w d4 w4) := L3.out.turn hlt hH4 hg4
                have K4 : Hid (Blk ltC (2 * s) n d4 ∧ PermIn 0 n d d4) := by
                  obtain ⟨e1, e2, e3⟩ := K.out
                  have hz := HZ.out
                  have hq : d3.size = d.size := e3.1
                  refine ⟨?_, permIn_trans _ _ _ _ _ e3 (permIn_mono _ _ _ _ _ _ (Nat.zero_le _) (Nat.le_refl _) (by omega) hM4.1)⟩
                  rw [e1] at hM4 hb3
                  exact e2.done (by omega) hM4
                clear hH4 hM4 hg4 hi c0 c1 L3 K
                go_wp2
                go_roundg (n - 2 * s)
                case measure => have := HG2.out; omega
                case rel => exact ⟨2 * s, d4, by omega, by omega, Nat.le_refl _, by first | rfl | (congr 1; omega) | go_num, K4, L4⟩
              · have m7 : ¬ ((a3 : Int) + (s : Int) < (n : Int)) := by omega
                have K4 : Hid (Blk ltC (2 * s) n d3 ∧ PermIn 0 n d d3) := by
                  obtain ⟨e1, e2, e3⟩ := K.out
                  rw [e1] at hb3 hm
                  exact ⟨e2.done (by omega) (e2.last (by omega)), e3⟩
                clear m3
                generalize hX : ((a3 + 2 * s : Nat) : Int) = X at *
                go_wp2
                go_roundg (n - 2 * s)
                case measure => have := HG2.out; omega
                case rel => exact ⟨2 * s, d3, by omega, by omega, Nat.le_refl _, by first | rfl | (congr 1; omega) | go_num, K4, L3⟩
        · have j1 : ¬ ((s : Int) < (n : Int)) := by omega
          go_wp2
          go_end0
          exact ⟨rfl, d2, L2.out.hd, J.out.2, J.out.1.whole (by omega), L2.out.grown⟩

end Go.Proofs.YtfldfnphidehlaaDoor
