/- sort's symMerge over whatever row: both runs longer than one. -/
import Derived.Test.YtfldfnphidehlaaDoorSym
namespace Go.Proofs.YtfldfnphidehlaaDoor
open Go.RowKit Go.Sort
set_option maxRecDepth 100000

/-- What a merge answers. -/
def SymSays (blk n lf : Nat) (lb : Array Value) (sf : Nat) (sb : Array Value) (Hd : Array O → World → Prop) (g : Nat) : Prop :=
  ∀ (d : Array O) (a m b : Nat) (w : World), b - a ≤ g → Hd d w → a < m → m < b → b ≤ n → SortedIn ltC a m d → SortedIn ltC m b d →
    Calls Tryd.prog 60 #[.agg #[.func (.func lf) #[] lb, .func (.func sf) #[] sb], .int .i64 a, .int .i64 m, .int .i64 b] w fun e w' => e = .returned (.tuple #[]) ∧ ∃ d', Hd d' w' ∧ Merged ltC a b d d' ∧ w.grownBy w' (some blk)

theorem turned_none (d : Array O) (s m e : Nat) (h : s = m ∨ e = m) (h2 : s ≤ m) (h3 : m ≤ e) : Turned d d s m e := by
  intro p
  rcases h with h | h
  · subst h
    rw [Nat.sub_self, Nat.add_zero]
    split
    · rfl
    · rw [if_neg (by omega)]
  · subst h
    rw [Nat.sub_self, Nat.add_zero, Nat.sub_zero, if_neg (by omega)]
    split <;> rfl

set_option maxHeartbeats 8000000 in
theorem sym_recA {blk n lf sf : Nat} {lb sb : Array Value} {Hd : Array O → World → Prop} (S : Sorter blk n lf lb sf sb Hd) (hO : SWO ltC) (g0 : Nat) (hI : SymSays blk n lf lb sf sb Hd g0) (d : Array O) (a m b : Nat) (w : World) (hg0 : b - a ≤ g0 + 1) (hd : Hd d w) (h0 : a + 1 < m) (h1 : m + 1 < b) (h3 : b ≤ n) (hn : n ≤ 1000000) (hc : (a + b) / 2 < m) (hs1 : SortedIn ltC a m d) (hs2 : SortedIn ltC m b d) :
    Calls Tryd.prog 60 #[.agg #[.func (.func lf) #[] lb, .func (.func sf) #[] sb], .int .i64 a, .int .i64 m, .int .i64 b] w fun e w' => e = .returned (.tuple #[]) ∧ ∃ d', Hd d' w' ∧ Merged ltC a b d d' ∧ w.grownBy w' (some blk) := by
  have hlt := S.lt d w hd
  have hsz := S.size d w hd
  have HZ : Hid (d.size = n) := hsz
  have HO : Hid (SWO ltC) := hO
  have HI : Hid (SymSays blk n lf lb sf sb Hd g0) := hI
  have HS1 : Hid (SortedIn ltC a m d) := hs1
  have HS2 : Hid (SortedIn ltC m b d) := hs2
  have HS : Hid (Sorter blk n lf lb sf sb Hd) := S
  have HD : Hid (Hd d w) := hd
  have heg := S.enters
  obtain ⟨mid, hmid⟩ : ∃ mid, mid = (a + b) / 2 := ⟨_, rfl⟩
  rw [← hmid] at hc
  have hm1 : 2 * mid ≤ a + b := by omega
  have hm2 : a + b ≤ 2 * mid + 1 := by omega
  have HM : Hid (mid = (a + b) / 2) := hmid
  have i1 : ((m : Int) - (a : Int) == 1) = false := by rw [beq_eq_false_iff_ne]; omega
  have i1' : (m : Int) - (a : Int) ≠ 1 := by omega
  have i2 : ((b : Int) - (m : Int) == 1) = false := by rw [beq_eq_false_iff_ne]; omega
  have i2' : (b : Int) - (m : Int) ≠ 1 := by omega
  have i3 : (b : Int) ≤ 1000000 := by omega
  have i4 : (m : Int) ≤ 1000000 := by omega
  have i5 : (a : Int) ≤ 1000000 := by omega
  have i6 : ((a : Int) + (b : Int)) / 2 = (mid : Int) := by omega
  have i7 : (mid : Int) ≤ 1000000 := by omega
  have i8 : (mid : Int) < (m : Int) := by omega
  clear S hd hs1 hs2 hO hsz hI hmid
  go_enter Tryd.func60, Tryd.ntmps60
  go_wp2
  go_loopg [18, 19] (mid - (mid + m - b)) (fun g v8 v9 wr => ∃ (s r : Nat), mid + m - b ≤ s ∧ s ≤ r ∧ r ≤ mid ∧ r - s ≤ g ∧ v8 = .int .i64 s ∧ v9 = .int .i64 r ∧ Hid ((s = mid + m - b ∨ ltC d[mid + m - s]! d[s - 1]! = false) ∧ (r = mid ∨ ltC d[mid + m - r - 1]! d[r]! = true)) ∧ Hid (Lies blk lf lb sf sb Hd w d wr))
  case atStart => exact ⟨mid + m - b, mid, Nat.le_refl _, by omega, Nat.le_refl _, Nat.le_refl _, by first | rfl | (congr 1; omega) | go_num, by first | rfl | (congr 1; omega) | go_num, ⟨Or.inl rfl, Or.inl rfl⟩, Lies.start HS.out HD.out⟩
  case round =>
    obtain ⟨s, r, hmi, hij, hjb, hg, rfl, rfl, I, L⟩ := hrel
    have hg' : Hid (r - s ≤ gk) := hg
    clear hg
    by_cases hlt2 : s < r
    · have k1 : (s : Int) < (r : Int) := by omega
      have k2 : (r : Int) ≤ 1000000 := by omega
      have hl := HS.out.less d wr (mid + m - 1 - (s + r) / 2) ((s + r) / 2) L.out.hd (by omega) (by omega)
      rw [show ((mid + m - 1 - (s + r) / 2 : Nat) : Int) = (mid : Int) + (m : Int) - 1 - ((s : Int) + (r : Int)) / 2 by omega, show (((s + r) / 2 : Nat) : Int) = ((s : Int) + (r : Int)) / 2 by omega] at hl
      have c0 := L.out.c0
      go_wp2_with fail
      refine hl.mono ?_
      rintro e w3 ⟨rfl, hb3⟩
      have L3 : Hid (Lies blk lf lb sf sb Hd w d w3) := L.out.below HS.out hb3
      clear hl hb3 c0 L
      by_cases hless : cO d[mid + m - 1 - (s + r) / 2]! d[(s + r) / 2]! < 0
      · rw [decide_eq_true hless]
        have I2 : Hid ((s = mid + m - b ∨ ltC d[mid + m - s]! d[s - 1]! = false) ∧ ((s + r) / 2 = mid ∨ ltC d[mid + m - (s + r) / 2 - 1]! d[(s + r) / 2]! = true)) := ⟨I.out.1, Or.inr (by rw [show mid + m - (s + r) / 2 - 1 = mid + m - 1 - (s + r) / 2 by omega]; simp [ltC, hless])⟩
        clear hless
        go_wp2
        go_roundg ((s + r) / 2 - s)
        case measure => have := hg'.out; omega
        case rel => exact ⟨s, (s + r) / 2, hmi, by omega, by omega, Nat.le_refl _, rfl, by first | rfl | (congr 1; omega) | go_num, I2, L3⟩
      · rw [decide_eq_false hless]
        have I2 : Hid (((s + r) / 2 + 1 = mid + m - b ∨ ltC d[mid + m - ((s + r) / 2 + 1)]! d[(s + r) / 2 + 1 - 1]! = false) ∧ (r = mid ∨ ltC d[mid + m - r - 1]! d[r]! = true)) := ⟨Or.inr (by rw [Nat.add_sub_cancel, show mid + m - ((s + r) / 2 + 1) = mid + m - 1 - (s + r) / 2 by omega]; simp [ltC, hless]), I.out.2⟩
        clear hless
        go_wp2
        go_roundg (r - ((s + r) / 2 + 1))
        case measure => have := hg'.out; omega
        case rel => exact ⟨(s + r) / 2 + 1, r, by omega, by omega, hjb, Nat.le_refl _, by first | rfl | (congr 1; omega) | go_num, rfl, I2, L3⟩
    · obtain rfl : s = r := by omega
      have k1 : ¬ ((s : Int) < (s : Int)) := by omega
      have k2 : (s : Int) ≤ 1000000 := by omega
      obtain ⟨e, he⟩ : ∃ e, e = mid + m - s := ⟨_, rfl⟩
      have he1 : e + s ≤ mid + m := by omega
      have he2 : mid + m ≤ e + s := by omega
      have k3 : (mid : Int) + (m : Int) - (s : Int) = (e : Int) := by omega
      have k4 : (e : Int) ≤ 1000000 := by omega
      have HF : Hid (∀ r, Turned d r s m e → Halves ltC a s mid e b r) := by
        intro r hT
        rw [he] at hT ⊢
        have hL : s = a ∨ mid + m = b + s ∨ ltC d[mid + m - s]! d[s - 1]! = false := by
          rcases I.out.1 with h | h
          · first | exact Or.inl (by omega) | exact Or.inr (Or.inl (by omega))
          · exact Or.inr (Or.inr h)
        have hR : s = m ∨ s = mid ∨ ltC d[mid + m - s - 1]! d[s]! = true := by
          rcases I.out.2 with h | h
          · first | exact Or.inl (by omega) | exact Or.inr (Or.inl (by omega))
          · exact Or.inr (Or.inr h)
        exact halves_of HO.out d r a m b s mid (by omega) HM.out HS1.out HS2.out (by omega) (by omega) (by omega) (by omega) hL hR hT
      clear he
      by_cases hsm : mid ≤ s
      · have x1 : (s : Int) < (m : Int) := by omega
        have x2 : ¬ ((m : Int) < (e : Int)) := by omega
        have HH : Hid (Halves ltC a s mid e b d ∧ PermIn a b d d) := ⟨HF.out _ (turned_none _ _ _ _ (by omega) (by omega) (by omega)), permIn_refl _ _ _⟩
        have y1 : (a : Int) < (s : Int) := by omega
        have y2 : ¬ ((s : Int) < (mid : Int)) := by omega
        have M2 : Hid (Merged ltC a mid d d) := merged_same HH.out.1.h1 HH.out.1.h2 (by omega)
        have z1 : (mid : Int) < (e : Int) := by omega
        have z2 : (e : Int) < (b : Int) := by omega
        have hri := HI.out d mid e b wr (by omega) L.out.hd (by omega) (by omega) (by omega) ((HH.out.1.right M2.out).resolve_right (by omega)).1 ((HH.out.1.right M2.out).resolve_right (by omega)).2
        have c0 := L.out.c0
        have c1 := L.out.c1
        go_wp2_with fail
        refine Calls.mono hri ?_
        rintro ex w3 ⟨rfl, d3, hH3, hM3, hg3⟩
        have L3 : Hid (Lies blk lf lb sf sb Hd w d3 w3) := L.out.turn hlt hH3 hg3
        have M3 : Hid (Merged ltC mid b d d3) := hM3
        clear hH3 hM3 hg3 hri c0 c1 L
        go_wp2
        go_end0
        refine ⟨rfl, d3, L3.out.hd, ?_, L3.out.grown⟩
        have hz := HZ.out
        have hq : d.size = d.size := HH.out.2.1
        have hm := HH.out.1.done (by omega) (by omega) (by omega) M2.out M3.out
        exact ⟨permIn_trans _ _ _ _ _ HH.out.2 hm.1, hm.2⟩
      · have hro := rotate_any HS.out d s m e wr L.out.hd (by omega) (by omega) (by omega) hn
        have c0 := L.out.c0
        have c1 := L.out.c1
        have x1 : (s : Int) < (m : Int) := by omega
        have x2 : (m : Int) < (e : Int) := by omega
        go_wp2_with fail
        refine hro.mono ?_
        rintro ex w1 ⟨rfl, hH1, hg1⟩
        have L1 : Hid (Lies blk lf lb sf sb Hd w (rotA (e - s) d m (m - s) (e - m)) w1) := L.out.turn hlt hH1 hg1
        have HH : Hid (Halves ltC a s mid e b (rotA (e - s) d m (m - s) (e - m)) ∧ PermIn a b d (rotA (e - s) d m (m - s) (e - m))) := by
          have hz := HZ.out
          have hT := rotA_turned (e - s) d m (m - s) (e - m) (by omega) (by omega) (by omega) (by omega) (by omega)
          rw [show m - (m - s) = s by omega, show m + (e - m) = e by omega] at hT
          exact ⟨HF.out _ hT, rotA_perm _ _ _ _ _ _ _ (by omega) (by omega) (by omega)⟩
        clear hH1 hg1 hro c0 c1 L
        generalize rotA (e - s) d m (m - s) (e - m) = d1 at L1 HH
        by_cases hsa : s ≤ a
        · have y1 : ¬ ((a : Int) < (s : Int)) := by omega
          have M2 : Hid (Merged ltC a mid d1 d1) := merged_same HH.out.1.h1 HH.out.1.h2 (by omega)
          by_cases heb : b ≤ e
          · have z1 : (mid : Int) < (e : Int) := by omega
            have z2 : ¬ ((e : Int) < (b : Int)) := by omega
            have M3 : Hid (Merged ltC mid b d1 d1) := merged_same ((HH.out.1.right M2.out).resolve_right (by omega)).1 ((HH.out.1.right M2.out).resolve_right (by omega)).2 (by omega)
            go_wp2
            go_end0
            refine ⟨rfl, d1, L1.out.hd, ?_, L1.out.grown⟩
            have hz := HZ.out
            have hq : d1.size = d.size := HH.out.2.1
            have hm := HH.out.1.done (by omega) (by omega) (by omega) M2.out M3.out
            exact ⟨permIn_trans _ _ _ _ _ HH.out.2 hm.1, hm.2⟩
          · exfalso; omega
        · have y1 : (a : Int) < (s : Int) := by omega
          have y2 : (s : Int) < (mid : Int) := by omega
          have hle := HI.out d1 a s mid w1 (by omega) L1.out.hd (by omega) (by omega) (by omega) HH.out.1.h1 HH.out.1.h2
          have c0 := L1.out.c0
          have c1 := L1.out.c1
          go_wp2_with fail
          refine Calls.mono hle ?_
          rintro ex w2 ⟨rfl, d2, hH2, hM2, hg2⟩
          have L2 : Hid (Lies blk lf lb sf sb Hd w d2 w2) := L1.out.turn hlt hH2 hg2
          have M2 : Hid (Merged ltC a mid d1 d2) := hM2
          clear hH2 hM2 hg2 hle c0 c1 L1
          by_cases heb : b ≤ e
          · have z1 : (mid : Int) < (e : Int) := by omega
            have z2 : ¬ ((e : Int) < (b : Int)) := by omega
            have M3 : Hid (Merged ltC mid b d2 d2) := merged_same ((HH.out.1.right M2.out).resolve_right (by omega)).1 ((HH.out.1.right M2.out).resolve_right (by omega)).2 (by omega)
            go_wp2
            go_end0
            refine ⟨rfl, d2, L2.out.hd, ?_, L2.out.grown⟩
            have hz := HZ.out
            have hq : d1.size = d.size := HH.out.2.1
            have hm := HH.out.1.done (by omega) (by omega) (by omega) M2.out M3.out
            exact ⟨permIn_trans _ _ _ _ _ HH.out.2 hm.1, hm.2⟩
          · have z1 : (mid : Int) < (e : Int) := by omega
            have z2 : (e : Int) < (b : Int) := by omega
            have hri := HI.out d2 mid e b w2 (by omega) L2.out.hd (by omega) (by omega) (by omega) ((HH.out.1.right M2.out).resolve_right (by omega)).1 ((HH.out.1.right M2.out).resolve_right (by omega)).2
            have c0 := L2.out.c0
            have c1 := L2.out.c1
            go_wp2_with fail
            refine Calls.mono hri ?_
            rintro ex w3 ⟨rfl, d3, hH3, hM3, hg3⟩
            have L3 : Hid (Lies blk lf lb sf sb Hd w d3 w3) := L2.out.turn hlt hH3 hg3
            have M3 : Hid (Merged ltC mid b d2 d3) := hM3
            clear hH3 hM3 hg3 hri c0 c1 L2
            go_wp2
            go_end0
            refine ⟨rfl, d3, L3.out.hd, ?_, L3.out.grown⟩
            have hz := HZ.out
            have hq : d1.size = d.size := HH.out.2.1
            have hm := HH.out.1.done (by omega) (by omega) (by omega) M2.out M3.out
            exact ⟨permIn_trans _ _ _ _ _ HH.out.2 hm.1, hm.2⟩

set_option maxHeartbeats 8000000 in
theorem sym_recB {blk n lf sf : Nat} {lb sb : Array Value} {Hd : Array O → World → Prop} (S : Sorter blk n lf lb sf sb Hd) (hO : SWO ltC) (g0 : Nat) (hI : SymSays blk n lf lb sf sb Hd g0) (d : Array O) (a m b : Nat) (w : World) (hg0 : b - a ≤ g0 + 1) (hd : Hd d w) (h0 : a + 1 < m) (h1 : m + 1 < b) (h3 : b ≤ n) (hn : n ≤ 1000000) (hc : m ≤ (a + b) / 2) (hs1 : SortedIn ltC a m d) (hs2 : SortedIn ltC m b d) :
    Calls Tryd.prog 60 #[.agg #[.func (.func lf) #[] lb, .func (.func sf) #[] sb], .int .i64 a, .int .i64 m, .int .i64 b] w fun e w' => e = .returned (.tuple #[]) ∧ ∃ d', Hd d' w' ∧ Merged ltC a b d d' ∧ w.grownBy w' (some blk) := by
  have hlt := S.lt d w hd
  have hsz := S.size d w hd
  have HZ : Hid (d.size = n) := hsz
  have HO : Hid (SWO ltC) := hO
  have HI : Hid (SymSays blk n lf lb sf sb Hd g0) := hI
  have HS1 : Hid (SortedIn ltC a m d) := hs1
  have HS2 : Hid (SortedIn ltC m b d) := hs2
  have HS : Hid (Sorter blk n lf lb sf sb Hd) := S
  have HD : Hid (Hd d w) := hd
  have heg := S.enters
  obtain ⟨mid, hmid⟩ : ∃ mid, mid = (a + b) / 2 := ⟨_, rfl⟩
  rw [← hmid] at hc
  have hm1 : 2 * mid ≤ a + b := by omega
  have hm2 : a + b ≤ 2 * mid + 1 := by omega
  have HM : Hid (mid = (a + b) / 2) := hmid
  have i1 : ((m : Int) - (a : Int) == 1) = false := by rw [beq_eq_false_iff_ne]; omega
  have i1' : (m : Int) - (a : Int) ≠ 1 := by omega
  have i2 : ((b : Int) - (m : Int) == 1) = false := by rw [beq_eq_false_iff_ne]; omega
  have i2' : (b : Int) - (m : Int) ≠ 1 := by omega
  have i3 : (b : Int) ≤ 1000000 := by omega
  have i4 : (m : Int) ≤ 1000000 := by omega
  have i5 : (a : Int) ≤ 1000000 := by omega
  have i6 : ((a : Int) + (b : Int)) / 2 = (mid : Int) := by omega
  have i7 : (mid : Int) ≤ 1000000 := by omega
  have i8 : ¬ ((mid : Int) < (m : Int)) := by omega
  clear S hd hs1 hs2 hO hsz hI hmid
  go_enter Tryd.func60, Tryd.ntmps60
  go_wp2
  go_loopg [18, 19] (m - (a)) (fun g v8 v9 wr => ∃ (s r : Nat), a ≤ s ∧ s ≤ r ∧ r ≤ m ∧ r - s ≤ g ∧ v8 = .int .i64 s ∧ v9 = .int .i64 r ∧ Hid ((s = a ∨ ltC d[mid + m - s]! d[s - 1]! = false) ∧ (r = m ∨ ltC d[mid + m - r - 1]! d[r]! = true)) ∧ Hid (Lies blk lf lb sf sb Hd w d wr))
  case atStart => exact ⟨a, m, Nat.le_refl _, by omega, Nat.le_refl _, Nat.le_refl _, by first | rfl | (congr 1; omega) | go_num, by first | rfl | (congr 1; omega) | go_num, ⟨Or.inl rfl, Or.inl rfl⟩, Lies.start HS.out HD.out⟩
  case round =>
    obtain ⟨s, r, hmi, hij, hjb, hg, rfl, rfl, I, L⟩ := hrel
    have hg' : Hid (r - s ≤ gk) := hg
    clear hg
    by_cases hlt2 : s < r
    · have k1 : (s : Int) < (r : Int) := by omega
      have k2 : (r : Int) ≤ 1000000 := by omega
      have hl := HS.out.less d wr (mid + m - 1 - (s + r) / 2) ((s + r) / 2) L.out.hd (by omega) (by omega)
      rw [show ((mid + m - 1 - (s + r) / 2 : Nat) : Int) = (mid : Int) + (m : Int) - 1 - ((s : Int) + (r : Int)) / 2 by omega, show (((s + r) / 2 : Nat) : Int) = ((s : Int) + (r : Int)) / 2 by omega] at hl
      have c0 := L.out.c0
      go_wp2_with fail
      refine hl.mono ?_
      rintro e w3 ⟨rfl, hb3⟩
      have L3 : Hid (Lies blk lf lb sf sb Hd w d w3) := L.out.below HS.out hb3
      clear hl hb3 c0 L
      by_cases hless : cO d[mid + m - 1 - (s + r) / 2]! d[(s + r) / 2]! < 0
      · rw [decide_eq_true hless]
        have I2 : Hid ((s = a ∨ ltC d[mid + m - s]! d[s - 1]! = false) ∧ ((s + r) / 2 = m ∨ ltC d[mid + m - (s + r) / 2 - 1]! d[(s + r) / 2]! = true)) := ⟨I.out.1, Or.inr (by rw [show mid + m - (s + r) / 2 - 1 = mid + m - 1 - (s + r) / 2 by omega]; simp [ltC, hless])⟩
        clear hless
        go_wp2
        go_roundg ((s + r) / 2 - s)
        case measure => have := hg'.out; omega
        case rel => exact ⟨s, (s + r) / 2, hmi, by omega, by omega, Nat.le_refl _, rfl, by first | rfl | (congr 1; omega) | go_num, I2, L3⟩
      · rw [decide_eq_false hless]
        have I2 : Hid (((s + r) / 2 + 1 = a ∨ ltC d[mid + m - ((s + r) / 2 + 1)]! d[(s + r) / 2 + 1 - 1]! = false) ∧ (r = m ∨ ltC d[mid + m - r - 1]! d[r]! = true)) := ⟨Or.inr (by rw [Nat.add_sub_cancel, show mid + m - ((s + r) / 2 + 1) = mid + m - 1 - (s + r) / 2 by omega]; simp [ltC, hless]), I.out.2⟩
        clear hless
        go_wp2
        go_roundg (r - ((s + r) / 2 + 1))
        case measure => have := hg'.out; omega
        case rel => exact ⟨(s + r) / 2 + 1, r, by omega, by omega, hjb, Nat.le_refl _, by first | rfl | (congr 1; omega) | go_num, rfl, I2, L3⟩
    · obtain rfl : s = r := by omega
      have k1 : ¬ ((s : Int) < (s : Int)) := by omega
      have k2 : (s : Int) ≤ 1000000 := by omega
      obtain ⟨e, he⟩ : ∃ e, e = mid + m - s := ⟨_, rfl⟩
      have he1 : e + s ≤ mid + m := by omega
      have he2 : mid + m ≤ e + s := by omega
      have k3 : (mid : Int) + (m : Int) - (s : Int) = (e : Int) := by omega
      have k4 : (e : Int) ≤ 1000000 := by omega
      have HF : Hid (∀ r, Turned d r s m e → Halves ltC a s mid e b r) := by
        intro r hT
        rw [he] at hT ⊢
        have hL : s = a ∨ mid + m = b + s ∨ ltC d[mid + m - s]! d[s - 1]! = false := by
          rcases I.out.1 with h | h
          · first | exact Or.inl (by omega) | exact Or.inr (Or.inl (by omega))
          · exact Or.inr (Or.inr h)
        have hR : s = m ∨ s = mid ∨ ltC d[mid + m - s - 1]! d[s]! = true := by
          rcases I.out.2 with h | h
          · first | exact Or.inl (by omega) | exact Or.inr (Or.inl (by omega))
          · exact Or.inr (Or.inr h)
        exact halves_of HO.out d r a m b s mid (by omega) HM.out HS1.out HS2.out (by omega) (by omega) (by omega) (by omega) hL hR hT
      clear he
      by_cases hsm : m ≤ s
      · have x1 : ¬ ((s : Int) < (m : Int)) := by omega
        have HH : Hid (Halves ltC a s mid e b d ∧ PermIn a b d d) := ⟨HF.out _ (turned_none _ _ _ _ (by omega) (by omega) (by omega)), permIn_refl _ _ _⟩
        by_cases hsm2 : mid ≤ s
        · have y1 : (a : Int) < (s : Int) := by omega
          have y2 : ¬ ((s : Int) < (mid : Int)) := by omega
          have M2 : Hid (Merged ltC a mid d d) := merged_same HH.out.1.h1 HH.out.1.h2 (by omega)
          have z1 : ¬ ((mid : Int) < (e : Int)) := by omega
          have M3 : Hid (Merged ltC mid b d d) := merged_same ((HH.out.1.right M2.out).resolve_right (by omega)).1 ((HH.out.1.right M2.out).resolve_right (by omega)).2 (by omega)
          go_wp2
          go_end0
          refine ⟨rfl, d, L.out.hd, ?_, L.out.grown⟩
          have hz := HZ.out
          have hq : d.size = d.size := HH.out.2.1
          have hm := HH.out.1.done (by omega) (by omega) (by omega) M2.out M3.out
          exact ⟨permIn_trans _ _ _ _ _ HH.out.2 hm.1, hm.2⟩
        · have y1 : (a : Int) < (s : Int) := by omega
          have y2 : (s : Int) < (mid : Int) := by omega
          have hle := HI.out d a s mid wr (by omega) L.out.hd (by omega) (by omega) (by omega) HH.out.1.h1 HH.out.1.h2
          have c0 := L.out.c0
          have c1 := L.out.c1
          go_wp2_with fail
          refine Calls.mono hle ?_
          rintro ex w2 ⟨rfl, d2, hH2, hM2, hg2⟩
          have L2 : Hid (Lies blk lf lb sf sb Hd w d2 w2) := L.out.turn hlt hH2 hg2
          have M2 : Hid (Merged ltC a mid d d2) := hM2
          clear hH2 hM2 hg2 hle c0 c1 L
          have z1 : ¬ ((mid : Int) < (e : Int)) := by omega
          have M3 : Hid (Merged ltC mid b d2 d2) := merged_same ((HH.out.1.right M2.out).resolve_right (by omega)).1 ((HH.out.1.right M2.out).resolve_right (by omega)).2 (by omega)
          go_wp2
          go_end0
          refine ⟨rfl, d2, L2.out.hd, ?_, L2.out.grown⟩
          have hz := HZ.out
          have hq : d.size = d.size := HH.out.2.1
          have hm := HH.out.1.done (by omega) (by omega) (by omega) M2.out M3.out
          exact ⟨permIn_trans _ _ _ _ _ HH.out.2 hm.1, hm.2⟩
      · have hro := rotate_any HS.out d s m e wr L.out.hd (by omega) (by omega) (by omega) hn
        have c0 := L.out.c0
        have c1 := L.out.c1
        have x1 : (s : Int) < (m : Int) := by omega
        have x2 : (m : Int) < (e : Int) := by omega
        go_wp2_with fail
        refine hro.mono ?_
        rintro ex w1 ⟨rfl, hH1, hg1⟩
        have L1 : Hid (Lies blk lf lb sf sb Hd w (rotA (e - s) d m (m - s) (e - m)) w1) := L.out.turn hlt hH1 hg1
        have HH : Hid (Halves ltC a s mid e b (rotA (e - s) d m (m - s) (e - m)) ∧ PermIn a b d (rotA (e - s) d m (m - s) (e - m))) := by
          have hz := HZ.out
          have hT := rotA_turned (e - s) d m (m - s) (e - m) (by omega) (by omega) (by omega) (by omega) (by omega)
          rw [show m - (m - s) = s by omega, show m + (e - m) = e by omega] at hT
          exact ⟨HF.out _ hT, rotA_perm _ _ _ _ _ _ _ (by omega) (by omega) (by omega)⟩
        clear hH1 hg1 hro c0 c1 L
        generalize rotA (e - s) d m (m - s) (e - m) = d1 at L1 HH
        by_cases hsa : s ≤ a
        · have y1 : ¬ ((a : Int) < (s : Int)) := by omega
          have M2 : Hid (Merged ltC a mid d1 d1) := merged_same HH.out.1.h1 HH.out.1.h2 (by omega)
          by_cases heb : b ≤ e
          · have z1 : (mid : Int) < (e : Int) := by omega
            have z2 : ¬ ((e : Int) < (b : Int)) := by omega
            have M3 : Hid (Merged ltC mid b d1 d1) := merged_same ((HH.out.1.right M2.out).resolve_right (by omega)).1 ((HH.out.1.right M2.out).resolve_right (by omega)).2 (by omega)
            go_wp2
            go_end0
            refine ⟨rfl, d1, L1.out.hd, ?_, L1.out.grown⟩
            have hz := HZ.out
            have hq : d1.size = d.size := HH.out.2.1
            have hm := HH.out.1.done (by omega) (by omega) (by omega) M2.out M3.out
            exact ⟨permIn_trans _ _ _ _ _ HH.out.2 hm.1, hm.2⟩
          · have z1 : (mid : Int) < (e : Int) := by omega
            have z2 : (e : Int) < (b : Int) := by omega
            have hri := HI.out d1 mid e b w1 (by omega) L1.out.hd (by omega) (by omega) (by omega) ((HH.out.1.right M2.out).resolve_right (by omega)).1 ((HH.out.1.right M2.out).resolve_right (by omega)).2
            have c0 := L1.out.c0
            have c1 := L1.out.c1
            go_wp2_with fail
            refine Calls.mono hri ?_
            rintro ex w3 ⟨rfl, d3, hH3, hM3, hg3⟩
            have L3 : Hid (Lies blk lf lb sf sb Hd w d3 w3) := L1.out.turn hlt hH3 hg3
            have M3 : Hid (Merged ltC mid b d1 d3) := hM3
            clear hH3 hM3 hg3 hri c0 c1 L1
            go_wp2
            go_end0
            refine ⟨rfl, d3, L3.out.hd, ?_, L3.out.grown⟩
            have hz := HZ.out
            have hq : d1.size = d.size := HH.out.2.1
            have hm := HH.out.1.done (by omega) (by omega) (by omega) M2.out M3.out
            exact ⟨permIn_trans _ _ _ _ _ HH.out.2 hm.1, hm.2⟩
        · have y1 : (a : Int) < (s : Int) := by omega
          have y2 : (s : Int) < (mid : Int) := by omega
          have hle := HI.out d1 a s mid w1 (by omega) L1.out.hd (by omega) (by omega) (by omega) HH.out.1.h1 HH.out.1.h2
          have c0 := L1.out.c0
          have c1 := L1.out.c1
          go_wp2_with fail
          refine Calls.mono hle ?_
          rintro ex w2 ⟨rfl, d2, hH2, hM2, hg2⟩
          have L2 : Hid (Lies blk lf lb sf sb Hd w d2 w2) := L1.out.turn hlt hH2 hg2
          have M2 : Hid (Merged ltC a mid d1 d2) := hM2
          clear hH2 hM2 hg2 hle c0 c1 L1
          by_cases heb : b ≤ e
          · exfalso; omega
          · have z1 : (mid : Int) < (e : Int) := by omega
            have z2 : (e : Int) < (b : Int) := by omega
            have hri := HI.out d2 mid e b w2 (by omega) L2.out.hd (by omega) (by omega) (by omega) ((HH.out.1.right M2.out).resolve_right (by omega)).1 ((HH.out.1.right M2.out).resolve_right (by omega)).2
            have c0 := L2.out.c0
            have c1 := L2.out.c1
            go_wp2_with fail
            refine Calls.mono hri ?_
            rintro ex w3 ⟨rfl, d3, hH3, hM3, hg3⟩
            have L3 : Hid (Lies blk lf lb sf sb Hd w d3 w3) := L2.out.turn hlt hH3 hg3
            have M3 : Hid (Merged ltC mid b d2 d3) := hM3
            clear hH3 hM3 hg3 hri c0 c1 L2
            go_wp2
            go_end0
            refine ⟨rfl, d3, L3.out.hd, ?_, L3.out.grown⟩
            have hz := HZ.out
            have hq : d1.size = d.size := HH.out.2.1
            have hm := HH.out.1.done (by omega) (by omega) (by omega) M2.out M3.out
            exact ⟨permIn_trans _ _ _ _ _ HH.out.2 hm.1, hm.2⟩

theorem sym_any {blk n lf sf : Nat} {lb sb : Array Value} {Hd : Array O → World → Prop} (S : Sorter blk n lf lb sf sb Hd) (hO : SWO ltC) (hn : n ≤ 1000000) (g : Nat) : SymSays blk n lf lb sf sb Hd g := by
  induction g with
  | zero => intro d a m b w hg hd h1 h2; omega
  | succ g ih =>
    intro d a m b w hg hd h1 h2 h3 hs1 hs2
    by_cases e1 : m = a + 1
    · exact sym_one S hO d a m b w hd (by omega) h1 h2 h3 hn hs2
    · by_cases e2 : b = m + 1
      · exact sym_last S hO d a m b w hd (by omega) (by omega) h2 h3 hn hs1
      · by_cases e3 : (a + b) / 2 < m
        · exact sym_recA S hO g ih d a m b w hg hd (by omega) (by omega) h3 hn e3 hs1 hs2
        · exact sym_recB S hO g ih d a m b w hg hd (by omega) (by omega) h3 hn (by omega) hs1 hs2

end Go.Proofs.YtfldfnphidehlaaDoor
