/- A tale: a row that is late, or for which there is no room; an engine that is too great to be saved: for every engine. -/
import Derived.Test.YtmmbjbgimpgcfaaGreatDoorTlf
namespace Go.Proofs.YtmmbjbgimpgcfaaGreatDoor
open Go.RowKit Go.Sort
set_option maxRecDepth 100000

theorem ne_err55 (k : Int) (w : World) : (binOp .neq 63 (.iface 70 (.int .i64 k)) .nilIface).run Tryz.prog w = .ok (.bool true) w := by kernel_rfl

set_option maxHeartbeats 8000000 in
theorem does0_err0 (Eng Eng' : (Nat → Prop) → World → Prop) (S : Nat → Prop) (c : Int) (r : Rw) (base bt be bf nF : Nat) (lo hi mode a0 a1 : Int) (va vb : Value) (A B : List Rw) (F : List O) (xs xn xk xt xv : Int) (w : World) (hc : c = 10 ∨ c = 12)
    (hS0 : ¬ S 0) (hTl : ∀ W, W.heap[0]? = w.heap[0]? → Calls Tryz.prog 22 #[.iface 70 (.int .i64 c)] W fun e w' => e = .returned (.int .i64 c) ∧ Below W.heap.size W w')
    (hT : TaleAt w base bt (.pointer (some ⟨be, 0, none⟩)) lo hi mode a0 a1 va vb bf nF A B F) (hs : pickN xs 2 = 0) (hr : r = ⟨pickN xk 4, (pickN xt 200 : Int) - 100, pickN xv 50⟩)
    (hst : Steady Eng) (hst' : Steady Eng') (hE : Eng S w) (hS : ∀ k, S k → k < w.heap.size ∧ k ≠ bt ∧ k ≠ bf ∧ va.ownBlock ≠ some k ∧ vb.ownBlock ≠ some k)
    (hF : ∀ W, Eng S W → w.heap.size ≤ W.heap.size → W.heap[0]? = w.heap[0]? → Calls Tryz.prog 25 #[.pointer (some ⟨be, 0, none⟩), .int .i64 0, .agg #[.int .i64 r.k, .int .i64 r.t, .int .i64 r.v]] W fun e w' => ∃ S', e = .returned (.tuple #[.slice none 0 0, .iface 70 (.int .i64 c)]) ∧ Eng' S' w' ∧ (∀ k, S' k → (S k ∨ W.heap.size ≤ k) ∧ k < w'.heap.size) ∧ Turned S W w') :
    Calls Tryz.prog 9 #[.pointer (some ⟨bt, 0, none⟩), .agg #[.int .i64 0, .int .i64 xs, .int .i64 xn, .int .i64 xk, .int .i64 xt, .int .i64 xv]] w fun e w' => e = .returned (.bool true) ∧ ∃ S', TaleAt w' base bt (.pointer (some ⟨be, 0, none⟩)) lo hi mode a0 a1 va vb bf nF A B F ∧ Eng' S' w' ∧
      (∀ k, S' k → (S k ∨ w.heap.size ≤ k) ∧ k < w'.heap.size ∧ k ≠ bt ∧ k ≠ bf ∧ va.ownBlock ≠ some k ∧ vb.ownBlock ≠ some k) ∧ Turned S w w' := by
  have p1 : (IntKind.u64.wrap xs).tmod 2 = 0 := by have := (pickN_lt xs 2 (by omega)).2; rw [hs] at this; exact this.symm
  have p2 := (pickN_lt xk 4 (by omega))
  have p3 := (pickN_lt xt 200 (by omega))
  have p4 := (pickN_lt xv 50 (by omega))
  obtain ⟨rk, rt, rv⟩ := r
  simp only [Rw.mk.injEq] at hr
  obtain ⟨hrk, hrt, hrv⟩ := hr
  have k4 : (IntKind.u64.wrap xk).tmod 4 = rk := by rw [hrk]; exact p2.2.symm
  have k50 : (IntKind.u64.wrap xv).tmod 50 = rv := by rw [hrv]; exact p4.2.symm
  have k200 : (IntKind.u64.wrap xt).tmod 200 = rt + 100 := by have h : (IntKind.u64.wrap xt).tmod 200 = ((pickN xt 200 : Nat) : Int) := p3.2.symm; omega
  have t1 : -100 ≤ rt := by omega
  have t2 : rt ≤ 99 := by omega
  have e1 : IntKind.i64.wrap (rt + 100 - 100) = rt := by rw [show rt + 100 - 100 = rt by omega]; exact wr64 (by omega) (by omega)
  have e2 : rt + 100 - 100 = rt := by omega
  have e3 : IntKind.i64.wrap rt = rt := wr64 (by omega) (by omega)
  have K4 : Hid ((IntKind.u64.wrap xk).tmod 4 = rk ∧ (IntKind.u64.wrap xt).tmod 200 = rt + 100 ∧ (IntKind.u64.wrap xv).tmod 50 = rv ∧ (IntKind.u64.wrap xs).tmod 2 = 0) := ⟨k4, k200, k50, p1⟩
  clear k4 k200 k50 p1 p2 p3 p4
  have HTl : Hid (∀ W, W.heap[0]? = w.heap[0]? → Calls Tryz.prog 22 #[.iface 70 (.int .i64 c)] W fun e w' => e = .returned (.int .i64 c) ∧ Below W.heap.size W w') := hTl
  have HT : Hid (TaleAt w base bt (.pointer (some ⟨be, 0, none⟩)) lo hi mode a0 a1 va vb bf nF A B F) := hT
  have HF : Hid (∀ W, Eng S W → w.heap.size ≤ W.heap.size → W.heap[0]? = w.heap[0]? → Calls Tryz.prog 25 #[.pointer (some ⟨be, 0, none⟩), .int .i64 0, .agg #[.int .i64 rk, .int .i64 rt, .int .i64 rv]] W fun e w' => ∃ S', e = .returned (.tuple #[.slice none 0 0, .iface 70 (.int .i64 c)]) ∧ Eng' S' w' ∧ (∀ k, S' k → (S k ∨ W.heap.size ≤ k) ∧ k < w'.heap.size) ∧ Turned S W w') := hF
  have HS : Hid (∀ k, S k → k < w.heap.size ∧ k ≠ bt ∧ k ≠ bf ∧ va.ownBlock ≠ some k ∧ vb.ownBlock ≠ some k) := hS
  have HO : Hid (True ∧ True ∧ Steady Eng' ∧ Steady Eng ∧ Eng S w) := ⟨trivial, trivial, hst', hst, hE⟩
  have hlt := hT.lt
  clear hTl hT hF hS hst hst' hE hrk hrt hrv hs
  go_enter Tryz.func9, Tryz.ntmps9
  go_wp2_with (first
    | (go_at_call 13; refine (pick_int _ _ _ (by omega) (by omega)).mono ?_; rintro e w' ⟨rfl, rfl⟩; rw [K4.out.2.2.2])
    | fail)
  have hx1 : (w.alloc (.cells #[.int .i64 0, .int .i64 xs, .int .i64 xn, .int .i64 xk, .int .i64 xt, .int .i64 xv] 28)).cell? ⟨w.heap.size, 3, none⟩ = some (.int .i64 xk) ∧ (w.alloc (.cells #[.int .i64 0, .int .i64 xs, .int .i64 xn, .int .i64 xk, .int .i64 xt, .int .i64 xv] 28)).cell? ⟨w.heap.size, 4, none⟩ = some (.int .i64 xt) ∧ (w.alloc (.cells #[.int .i64 0, .int .i64 xs, .int .i64 xn, .int .i64 xk, .int .i64 xt, .int .i64 xv] 28)).cell? ⟨w.heap.size, 5, none⟩ = some (.int .i64 xv) := by
    refine ⟨?_, ?_, ?_⟩ <;> (rw [Go.Joins.cell_of_block (heap_alloc_new _ _)]; rfl)
  refine Code.wp_mono (Q := fun e a W => e = Exit.normal ∧ a = ({ tmps := #[Value.pointer (some { block := bt, off := 0 }), Value.agg #[Value.int IntKind.i64 0, Value.int IntKind.i64 xs, Value.int IntKind.i64 xn, Value.int IntKind.i64 xk, Value.int IntKind.i64 xt, Value.int IntKind.i64 xv], undef, Value.pointer (some { block := w.heap.size, off := 0 }), Value.bool false, Value.int IntKind.i64 0, Value.pointer (some { block := w.heap.size + 1, off := 0 }), undef, undef, undef, undef, undef, undef, undef, undef, Value.pointer (some { block := w.heap.size, off := 1 }), Value.int IntKind.i64 xs, Value.int IntKind.i64 0, Value.pointer (some { block := w.heap.size, off := 0 }), Value.int IntKind.i64 0, Value.bool true, Value.bool true, Value.pointer (some { block := w.heap.size, off := 3 }), Value.int IntKind.i64 xk, Value.int IntKind.i64 rk, Value.pointer (some { block := w.heap.size, off := 4 }), Value.int IntKind.i64 xt, Value.int IntKind.i64 (rt + 100), Value.int IntKind.i64 rt, Value.pointer (some { block := w.heap.size, off := 5 }), Value.int IntKind.i64 xv, Value.int IntKind.i64 rv, Value.agg #[Value.int IntKind.i64 rk, Value.int IntKind.i64 rt, Value.int IntKind.i64 rv], undef, undef, undef, undef, undef, undef, undef, undef, undef, undef, undef, undef, undef, undef, undef, undef, undef, undef, undef, undef, undef, undef, undef, undef, undef, undef, undef, undef, undef, undef, undef, undef, undef, undef, undef, undef, undef, undef, undef, undef, undef, undef, undef, undef, undef, undef, undef, undef, undef, undef, undef, undef, undef, undef, undef, undef, undef, undef, undef, undef, undef, undef, undef, undef, undef, undef, undef, undef, undef, undef, undef, undef, undef, undef, undef, undef, undef, undef, undef, undef, undef, undef, undef, undef, undef, undef, undef, undef, undef, undef, undef, undef, undef, undef, undef, undef, undef, undef, undef, undef, undef, undef, undef, undef, undef, undef, undef, undef, undef, undef, undef, undef, undef, undef, undef, undef, undef, undef, undef, undef, undef, undef, undef, undef, undef, undef, undef, undef, undef, undef, undef, undef, undef, undef, undef, undef, undef, undef, undef, undef, undef], defers := [] } : Act) ∧ W = ((w.alloc (Obj.cells #[Value.int IntKind.i64 0, Value.int IntKind.i64 xs, Value.int IntKind.i64 xn, Value.int IntKind.i64 xk, Value.int IntKind.i64 xt, Value.int IntKind.i64 xv] 28)).alloc (Obj.cells #[Value.int IntKind.i64 rk, Value.int IntKind.i64 rt, Value.int IntKind.i64 rv] 48)).drew) ?rest ?reg
  case reg =>
    go_region_held3 (fun W => W.cell? ⟨w.heap.size, 3, none⟩ = some (.int .i64 xk) ∧ W.cell? ⟨w.heap.size, 4, none⟩ = some (.int .i64 xt) ∧ W.cell? ⟨w.heap.size, 5, none⟩ = some (.int .i64 xv)) (first | (go_keep; done) | fail) (first
      | (go_at_call 13; refine (pick_int _ _ _ (by omega) (by omega)).mono ?_; rintro e w' ⟨rfl, rfl⟩; first | rw [K4.out.1] | rw [K4.out.2.1] | rw [K4.out.2.2.1])
      | fail)
    all_goals exact ⟨rfl, rfl, rfl⟩
  case rest =>
    rintro e a W ⟨rfl, rfl, rfl⟩
    go_wp2
    have D1 : Hid (Below w.heap.size w ((w.alloc (Obj.cells #[Value.int IntKind.i64 0, Value.int IntKind.i64 xs, Value.int IntKind.i64 xn, Value.int IntKind.i64 xk, Value.int IntKind.i64 xt, Value.int IntKind.i64 xv] 28)).alloc (Obj.cells #[Value.int IntKind.i64 rk, Value.int IntKind.i64 rt, Value.int IntKind.i64 rv] 48)).drew ∧ (((w.alloc (Obj.cells #[Value.int IntKind.i64 0, Value.int IntKind.i64 xs, Value.int IntKind.i64 xn, Value.int IntKind.i64 xk, Value.int IntKind.i64 xt, Value.int IntKind.i64 xv] 28)).alloc (Obj.cells #[Value.int IntKind.i64 rk, Value.int IntKind.i64 rt, Value.int IntKind.i64 rv] 48)).drew).heap[w.heap.size + 1]? = some (rwB ⟨rk, rt, rv⟩) ∧ w.heap.size + 1 < (((w.alloc (Obj.cells #[Value.int IntKind.i64 0, Value.int IntKind.i64 xs, Value.int IntKind.i64 xn, Value.int IntKind.i64 xk, Value.int IntKind.i64 xt, Value.int IntKind.i64 xv] 28)).alloc (Obj.cells #[Value.int IntKind.i64 rk, Value.int IntKind.i64 rt, Value.int IntKind.i64 rv] 48)).drew).heap.size) := ⟨(Go.Joins.below_alloc2 _ _ _).drew, by
      have := heap_alloc_new (w.alloc (Obj.cells #[Value.int IntKind.i64 0, Value.int IntKind.i64 xs, Value.int IntKind.i64 xn, Value.int IntKind.i64 xk, Value.int IntKind.i64 xt, Value.int IntKind.i64 xv] 28)) (rwB ⟨rk, rt, rv⟩)
      simp only [World.size_alloc] at this
      exact this, by simp⟩
    revert D1
    generalize ((w.alloc (Obj.cells #[Value.int IntKind.i64 0, Value.int IntKind.i64 xs, Value.int IntKind.i64 xn, Value.int IntKind.i64 xk, Value.int IntKind.i64 xt, Value.int IntKind.i64 xv] 28)).alloc (Obj.cells #[Value.int IntKind.i64 rk, Value.int IntKind.i64 rt, Value.int IntKind.i64 rv] 48)).drew = w1
    intro D1
    obtain ⟨rb, hrb⟩ : ∃ rb, rb = w.heap.size + 1 := ⟨_, rfl⟩
    rw [← hrb] at D1 ⊢
    have hrb1 : w.heap.size ≤ rb := by omega
    clear hrb hx1 e1 e2 e3 t1 t2 K4
    have E1 : Hid (Eng S w1.drew ∧ w.heap.size ≤ w1.drew.heap.size ∧ w1.drew.heap[0]? = w.heap[0]?) := ⟨HO.out.2.2.2.1 S w w1.drew HO.out.2.2.2.2 D1.out.1.size (fun k hk => D1.out.1.block k (HS.out k hk).1), D1.out.1.size, D1.out.1.block 0 (Nat.lt_of_le_of_lt (Nat.zero_le _) hlt)⟩
    have hc1 := (HT.out.below D1.out.1).cells
    have hx1 := rw_cells D1.out.2.1
    have HA : Hid (∀ w2, Turned S w1.drew w2 → TaleAt w2 base bt (.pointer (some ⟨be, 0, none⟩)) lo hi mode a0 a1 va vb bf nF A B F ∧ w2.heap[rb]? = some (rwB ⟨rk, rt, rv⟩) ∧ Turned S w w2 ∧ rb < w2.heap.size) := by
      intro w2 h4
      have hrb2 : w2.heap[rb]? = some (rwB ⟨rk, rt, rv⟩) := (h4.block rb D1.out.2.2 (fun e => by have := (HS.out rb e).1; omega)).trans D1.out.2.1
      refine ⟨(HT.out.below D1.out.1.drew).kept (fun k hk hor => h4.block k hk (fun e => ?_)), hrb2, (Turned.of_below D1.out.1.drew).trans h4 (fun _ _ e => e), (Array.getElem?_eq_some_iff.1 hrb2).1⟩
      have h5 := HS.out k e
      rcases hor with h6 | h6 | h6 | h6
      · exact h5.2.1 h6
      · exact h5.2.2.1 h6
      · exact h5.2.2.2.1 h6
      · exact h5.2.2.2.2 h6
    go_region_held3 (fun W => W.cell? ⟨bt, 0, none⟩ = some (.pointer (some ⟨be, 0, none⟩)) ∧ W.cell? ⟨rb, 0, none⟩ = some (.int .i64 rk) ∧ W.cell? ⟨rb, 1, none⟩ = some (.int .i64 rt) ∧ W.cell? ⟨rb, 2, none⟩ = some (.int .i64 rv)) (first | (go_keep; done) | fail) (first
      | (go_at_call 25; refine (HF.out _ E1.out.1 E1.out.2.1 E1.out.2.2).mono ?_; rintro e w2 ⟨S', rfl, h2, h3, h4⟩; have T2 : Hid (TaleAt w2 base bt (.pointer (some ⟨be, 0, none⟩)) lo hi mode a0 a1 va vb bf nF A B F ∧ w2.heap[rb]? = some (rwB ⟨rk, rt, rv⟩) ∧ Turned S w w2 ∧ rb < w2.heap.size) := HA.out w2 h4; have Y2 : Hid (Eng' S' w2 ∧ (∀ k, S' k → (S k ∨ w1.heap.size ≤ k) ∧ k < w2.heap.size)) := ⟨h2, h3⟩; have hc2 := T2.out.1.cells; have hx2 := rw_cells T2.out.2.1; clear h2 h3 h4)
      | fail)
    clear hc1 hx1 HA HF E1
    have hq := ne_err55 c
    have Z2 : Hid (∀ W, Below w2.heap.size w2 W → W.heap[0]? = w.heap[0]?) := fun W hW => (hW.block 0 (Nat.lt_of_lt_of_le (Nat.lt_of_le_of_lt (Nat.zero_le _) hlt) T2.out.2.2.1.size)).trans (T2.out.2.2.1.block 0 (Nat.lt_of_le_of_lt (Nat.zero_le _) hlt) hS0)
    have hl4 : w.heap.size ≤ w1.heap.size := D1.out.1.size
    have HQ : Hid (∀ W, Below w2.heap.size w2 W → TaleAt W base bt (.pointer (some ⟨be, 0, none⟩)) lo hi mode a0 a1 va vb bf nF A B F ∧ Eng' S' W ∧ (∀ k, S' k → (S k ∨ w.heap.size ≤ k) ∧ k < W.heap.size ∧ k ≠ bt ∧ k ≠ bf ∧ va.ownBlock ≠ some k ∧ vb.ownBlock ≠ some k) ∧ Turned S w W) := by
      intro W hW
      refine ⟨T2.out.1.below hW, HO.out.2.2.1 S' w2 W Y2.out.1 hW.size (fun k hk => hW.block k (Y2.out.2 k hk).2), fun k hk => ?_, T2.out.2.2.1.trans (Turned.of_below (S := fun _ => False) hW) (fun _ _ e => e.elim)⟩
      obtain ⟨g1, g2⟩ := Y2.out.2 k hk
      have hws := hW.size
      rcases g1 with g1 | g1
      · exact ⟨Or.inl g1, by omega, (HS.out k g1).2⟩
      · have a1 := HT.out.ltf
        exact ⟨Or.inr (by omega), by omega, by omega, by omega, fun e => by have := (HT.out.r0.lt k e).2; omega, fun e => by have := (HT.out.r1.lt k e).2; omega⟩
    clear hc2 hx2
    rcases hc with rfl | rfl
    · go_wp2_with (first
        | (go_at_call 22; refine (HTl.out _ (Z2.out _ (by first | exact Below.refl _ _ | exact (Below.refl _ _).drew))).mono ?_; rintro e w3 ⟨rfl, hb3⟩; have HB3 : Hid (Below w2.heap.size w2 w3) := hb3; clear hb3)
        | fail)
      go_ret
      exact ⟨rfl, S', HQ.out _ HB3.out⟩
    · go_wp2_with fail
      refine (HTl.out _ (Z2.out _ (by first | exact Below.refl _ _ | exact (Below.refl _ _).drew))).mono ?_
      rintro e w3 ⟨rfl, hb3⟩
      have HB3 : Hid (Below w2.heap.size w2 w3) := hb3
      clear hb3
      go_wp2_with fail
      refine (HTl.out _ (Z2.out _ HB3.out)).mono ?_
      rintro e w4 ⟨rfl, hb4⟩
      have HB4 : Hid (Below w2.heap.size w2 w4) := HB3.out.trans (hb4.mono HB3.out.size)
      clear hb4
      go_wp2
      go_ret
      exact ⟨rfl, S', HQ.out _ HB4.out⟩

set_option maxHeartbeats 8000000 in
theorem does0_err1 (Eng Eng' : (Nat → Prop) → World → Prop) (S : Nat → Prop) (c : Int) (r : Rw) (base bt be bf nF : Nat) (lo hi mode a0 a1 : Int) (va vb : Value) (A B : List Rw) (F : List O) (xs xn xk xt xv : Int) (w : World) (hc : c = 10 ∨ c = 12)
    (hS0 : ¬ S 0) (hTl : ∀ W, W.heap[0]? = w.heap[0]? → Calls Tryz.prog 22 #[.iface 70 (.int .i64 c)] W fun e w' => e = .returned (.int .i64 c) ∧ Below W.heap.size W w')
    (hT : TaleAt w base bt (.pointer (some ⟨be, 0, none⟩)) lo hi mode a0 a1 va vb bf nF A B F) (hs : pickN xs 2 = 1) (hr : r = ⟨pickN xk 4, (pickN xt 200 : Int) - 100, pickN xv 50⟩)
    (hst : Steady Eng) (hst' : Steady Eng') (hE : Eng S w) (hS : ∀ k, S k → k < w.heap.size ∧ k ≠ bt ∧ k ≠ bf ∧ va.ownBlock ≠ some k ∧ vb.ownBlock ≠ some k)
    (hF : ∀ W, Eng S W → w.heap.size ≤ W.heap.size → W.heap[0]? = w.heap[0]? → Calls Tryz.prog 25 #[.pointer (some ⟨be, 0, none⟩), .int .i64 1, .agg #[.int .i64 r.k, .int .i64 r.t, .int .i64 r.v]] W fun e w' => ∃ S', e = .returned (.tuple #[.slice none 0 0, .iface 70 (.int .i64 c)]) ∧ Eng' S' w' ∧ (∀ k, S' k → (S k ∨ W.heap.size ≤ k) ∧ k < w'.heap.size) ∧ Turned S W w') :
    Calls Tryz.prog 9 #[.pointer (some ⟨bt, 0, none⟩), .agg #[.int .i64 0, .int .i64 xs, .int .i64 xn, .int .i64 xk, .int .i64 xt, .int .i64 xv]] w fun e w' => e = .returned (.bool true) ∧ ∃ S', TaleAt w' base bt (.pointer (some ⟨be, 0, none⟩)) lo hi mode a0 a1 va vb bf nF A B F ∧ Eng' S' w' ∧
      (∀ k, S' k → (S k ∨ w.heap.size ≤ k) ∧ k < w'.heap.size ∧ k ≠ bt ∧ k ≠ bf ∧ va.ownBlock ≠ some k ∧ vb.ownBlock ≠ some k) ∧ Turned S w w' := by
  have p1 : (IntKind.u64.wrap xs).tmod 2 = 1 := by have := (pickN_lt xs 2 (by omega)).2; rw [hs] at this; exact this.symm
  have p2 := (pickN_lt xk 4 (by omega))
  have p3 := (pickN_lt xt 200 (by omega))
  have p4 := (pickN_lt xv 50 (by omega))
  obtain ⟨rk, rt, rv⟩ := r
  simp only [Rw.mk.injEq] at hr
  obtain ⟨hrk, hrt, hrv⟩ := hr
  have k4 : (IntKind.u64.wrap xk).tmod 4 = rk := by rw [hrk]; exact p2.2.symm
  have k50 : (IntKind.u64.wrap xv).tmod 50 = rv := by rw [hrv]; exact p4.2.symm
  have k200 : (IntKind.u64.wrap xt).tmod 200 = rt + 100 := by have h : (IntKind.u64.wrap xt).tmod 200 = ((pickN xt 200 : Nat) : Int) := p3.2.symm; omega
  have t1 : -100 ≤ rt := by omega
  have t2 : rt ≤ 99 := by omega
  have e1 : IntKind.i64.wrap (rt + 100 - 100) = rt := by rw [show rt + 100 - 100 = rt by omega]; exact wr64 (by omega) (by omega)
  have e2 : rt + 100 - 100 = rt := by omega
  have e3 : IntKind.i64.wrap rt = rt := wr64 (by omega) (by omega)
  have K4 : Hid ((IntKind.u64.wrap xk).tmod 4 = rk ∧ (IntKind.u64.wrap xt).tmod 200 = rt + 100 ∧ (IntKind.u64.wrap xv).tmod 50 = rv ∧ (IntKind.u64.wrap xs).tmod 2 = 1) := ⟨k4, k200, k50, p1⟩
  clear k4 k200 k50 p1 p2 p3 p4
  have HTl : Hid (∀ W, W.heap[0]? = w.heap[0]? → Calls Tryz.prog 22 #[.iface 70 (.int .i64 c)] W fun e w' => e = .returned (.int .i64 c) ∧ Below W.heap.size W w') := hTl
  have HT : Hid (TaleAt w base bt (.pointer (some ⟨be, 0, none⟩)) lo hi mode a0 a1 va vb bf nF A B F) := hT
  have HF : Hid (∀ W, Eng S W → w.heap.size ≤ W.heap.size → W.heap[0]? = w.heap[0]? → Calls Tryz.prog 25 #[.pointer (some ⟨be, 0, none⟩), .int .i64 1, .agg #[.int .i64 rk, .int .i64 rt, .int .i64 rv]] W fun e w' => ∃ S', e = .returned (.tuple #[.slice none 0 0, .iface 70 (.int .i64 c)]) ∧ Eng' S' w' ∧ (∀ k, S' k → (S k ∨ W.heap.size ≤ k) ∧ k < w'.heap.size) ∧ Turned S W w') := hF
  have HS : Hid (∀ k, S k → k < w.heap.size ∧ k ≠ bt ∧ k ≠ bf ∧ va.ownBlock ≠ some k ∧ vb.ownBlock ≠ some k) := hS
  have HO : Hid (True ∧ True ∧ Steady Eng' ∧ Steady Eng ∧ Eng S w) := ⟨trivial, trivial, hst', hst, hE⟩
  have hlt := hT.lt
  clear hTl hT hF hS hst hst' hE hrk hrt hrv hs
  go_enter Tryz.func9, Tryz.ntmps9
  go_wp2_with (first
    | (go_at_call 13; refine (pick_int _ _ _ (by omega) (by omega)).mono ?_; rintro e w' ⟨rfl, rfl⟩; rw [K4.out.2.2.2])
    | fail)
  have hx1 : (w.alloc (.cells #[.int .i64 0, .int .i64 xs, .int .i64 xn, .int .i64 xk, .int .i64 xt, .int .i64 xv] 28)).cell? ⟨w.heap.size, 3, none⟩ = some (.int .i64 xk) ∧ (w.alloc (.cells #[.int .i64 0, .int .i64 xs, .int .i64 xn, .int .i64 xk, .int .i64 xt, .int .i64 xv] 28)).cell? ⟨w.heap.size, 4, none⟩ = some (.int .i64 xt) ∧ (w.alloc (.cells #[.int .i64 0, .int .i64 xs, .int .i64 xn, .int .i64 xk, .int .i64 xt, .int .i64 xv] 28)).cell? ⟨w.heap.size, 5, none⟩ = some (.int .i64 xv) := by
    refine ⟨?_, ?_, ?_⟩ <;> (rw [Go.Joins.cell_of_block (heap_alloc_new _ _)]; rfl)
  refine Code.wp_mono (Q := fun e a W => e = Exit.normal ∧ a = ({ tmps := #[Value.pointer (some { block := bt, off := 0 }), Value.agg #[Value.int IntKind.i64 0, Value.int IntKind.i64 xs, Value.int IntKind.i64 xn, Value.int IntKind.i64 xk, Value.int IntKind.i64 xt, Value.int IntKind.i64 xv], undef, Value.pointer (some { block := w.heap.size, off := 0 }), Value.bool false, Value.int IntKind.i64 1, Value.pointer (some { block := w.heap.size + 1, off := 0 }), undef, undef, undef, undef, undef, undef, undef, undef, Value.pointer (some { block := w.heap.size, off := 1 }), Value.int IntKind.i64 xs, Value.int IntKind.i64 1, Value.pointer (some { block := w.heap.size, off := 0 }), Value.int IntKind.i64 0, Value.bool true, Value.bool true, Value.pointer (some { block := w.heap.size, off := 3 }), Value.int IntKind.i64 xk, Value.int IntKind.i64 rk, Value.pointer (some { block := w.heap.size, off := 4 }), Value.int IntKind.i64 xt, Value.int IntKind.i64 (rt + 100), Value.int IntKind.i64 rt, Value.pointer (some { block := w.heap.size, off := 5 }), Value.int IntKind.i64 xv, Value.int IntKind.i64 rv, Value.agg #[Value.int IntKind.i64 rk, Value.int IntKind.i64 rt, Value.int IntKind.i64 rv], undef, undef, undef, undef, undef, undef, undef, undef, undef, undef, undef, undef, undef, undef, undef, undef, undef, undef, undef, undef, undef, undef, undef, undef, undef, undef, undef, undef, undef, undef, undef, undef, undef, undef, undef, undef, undef, undef, undef, undef, undef, undef, undef, undef, undef, undef, undef, undef, undef, undef, undef, undef, undef, undef, undef, undef, undef, undef, undef, undef, undef, undef, undef, undef, undef, undef, undef, undef, undef, undef, undef, undef, undef, undef, undef, undef, undef, undef, undef, undef, undef, undef, undef, undef, undef, undef, undef, undef, undef, undef, undef, undef, undef, undef, undef, undef, undef, undef, undef, undef, undef, undef, undef, undef, undef, undef, undef, undef, undef, undef, undef, undef, undef, undef, undef, undef, undef, undef, undef, undef, undef, undef, undef, undef, undef, undef, undef, undef, undef, undef, undef, undef, undef, undef, undef, undef, undef, undef, undef, undef, undef], defers := [] } : Act) ∧ W = ((w.alloc (Obj.cells #[Value.int IntKind.i64 0, Value.int IntKind.i64 xs, Value.int IntKind.i64 xn, Value.int IntKind.i64 xk, Value.int IntKind.i64 xt, Value.int IntKind.i64 xv] 28)).alloc (Obj.cells #[Value.int IntKind.i64 rk, Value.int IntKind.i64 rt, Value.int IntKind.i64 rv] 48)).drew) ?rest ?reg
  case reg =>
    go_region_held3 (fun W => W.cell? ⟨w.heap.size, 3, none⟩ = some (.int .i64 xk) ∧ W.cell? ⟨w.heap.size, 4, none⟩ = some (.int .i64 xt) ∧ W.cell? ⟨w.heap.size, 5, none⟩ = some (.int .i64 xv)) (first | (go_keep; done) | fail) (first
      | (go_at_call 13; refine (pick_int _ _ _ (by omega) (by omega)).mono ?_; rintro e w' ⟨rfl, rfl⟩; first | rw [K4.out.1] | rw [K4.out.2.1] | rw [K4.out.2.2.1])
      | fail)
    all_goals exact ⟨rfl, rfl, rfl⟩
  case rest =>
    rintro e a W ⟨rfl, rfl, rfl⟩
    go_wp2
    have D1 : Hid (Below w.heap.size w ((w.alloc (Obj.cells #[Value.int IntKind.i64 0, Value.int IntKind.i64 xs, Value.int IntKind.i64 xn, Value.int IntKind.i64 xk, Value.int IntKind.i64 xt, Value.int IntKind.i64 xv] 28)).alloc (Obj.cells #[Value.int IntKind.i64 rk, Value.int IntKind.i64 rt, Value.int IntKind.i64 rv] 48)).drew ∧ (((w.alloc (Obj.cells #[Value.int IntKind.i64 0, Value.int IntKind.i64 xs, Value.int IntKind.i64 xn, Value.int IntKind.i64 xk, Value.int IntKind.i64 xt, Value.int IntKind.i64 xv] 28)).alloc (Obj.cells #[Value.int IntKind.i64 rk, Value.int IntKind.i64 rt, Value.int IntKind.i64 rv] 48)).drew).heap[w.heap.size + 1]? = some (rwB ⟨rk, rt, rv⟩) ∧ w.heap.size + 1 < (((w.alloc (Obj.cells #[Value.int IntKind.i64 0, Value.int IntKind.i64 xs, Value.int IntKind.i64 xn, Value.int IntKind.i64 xk, Value.int IntKind.i64 xt, Value.int IntKind.i64 xv] 28)).alloc (Obj.cells #[Value.int IntKind.i64 rk, Value.int IntKind.i64 rt, Value.int IntKind.i64 rv] 48)).drew).heap.size) := ⟨(Go.Joins.below_alloc2 _ _ _).drew, by
      have := heap_alloc_new (w.alloc (Obj.cells #[Value.int IntKind.i64 0, Value.int IntKind.i64 xs, Value.int IntKind.i64 xn, Value.int IntKind.i64 xk, Value.int IntKind.i64 xt, Value.int IntKind.i64 xv] 28)) (rwB ⟨rk, rt, rv⟩)
      simp only [World.size_alloc] at this
      exact this, by simp⟩
    revert D1
    generalize ((w.alloc (Obj.cells #[Value.int IntKind.i64 0, Value.int IntKind.i64 xs, Value.int IntKind.i64 xn, Value.int IntKind.i64 xk, Value.int IntKind.i64 xt, Value.int IntKind.i64 xv] 28)).alloc (Obj.cells #[Value.int IntKind.i64 rk, Value.int IntKind.i64 rt, Value.int IntKind.i64 rv] 48)).drew = w1
    intro D1
    obtain ⟨rb, hrb⟩ : ∃ rb, rb = w.heap.size + 1 := ⟨_, rfl⟩
    rw [← hrb] at D1 ⊢
    have hrb1 : w.heap.size ≤ rb := by omega
    clear hrb hx1 e1 e2 e3 t1 t2 K4
    have E1 : Hid (Eng S w1.drew ∧ w.heap.size ≤ w1.drew.heap.size ∧ w1.drew.heap[0]? = w.heap[0]?) := ⟨HO.out.2.2.2.1 S w w1.drew HO.out.2.2.2.2 D1.out.1.size (fun k hk => D1.out.1.block k (HS.out k hk).1), D1.out.1.size, D1.out.1.block 0 (Nat.lt_of_le_of_lt (Nat.zero_le _) hlt)⟩
    have hc1 := (HT.out.below D1.out.1).cells
    have hx1 := rw_cells D1.out.2.1
    have HA : Hid (∀ w2, Turned S w1.drew w2 → TaleAt w2 base bt (.pointer (some ⟨be, 0, none⟩)) lo hi mode a0 a1 va vb bf nF A B F ∧ w2.heap[rb]? = some (rwB ⟨rk, rt, rv⟩) ∧ Turned S w w2 ∧ rb < w2.heap.size) := by
      intro w2 h4
      have hrb2 : w2.heap[rb]? = some (rwB ⟨rk, rt, rv⟩) := (h4.block rb D1.out.2.2 (fun e => by have := (HS.out rb e).1; omega)).trans D1.out.2.1
      refine ⟨(HT.out.below D1.out.1.drew).kept (fun k hk hor => h4.block k hk (fun e => ?_)), hrb2, (Turned.of_below D1.out.1.drew).trans h4 (fun _ _ e => e), (Array.getElem?_eq_some_iff.1 hrb2).1⟩
      have h5 := HS.out k e
      rcases hor with h6 | h6 | h6 | h6
      · exact h5.2.1 h6
      · exact h5.2.2.1 h6
      · exact h5.2.2.2.1 h6
      · exact h5.2.2.2.2 h6
    go_region_held3 (fun W => W.cell? ⟨bt, 0, none⟩ = some (.pointer (some ⟨be, 0, none⟩)) ∧ W.cell? ⟨rb, 0, none⟩ = some (.int .i64 rk) ∧ W.cell? ⟨rb, 1, none⟩ = some (.int .i64 rt) ∧ W.cell? ⟨rb, 2, none⟩ = some (.int .i64 rv)) (first | (go_keep; done) | fail) (first
      | (go_at_call 25; refine (HF.out _ E1.out.1 E1.out.2.1 E1.out.2.2).mono ?_; rintro e w2 ⟨S', rfl, h2, h3, h4⟩; have T2 : Hid (TaleAt w2 base bt (.pointer (some ⟨be, 0, none⟩)) lo hi mode a0 a1 va vb bf nF A B F ∧ w2.heap[rb]? = some (rwB ⟨rk, rt, rv⟩) ∧ Turned S w w2 ∧ rb < w2.heap.size) := HA.out w2 h4; have Y2 : Hid (Eng' S' w2 ∧ (∀ k, S' k → (S k ∨ w1.heap.size ≤ k) ∧ k < w2.heap.size)) := ⟨h2, h3⟩; have hc2 := T2.out.1.cells; have hx2 := rw_cells T2.out.2.1; clear h2 h3 h4)
      | fail)
    clear hc1 hx1 HA HF E1
    have hq := ne_err55 c
    have Z2 : Hid (∀ W, Below w2.heap.size w2 W → W.heap[0]? = w.heap[0]?) := fun W hW => (hW.block 0 (Nat.lt_of_lt_of_le (Nat.lt_of_le_of_lt (Nat.zero_le _) hlt) T2.out.2.2.1.size)).trans (T2.out.2.2.1.block 0 (Nat.lt_of_le_of_lt (Nat.zero_le _) hlt) hS0)
    have hl4 : w.heap.size ≤ w1.heap.size := D1.out.1.size
    have HQ : Hid (∀ W, Below w2.heap.size w2 W → TaleAt W base bt (.pointer (some ⟨be, 0, none⟩)) lo hi mode a0 a1 va vb bf nF A B F ∧ Eng' S' W ∧ (∀ k, S' k → (S k ∨ w.heap.size ≤ k) ∧ k < W.heap.size ∧ k ≠ bt ∧ k ≠ bf ∧ va.ownBlock ≠ some k ∧ vb.ownBlock ≠ some k) ∧ Turned S w W) := by
      intro W hW
      refine ⟨T2.out.1.below hW, HO.out.2.2.1 S' w2 W Y2.out.1 hW.size (fun k hk => hW.block k (Y2.out.2 k hk).2), fun k hk => ?_, T2.out.2.2.1.trans (Turned.of_below (S := fun _ => False) hW) (fun _ _ e => e.elim)⟩
      obtain ⟨g1, g2⟩ := Y2.out.2 k hk
      have hws := hW.size
      rcases g1 with g1 | g1
      · exact ⟨Or.inl g1, by omega, (HS.out k g1).2⟩
      · have a1 := HT.out.ltf
        exact ⟨Or.inr (by omega), by omega, by omega, by omega, fun e => by have := (HT.out.r0.lt k e).2; omega, fun e => by have := (HT.out.r1.lt k e).2; omega⟩
    clear hc2 hx2
    rcases hc with rfl | rfl
    · go_wp2_with (first
        | (go_at_call 22; refine (HTl.out _ (Z2.out _ (by first | exact Below.refl _ _ | exact (Below.refl _ _).drew))).mono ?_; rintro e w3 ⟨rfl, hb3⟩; have HB3 : Hid (Below w2.heap.size w2 w3) := hb3; clear hb3)
        | fail)
      go_ret
      exact ⟨rfl, S', HQ.out _ HB3.out⟩
    · go_wp2_with fail
      refine (HTl.out _ (Z2.out _ (by first | exact Below.refl _ _ | exact (Below.refl _ _).drew))).mono ?_
      rintro e w3 ⟨rfl, hb3⟩
      have HB3 : Hid (Below w2.heap.size w2 w3) := hb3
      clear hb3
      go_wp2_with fail
      refine (HTl.out _ (Z2.out _ HB3.out)).mono ?_
      rintro e w4 ⟨rfl, hb4⟩
      have HB4 : Hid (Below w2.heap.size w2 w4) := HB3.out.trans (hb4.mono HB3.out.size)
      clear hb4
      go_wp2
      go_ret
      exact ⟨rfl, S', HQ.out _ HB4.out⟩

set_option maxHeartbeats 4000000 in
theorem does2_limit (Eng : (Nat → Prop) → World → Prop) (S : Nat → Prop) (txt : ByteArray) (base bt be bf nF : Nat) (lo hi mode a0 a1 : Int) (va vb : Value) (A B : List Rw) (F : List O) (xs xn xk xt xv : Int) (w : World)
    (hTl : ∀ W, W.heap[0]? = w.heap[0]? → Calls Tryz.prog 22 #[.iface 70 (.int .i64 4)] W fun e w' => e = .returned (.int .i64 4) ∧ Below W.heap.size W w')
    (hT : TaleAt w base bt (.pointer (some ⟨be, 0, none⟩)) lo hi mode a0 a1 va vb bf nF A B F)
    (hst : Steady Eng) (hE : Eng S w) (hS : ∀ k, S k → k < w.heap.size)
    (hSv : ∀ W, Eng S W → w.heap.size ≤ W.heap.size → Calls Tryz.prog 21 #[.pointer (some ⟨be, 0, none⟩)] W fun e w' => e = .returned (.tuple #[.string txt, .iface 70 (.int .i64 4)]) ∧ Below W.heap.size W w') :
    Calls Tryz.prog 9 #[.pointer (some ⟨bt, 0, none⟩), .agg #[.int .i64 2, .int .i64 xs, .int .i64 xn, .int .i64 xk, .int .i64 xt, .int .i64 xv]] w fun e w' => e = .returned (.bool true) ∧ Below w.heap.size w w' := by
  have p2 := pickN_lt xs 2 (by omega)
  have K : Hid ((IntKind.u64.wrap xs).tmod 2 = ((pickN xs 2 : Nat) : Int)) := p2.2.symm
  have hbl : Below w.heap.size w (w.alloc (stepB 2 xs xn xk xt xv)) := Go.Joins.below_alloc1 _ _
  have HSv : Hid (Calls Tryz.prog 21 #[.pointer (some ⟨be, 0, none⟩)] (w.alloc (stepB 2 xs xn xk xt xv)) fun e w' => e = .returned (.tuple #[.string txt, .iface 70 (.int .i64 4)]) ∧ Below w.heap.size w w') :=
    (hSv _ (hst S w _ hE hbl.size (fun k hk => hbl.block k (hS k hk))) hbl.size).mono (by rintro e w' ⟨rfl, hb⟩; exact ⟨rfl, hbl.trans (hb.mono hbl.size)⟩)
  have hce : (w.alloc (stepB 2 xs xn xk xt xv)).cell? ⟨bt, 0, none⟩ = some (.pointer (some ⟨be, 0, none⟩)) := by rw [Go.Joins.cell_of_block (hT.below hbl).blk]; rfl
  have hlt := hT.lt
  have hq := ne_err55 4
  clear hT hSv hS hst hE hbl p2
  go_enter Tryz.func9, Tryz.ntmps9
  go_wp2_with (first
    | (go_at_call 13; refine (pick_int _ _ _ (by omega) (by omega)).mono ?_; rintro e w' ⟨rfl, rfl⟩; rw [K.out])
    | (go_at_call 21; refine (HSv.out).mono ?_; rintro e w1 ⟨rfl, hb1⟩; have HB1 : Hid (Below w.heap.size w w1) := hb1; clear hb1)
    | (go_at_call 22; refine (hTl _ (HB1.out.block 0 (Nat.lt_of_le_of_lt (Nat.zero_le _) hlt))).mono ?_; rintro e w2 ⟨rfl, hb2⟩; have HB2 : Hid (Below w.heap.size w w2) := HB1.out.trans (hb2.mono HB1.out.size); clear hb2)
    | fail)
  go_ret
  exact ⟨rfl, HB2.out⟩

end Go.Proofs.YtmmbjbgimpgcfaaGreatDoor
