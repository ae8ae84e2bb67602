/- The walk of BagPlays. -/
import Derived.Test.YtfldfnphidehlaaDoorBplm
namespace Go.Proofs.YtfldfnphidehlaaDoor
open Go.RowKit
set_option maxRecDepth 100000

/-- Ten cells at an address: a Change. -/
def Cells10 (W : World) (g o : Nat) (x : O) (gone : Bool) : Prop := W.cell? ⟨g, o, none⟩ = some (.int .i64 x.k) ∧ W.cell? ⟨g, o + 1, none⟩ = some (.int .i64 x.lk) ∧ W.cell? ⟨g, o + 2, none⟩ = some (.int .i64 x.lt) ∧ W.cell? ⟨g, o + 3, none⟩ = some (.int .i64 x.lv) ∧ W.cell? ⟨g, o + 4, none⟩ = some (.int .i64 x.rk) ∧ W.cell? ⟨g, o + 5, none⟩ = some (.int .i64 x.rt) ∧ W.cell? ⟨g, o + 6, none⟩ = some (.int .i64 x.rv) ∧ W.cell? ⟨g, o + 7, none⟩ = some (.bool x.hl) ∧ W.cell? ⟨g, o + 8, none⟩ = some (.bool x.hr) ∧ W.cell? ⟨g, o + 9, none⟩ = some (.bool gone)
theorem Cells10.below {w W : World} {g o : Nat} {x : O} {gone : Bool} (h : Cells10 w g o x gone) (hb : Below w.heap.size w W) (hg : g < w.heap.size) : Cells10 W g o x gone := by
  have key := fun (o : Nat) => hb.cell (p := ⟨g, o, none⟩) hg
  unfold Cells10 at *
  simp only [key]
  exact h

theorem bagp_long (oa : Option Addr) (n c : Nat) (w : World) (hn : 150 < n) : Calls Tryd.prog 3 #[.slice oa n c] w fun e w' => e = .returned (.bool true) ∧ Below w.heap.size w w' := by
  go_enter Tryd.func3, Tryd.ntmps3
  go_wp2
  go_ret
  exact ⟨rfl, Below.refl _ _⟩

theorem bagp_none (oa : Option Addr) (c : Nat) (w : World) : Calls Tryd.prog 3 #[.slice oa 0 c] w fun e w' => e = .returned (.bool true) ∧ Below w.heap.size w w' := by
  go_enter Tryd.func3, Tryd.ntmps3
  go_wp2
  refine wp_loop_rounds 1 ?_
  rw [rounds_succ]
  go_wp2
  go_ret
  exact ⟨rfl, Go.Joins.below_alloc2 _ _ _⟩

theorem both_new (w : World) : Both w w.heap.size (w.heap.size + 1) none 0 [] (.slice none 0 0) [] ((w.alloc (.cells #[.map none, .int .i64 0] 25)).alloc (.cells #[.slice none 0 0] 29)) := by
  have h2 := heap_alloc_new (w.alloc (.cells #[.map none, .int .i64 0] 25)) (.cells #[.slice none 0 0] 29)
  simp only [World.size_alloc] at h2
  refine ⟨Go.Joins.below_alloc2 _ _ _, ⟨(Below.heap_alloc _ _ _ (by simp)).trans (heap_alloc_new _ _), .inl ⟨rfl, rfl⟩⟩, ⟨h2, World.ownsRow_nil _ _ _ _⟩, Nat.le_refl _, by omega, fun k e => (by cases e), by omega⟩

/-- The nine answers of a round, each from what stands. -/
theorem b_many {w W : World} {ba br m : Nat} {om : Option Nat} {L M : List O} {v : Value} (h : Both w ba br om m L v M W) (x : O) (hx : x.wf) (c : Nat) (hc : L.count x = c) :
    Calls Tryd.prog 8 #[.pointer (some ⟨ba, 0, none⟩), vO x] W fun e W' => e = .returned (.int .i64 c) ∧ Both w ba br om m L v M W' :=
  (many_any ba m om L W h.bag x hx).mono fun _ _ ⟨h1, h2⟩ => ⟨by rw [h1, hc], h.by_below h2⟩
theorem r_many {w W : World} {ba br m : Nat} {om : Option Nat} {L M : List O} {v : Value} (h : Both w ba br om m L v M W) (x : O) (hM : M.length ≤ 1000) (c : Nat) (hc : M.count x = c) :
    Calls Tryd.prog 9 #[.pointer (some ⟨br, 0, none⟩), vO x] W fun e W' => e = .returned (.int .i64 c) ∧ Both w ba br om m L v M W' :=
  (rmany_any w.heap.size br v M W h.ref x hM).mono fun _ _ ⟨h1, h2⟩ => ⟨by rw [h1, hc], h.by_below h2⟩
theorem b_size {w W : World} {ba br m : Nat} {om : Option Nat} {L M : List O} {v : Value} (h : Both w ba br om m L v M W) (n : Nat) (hn : L.length = n) :
    Calls Tryd.prog 10 #[.pointer (some ⟨ba, 0, none⟩)] W fun e W' => e = .returned (.int .i64 n) ∧ W' = W :=
  (size_any ba m om L W h.bag).mono fun _ _ ⟨h1, h2⟩ => ⟨by rw [h1, hn], h2⟩
theorem b_all {w W : World} {ba br m : Nat} {om : Option Nat} {L M : List O} {v : Value} (h : Both w ba br om m L v M W) (hm : m ≤ 1000) (hL : L.length ≤ 1000) :
    Calls Tryd.prog 12 #[.pointer (some ⟨ba, 0, none⟩)] W fun e W' => ∃ v1 Z b1, e = .returned v1 ∧ Both w ba br om m L v M W' ∧ Z.Perm L ∧ InOrder Z ∧ W'.ownsRow b1 37 9 v1 Z.length (Z.flatMap encO) :=
  (bag_all ba m om L W h.bag (by omega) (by omega)).mono fun _ _ ⟨v1, Z, h1, h2, h3, h4, h5⟩ => ⟨v1, Z, _, h1, h.by_below h5, h2, h3, h4⟩
theorem r_sorted {w W : World} {ba br m : Nat} {om : Option Nat} {L M Z : List O} {v v1 : Value} {b1 : Nat} (h : Both w ba br om m L v M W) (hM : M.length ≤ 1000) (hp : L.Perm M) (hz : Z.Perm L) (ho : InOrder Z) (hr : W.ownsRow b1 37 9 v1 Z.length (Z.flatMap encO)) :
    Calls Tryd.prog 13 #[.pointer (some ⟨br, 0, none⟩)] W fun e W' => ∃ v2 b2, e = .returned v2 ∧ Both w ba br om m L v M W' ∧ W'.ownsRow b1 37 9 v1 Z.length (Z.flatMap encO) ∧ W'.ownsRow b2 37 9 v2 Z.length (Z.flatMap encO) :=
  (rsorted_any w.heap.size br v M W h.ref hM).mono fun _ _ ⟨v2, Z2, h1, h2, h3, h4, h5⟩ => by
    have e : Z2 = Z := order_eq (h2.trans (hp.symm.trans hz.symm)) h3 ho
    subst e
    exact ⟨v2, _, h1, h.by_below h5, kept_below hr h5, h4⟩

/-- The load of the document's slice, by a name of its own. -/
def loadAll : Op := .load 27 (.tmp 50)

set_option maxHeartbeats 8000000 in
theorem bagp_some (bb off n c : Nat) (S : Nat → O) (G : Nat → Bool) (w : World) (h150 : n ≤ 150) (hbb : bb < w.heap.size) (hg : w.cell? ⟨0, 0, none⟩ = some (.iface 106 (.agg #[.pointer (some ⟨1, 32, none⟩)])))
    (hS : ∀ k, k < n → Cells10 w bb (off + k * 10) (S k) (G k) ∧ (S k).wf) :
    Calls Tryd.prog 3 #[.slice (some ⟨bb, off, none⟩) n c] w fun e w' => e = .returned (.bool true) ∧ Below w.heap.size w w' := by
  have hz0 : 0 < w.heap.size := by omega
  have HS : Hid (∀ k, k < n → Cells10 w bb (off + k * 10) (S k) (G k) ∧ (S k).wf) := hS
  clear hS
  go_enter Tryd.func3, Tryd.ntmps3
  go_wp2
  go_loopg [5] n (fun g i wr => ∃ (k : Nat) (om : Option Nat) (L : List O) (v : Value) (M : List O), k ≤ n ∧ g = n - k ∧ i = .int .i64 k ∧ Hid (Both w w.heap.size (w.heap.size + 1) om k L v M wr ∧ L.Perm M ∧ L.length ≤ k))
  case atStart => exact ⟨0, none, [], .slice none 0 0, [], Nat.zero_le _, rfl, rfl, ⟨both_new w, List.Perm.refl _, Nat.le_refl _⟩⟩
  case round =>
    obtain ⟨k, om, L, v, M, hk, hgk, rfl, I⟩ := hrel
    have HG : Hid (gk = n - k) := hgk
    clear hgk
    by_cases hlt : k < n
    · have h1 : (0 : Int) ≤ (k : Int) := by omega
      have h2 : (k : Int) < (n : Int) := by omega
      have HX : Hid (S k).wf := (HS.out k hlt).2
      have HC : Hid (∀ W, Below w.heap.size w W → Cells10 W bb (off + k * 10) (S k) (G k)) := fun W hW => (HS.out k hlt).1.below hW hbb
      have hML : M.length ≤ 1000 := by have := I.out.2.1.length_eq; have := I.out.2.2; omega
      have hLL : L.length < 1000 := by have := I.out.2.2; omega
      have HP2 : Hid ((nextL (G k) (S k) L).Perm (nextM (G k) (S k) M)) := next_perm _ _ I.out.2.1
      have HE : Hid (appE (G k) (S k) M = appE (G k) (S k) L) := appE_perm _ _ I.out.2.1
      have HL2 : Hid ((nextL (G k) (S k) L).length ≤ k + 1) := Nat.le_trans (next_len _ _ _) (by have := I.out.2.2; omega)
      generalize S k = x at *
      generalize G k = gone at *
      obtain ⟨N, hN⟩ : ∃ N, N = (nextL gone x L).length := ⟨_, rfl⟩
      obtain ⟨cc, hcc⟩ : ∃ cc, cc = (nextL gone x L).count x := ⟨_, rfl⟩
      obtain ⟨E, hEE⟩ : ∃ E, E = appE gone x L := ⟨_, rfl⟩
      have HNs : Hid (((nextL gone x L).length = N ∧ (nextM gone x M).length = N) ∧ ((nextL gone x L).count x = cc ∧ (nextM gone x M).count x = cc) ∧ N ≤ k + 1) :=
        ⟨⟨hN.symm, by rw [hN]; exact HP2.out.length_eq.symm⟩, ⟨hcc.symm, by rw [hcc]; exact (HP2.out.count_eq x).symm⟩, by rw [hN]; exact HL2.out⟩
      have hA : Calls Tryd.prog 6 #[.pointer (some ⟨w.heap.size, 0, none⟩), vC x gone] wr.drew fun e W' => e = .returned (errV E) ∧ ∃ om', Both w w.heap.size (w.heap.size + 1) om' (k + 1) (nextL gone x L) v M W' := by
        rw [hEE]; exact bag_apply I.out.1.drew x HX.out gone (by omega) hLL
      have HA : Hid (Calls Tryd.prog 6 #[.pointer (some ⟨w.heap.size, 0, none⟩), vC x gone] wr.drew fun e W' => e = .returned (errV E) ∧ ∃ om', Both w w.heap.size (w.heap.size + 1) om' (k + 1) (nextL gone x L) v M W') := hA
      have HR : Hid (∀ W om', Both w w.heap.size (w.heap.size + 1) om' (k + 1) (nextL gone x L) v M W → Calls Tryd.prog 7 #[.pointer (some ⟨w.heap.size + 1, 0, none⟩), vC x gone] W fun e W' => e = .returned (.int .i64 E) ∧ ∃ oa c, Both w w.heap.size (w.heap.size + 1) om' (k + 1) (nextL gone x L) (.slice oa N c) (nextM gone x M) W') := by
        intro W om' hW
        rw [hEE, ← HE.out]
        exact ref_apply hW x gone hML N HNs.out.1.2
      have hN2 : N ≤ k + 1 := HNs.out.2.2
      have hM2 : (nextM gone x M).length ≤ 1000 := by have := HNs.out.1.2; omega
      have hL2 : (nextL gone x L).length ≤ 1000 := by have := HNs.out.1.1; omega
      have hcs := HC.out wr I.out.1.below
      unfold Cells10 at hcs
      have HC2 : Hid (∀ W, Below w.heap.size w W → (W.cell? ⟨bb, off + k * 10, none⟩ = some (.int .i64 x.k) ∧ W.cell? ⟨bb, off + k * 10 + 1, none⟩ = some (.int .i64 x.lk) ∧ W.cell? ⟨bb, off + k * 10 + 2, none⟩ = some (.int .i64 x.lt) ∧ W.cell? ⟨bb, off + k * 10 + 3, none⟩ = some (.int .i64 x.lv) ∧ W.cell? ⟨bb, off + k * 10 + 4, none⟩ = some (.int .i64 x.rk) ∧ W.cell? ⟨bb, off + k * 10 + 5, none⟩ = some (.int .i64 x.rt) ∧ W.cell? ⟨bb, off + k * 10 + 6, none⟩ = some (.int .i64 x.rv) ∧ W.cell? ⟨bb, off + k * 10 + 7, none⟩ = some (.bool x.hl) ∧ W.cell? ⟨bb, off + k * 10 + 8, none⟩ = some (.bool x.hr) ∧ W.cell? ⟨bb, off + k * 10 + 9, none⟩ = some (.bool gone))) := fun W hW => HC.out W hW
      clear hA hN hcc hEE HC
      simp only [vC] at HA HR
      go_wp2
      have hml : loadAll = Op.load 27 (Operand.tmp 50) := rfl
      rw [← hml]
      go_region_held3 (fun w' => w'.cell? ⟨bb, off + k * 10, none⟩ = some (.int .i64 x.k) ∧ w'.cell? ⟨bb, off + k * 10 + 1, none⟩ = some (.int .i64 x.lk) ∧ w'.cell? ⟨bb, off + k * 10 + 2, none⟩ = some (.int .i64 x.lt) ∧ w'.cell? ⟨bb, off + k * 10 + 3, none⟩ = some (.int .i64 x.lv) ∧ w'.cell? ⟨bb, off + k * 10 + 4, none⟩ = some (.int .i64 x.rk) ∧ w'.cell? ⟨bb, off + k * 10 + 5, none⟩ = some (.int .i64 x.rt) ∧ w'.cell? ⟨bb, off + k * 10 + 6, none⟩ = some (.int .i64 x.rv) ∧ w'.cell? ⟨bb, off + k * 10 + 7, none⟩ = some (.bool x.hl) ∧ w'.cell? ⟨bb, off + k * 10 + 8, none⟩ = some (.bool x.hr) ∧ w'.cell? ⟨bb, off + k * 10 + 9, none⟩ = some (.bool gone))
        (first | (go_keep; done) | (exact HC2.out _ B13.out.below) | (exact HC2.out _ B12.out.below) | (exact HC2.out _ B11.out.below) | (exact HC2.out _ B10.out.below) | (exact HC2.out _ B9.out.below) | (exact HC2.out _ B8.out.below) | (exact HC2.out _ B7.out.below) | (exact HC2.out _ B6.out.below) | (exact HC2.out _ B5.out.below) | fail)
        (first
          | (go_at_call 6; refine Calls.mono (Hid.out HA) ?_; rintro e w5 ⟨rfl, om5, hB5⟩; have B5 : Hid (Both w w.heap.size (w.heap.size + 1) om5 (k + 1) (nextL gone x L) v M w5) := hB5; clear hB5)
          | (go_at_call 7; refine Calls.mono (HR.out _ _ B5.out) ?_; rintro e w6 ⟨rfl, oa6, c6, hB6⟩; have B6 : Hid (Both w w.heap.size (w.heap.size + 1) om5 (k + 1) (nextL gone x L) (.slice oa6 N c6) (nextM gone x M) w6) := hB6; clear hB6)
          | (go_at_call 5; refine (bare_same E w _ hg hz0 ?_).mono ?_; (exact B6.out.below); rintro e w7 ⟨rfl, hb7⟩; have B7 : Hid (Both w w.heap.size (w.heap.size + 1) om5 (k + 1) (nextL gone x L) (.slice oa6 N c6) (nextM gone x M) w7) := B6.out.by_below hb7; clear hb7)
          | (go_at_call 8; refine (b_many B7.out x HX.out cc HNs.out.2.1.1).mono ?_; rintro e w8 ⟨rfl, hB8⟩; have B8 : Hid (Both w w.heap.size (w.heap.size + 1) om5 (k + 1) (nextL gone x L) (.slice oa6 N c6) (nextM gone x M) w8) := hB8; clear hB8)
          | (go_at_call 9; refine (r_many B8.out x hM2 cc HNs.out.2.1.2).mono ?_; rintro e w9 ⟨rfl, hB9⟩; have B9 : Hid (Both w w.heap.size (w.heap.size + 1) om5 (k + 1) (nextL gone x L) (.slice oa6 N c6) (nextM gone x M) w9) := hB9; have hc9 := hB9.ref.cell; clear hB9)
          | (go_at_call 10; refine (b_size B9.out N HNs.out.1.1).mono ?_; rintro e w10 ⟨rfl, rfl⟩)
          | (go_at_call 12; refine (b_all B9.out (by omega) hL2).mono ?_; rintro e w11 ⟨v11, Z, b11, rfl, hB11, hz11, ho11, hr11⟩; have B11 : Hid (Both w w.heap.size (w.heap.size + 1) om5 (k + 1) (nextL gone x L) (.slice oa6 N c6) (nextM gone x M) w11) := hB11; have Z11 : Hid (Z.Perm (nextL gone x L) ∧ InOrder Z) := ⟨hz11, ho11⟩; have R11 : Hid (w11.ownsRow b11 37 9 v11 Z.length (Z.flatMap encO)) := hr11; clear hB11 hz11 ho11 hr11)
          | (go_at_call 13; refine (r_sorted B11.out hM2 HP2.out Z11.out.1 Z11.out.2 R11.out).mono ?_; rintro e w12 ⟨v12, b12, rfl, hB12, hr12, hr13⟩; have B12 : Hid (Both w w.heap.size (w.heap.size + 1) om5 (k + 1) (nextL gone x L) (.slice oa6 N c6) (nextM gone x M) w12) := hB12; have R12 : Hid (w12.ownsRow b11 37 9 v11 Z.length (Z.flatMap encO)) := hr12; have R13 : Hid (w12.ownsRow b12 37 9 v12 Z.length (Z.flatMap encO)) := hr13; clear hB12 hr12 hr13)
          | (go_at_call 11; refine (same_outs v11 v12 Z _ _ _ R12.out R13.out ?_).mono ?_; (have := Z11.out.1.length_eq; omega); rintro e w13 ⟨rfl, hb13⟩; have B13 : Hid (Both w w.heap.size (w.heap.size + 1) om5 (k + 1) (nextL gone x L) (.slice oa6 N c6) (nextM gone x M) w13) := B12.out.by_below hb13; clear hb13)
          | fail)
      all_goals (try go_wp2)
      all_goals go_roundg (n - (k + 1))
      all_goals first
        | exact ⟨k + 1, om5, nextL gone x L, .slice oa6 N c6, nextM gone x M, by omega, rfl, by go_num, ⟨B13.out, HP2.out, HL2.out⟩⟩
        | (have := HG.out; omega)
    · have h2 : ¬ ((k : Int) < (n : Int)) := by omega
      go_wp2
      go_ret
      exact ⟨rfl, I.out.1.below⟩

end Go.Proofs.YtfldfnphidehlaaDoor
