/- The engine meets: met answers true. -/
import Derived.Test.YtmmbjbgimpgcfaaGreatDoorEvl
namespace Go.Proofs.YtmmbjbgimpgcfaaGreatDoor
open Go.RowKit Go.Sort
set_option maxRecDepth 100000

theorem CellsC.still {W W' : World} {g o : Nat} {c : Ch} (h : CellsC W g o c) (hb : W'.heap[g]? = W.heap[g]?) : CellsC W' g o c := by
  have key := fun (j : Nat) => World.cell?_of_block (w := W) (w' := W') (a := ⟨g, j, none⟩) hb
  obtain ⟨h0, h1, h2, h3, h4, h5, h6, h7, h8, h9⟩ := h
  exact ⟨(key _).trans h0, (key _).trans h1, (key _).trans h2, (key _).trans h3, (key _).trans h4, (key _).trans h5, (key _).trans h6, (key _).trans h7, (key _).trans h8, (key _).trans h9⟩

theorem two_new (w2 : World) (a b : Obj) : ((w2.alloc a).alloc b).heap[w2.heap.size]? = some a ∧ ((w2.alloc a).alloc b).heap[w2.heap.size + 1]? = some b ∧ ((w2.alloc a).alloc b).heap.size = w2.heap.size + 2 := by
  have e1 : (w2.alloc a).heap.size = w2.heap.size + 1 := World.size_alloc w2 a
  have e2 : ((w2.alloc a).alloc b).heap.size = w2.heap.size + 1 + 1 := by rw [World.size_alloc, e1]
  refine ⟨((Go.Joins.below_alloc1 (w2.alloc a) b).block _ (by rw [e1]; omega)).trans (heap_alloc_new _ _), ?_, e2⟩
  have := heap_alloc_new (w2.alloc a) b
  rwa [e1] at this

theorem rpair_below (k1 t1 v1 k2 t2 v2 : Int) (w : World) :
    Calls Tryz.prog 27 #[.agg #[.int .i64 k1, .int .i64 t1, .int .i64 v1], .agg #[.int .i64 k2, .int .i64 t2, .int .i64 v2]] w fun e w' => e = .returned (.agg #[.int .i64 k1, .int .i64 k1, .int .i64 t1, .int .i64 v1, .int .i64 k2, .int .i64 t2, .int .i64 v2, .bool true, .bool true]) ∧ Below w.heap.size w w' := by
  refine (rpair_any k1 t1 v1 k2 t2 v2 w).mono ?_
  rintro e w' ⟨rfl, rfl⟩
  exact ⟨rfl, (Go.Joins.below_alloc2 _ _ _).trans ((Go.Joins.below_alloc1 _ _).mono (by simp; omega))⟩

def SM (ga bl br : Nat) (W : World) : Prop := (W.cell? ⟨ga, 0, none⟩ = some (.int .i64 1) ∧ W.cell? ⟨ga, 1, none⟩ = some (.int .i64 1) ∧ W.cell? ⟨ga, 2, none⟩ = some (.int .i64 10) ∧ W.cell? ⟨ga, 3, none⟩ = some (.int .i64 3) ∧ W.cell? ⟨ga, 4, none⟩ = some (.int .i64 0) ∧ W.cell? ⟨ga, 5, none⟩ = some (.int .i64 0) ∧ W.cell? ⟨ga, 6, none⟩ = some (.int .i64 0) ∧ W.cell? ⟨ga, 7, none⟩ = some (.bool true) ∧ W.cell? ⟨ga, 8, none⟩ = some (.bool false) ∧ W.cell? ⟨ga, 9, none⟩ = some (.bool false)) ∧
  (W.cell? ⟨bl, 0, none⟩ = some (.int .i64 1) ∧ W.cell? ⟨bl, 1, none⟩ = some (.int .i64 10) ∧ W.cell? ⟨bl, 2, none⟩ = some (.int .i64 3)) ∧ (W.cell? ⟨br, 0, none⟩ = some (.int .i64 1) ∧ W.cell? ⟨br, 1, none⟩ = some (.int .i64 12) ∧ W.cell? ⟨br, 2, none⟩ = some (.int .i64 4))

def SN (gb bl br : Nat) (W : World) : Prop := (W.cell? ⟨gb, 0, none⟩ = some (.int .i64 1) ∧ W.cell? ⟨gb, 1, none⟩ = some (.int .i64 1) ∧ W.cell? ⟨gb, 2, none⟩ = some (.int .i64 10) ∧ W.cell? ⟨gb, 3, none⟩ = some (.int .i64 3) ∧ W.cell? ⟨gb, 4, none⟩ = some (.int .i64 0) ∧ W.cell? ⟨gb, 5, none⟩ = some (.int .i64 0) ∧ W.cell? ⟨gb, 6, none⟩ = some (.int .i64 0) ∧ W.cell? ⟨gb, 7, none⟩ = some (.bool true) ∧ W.cell? ⟨gb, 8, none⟩ = some (.bool false) ∧ W.cell? ⟨gb, 9, none⟩ = some (.bool true)) ∧ (W.cell? ⟨gb, 10, none⟩ = some (.int .i64 1) ∧ W.cell? ⟨gb, 11, none⟩ = some (.int .i64 1) ∧ W.cell? ⟨gb, 12, none⟩ = some (.int .i64 10) ∧ W.cell? ⟨gb, 13, none⟩ = some (.int .i64 3) ∧ W.cell? ⟨gb, 14, none⟩ = some (.int .i64 1) ∧ W.cell? ⟨gb, 15, none⟩ = some (.int .i64 12) ∧ W.cell? ⟨gb, 16, none⟩ = some (.int .i64 4) ∧ W.cell? ⟨gb, 17, none⟩ = some (.bool true) ∧ W.cell? ⟨gb, 18, none⟩ = some (.bool true) ∧ W.cell? ⟨gb, 19, none⟩ = some (.bool false)) ∧ (W.cell? ⟨bl, 0, none⟩ = some (.int .i64 1) ∧ W.cell? ⟨bl, 1, none⟩ = some (.int .i64 10) ∧ W.cell? ⟨bl, 2, none⟩ = some (.int .i64 3)) ∧ (W.cell? ⟨br, 0, none⟩ = some (.int .i64 1) ∧ W.cell? ⟨br, 1, none⟩ = some (.int .i64 12) ∧ W.cell? ⟨br, 2, none⟩ = some (.int .i64 4))

set_option maxHeartbeats 8000000 in
theorem met_true {EngAt : Nat → J → List O → (Nat → Prop) → World → Prop} (E : EngFeeds EngAt) (E2 : EngApart EngAt) (w : World) :
    Calls Tryz.prog 7 #[] w fun e w' => e = .returned (.bool true) ∧ Below w.heap.size w w' := by
  have hN := E.new 0 5 1 w (by unfold planOk; omega)
  go_enter Tryz.func7, Tryz.ntmps7
  go_wp2_with fail
  refine hN.mono ?_
  rintro e w2 ⟨be, S, rfl, h1, h2, h3⟩
  have A2 : Hid (EngAt be jM0 [] S w2 ∧ (∀ k, S k → w.heap.size ≤ k ∧ k < w2.heap.size) ∧ Below w.heap.size w w2) := ⟨h1, h2, h3⟩
  clear hN h1 h2 h3
  go_wp2_with fail
  obtain ⟨w3, hw3⟩ : ∃ w3, w3 = (w2.alloc (.cells #[.int .i64 1, .int .i64 10, .int .i64 3] 48)).alloc (.cells #[.int .i64 1, .int .i64 12, .int .i64 4] 48) := ⟨_, rfl⟩
  rw [← hw3]
  have hb3 : Below w2.heap.size w2 w3 := by rw [hw3]; exact Go.Joins.below_alloc2 _ _ _
  have hs3 : w3.heap.size = w2.heap.size + 2 := by rw [hw3]; exact (two_new _ _ _).2.2
  have hL3 : w3.heap[w2.heap.size]? = some (.cells #[.int .i64 1, .int .i64 10, .int .i64 3] 48) := by rw [hw3]; exact (two_new _ _ _).1
  have hR3 : w3.heap[w2.heap.size + 1]? = some (.cells #[.int .i64 1, .int .i64 12, .int .i64 4] 48) := by rw [hw3]; exact (two_new _ _ _).2.1
  have hE3 : EngAt be jM0 [] S w3 := E.steady _ _ _ S w2 w3 A2.out.1 hb3.size (fun k hk => hb3.block k (A2.out.2.1 k hk).2)
  refine (feedA E2 be S w3 hE3).mono ?_
  rintro e w4 ⟨ga, ca, S4, rfl, p1, p2, p3, p4, ⟨p5, p6⟩, p7⟩
  have hn : ∀ k, S k → k < w2.heap.size := fun k hk => (A2.out.2.1 k hk).2
  have q1 : w4.heap[w2.heap.size]? = some (.cells #[.int .i64 1, .int .i64 10, .int .i64 3] 48) := (p6.block _ (by omega) (fun e => by have := hn _ e; omega)).trans hL3
  have q2 : w4.heap[w2.heap.size + 1]? = some (.cells #[.int .i64 1, .int .i64 12, .int .i64 4] 48) := (p6.block _ (by omega) (fun e => by have := hn _ e; omega)).trans hR3
  have hlow4 : Below w.heap.size w w4 := (A2.out.2.2.trans (hb3.mono A2.out.2.2.size)).trans (p6.below (by have := A2.out.2.2.size; omega) (fun k hk => (A2.out.2.1 k hk).1))
  have hS4 : ∀ k, S4 k → w.heap.size ≤ k ∧ k < w4.heap.size ∧ k ≠ w2.heap.size ∧ k ≠ w2.heap.size + 1 := fun k hk => by
    have hz := A2.out.2.2.size
    rcases p5 k hk with ⟨g | g, hlt⟩
    · have := A2.out.2.1 k g; exact ⟨this.1, hlt, by omega, by omega⟩
    · exact ⟨by omega, hlt, by omega, by omega⟩
  have hsz4 : w2.heap.size + 2 ≤ w4.heap.size := by have := p6.size; omega
  have r2 := rbox_cells q2
  have HB : Hid (Calls Tryz.prog 25 #[.pointer (some ⟨be, 0, none⟩), .int .i64 1, .agg #[.int .i64 1, .int .i64 12, .int .i64 4]] w4 fun e w5 => ∃ g c S', e = .returned (.tuple #[.slice (some ⟨g, 0, none⟩) 2 c, .nilIface]) ∧ CellsC w5 g 0 ⟨oL, true⟩ ∧ CellsC w5 g 10 ⟨oP, false⟩ ∧ CellsC w5 ga 0 ⟨oL, false⟩ ∧ EngAt be jM2 [oP] S' w5 ∧ Below w.heap.size w w5 ∧ w5.heap[w2.heap.size]? = some (.cells #[.int .i64 1, .int .i64 10, .int .i64 3] 48) ∧ w5.heap[w2.heap.size + 1]? = some (.cells #[.int .i64 1, .int .i64 12, .int .i64 4] 48) ∧ ∀ k, S' k → k < w5.heap.size) := by
    refine (feedB E be S4 w4 p4).mono ?_
    rintro e w5 ⟨g, c, S', rfl, u1, u2, u3, u4, u5, u6, u7⟩
    refine ⟨g, c, S', rfl, u3, u4, p3.still (u7.block ga p2 p7), u5, hlow4.trans (u7.below hlow4.size (fun k hk => (hS4 k hk).1)), (u7.block _ (by omega) (fun e => (hS4 _ e).2.2.1 rfl)).trans q1, (u7.block _ (by omega) (fun e => (hS4 _ e).2.2.2 rfl)).trans q2, fun k hk => (u6 k hk).2⟩
  clear p1 p2 p3 p4 p5 p6 p7 q1 q2 hn hE3 hL3 hR3 hs3 hb3 hlow4 hS4 hsz4 hw3
  go_wp2_with fail
  refine HB.out.mono ?_
  rintro e w5 ⟨gb, cb, S5, rfl, u1, u2, u3, u4, u5, u6, u7, u8⟩
  have U : Hid (EngAt be jM2 [oP] S5 w5 ∧ Below w.heap.size w w5 ∧ ∀ k, S5 k → k < w5.heap.size) := ⟨u4, u5, u8⟩
  have b1 := rbox_cells u6
  have b2 := rbox_cells u7
  clear r2 HB u4 u5 u8 u6 u7
  simp only [CellsC, oL, oP, Nat.zero_add, Nat.reduceAdd] at u1 u2 u3
  have HK : Hid (∀ W, Below w5.heap.size w5 W → SM ga w2.heap.size (w2.heap.size + 1) W) := by
    have k1 := block_lt_of_cell u3.1
    have k2 := block_lt_of_cell b1.1
    have k3 := block_lt_of_cell b2.1
    intro W hW
    have f := fun (j : Nat) => hW.cell (p := ⟨ga, j, none⟩) k1
    have g := fun (j : Nat) => hW.cell (p := ⟨w2.heap.size, j, none⟩) k2
    have h := fun (j : Nat) => hW.cell (p := ⟨w2.heap.size + 1, j, none⟩) k3
    unfold SM
    simp only [f, g, h]
    exact ⟨u3, b1, b2⟩
  have HN : Hid (∀ W, Below w5.heap.size w5 W → SN gb w2.heap.size (w2.heap.size + 1) W) := by
    have k1 := block_lt_of_cell u1.1
    have k2 := block_lt_of_cell b1.1
    have k3 := block_lt_of_cell b2.1
    intro W hW
    have f := fun (j : Nat) => hW.cell (p := ⟨gb, j, none⟩) k1
    have g := fun (j : Nat) => hW.cell (p := ⟨w2.heap.size, j, none⟩) k2
    have h := fun (j : Nat) => hW.cell (p := ⟨w2.heap.size + 1, j, none⟩) k3
    unfold SN
    simp only [f, g, h]
    exact ⟨u1, u2, b1, b2⟩
  have HVw : Hid (∀ W, Below w5.heap.size w5 W → Calls Tryz.prog 10 #[.pointer (some ⟨be, 0, none⟩)] W fun e w' => ∃ oa c, e = .returned (.slice oa 1 c) ∧ Below W.heap.size W w') := by
    intro W hW
    refine (E.view be jM2 [oP] S5 W (E.steady _ _ _ S5 w5 W U.out.1 hW.size (fun k hk => hW.block k (U.out.2.2 k hk))) (by simp)).mono ?_
    rintro e w' ⟨v, Z, rfl, hp, hr, hb⟩
    obtain ⟨oa, c, rfl⟩ := slice_form62 hr
    rw [hp.length_eq]
    exact ⟨oa, c, rfl, hb⟩
  have HLow : Hid (∀ W, Below w5.heap.size w5 W → Below w.heap.size w W) := fun W hW => U.out.2.1.trans (hW.mono U.out.2.1.size)
  have hk := fun p os => HK.out _ (below_regrown w5 p os)
  simp only [SM] at hk
  have HLo : Hid (∀ p os, Calls Tryz.prog 26 #[.int .i64 0, .agg #[.int .i64 1, .int .i64 10, .int .i64 3]] (Go.Sort.grow (redrawn w5 p) os) fun e w' => e = .returned (.agg #[.int .i64 1, .int .i64 1, .int .i64 10, .int .i64 3, .int .i64 0, .int .i64 0, .int .i64 0, .bool true, .bool false]) ∧ Below (Go.Sort.grow (redrawn w5 p) os).heap.size (Go.Sort.grow (redrawn w5 p) os) w') := fun p os => lone_left 1 10 3 _
  go_wp2
  refine wp_region_quiet_below (by kernel_rfl) (by kernel_rfl) ?_
  repeat (quiet_step (first | (go_at_call 26; exact Calls.regrown_of (HLo.out _ _)) | fail))
  refine wpQuiet_nil ?_
  intro _ hw'
  obtain ⟨⟨dq, osq⟩, hw''⟩ := hw'
  subst hw''
  have G6 : Hid (Below w5.heap.size w5 (Go.Sort.grow (redrawn w5 dq) osq)) := below_regrown w5 dq osq
  clear hk HLo HK u1 u2 u3 b1 b2
  dsimp only
  revert G6
  generalize Go.Sort.grow (redrawn w5 dq) osq = w6
  intro G6
  have n6 := HN.out w6 G6.out
  simp only [SN] at n6
  go_wp2
  go_region_held3 (fun W => (W.cell? ⟨gb, 0, none⟩ = some (.int .i64 1) ∧ W.cell? ⟨gb, 1, none⟩ = some (.int .i64 1) ∧ W.cell? ⟨gb, 2, none⟩ = some (.int .i64 10) ∧ W.cell? ⟨gb, 3, none⟩ = some (.int .i64 3) ∧ W.cell? ⟨gb, 4, none⟩ = some (.int .i64 0) ∧ W.cell? ⟨gb, 5, none⟩ = some (.int .i64 0) ∧ W.cell? ⟨gb, 6, none⟩ = some (.int .i64 0) ∧ W.cell? ⟨gb, 7, none⟩ = some (.bool true) ∧ W.cell? ⟨gb, 8, none⟩ = some (.bool false) ∧ W.cell? ⟨gb, 9, none⟩ = some (.bool true)) ∧ (W.cell? ⟨gb, 10, none⟩ = some (.int .i64 1) ∧ W.cell? ⟨gb, 11, none⟩ = some (.int .i64 1) ∧ W.cell? ⟨gb, 12, none⟩ = some (.int .i64 10) ∧ W.cell? ⟨gb, 13, none⟩ = some (.int .i64 3) ∧ W.cell? ⟨gb, 14, none⟩ = some (.int .i64 1) ∧ W.cell? ⟨gb, 15, none⟩ = some (.int .i64 12) ∧ W.cell? ⟨gb, 16, none⟩ = some (.int .i64 4) ∧ W.cell? ⟨gb, 17, none⟩ = some (.bool true) ∧ W.cell? ⟨gb, 18, none⟩ = some (.bool true) ∧ W.cell? ⟨gb, 19, none⟩ = some (.bool false)) ∧ (W.cell? ⟨w2.heap.size, 0, none⟩ = some (.int .i64 1) ∧ W.cell? ⟨w2.heap.size, 1, none⟩ = some (.int .i64 10) ∧ W.cell? ⟨w2.heap.size, 2, none⟩ = some (.int .i64 3)) ∧ (W.cell? ⟨w2.heap.size + 1, 0, none⟩ = some (.int .i64 1) ∧ W.cell? ⟨w2.heap.size + 1, 1, none⟩ = some (.int .i64 12) ∧ W.cell? ⟨w2.heap.size + 1, 2, none⟩ = some (.int .i64 4))) (first | (exact n9) | (exact n8) | (exact n7) | (go_keep; done) | fail) (first
    | (go_at_call 10; refine (HVw.out _ G8.out).mono ?_; rintro e w9 ⟨oa9, ck9, rfl, hb9⟩; have G9 : Hid (Below w5.heap.size w5 w9) := G8.out.trans (hb9.mono G8.out.size); have n9 := HN.out w9 G9.out; simp only [SN] at n9; clear hb9)
    | (go_at_call 27; refine (rpair_below 1 10 3 1 12 4 _).mono ?_; rintro e w8 ⟨rfl, hb8⟩; have G8 : Hid (Below w5.heap.size w5 w8) := G7.out.trans (hb8.mono G7.out.size); have n8 := HN.out w8 G8.out; simp only [SN] at n8; clear hb8)
    | (go_at_call 26; refine (lone_left 1 10 3 _).mono ?_; rintro e w7 ⟨rfl, hb7⟩; have G7 : Hid (Below w5.heap.size w5 w7) := G6.out.drew.trans (hb7.mono G6.out.drew.size); have n7 := HN.out w7 G7.out; simp only [SN] at n7; clear hb7)
    | fail)
  clear n6 n7 n8 n9
  go_wp2
  go_ret
  exact ⟨rfl, HLow.out _ G9.out⟩
end Go.Proofs.YtmmbjbgimpgcfaaGreatDoor
