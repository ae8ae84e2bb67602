/- The walk of MarkPlays. -/
import Derived.Test.YtfldfnphidehlaaDoorMark
import Derived.Deep.RegionHeld3
import Derived.Lib.QuietBelow
import Derived.Deep.LoopGhost
import Derived.Deep.DeepCutAuto
import Derived.Deep.CutBlock
import Derived.Deep.CutRange
namespace Go.Proofs.YtfldfnphidehlaaDoor
open Go.RowKit Go.Sort

theorem of_r (b : Nat) (l r s : Int) (w : World) (hl : w.cell? ⟨b, 0, none⟩ = some (.int .i64 l)) (hr : w.cell? ⟨b, 1, none⟩ = some (.int .i64 r)) :
    Calls Tryd.prog 16 #[.pointer (some ⟨b, 0, none⟩), .int .i64 s] w fun e w' => e = .returned (.int .i64 (ofI l r s)) ∧ Below w.heap.size w w' :=
  (of_any b l r s w hl hr).mono fun e w' ⟨h, hw⟩ => ⟨h, by rw [hw]; exact Below.refl _ _⟩
theorem late_r (b : Nat) (l r s t : Int) (w : World) (hl : w.cell? ⟨b, 0, none⟩ = some (.int .i64 l)) (hr : w.cell? ⟨b, 1, none⟩ = some (.int .i64 r)) :
    Calls Tryd.prog 15 #[.pointer (some ⟨b, 0, none⟩), .int .i64 s, .int .i64 t] w fun e w' => e = .returned (.bool (decide (t ≤ ofI l r s))) ∧ Below w.heap.size w w' :=
  (late_any b l r s t w hl hr).mono fun e w' ⟨h, hw⟩ => ⟨h, by rw [hw]; exact Below.refl _ _⟩

theorem lt_of_block {w : World} {g : Nat} {o : Obj} (h : w.heap[g]? = some o) : g < w.heap.size := by
  rcases Nat.lt_or_ge g w.heap.size with h' | h'
  · exact h'
  · rw [Array.getElem?_eq_none h'] at h; cases h

/-- What lies in memory within a round: x = (s, t), the program's marks l, r, the law's own la, ra. -/
structure Mid (w wr : World) (s t l r la ra : Int) (w' : World) : Prop where
  below : Below w.heap.size w w'
  size : wr.heap.size + 1 ≤ w'.heap.size
  lt : w.heap.size + 1 < wr.heap.size
  m : w'.heap[w.heap.size]? = some (.cells #[.int .i64 l, .int .i64 r] 69)
  a : w'.heap[w.heap.size + 1]? = some (.cells #[.int .i64 la, .int .i64 ra] 50)
  x : w'.heap[wr.heap.size]? = some (.cells #[.int .i64 s, .int .i64 t] 52)

theorem mid_start {w wr : World} {l r : Int} (s t : Int) (hB : Below w.heap.size w wr) (h0 : wr.heap[w.heap.size]? = some (.cells #[.int .i64 l, .int .i64 r] 69)) (h1 : wr.heap[w.heap.size + 1]? = some (.cells #[.int .i64 l, .int .i64 r] 50)) :
    Mid w wr s t l r l r (wr.alloc (.cells #[.int .i64 s, .int .i64 t] 52)) := by
  have hz := lt_of_block h1
  refine ⟨hB.alloc (by omega) _, by simp, hz, ?_, ?_, heap_alloc_new _ _⟩
  · rw [Below.heap_alloc _ _ _ (by omega)]; exact h0
  · rw [Below.heap_alloc _ _ _ (by omega)]; exact h1
theorem Mid.go {w wr w' w'' : World} {s t l r la ra : Int} (h : Mid w wr s t l r la ra w') (hb : Below w'.heap.size w' w'') : Mid w wr s t l r la ra w'' := by
  have h1 := h.size
  have h2 := h.lt
  refine ⟨h.below.trans (hb.mono (by omega)), Nat.le_trans h.size hb.size, h.lt, ?_, ?_, ?_⟩
  · rw [hb.block _ (by omega)]; exact h.m
  · rw [hb.block _ (by omega)]; exact h.a
  · rw [hb.block _ (by omega)]; exact h.x
theorem Mid.drew {w wr w' : World} {s t l r la ra : Int} (h : Mid w wr s t l r la ra w') : Mid w wr s t l r la ra w'.drew := h.go (Below.refl _ _).drew
theorem Mid.move {w wr w' w'' : World} {s t l r la ra l' r' : Int} (h : Mid w wr s t l r la ra w') (hm : w''.heap[w.heap.size]? = some (.cells #[.int .i64 l', .int .i64 r'] 69)) (ho : Only w.heap.size w' w'') : Mid w wr s t l' r' la ra w'' := by
  have h2 := h.lt
  refine ⟨h.below.trans (ho.below (Nat.le_refl _)), by rw [← ho.size]; exact h.size, h.lt, hm, ?_, ?_⟩
  · rw [ho.block _ (by omega)]; exact h.a
  · rw [ho.block _ (by omega)]; exact h.x
theorem Mid.setA0 {w wr w' : World} {s t l r la ra : Int} (h : Mid w wr s t l r la ra w') (v : Int) : Mid w wr s t l r v ra (w'.setCell ⟨w.heap.size + 1, 0, none⟩ (.int .i64 v)) := by
  have h2 := h.lt
  refine ⟨h.below.setCell (by simp) _, by simpa using h.size, h.lt, ?_, Go.Joins.block_setCell h.a _, ?_⟩
  · rw [Below.heap_setCell _ _ _ _ (by simp)]; exact h.m
  · rw [Below.heap_setCell _ _ _ _ (by simp; omega)]; exact h.x
theorem Mid.setA1 {w wr w' : World} {s t l r la ra : Int} (h : Mid w wr s t l r la ra w') (v : Int) : Mid w wr s t l r la v (w'.setCell ⟨w.heap.size + 1, 1, none⟩ (.int .i64 v)) := by
  have h2 := h.lt
  refine ⟨h.below.setCell (by simp) _, by simpa using h.size, h.lt, ?_, Go.Joins.block_setCell h.a _, ?_⟩
  · rw [Below.heap_setCell _ _ _ _ (by simp)]; exact h.m
  · rw [Below.heap_setCell _ _ _ _ (by simp; omega)]; exact h.x
theorem Mid.cells {w wr w' : World} {s t l r la ra : Int} (h : Mid w wr s t l r la ra w') :
    w'.cell? ⟨w.heap.size, 0, none⟩ = some (.int .i64 l) ∧ w'.cell? ⟨w.heap.size, 1, none⟩ = some (.int .i64 r) ∧ w'.cell? ⟨w.heap.size + 1, 0, none⟩ = some (.int .i64 la) ∧ w'.cell? ⟨w.heap.size + 1, 1, none⟩ = some (.int .i64 ra) ∧
    w'.cell? ⟨wr.heap.size, 0, none⟩ = some (.int .i64 s) ∧ w'.cell? ⟨wr.heap.size, 1, none⟩ = some (.int .i64 t) ∧ w'.frozen? ⟨w.heap.size + 1, 0, none⟩ = false ∧ w'.frozen? ⟨w.heap.size + 1, 1, none⟩ = false := by
  refine ⟨?_, ?_, ?_, ?_, ?_, ?_, Go.Joins.unfrozen_of_block h.a 0, Go.Joins.unfrozen_of_block h.a 1⟩
  · rw [Go.Joins.cell_of_block h.m]; rfl
  · rw [Go.Joins.cell_of_block h.m]; rfl
  · rw [Go.Joins.cell_of_block h.a]; rfl
  · rw [Go.Joins.cell_of_block h.a]; rfl
  · rw [Go.Joins.cell_of_block h.x]; rfl
  · rw [Go.Joins.cell_of_block h.x]; rfl
theorem Mid.s4 {w wr w' : World} {s t l r la ra : Int} (h : Mid w wr s t l r la ra w') :
    w'.cell? ⟨w.heap.size + 1, 0, none⟩ = some (.int .i64 la) ∧ w'.cell? ⟨w.heap.size + 1, 1, none⟩ = some (.int .i64 ra) ∧ w'.cell? ⟨wr.heap.size, 0, none⟩ = some (.int .i64 s) ∧ w'.cell? ⟨wr.heap.size, 1, none⟩ = some (.int .i64 t) :=
  ⟨h.cells.2.2.1, h.cells.2.2.2.1, h.cells.2.2.2.2.1, h.cells.2.2.2.2.2.1⟩

theorem bare_same (k : Int) (w0 w : World) (hg : w0.cell? ⟨0, 0, none⟩ = some (.iface 106 (.agg #[.pointer (some ⟨1, 32, none⟩)]))) (hz : 0 < w0.heap.size) (hb : Below w0.heap.size w0 w) :
    Calls Tryd.prog 5 #[errV k, .int .i64 k] w fun e w' => e = .returned (.bool true) ∧ Below w.heap.size w w' :=
  (bare_any k k w ((hb.cell (by exact hz)).trans hg) (Nat.lt_of_lt_of_le hz hb.size)).mono fun e w' ⟨h, hw⟩ => ⟨by rw [h]; simp, hw⟩
theorem both_lt (b : Nat) (l r : Int) (w : World) (h : r < l) (hl : w.cell? ⟨b, 0, none⟩ = some (.int .i64 l)) (hr : w.cell? ⟨b, 1, none⟩ = some (.int .i64 r)) :
    Calls Tryd.prog 18 #[.pointer (some ⟨b, 0, none⟩)] w fun e w' => e = .returned (.int .i64 r) ∧ w' = w.drew :=
  (both_any b l r w hl hr).mono fun e w' ⟨h1, h2⟩ => ⟨by rw [h1]; exact ret_int (by omega), h2⟩
theorem both_ge (b : Nat) (l r : Int) (w : World) (h : l ≤ r) (hl : w.cell? ⟨b, 0, none⟩ = some (.int .i64 l)) (hr : w.cell? ⟨b, 1, none⟩ = some (.int .i64 r)) :
    Calls Tryd.prog 18 #[.pointer (some ⟨b, 0, none⟩)] w fun e w' => e = .returned (.int .i64 l) ∧ w' = w.drew :=
  (both_any b l r w hl hr).mono fun e w' ⟨h1, h2⟩ => ⟨by rw [h1]; exact ret_int (by omega), h2⟩
theorem plays_long (oa : Option Addr) (n c : Nat) (w : World) (hn : 60 < n) : Calls Tryd.prog 4 #[.slice oa n c] w fun e w' => e = .returned (.bool true) ∧ Below w.heap.size w w' := by
  go_enter Tryd.func4, Tryd.ntmps4
  go_wp2
  go_ret
  exact ⟨rfl, Below.refl _ _⟩

theorem plays_none (oa : Option Addr) (c : Nat) (w : World) : Calls Tryd.prog 4 #[.slice oa 0 c] w fun e w' => e = .returned (.bool true) ∧ Below w.heap.size w w' := by
  go_enter Tryd.func4, Tryd.ntmps4
  go_wp2_with (go_at_call 14; refine (new_any _).mono ?_; rintro e w' ⟨rfl, rfl⟩)
  refine wp_loop_rounds 1 ?_
  rw [rounds_succ]
  go_wp2
  go_ret
  exact ⟨rfl, Go.Joins.below_alloc2 _ _ _⟩

set_option maxRecDepth 100000 in
set_option maxHeartbeats 4000000 in
theorem plays_some (bb off n c : Nat) (S T : Nat → Int) (w : World) (h60 : n ≤ 60) (hbb : bb < w.heap.size) (hg : w.cell? ⟨0, 0, none⟩ = some (.iface 106 (.agg #[.pointer (some ⟨1, 32, none⟩)])))
    (hS : ∀ k, k < n → w.cell? ⟨bb, off + k * 2, none⟩ = some (.int .i64 (S k))) (hT : ∀ k, k < n → w.cell? ⟨bb, off + k * 2 + 1, none⟩ = some (.int .i64 (T k))) :
    Calls Tryd.prog 4 #[.slice (some ⟨bb, off, none⟩) n c] w fun e w' => e = .returned (.bool true) ∧ Below w.heap.size w w' := by
  have hz0 : 0 < w.heap.size := by omega
  have HS : Hid _ := hS
  have HT : Hid _ := hT
  clear hS hT
  go_enter Tryd.func4, Tryd.ntmps4
  go_wp2_with (go_at_call 14; refine (new_any _).mono ?_; rintro e w' ⟨rfl, rfl⟩)
  go_loopg [5] n (fun g i wr => ∃ (k : Nat) (l r : Int), k ≤ n ∧ g = n - k ∧ i = .int .i64 k ∧ Below w.heap.size w wr ∧ wr.heap[w.heap.size]? = some (.cells #[.int .i64 l, .int .i64 r] 69) ∧ wr.heap[w.heap.size + 1]? = some (.cells #[.int .i64 l, .int .i64 r] 50))
  case atStart =>
    refine ⟨0, -1099511627777, -1099511627777, Nat.zero_le _, rfl, rfl, Go.Joins.below_alloc2 _ _ _, ?_, heap_alloc2_new _ _ _⟩
    rw [Below.heap_alloc _ _ _ (by simp)]; exact heap_alloc_new _ _
  case round =>
    obtain ⟨k, l, r, hk, hgk, rfl, hB, hb0, hb1⟩ := hrel
    have HG : Hid _ := hgk
    clear hgk
    have HB : Hid _ := hB
    have H0 : Hid _ := hb0
    have H1 : Hid _ := hb1
    by_cases hlt : k < n
    · have h1 : (0 : Int) ≤ (k : Int) := by omega
      have h2 : (k : Int) < (n : Int) := by omega
      have hs := (hB.cell (p := ⟨bb, off + k * 2, none⟩) hbb).trans (HS.out k hlt)
      have ht := (hB.cell (p := ⟨bb, off + k * 2 + 1, none⟩) hbb).trans (HT.out k hlt)
      have hz : w.heap.size + 1 < wr.heap.size := lt_of_block hb1
      have c0 : wr.cell? ⟨w.heap.size + 1, 0, none⟩ = some (.int .i64 l) := by rw [Go.Joins.cell_of_block hb1]; rfl
      have c1 : wr.cell? ⟨w.heap.size + 1, 1, none⟩ = some (.int .i64 r) := by rw [Go.Joins.cell_of_block hb1]; rfl
      clear hB hb0 hb1
      generalize S k = s at hs
      generalize T k = t at ht
      go_upto_region 12 with fail
      go_cut [33] from 16 to 117 (fun v w' => v = .bool (sideB s) ∧ w' = wr.alloc (.cells #[.int .i64 s, .int .i64 t] 52))
      case first =>
        by_cases hs0 : s = 0
        · subst hs0
          go_wp2
          all_goals go_meet
          all_goals exact ⟨rfl, rfl⟩
        · by_cases hs1 : s = 1
          · subst hs1
            go_wp2
            all_goals go_meet
            all_goals exact ⟨rfl, rfl⟩
          · have hn : sideB s = false := by simp [sideB, hs0, hs1]
            have HN : Hid _ := hn
            clear hn
            go_wp2
            all_goals go_meet
            all_goals exact ⟨rfl, rfl⟩
      case rest =>
        obtain ⟨rfl, rfl⟩ := hcut
        go_upto_if 33 with fail
        go_cut [7] from 16 to 117 (fun v w' => v = .int .i64 (ofI l r s) ∧ w' = wr.alloc (.cells #[.int .i64 s, .int .i64 t] 52))
        case first =>
          by_cases hs0 : s = 0
          · subst hs0
            have hn : sideB 0 = true := rfl
            go_wp2
            all_goals go_meet
            all_goals exact ⟨rfl, rfl⟩
          · by_cases hs1 : s = 1
            · subst hs1
              have hn : sideB 1 = true := rfl
              go_wp2
              all_goals go_meet
              all_goals exact ⟨rfl, rfl⟩
            · have hn : sideB s = false := by simp [sideB, hs0, hs1]
              have ho : ofI l r s = -1099511627777 := by simp [ofI, hs0, hs1]
              have HO : Hid _ := ho
              clear ho
              rw [hn]
              go_wp2
              all_goals go_meet
              all_goals exact ⟨by rw [HO.out], rfl⟩
        case rest =>
          obtain ⟨rfl, rfl⟩ := hcut
          have hM := mid_start s t HB.out H0.out H1.out
          have HM : Hid _ := hM
          clear hM hs ht c0 c1 H0 H1 HB
          revert HM
          generalize wr.alloc (.cells #[.int .i64 s, .int .i64 t] 52) = w2
          intro HM
          have hk := fun d os => (HM.out.go (below_regrown w2 d os)).cells
          go_upto_region 14 with fail
          refine wp_region_quiet_below (by kernel_rfl) (by kernel_rfl) ?_
          repeat (quiet_step (first | (go_at_call 15; exact Calls.regrown_of (late_r w.heap.size l r s t _ (hk _ _).1 (hk _ _).2.1)) | (go_at_call 16; exact Calls.regrown_of (of_r w.heap.size l r s _ (hk _ _).1 (hk _ _).2.1))))
          refine wpQuiet_nil ?_
          intro _ hw'
          obtain ⟨⟨dq, osq⟩, hw''⟩ := hw'
          subst hw''
          clear hk
          have hM3 := HM.out.go (below_regrown w2 dq osq)
          clear HM
          revert hM3
          generalize grow (redrawn w2 dq) osq = w3
          intro hM3
          have HM : Hid _ := hM3
          have hcs := hM3.cells
          clear hM3
          go_upto_block 2 with fail
          go_cut [8] from 16 to 117 (fun v w' => v = .int .i64 (moveE l r s t) ∧ Mid w wr s t l r (movL l r s t) (movR l r s t) w')
          case first =>
            by_cases hs0 : s = 0
            · subst hs0
              have ho : ofI l r 0 = l := by simp [ofI]
              by_cases g1 : t < -1099511627776
              · have HE : Hid (moveE l r 0 t = 2 ∧ movL l r 0 t = l ∧ movR l r 0 t = r) := by
                  have he : moveE l r 0 t = 2 := by unfold moveE; rw [if_neg (by simp [sideB]), if_pos (by omega)]
                  refine ⟨he, ?_, ?_⟩
                  · unfold movL; rw [he]; simp
                  · unfold movR; rw [he]; simp
                go_wp2
                all_goals go_meet
                all_goals exact ⟨by rw [HE.out.1], by rw [HE.out.2.1, HE.out.2.2]; exact HM.out⟩
              · by_cases g2 : 1099511627776 < t
                · have HE : Hid (moveE l r 0 t = 2 ∧ movL l r 0 t = l ∧ movR l r 0 t = r) := by
                    have he : moveE l r 0 t = 2 := by unfold moveE; rw [if_neg (by simp [sideB]), if_pos (by omega)]
                    refine ⟨he, ?_, ?_⟩
                    · unfold movL; rw [he]; simp
                    · unfold movR; rw [he]; simp
                  go_wp2
                  all_goals go_meet
                  all_goals exact ⟨by rw [HE.out.1], by rw [HE.out.2.1, HE.out.2.2]; exact HM.out⟩
                · by_cases g3 : t < l
                  · have HE : Hid (moveE l r 0 t = 10 ∧ movL l r 0 t = l ∧ movR l r 0 t = r) := by
                      have he : moveE l r 0 t = 10 := by unfold moveE; rw [if_neg (by simp [sideB]), if_neg (by omega), if_pos (by simp [ofI]; omega)]
                      refine ⟨he, ?_, ?_⟩
                      · unfold movL; rw [he]; simp
                      · unfold movR; rw [he]; simp
                    go_wp2
                    all_goals go_meet
                    all_goals exact ⟨by rw [HE.out.1], by rw [HE.out.2.1, HE.out.2.2]; exact HM.out⟩
                  · have HE : Hid (moveE l r 0 t = 0 ∧ movL l r 0 t = t ∧ movR l r 0 t = r) := by
                      have he : moveE l r 0 t = 0 := by unfold moveE; rw [if_neg (by simp [sideB]), if_neg (by omega), if_neg (by simp [ofI]; omega)]
                      refine ⟨he, ?_, ?_⟩
                      · unfold movL; rw [he]; simp
                      · unfold movR; rw [he]; simp
                    go_wp2
                    all_goals go_meet
                    all_goals exact ⟨by rw [HE.out.1], by rw [HE.out.2.1, HE.out.2.2]; exact HM.out.setA0 t⟩
            · by_cases hs1 : s = 1
              · subst hs1
                have ho : ofI l r 1 = r := by simp [ofI]
                by_cases g1 : t < -1099511627776
                · have HE : Hid (moveE l r 1 t = 2 ∧ movL l r 1 t = l ∧ movR l r 1 t = r) := by
                    have he : moveE l r 1 t = 2 := by unfold moveE; rw [if_neg (by simp [sideB]), if_pos (by omega)]
                    refine ⟨he, ?_, ?_⟩
                    · unfold movL; rw [he]; simp
                    · unfold movR; rw [he]; simp
                  go_wp2
                  all_goals go_meet
                  all_goals exact ⟨by rw [HE.out.1], by rw [HE.out.2.1, HE.out.2.2]; exact HM.out⟩
                · by_cases g2 : 1099511627776 < t
                  · have HE : Hid (moveE l r 1 t = 2 ∧ movL l r 1 t = l ∧ movR l r 1 t = r) := by
                      have he : moveE l r 1 t = 2 := by unfold moveE; rw [if_neg (by simp [sideB]), if_pos (by omega)]
                      refine ⟨he, ?_, ?_⟩
                      · unfold movL; rw [he]; simp
                      · unfold movR; rw [he]; simp
                    go_wp2
                    all_goals go_meet
                    all_goals exact ⟨by rw [HE.out.1], by rw [HE.out.2.1, HE.out.2.2]; exact HM.out⟩
                  · by_cases g3 : t < r
                    · have HE : Hid (moveE l r 1 t = 10 ∧ movL l r 1 t = l ∧ movR l r 1 t = r) := by
                        have he : moveE l r 1 t = 10 := by unfold moveE; rw [if_neg (by simp [sideB]), if_neg (by omega), if_pos (by simp [ofI]; omega)]
                        refine ⟨he, ?_, ?_⟩
                        · unfold movL; rw [he]; simp
                        · unfold movR; rw [he]; simp
                      go_wp2
                      all_goals go_meet
                      all_goals exact ⟨by rw [HE.out.1], by rw [HE.out.2.1, HE.out.2.2]; exact HM.out⟩
                    · have HE : Hid (moveE l r 1 t = 0 ∧ movL l r 1 t = l ∧ movR l r 1 t = t) := by
                        have he : moveE l r 1 t = 0 := by unfold moveE; rw [if_neg (by simp [sideB]), if_neg (by omega), if_neg (by simp [ofI]; omega)]
                        refine ⟨he, ?_, ?_⟩
                        · unfold movL; rw [he]; simp
                        · unfold movR; rw [he]; simp
                      go_wp2
                      all_goals go_meet
                      all_goals exact ⟨by rw [HE.out.1], by rw [HE.out.2.1, HE.out.2.2]; exact HM.out.setA1 t⟩
              · have b0 : (s == 0) = false := by simp [hs0]
                have b1 : (s == 1) = false := by simp [hs1]
                have b2 : (s != 0) = true := by simp [hs0]
                have b3 : (s != 1) = true := by simp [hs1]
                have HE : Hid (moveE l r s t = 1 ∧ movL l r s t = l ∧ movR l r s t = r) := by
                  have he : moveE l r s t = 1 := by unfold moveE; rw [if_pos (by simp [sideB, hs0, hs1])]
                  refine ⟨he, ?_, ?_⟩
                  · unfold movL; rw [he]; simp
                  · unfold movR; rw [he]; simp
                go_wp2
                all_goals go_meet
                all_goals exact ⟨by rw [HE.out.1], by rw [HE.out.2.1, HE.out.2.2]; exact HM.out⟩
          case rest =>
            obtain ⟨rfl, hM4⟩ := hcut
            clear HM hcs
            have hmv : Calls Tryd.prog 17 #[.pointer (some ⟨w.heap.size, 0, none⟩), .int .i64 s, .int .i64 t] wc.drew fun e w' => e = .returned (errV (moveE l r s t)) ∧ Mid w wr s t (movL l r s t) (movR l r s t) (movL l r s t) (movR l r s t) w' :=
              (move_any w.heap.size l r s t wc.drew hM4.drew.m).mono fun e w' ⟨h, hm, ho⟩ => ⟨h, hM4.drew.move hm ho⟩
            revert hmv hM4
            generalize moveE l r s t = E
            generalize movL l r s t = l'
            generalize movR l r s t = r'
            intro hM4 hmv
            have HV : Hid _ := hmv
            have hcs := hM4.s4
            clear hmv hM4
            have ho0 : ofI l' r' 0 = l' := by simp [ofI]
            have ho1 : ofI l' r' 1 = r' := by simp [ofI]
            by_cases hq : r' < l'
            · go_wp2
              go_region_held3 (fun w' => w'.cell? ⟨w.heap.size + 1, 0, none⟩ = some (.int .i64 l') ∧ w'.cell? ⟨w.heap.size + 1, 1, none⟩ = some (.int .i64 r') ∧ w'.cell? ⟨wr.heap.size, 0, none⟩ = some (.int .i64 s) ∧ w'.cell? ⟨wr.heap.size, 1, none⟩ = some (.int .i64 t))
                (first | (go_keep; done) | (exact M5.out.s4) | (exact M6.out.s4))
                (first
                  | (go_at_call 17; refine Calls.mono (Hid.out HV) ?_; rintro e w5 ⟨rfl, hM5⟩; have M5 : Hid _ := hM5; clear hM5)
                  | (go_at_call 5; refine (bare_same E w _ hg hz0 ?_).mono ?_; (exact M5.out.below); rintro e w6 ⟨rfl, hb6⟩; have M6 : Hid _ := M5.out.go hb6; clear hb6)
                  | (go_at_call 16; refine (of_any w.heap.size l' r' _ _ ?_ ?_).mono ?_; (exact M6.out.cells.1); (exact M6.out.cells.2.1); rintro e w7 ⟨rfl, rfl⟩)
                  | (go_at_call 18; refine (both_lt w.heap.size l' r' _ hq ?_ ?_).mono ?_; (exact M6.out.cells.1); (exact M6.out.cells.2.1); rintro e w7 ⟨rfl, rfl⟩)
                  | fail)
              all_goals (try go_wp2)
              all_goals go_roundg (n - (k + 1))
              all_goals first
                | exact ⟨k + 1, l', r', by omega, rfl, by go_num, M6.out.drew.below, M6.out.drew.m, M6.out.drew.a⟩
                | (have := HG.out; omega)
            · go_wp2
              go_region_held3 (fun w' => w'.cell? ⟨w.heap.size + 1, 0, none⟩ = some (.int .i64 l') ∧ w'.cell? ⟨w.heap.size + 1, 1, none⟩ = some (.int .i64 r') ∧ w'.cell? ⟨wr.heap.size, 0, none⟩ = some (.int .i64 s) ∧ w'.cell? ⟨wr.heap.size, 1, none⟩ = some (.int .i64 t))
                (first | (go_keep; done) | (exact M5.out.s4) | (exact M6.out.s4))
                (first
                  | (go_at_call 17; refine Calls.mono (Hid.out HV) ?_; rintro e w5 ⟨rfl, hM5⟩; have M5 : Hid _ := hM5; clear hM5)
                  | (go_at_call 5; refine (bare_same E w _ hg hz0 ?_).mono ?_; (exact M5.out.below); rintro e w6 ⟨rfl, hb6⟩; have M6 : Hid _ := M5.out.go hb6; clear hb6)
                  | (go_at_call 16; refine (of_any w.heap.size l' r' _ _ ?_ ?_).mono ?_; (exact M6.out.cells.1); (exact M6.out.cells.2.1); rintro e w7 ⟨rfl, rfl⟩)
                  | (go_at_call 18; refine (both_ge w.heap.size l' r' _ (by omega) ?_ ?_).mono ?_; (exact M6.out.cells.1); (exact M6.out.cells.2.1); rintro e w7 ⟨rfl, rfl⟩)
                  | fail)
              all_goals (try go_wp2)
              all_goals go_roundg (n - (k + 1))
              all_goals first
                | exact ⟨k + 1, l', r', by omega, rfl, by go_num, M6.out.drew.below, M6.out.drew.m, M6.out.drew.a⟩
                | (have := HG.out; omega)
    · clear hB hb0 hb1
      go_wp2
      go_ret
      exact ⟨rfl, HB.out⟩

end Go.Proofs.YtfldfnphidehlaaDoor
