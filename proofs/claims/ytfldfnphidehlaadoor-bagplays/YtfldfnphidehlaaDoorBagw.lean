/- The walk of Bag.All. -/
import Derived.Test.YtfldfnphidehlaaDoorBaga
namespace Go.Proofs.YtfldfnphidehlaaDoor
open Go.RowKit Go.Maps Go.Sort Go.Shelf
set_option maxRecDepth 100000

theorem kept_below {w w' : World} {base : Nat} {e : TypeId} {size : Nat} {v : Value} {n : Nat} {xs : List Value} (h : w.ownsRow base e size v n xs) (hb : Below w.heap.size w w') : w'.ownsRow base e size v n xs :=
  h.kept (row := none) ⟨hb.os, hb.tape, hb.output, hb.size, fun k hk _ => hb.block k hk⟩ (by cases h' : v.ownBlock with | none => exact .inl rfl | some g => exact .inr (by simp))

theorem add_at (g o : Nat) : (⟨g, 0, none⟩ : Addr).add o = ⟨g, o, none⟩ := by
  unfold Addr.add; split
  · rename_i h; rw [h]
  · simp

theorem ks_cells {W : World} {base gs n ck : Nat} {xs : List O} (h : W.ownsRow base 37 9 (.slice (some ⟨gs, 0, none⟩) n ck) n (xs.flatMap encO)) (k : Nat) (x : O) (hx : xs[k]? = some x) :
    W.cell? ⟨gs, k * 9, none⟩ = some (.int .i64 x.k) ∧ W.cell? ⟨gs, k * 9 + 1, none⟩ = some (.int .i64 x.lk) ∧ W.cell? ⟨gs, k * 9 + 2, none⟩ = some (.int .i64 x.lt) ∧ W.cell? ⟨gs, k * 9 + 3, none⟩ = some (.int .i64 x.lv) ∧ W.cell? ⟨gs, k * 9 + 4, none⟩ = some (.int .i64 x.rk) ∧ W.cell? ⟨gs, k * 9 + 5, none⟩ = some (.int .i64 x.rt) ∧ W.cell? ⟨gs, k * 9 + 6, none⟩ = some (.int .i64 x.rv) ∧ W.cell? ⟨gs, k * 9 + 7, none⟩ = some (.bool x.hl) ∧ W.cell? ⟨gs, k * 9 + 8, none⟩ = some (.bool x.hr) := by
  have key := fun (j : Nat) (v : Value) (hj : j < 9) (hv : (encO x)[j]? = some v) => h.cells (g := gs) rfl (k * 9 + j) v ((flat_get xs k j x hx hj).trans hv)
  simp only [add_at] at key
  exact ⟨key 0 _ (by omega) rfl, key 1 _ (by omega) rfl, key 2 _ (by omega) rfl, key 3 _ (by omega) rfl, key 4 _ (by omega) rfl, key 5 _ (by omega) rfl, key 6 _ (by omega) rfl, key 7 _ (by omega) rfl, key 8 _ (by omega) rfl⟩

/-- A bag's count, read in a round of All. -/
theorem look_bag {W : World} {b m : Nat} {om : Option Nat} {L : List O} (h : BagAt W b om m L) (x : O) (hx : x.wf) : (Instr.lookup 23 (.map om) (vO x) false).run Tryd.prog W = .ok (.int .i64 (L.count x)) W := by
  rcases h.map with ⟨rfl, rfl⟩ | ⟨bm, n, D, rfl, hn, hown, hcn⟩
  · exact Maps.look_nil (w := W) false keyed Tryd.underlying23 (zero3 _) (key_of x hx)
  · exact look hown hcn x hx

set_option maxRecDepth 100000 in
set_option maxHeartbeats 4000000 in
theorem all_any (HS : SortedSays) (b m : Nat) (om : Option Nat) (L : List O) (w : World) (h : BagAt w b om m L) (hm : m ≤ 100000000) (hL : L.length ≤ 1000000) :
    Calls Tryd.prog 12 #[.pointer (some ⟨b, 0, none⟩)] w fun e w' => ∃ v Z, e = .returned v ∧ Z.Perm L ∧ InOrder Z ∧ w'.ownsRow w.heap.size 37 9 v Z.length (Z.flatMap encO) ∧ Below w.heap.size w w' := by
  obtain ⟨i0, hi, hz0, hz1, hz2⟩ := info_parts info27
  have hc := h.cells
  have HB : Hid (BagAt w b om m L) := h
  have hlt := h.lt
  clear h
  go_enter Tryd.func12, Tryd.ntmps12
  go_wp2_with (first
    | (refine wpList_make_own _ rfl _ _ 27 rfl w.heap.size 37 i0 zO 9 Tryd.underlying27 hi hz0 hz1 .i64 .i64 _ L.length rfl rfl rfl (by rw [hz2]; omega) (by unfold maxLen; omega) (Nat.le_refl _) ?_; intro w1 hrow1 hg1; have hb1 : Below w.heap.size w w1 := (Below.refl _ w).grown hg1 (Nat.le_refl _) (fun k e => by cases e); have hc1 := (HB.out.below hb1).cells)
    | (go_at_call 23; refine ((callsIn_wide (n := 1)).1 (keys_in Fence.wide 1 trivial rfl om _)).mono ?_; rintro e w2 ⟨rfl, rfl⟩)
    | fail)
  have hb2 : Below w.heap.size w (w1.alloc (.cells #[.map om] 23)) := hb1.alloc hb1.size _
  have hrow2 := hrow1.alloc (.cells #[.map om] 23)
  have hz1' := hb1.size
  have hgw1 : w.heap.size < w1.heap.size := by
    rcases hrow1.2 with ⟨h3, _⟩ | ⟨g, cap, cur, h3, _, h4, _⟩
    · cases h3
    · cases h3; exact (Array.getElem?_eq_some_iff.1 h4).1
  refine (HS w1.heap.size b m om L _ (HB.out.below hb2) hL (by simp) hm (by simp)).mono ?_
  rintro e w3 ⟨v, xs, rfl, hnd, hmem, hord, hxl, hks, hb3⟩
  have hbw3 : Below w.heap.size w w3 := hb2.trans (hb3.mono (by simp; omega))
  have hrow3 : w3.ownsRow w.heap.size 37 9 (.slice (some ⟨w.heap.size, 0, none⟩) 0 L.length) 0 [] := kept_below hrow2 hb3
  have HP : Hid ((Zk xs L xs.length).Perm L ∧ InOrder (Zk xs L xs.length)) := ⟨Zk_perm xs L hnd hmem, Zk_order xs L hord⟩
  have HZ : Hid (∀ k, (Zk xs L k).length ≤ L.length) := Zk_le xs L hnd hmem
  have HW : Hid (∀ x ∈ xs, x.wf) := fun x hx => HB.out.wf x ((hmem x).1 hx)
  rcases Go.Joins.ownsRow_forms hks with ⟨rfl, h0⟩ | ⟨gs, ck, rfl⟩
  · have hx0 : xs = [] := List.eq_nil_of_length_eq_zero h0
    subst hx0
    clear hks hord hmem hnd
    go_wp2
    refine wp_loop_rounds 1 ?_
    rw [rounds_succ]
    go_wp2
    go_ret
    exact ⟨_, [], rfl, HP.out.1, HP.out.2, hrow3, hbw3⟩
  · have hgs : w.heap.size < gs := by
      rcases hks.2 with ⟨h3, _⟩ | ⟨g, cap, cur, h3, h5, h4, _⟩
      · cases h3
      · cases h3; simp at h5; omega
    have hks' : w3.ownsRow w.heap.size 37 9 (.slice (some ⟨gs, 0, none⟩) xs.length ck) xs.length (xs.flatMap encO) := Go.Joins.ownsRow_le hks (by simp; omega)
    clear hks hord hmem hnd hrow1 hrow2 hg1 hb1 hb2 hb3 hc1
    have hz3 := hbw3.size
    have HK : Hid (w3.ownsRow w.heap.size 37 9 (.slice (some ⟨gs, 0, none⟩) xs.length ck) xs.length (xs.flatMap encO)) := hks'
    have HR : Hid (w3.ownsRow w.heap.size 37 9 (.slice (some ⟨w.heap.size, 0, none⟩) 0 L.length) 0 []) := hrow3
    have HB3 : Hid (Below w.heap.size w w3) := hbw3
    clear hks' hrow3 hbw3
    go_wp2
    go_loopg [3, 18] xs.length (fun g v i wr => ∃ k : Nat, k ≤ xs.length ∧ g = xs.length - k ∧ i = .int .i64 k ∧ Below w.heap.size w wr ∧ wr.ownsRow w.heap.size 37 9 v (Zk xs L k).length ((Zk xs L k).flatMap encO) ∧ wr.ownsRow w.heap.size 37 9 (.slice (some ⟨gs, 0, none⟩) xs.length ck) xs.length (xs.flatMap encO) ∧ v.ownBlock ≠ some gs)
    case atStart =>
      exact ⟨0, Nat.zero_le _, rfl, rfl, HB3.out, HR.out, HK.out, by simp [Value.ownBlock]; omega⟩
    case round =>
      obtain ⟨k, hk, hgk2, rfl, hB, hrow, hks, hne⟩ := hrel
      have HG : Hid (gk = xs.length - k) := hgk2
      clear hgk2
      have HBr : Hid (Below w.heap.size w wr) := hB
      have HRr : Hid (wr.ownsRow w.heap.size 37 9 u3 (Zk xs L k).length ((Zk xs L k).flatMap encO)) := hrow
      have HKr : Hid (wr.ownsRow w.heap.size 37 9 (.slice (some ⟨gs, 0, none⟩) xs.length ck) xs.length (xs.flatMap encO)) := hks
      have HN : Hid (u3.ownBlock ≠ some gs) := hne
      by_cases hlt : k < xs.length
      · obtain ⟨x, hx⟩ : ∃ x, xs[k]? = some x := ⟨_, List.getElem?_eq_getElem hlt⟩
        have hq := ks_cells hks k x hx
        have hwf : x.wf := HW.out x (List.mem_of_getElem? hx)
        have hbag := HB.out.below hB
        have hbag2 : BagAt (wr.alloc (.cells (encO x).toArray 37)).drew b om m L := hbag.below ((Go.Joins.below_alloc1 _ _).drew)
        have hrun := look_bag hbag2 x hwf
        have hcb := hbag.cells
        have hzr := hB.size
        have hblt : b < wr.heap.size := by omega
        have h1 : (0 : Int) ≤ (k : Int) := by omega
        have h2 : (k : Int) < (xs.length : Int) := by omega
        have HI : Hid (Inn w gs ck xs.length xs wr.heap.size x (Zk xs L k) u3 (wr.alloc (.cells (encO x).toArray 37)).drew) :=
          ⟨(hB.alloc hzr _).drew, hrow.alloc _, hks.alloc _, World.alloc_heap_new wr _, hne, fun e => by
            rcases hrow.2 with ⟨h3, _⟩ | ⟨g, cap, cur, h3, _, h4, _⟩
            · rw [h3] at e; cases e
            · rw [h3] at e
              have := (Array.getElem?_eq_some_iff.1 h4).1
              simp [Value.ownBlock] at e; omega⟩
        simp only [vO, encO] at hrun HI
        clear hB hrow hks hne hbag hbag2
        go_wp2
        go_region
        all_goals (try go_wp2)
        have hcl : (L.count x : Int) ≤ 1000000 := by have : L.count x ≤ L.length := List.count_le_length; omega
        clear hrun hq hcb hblt
        generalize hcx : L.count x = c at hcl
        have HC : Hid (L.count x = c) := hcx
        clear hcx
        have HZk : Hid ((Zk xs L k).length + c ≤ 1000000) := by
          have e1 := HZ.out (k + 1)
          rw [Zk_succ xs L k x hx, List.length_append, List.length_replicate, HC.out] at e1
          exact Nat.le_trans e1 hL
        clear hzr HBr HRr HKr HN
        revert HI
        generalize (wr.alloc (.cells #[.int .i64 x.k, .int .i64 x.lk, .int .i64 x.lt, .int .i64 x.lv, .int .i64 x.rk, .int .i64 x.rt, .int .i64 x.rv, .bool x.hl, .bool x.hr] 37)).drew = w5
        generalize wr.heap.size = Bx
        intro HI
        go_loopg [3, 28] c (fun g v j wi => ∃ jn : Nat, jn ≤ c ∧ g = c - jn ∧ j = .int .i64 jn ∧ Inn w gs ck xs.length xs Bx x (Zk xs L k ++ List.replicate jn x) v wi)
        case atStart => exact ⟨0, Nat.zero_le _, rfl, rfl, by simpa using HI.out⟩
        case round =>
          obtain ⟨jn, hj, hg3, rfl, hI⟩ := hrel
          have HG3 : Hid _ := hg3
          clear hg3
          have HIn : Hid (Inn w gs ck xs.length xs Bx x (Zk xs L k ++ List.replicate jn x) u3 wr) := hI
          by_cases hjl : jn < c
          · have hbx := hI.box.cells
            have hjl' : (jn : Int) < (c : Int) := by omega
            have hlen : (Zk xs L k ++ List.replicate jn x).length ≤ 1000000 := by have := HZk.out; rw [List.length_append, List.length_replicate]; omega
            have hrowI := hI.row
            have hszI := hI.below.size
            have HR4 : Hid (wr.ownsRow w.heap.size 37 9 u3 (Zk xs L k ++ List.replicate jn x).length ((Zk xs L k ++ List.replicate jn x).flatMap encO)) := hrowI
            clear hI hrowI
            go_wp2_with (first | (at_builtin; refine wpList_append_own_at _ rfl _ _ 27 rfl w.heap.size 37 i0 zO 9 64 Tryd.underlying27 hi hz0 hz1 hz2 rfl (by decide) _ _ _ rfl (HR4.out.alloc _) ⟨wr.heap.size, 0, none⟩ 1 1 (encO x) rfl rfl (World.news_of_block (heap_alloc_new wr _)) (enc_one x) (by unfold maxLen; omega) (by omega) (by simp; omega) ?_; intro v' w6 hown6 hg6 _ hloc6) | fail)
            go_roundg (c - (jn + 1))
            case measure => have := HG3.out; omega
            case rel => exact ⟨jn + 1, by omega, rfl, by go_num, by rw [List.replicate_succ', ← List.append_assoc]; exact HIn.out.step hown6 hg6 hloc6⟩
          · have e1 : jn = c := by omega
            have hge : ¬ ((jn : Int) < (c : Int)) := by omega
            clear hI
            go_wp2
            go_roundg (xs.length - (k + 1))
            case measure => have := HG.out; omega
            case rel =>
              have hz := HIn.out
              rw [e1, ← HC.out, ← Zk_succ xs L k x hx] at hz
              exact ⟨k + 1, by omega, rfl, by go_num, hz.below, hz.row, hz.ks, hz.ne1⟩
      · clear hB hrow hks hne
        have e1 : k = xs.length := by omega
        have hge : ¬ ((k : Int) < (xs.length : Int)) := by omega
        go_wp2
        go_ret
        exact ⟨_, rfl, Zk xs L xs.length, HP.out.1, HP.out.2, by rw [← e1]; exact HRr.out, HBr.out⟩

end Go.Proofs.YtfldfnphidehlaaDoor
