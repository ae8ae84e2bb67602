/- The walk of estuaryref.Groups. -/
import Derived.Test.YtgffodmipbefpaaDoorGpb
namespace Go.Proofs.YtgffodmipbefpaaDoor
open Go.RowKit Go.Maps Go.Sort Go.Shelf
set_option maxRecDepth 100000

theorem rgroups_none (v : Value) (base : Nat) (w : World) (h : w.ownsRow base 37 9 v 0 []) :
    Calls Tryd.prog 36 #[v] w fun e w' => e = .returned (.slice none 0 0) ∧ Below w.heap.size w w' := by
  have HN : Hid (∀ W, Calls Tryd.prog 63 #[.slice none 0 0] W fun e w' => e = .returned (.tuple #[]) ∧ Below W.heap.size W w') := fun W =>
    (ints_any 0 (.slice none 0 0) [] W (World.ownsRow_nil _ _ _ _) (by simp)).mono fun e w' ⟨h1, _, h2⟩ => ⟨h1, h2.os, h2.tape, h2.output, h2.size, fun j hj => h2.block j hj (by simp [Value.ownBlock])⟩
  rcases Go.Joins.ownsRow_forms h with ⟨rfl, _⟩ | ⟨ga, ca, rfl⟩
  all_goals
    clear h
    go_enter Tryd.func36, Tryd.ntmps36
    go_wp2
    refine wp_loop_rounds 1 ?_
    rw [rounds_succ]
    go_wp2_with (go_at_call 63; refine Calls.mono (HN.out _) ?_; rintro e w' ⟨rfl, hb⟩)
    refine wp_loop_rounds 1 ?_
    rw [rounds_succ]
    go_wp2
    go_ret
    exact ⟨rfl, hb⟩

set_option maxHeartbeats 8000000 in
theorem rgroups_some (base g ck : Nat) (A : List O) (w : World) (h : w.ownsRow base 37 9 (.slice (some ⟨g, 0, none⟩) A.length ck) A.length (A.flatMap encO)) (hA : A.length ≤ 1000) (h0 : 0 < A.length) :
    Calls Tryd.prog 36 #[.slice (some ⟨g, 0, none⟩) A.length ck] w fun e w' => ∃ (v : Value) (ks : List Int), e = .returned v ∧ ks.Pairwise (fun x y => x < y) ∧ (∀ k, k ∈ ks ↔ (absG A k).isSome = true) ∧ ks.length ≤ A.length ∧ w'.ownsRow w.heap.size 88 6 v ks.length (ks.flatMap (gE (absG A))) ∧ Below w.heap.size w w' := by
  obtain ⟨i3, hi3, hz3, hs3, hb3⟩ := info_parts info3
  obtain ⟨i0, hi0, hz0, hz1, hz2⟩ := info_parts info57
  have HR : Hid (w.ownsRow base 37 9 (.slice (some ⟨g, 0, none⟩) A.length ck) A.length (A.flatMap encO)) := h
  clear h
  go_enter Tryd.func36, Tryd.ntmps36
  go_wp2
  go_loopg [3, 13] A.length (fun gg v3 v13 wr => ∃ i : Nat, i ≤ A.length ∧ gg = A.length - i ∧ v13 = .int .i64 i ∧ Hid (Rk w g ck A i v3 wr))
  case atStart => exact ⟨0, Nat.zero_le _, rfl, rfl, ⟨Below.refl _ _, World.ownsRow_nil _ _ _ _⟩⟩
  case round =>
    obtain ⟨i, hile, hgi, rfl, HK⟩ := hrel
    have HGi : Hid (gk = A.length - i) := hgi
    clear hgi
    by_cases hlt : i < A.length
    · obtain ⟨x, hx⟩ : ∃ x, A[i]? = some x := ⟨_, List.getElem?_eq_getElem hlt⟩
      have hK := HK.out
      have hca := gos_cells (gkept_below HR.out hK.below) i x hx
      have hrow := hK.row
      have hsz := hK.below.size
      have i1 : (0 : Int) ≤ (i : Int) := by omega
      have i2 : (i : Int) < (A.length : Int) := by omega
      have e1 : (wr.alloc (.cells (encO x).toArray 37)).heap.size = wr.heap.size + 1 := by simp
      have hn := World.news_of_block (World.alloc_heap_new (wr.alloc (.cells (encO x).toArray 37)) (.cells #[.int .i64 x.k] 3))
      rw [e1] at hn
      have HN : Hid _ := hn
      have HX : Hid (A[i]? = some x) := hx
      clear hn e1 hK hx
      simp only [encO] at HN
      go_wp2_with (first
        | (at_builtin; refine wpList_append_own_at _ rfl _ _ 120 rfl w.heap.size 3 i3 (.int .i64 0) 1 8 Tryd.underlying120 hi3 hz3 hs3 hb3 rfl (by decide) _ _ _ rfl ((hrow.alloc _).alloc _) ⟨wr.heap.size + 1, 0, none⟩ 1 1 [.int .i64 x.k] rfl rfl HN.out (by intro u hu; simp at hu; subst hu; rfl) (by unfold maxLen; omega) (by omega) (by simp; omega) ?_; intro v' w6 hown6 hg6 _ hloc6)
        | fail)
      go_roundg (A.length - (i + 1))
      case measure => have := HGi.out; omega
      case rel => exact ⟨i + 1, by omega, rfl, by go_num, HK.out.step HX.out hown6 hg6⟩
    · have e1 : i = A.length := by omega
      have hge : ¬ ((i : Int) < (A.length : Int)) := by omega
      have hK := HK.out
      have hrow := hK.row
      rw [e1, List.take_length] at hrow
      have hrow' : wr.ownsRow w.heap.size 3 1 u3 (A.map (·.k)).length ((A.map (·.k)).map encZ) := by rw [List.length_map]; exact hrow
      obtain ⟨gq, cq, hu⟩ := Go.Joins.ownsRow_form hrow (by omega)
      have HI := ints_any w.heap.size u3 (A.map (·.k)) wr hrow' (by simpa using hA)
      have hblt := hK.below
      subst hu
      have HI' : Hid (Calls Tryd.prog 63 #[.slice (some ⟨gq, 0, none⟩) A.length cq] wr fun e w' => e = .returned (.tuple #[]) ∧ Below w.heap.size w w' ∧ w'.ownsRow w.heap.size 3 1 (.slice (some ⟨gq, 0, none⟩) A.length cq) A.length (((A.map (·.k)).mergeSort fun x y => decide (x ≤ y)).map encZ)) := by
        refine HI.mono ?_
        rintro e w' ⟨h1, h2, h3⟩
        rw [List.length_map] at h2
        refine ⟨h1, hblt.grown h3 hblt.size (fun j e => ?_), h2⟩
        exact (hrow.lt j e).1
      clear HI hrow' hrow hK HK hblt
      have hps : ((A.map (·.k)).mergeSort fun x y => decide (x ≤ y)).Perm (A.map (·.k)) := List.mergeSort_perm _ _
      have hso : ((A.map (·.k)).mergeSort fun x y => decide (x ≤ y)).Pairwise (fun x y => decide (x ≤ y) = true) := List.pairwise_mergeSort (fun a b c h1 h2 => by simp at *; omega) (fun a b => by simp; omega) _
      generalize ((A.map (·.k)).mergeSort fun x y => decide (x ≤ y)) = Q at *
      have HQ : Hid (Q.Pairwise (fun x y => x ≤ y)) := hso.imp fun h => by simpa using h
      have HQm : Hid (∀ k, k ∈ Q ↔ ∃ x ∈ A, x.k = k) := fun k => by rw [hps.mem_iff, List.mem_map]
      have hQl : Q.length = A.length := by rw [hps.length_eq, List.length_map]
      rw [← hQl] at HI'
      have HQl : Hid (Q.length = A.length) := hQl
      have hQA : Q.length ≤ 1000 := by omega
      have hQ0 : 0 < Q.length := by omega
      clear hps hso hQl
      have HGr : Hid (∀ W k, Below w.heap.size w W → Calls Tryd.prog 32 #[.slice (some ⟨g, 0, none⟩) Q.length ck, .int .i64 k] W fun e w' => e = .returned (rOf k (absG A k)) ∧ Below W.heap.size W w') := fun W k hb => by
        rw [HQl.out]; exact rgroup_some base g ck A W (gkept_below HR.out hb) k hA h0
      go_wp2_with (go_at_call 63; rw [← HQl.out]; refine Calls.mono (Hid.out HI') ?_; rintro e w3 ⟨rfl, hbl3, hrow3⟩)
      have HM0 : Hid (Rm w (.slice (some ⟨gq, 0, none⟩) Q.length cq) Q A 0 [] (.slice none 0 0) w3) := ⟨hbl3, hrow3, World.ownsRow_nil _ _ _ _, List.Pairwise.nil, fun k => by simp, Nat.le_refl _, fun _ _ => by simp [Value.ownBlock]⟩
      clear hbl3 hrow3 HI' HGi
      go_loopg [6, 27] Q.length (fun gg v6 v27 wr => ∃ (j : Nat) (ks : List Int), j ≤ Q.length ∧ gg = Q.length - j ∧ v27 = .int .i64 j ∧ Hid (Rm w (.slice (some ⟨gq, 0, none⟩) Q.length cq) Q A j ks v6 wr))
      case atStart => exact ⟨0, [], Nat.zero_le _, rfl, rfl, HM0.out⟩
      case round =>
        obtain ⟨j, ks, hjle, hgj, rfl, HM⟩ := hrel
        have HGj : Hid (gk = Q.length - j) := hgj
        clear hgj
        by_cases hjl : j < Q.length
        · obtain ⟨k, hk⟩ : ∃ k, Q[j]? = some k := ⟨_, List.getElem?_eq_getElem hjl⟩
          have hM := HM.out
          have hck := gk_cell hM.keys j k hk
          have HKj : Hid (Q[j]? = some k) := hk
          have hsm : (absG A k).isSome = true := abs_some.2 ((HQm.out k).1 (List.mem_of_getElem? hk))
          obtain ⟨τ, hτ⟩ := Option.isSome_iff_exists.1 hsm
          have hgr := HGr.out wr k hM.below
          rw [hτ] at hgr
          have HGc : Hid (Calls Tryd.prog 32 #[.slice (some ⟨g, 0, none⟩) Q.length ck, .int .i64 k] wr fun e w' => e = .returned (.tuple #[vG k τ, .int .i64 0]) ∧ Below wr.heap.size wr w') := hgr
          have HE : Hid (gE (absG A) k = encG k τ) := by show gE (absG A) k = encG k τ; unfold gE; rw [hτ]; rfl
          have hrowM := hM.row
          have hszM := hM.below.size
          have hlenM := hM.len
          have j1 : (0 : Int) ≤ (j : Int) := by omega
          have j2 : (j : Int) < (Q.length : Int) := by omega
          clear hgr hsm hτ hk
          by_cases hj0 : j = 0
          · subst hj0
            have HST := fun w5 w6 v' o1 o2 hb hown hg hloc => HM.out.step (w5 := w5) (w6 := w6) (v' := v') (o1 := o1) (o2 := o2) HQ.out HKj.out (.inl rfl) hb hown hg hloc
            have HS : Hid _ := HST
            clear HST hM
            go_wp2_with (first
              | (go_at_call 32; refine Calls.mono (Hid.out HGc) ?_; rintro e w5 ⟨rfl, hb5⟩; simp only [vG]; have hn5 := World.news_of_block (World.alloc_heap_new (w5.alloc (.cells (encG k τ).toArray 88)) (.cells (encG k τ).toArray 88)); rw [show (w5.alloc (.cells (encG k τ).toArray 88)).heap.size = w5.heap.size + 1 by simp] at hn5; have HN5 : Hid _ := hn5; clear hn5)
              | (at_builtin; refine wpList_append_own_at _ rfl _ _ 94 rfl w.heap.size 88 i0 zG 6 48 Tryd.underlying94 hi0 hz0 hz1 hz2 rfl (by decide) _ _ _ rfl (((gkept_below hrowM hb5).alloc _).alloc _) ⟨w5.heap.size + 1, 0, none⟩ 1 1 (encG k τ) rfl rfl HN5.out (encG_one k τ) (by unfold maxLen; omega) (by omega) (by have := hb5.size; simp; omega) ?_; intro v' w6 hown6 hg6 _ hloc6)
              | fail)
            go_roundg (Q.length - (0 + 1))
            case measure => have := HGj.out; omega
            case rel => exact ⟨0 + 1, ks ++ [k], by omega, rfl, by go_num, HS.out w5 w6 v' _ _ hb5 (by rw [HE.out]; exact hown6) hg6 hloc6⟩
          · obtain ⟨j', rfl⟩ : ∃ j', j = j' + 1 := ⟨j - 1, by omega⟩
            obtain ⟨k0, hk0⟩ : ∃ k0, Q[j']? = some k0 := ⟨_, List.getElem?_eq_getElem (by omega)⟩
            have hck0 := gk_cell hM.keys j' k0 hk0
            have HK0 : Hid (Q[j' + 1 - 1]? = some k0) := hk0
            clear hk0
            by_cases hkk : k0 = k
            · have HS : Hid (Rm w (.slice (some ⟨gq, 0, none⟩) Q.length cq) Q A (j' + 1 + 1) ks u6 wr) := HM.out.skip HKj.out HK0.out (by omega) hkk
              clear hM HK0 HKj
              subst hkk
              go_wp2
              go_roundg (Q.length - (j' + 1 + 1))
              case measure => have := HGj.out; omega
              case rel => exact ⟨j' + 1 + 1, ks, by omega, rfl, by go_num, HS.out⟩
            · have HST := fun w5 w6 v' o1 o2 hb hown hg hloc => HM.out.step (w5 := w5) (w6 := w6) (v' := v') (o1 := o1) (o2 := o2) HQ.out HKj.out (.inr ⟨k0, HK0.out, hkk⟩) hb hown hg hloc
              have HS : Hid _ := HST
              have hkb : (k0 != k) = true := by simpa using hkk
              have hkj : ((j' : Int) + 1 == 0) = false := by simp; omega
              clear HST hM HK0 hkk
              go_wp2_with (first
                | (go_at_call 32; refine Calls.mono (Hid.out HGc) ?_; rintro e w5 ⟨rfl, hb5⟩; simp only [vG]; have hn5 := World.news_of_block (World.alloc_heap_new (w5.alloc (.cells (encG k τ).toArray 88)) (.cells (encG k τ).toArray 88)); rw [show (w5.alloc (.cells (encG k τ).toArray 88)).heap.size = w5.heap.size + 1 by simp] at hn5; have HN5 : Hid _ := hn5; clear hn5)
                | (at_builtin; refine wpList_append_own_at _ rfl _ _ 94 rfl w.heap.size 88 i0 zG 6 48 Tryd.underlying94 hi0 hz0 hz1 hz2 rfl (by decide) _ _ _ rfl (((gkept_below hrowM hb5).alloc _).alloc _) ⟨w5.heap.size + 1, 0, none⟩ 1 1 (encG k τ) rfl rfl HN5.out (encG_one k τ) (by unfold maxLen; omega) (by omega) (by have := hb5.size; simp; omega) ?_; intro v' w6 hown6 hg6 _ hloc6)
                | fail)
              go_roundg (Q.length - (j' + 1 + 1))
              case measure => have := HGj.out; omega
              case rel => exact ⟨j' + 1 + 1, ks ++ [k], by omega, rfl, by go_num, HS.out w5 w6 v' _ _ hb5 (by rw [HE.out]; exact hown6) hg6 hloc6⟩
        · have e2 : j = Q.length := by omega
          have hge2 : ¬ ((j : Int) < (Q.length : Int)) := by omega
          go_wp2
          go_ret
          have hM := HM.out
          have hmem := hM.mem
          rw [e2, List.take_length] at hmem
          exact ⟨_, rfl, ks, hM.ord, fun k => by rw [hmem, HQm.out k, abs_some], by have := hM.len; have := HQl.out; omega, hM.row, hM.below⟩

theorem rgroups_any (base : Nat) (v : Value) (A : List O) (w : World) (h : w.ownsRow base 37 9 v A.length (A.flatMap encO)) (hA : A.length ≤ 1000) :
    Calls Tryd.prog 36 #[v] w fun e w' => ∃ (v : Value) (ks : List Int), e = .returned v ∧ ks.Pairwise (fun x y => x < y) ∧ (∀ k, k ∈ ks ↔ (absG A k).isSome = true) ∧ ks.length ≤ A.length ∧ w'.ownsRow w.heap.size 88 6 v ks.length (ks.flatMap (gE (absG A))) ∧ Below w.heap.size w w' := by
  cases A with
  | nil =>
    refine (rgroups_none v base w h).mono fun e w' ⟨h1, h2⟩ => ⟨_, [], h1, List.Pairwise.nil, fun k => ?_, Nat.le_refl _, World.ownsRow_nil _ _ _ _, h2⟩
    rw [abs_nil]; simp
  | cons a r =>
    obtain ⟨g, ck, rfl⟩ := Go.Joins.ownsRow_form h (by simp)
    exact rgroups_some base g ck (a :: r) w h hA (by simp)

end Go.Proofs.YtgffodmipbefpaaDoor
