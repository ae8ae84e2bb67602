/- Package group: All. -/
import Derived.Test.YtgffodmipbefpaaDoorGrx
import Derived.Deep.AppendLies
namespace Go.Proofs.YtgffodmipbefpaaDoor
open Go.RowKit Go.Maps Go.Sort Go.Shelf
set_option maxRecDepth 100000

def encG (k : Int) (τ : Tl) : List Value := [.int .i64 k, .int .i64 τ.c, .int .i64 τ.s, .int .i64 (lo τ.R), .int .i64 (hi τ.R), .bool (some? τ.R)]
def gE (G : Int → Option Tl) (k : Int) : List Value := encG k ((G k).getD τ0)
def zG : Value := .agg #[.int .i64 0, .int .i64 0, .int .i64 0, .int .i64 0, .int .i64 0, .bool false]
theorem info57 : (Tryd.prog.info? 88).map (fun i => (i.zero, i.size, i.bytes)) = some (some zG, 6, 48) := by kernel_rfl
theorem encG_one (k : Int) (τ : Tl) : ∀ u ∈ encG k τ, u.oneCell' = true := by
  intro u hu; simp [encG] at hu; rcases hu with rfl | rfl | rfl | rfl | rfl | rfl <;> rfl
theorem gkept_below {w w' : World} {base : Nat} {e : TypeId} {size : Nat} {v : Value} {n : Nat} {xs : List Value} (h : w.ownsRow base e size v n xs) (hb : Below w.heap.size w w') : w'.ownsRow base e size v n xs :=
  h.kept (row := none) ⟨hb.os, hb.tape, hb.output, hb.size, fun k hk _ => hb.block k hk⟩ (by cases h' : v.ownBlock with | none => exact .inl rfl | some g => exact .inr (by simp))
theorem gadd_at (g o : Nat) : (⟨g, 0, none⟩ : Addr).add o = ⟨g, o, none⟩ := by
  unfold Addr.add; split
  · rename_i h; rw [h]
  · simp
theorem gk_cell {W : World} {base gs n ck : Nat} {ks : List Int} (h : W.ownsRow base 3 1 (.slice (some ⟨gs, 0, none⟩) n ck) n (ks.map encZ)) (k : Nat) (x : Int) (hx : ks[k]? = some x) : W.cell? ⟨gs, k, none⟩ = some (.int .i64 x) := by
  have := h.cells (g := gs) rfl k (encZ x) (by simp [hx])
  simpa [gadd_at, encZ] using this
theorem glen_map {w : World} {b o m : Nat} {om : Option Nat} {tal : Int → Nat × Nat} {G : Int → Option Tl} (h : GAt w b o om tal m G) : ∃ N : Nat, N ≤ m ∧ (Builtin.len_ #[82] 3 #[.map om]).run Tryd.prog w = .ok (.int .i64 N) w := by
  rcases h.map with ⟨rfl, rfl⟩ | ⟨bm, n, D, rfl, hM⟩
  · exact ⟨0, Nat.zero_le _, by kernel_rfl⟩
  · exact ⟨Maps.size D, Nat.le_trans hM.own.size_le hM.le, hM.own.len Tryd.underlying82 3⟩

/-- What lies in memory between two rounds of All. -/
structure Ga (w : World) (gs ck : Nat) (ks : List Int) (G : Int → Option Tl) (k : Nat) (v : Value) (W : World) : Prop where
  below : Below w.heap.size w W
  row : W.ownsRow w.heap.size 88 6 v k ((ks.take k).flatMap (gE G))
  keys : W.ownsRow w.heap.size 3 1 (.slice (some ⟨gs, 0, none⟩) ks.length ck) ks.length (ks.map encZ)
  ne : v.ownBlock ≠ some gs

theorem Ga.step {w W w5 w6 : World} {gs ck k : Nat} {ks : List Int} {G : Int → Option Tl} {v v' : Value} {o : Obj} (h : Ga w gs ck ks G k v W) (hb : Below W.heap.size W w5) {x : Int} (hx : ks[k]? = some x)
    (hown : w6.ownsRow w.heap.size 88 6 v' (k + 1) ((ks.take k).flatMap (gE G) ++ gE G x)) (hg : (w5.alloc o).grownBy w6 v.ownBlock) (hloc : v'.ownBlock = v.ownBlock ∨ v'.ownBlock = some (w5.alloc o).heap.size) : Ga w gs ck ks G (k + 1) v' w6 := by
  have hs := h.below.size
  have hs5 := hb.size
  have hgs : gs < W.heap.size := by
    rcases h.keys.2 with ⟨h3, _⟩ | ⟨g, cap, cur, h3, _, h4, _⟩
    · cases h3
    · cases h3; exact (Array.getElem?_eq_some_iff.1 h4).1
  have hk5 : w5.ownsRow w.heap.size 3 1 (.slice (some ⟨gs, 0, none⟩) ks.length ck) ks.length (ks.map encZ) := gkept_below h.keys hb
  have hb5 : Below w.heap.size w w5 := h.below.trans (hb.mono hs)
  refine ⟨(hb5.alloc (by omega) o).grown hg (by simp; omega) (fun j e => ?_), ?_, (hk5.alloc o).kept hg (.inr (by simpa [Value.ownBlock] using fun e => h.ne e.symm)), ?_⟩
  · rcases h.row.2 with ⟨rfl, _⟩ | ⟨g, cap, cur, rfl, h3, _⟩
    · simp [Value.ownBlock] at e
    · simp [Value.ownBlock] at e; omega
  · rw [List.take_add_one, hx, List.flatMap_append]
    simpa using hown
  · rcases hloc with e | e
    · rw [e]; exact h.ne
    · rw [e]; simp; omega

set_option maxHeartbeats 4000000 in
theorem gall_any (b o m : Nat) (S : Nat → Prop) (G : Int → Option Tl) (w : World) (h : Grp w b o m S G) (hm : m ≤ 1000000) :
    Calls Tryd.prog 35 #[.pointer (some ⟨b, o, none⟩)] w fun e w' => ∃ (v : Value) (ks : List Int), e = .returned v ∧ ks.Pairwise (fun x y => x < y) ∧ (∀ k, k ∈ ks ↔ (G k).isSome = true) ∧ ks.length ≤ m ∧ w'.ownsRow w.heap.size 88 6 v ks.length (ks.flatMap (gE G)) ∧ Below w.heap.size w w' := by
  obtain ⟨i0, hi0, hz0, hz1, hz2⟩ := info_parts info57
  obtain ⟨om, tal, hg, hS, hlt⟩ := h
  have hc := hg.cell
  have hblt := hg.blt
  obtain ⟨N, hN, hlen⟩ := glen_map hg
  have HG : Hid (GAt w b o om tal m G) := hg
  clear hg hS hlt
  go_enter Tryd.func35, Tryd.ntmps35
  go_wp2_with (first
    | (refine wpList_make_own _ rfl _ _ 94 rfl w.heap.size 88 i0 zG 6 Tryd.underlying94 hi0 hz0 hz1 .i64 .i64 _ N rfl rfl rfl (by rw [hz2]; omega) (by unfold maxLen; omega) (Nat.le_refl _) ?_; intro w1 hrow1 hg1; have hb1 : Below w.heap.size w w1 := (Below.refl _ w).grown hg1 (Nat.le_refl _) (fun k e => by cases e); have hc1 := (HG.out.below hb1).cell)
    | (go_at_call 62; refine (gkeys_in om _).mono ?_; rintro e w2 ⟨rfl, rfl⟩)
    | fail)
  have hb2 : Below w.heap.size w (w1.alloc (.cells #[.map om] 82)) := hb1.alloc hb1.size _
  have hrow2 := hrow1.alloc (.cells #[.map om] 82)
  have hz1' := hb1.size
  have hgw1 : w.heap.size < w1.heap.size := by
    rcases hrow1.2 with ⟨h3, _⟩ | ⟨g, cap, cur, h3, _, h4, _⟩
    · cases h3
    · cases h3; exact (Array.getElem?_eq_some_iff.1 h4).1
  refine (gsorted_any w1.heap.size b o m om tal G _ (HG.out.below hb2) (by omega) (by simp) (by simp)).mono ?_
  rintro e w3 ⟨v, ks, rfl, hord, hmem, hkl, hks, hb3⟩
  have hbw3 : Below w.heap.size w w3 := hb2.trans (hb3.mono (by simp; omega))
  have hrow3 : w3.ownsRow w.heap.size 88 6 (.slice (some ⟨w.heap.size, 0, none⟩) 0 N) 0 [] := gkept_below hrow2 hb3
  have HP : Hid (ks.Pairwise (fun x y => x < y) ∧ (∀ k, k ∈ ks ↔ (G k).isSome = true) ∧ ks.length ≤ m) := ⟨hord, hmem, hkl⟩
  rcases Go.Joins.ownsRow_forms hks with ⟨rfl, h0⟩ | ⟨gs, ck, rfl⟩
  · have hx0 : ks = [] := List.eq_nil_of_length_eq_zero h0
    subst hx0
    clear hks hord hmem
    go_wp2
    refine wp_loop_rounds 1 ?_
    rw [rounds_succ]
    go_wp2
    go_ret
    exact ⟨_, [], rfl, HP.out.1, HP.out.2.1, HP.out.2.2, hrow3, hbw3⟩
  · have hgs : w.heap.size < gs := by
      rcases hks.2 with ⟨h3, _⟩ | ⟨g, cap, cur, h3, h5, h4, _⟩
      · cases h3
      · cases h3; simp at h5; omega
    have hks' : w3.ownsRow w.heap.size 3 1 (.slice (some ⟨gs, 0, none⟩) ks.length ck) ks.length (ks.map encZ) := Go.Joins.ownsRow_le hks (by simp; omega)
    have HA : Hid (Ga w gs ck ks G 0 (.slice (some ⟨w.heap.size, 0, none⟩) 0 N) w3) := ⟨hbw3, hrow3, hks', by simp [Value.ownBlock]; omega⟩
    have hkm : ks.length ≤ 1000000 := by omega
    clear hks hord hmem hrow1 hrow2 hg1 hb1 hb2 hb3 hc1 hks' hrow3 hbw3 hkl
    go_wp2
    go_loopg [3, 19] ks.length (fun g v i wr => ∃ k : Nat, k ≤ ks.length ∧ g = ks.length - k ∧ i = .int .i64 k ∧ Hid (Ga w gs ck ks G k v wr))
    case atStart =>
      exact ⟨0, Nat.zero_le _, rfl, rfl, HA.out⟩
    case round =>
      obtain ⟨k, hk, hgk2, rfl, HR⟩ := hrel
      have HGk : Hid (gk = ks.length - k) := hgk2
      clear hgk2
      by_cases hlt : k < ks.length
      · obtain ⟨x, hx⟩ : ∃ x, ks[k]? = some x := ⟨_, List.getElem?_eq_getElem hlt⟩
        have hR := HR.out
        have hq := gk_cell hR.keys k x hx
        have hsm : (G x).isSome = true := (HP.out.2.1 x).1 (List.mem_of_getElem? hx)
        obtain ⟨τ, hτ⟩ := Option.isSome_iff_exists.1 hsm
        have hgw := HG.out.below hR.below
        obtain ⟨bm, n, D, hom, hM⟩ : ∃ bm n D, om = some bm ∧ GMap wr b bm tal m G n D := by
          rcases hgw.map with ⟨_, rfl⟩ | h
          · cases hτ
          · exact h
        have hlk := hM.look1 rfl (hM.dat.wf x τ hτ) hτ
        rw [← hom] at hlk
        have hcb := hgw.cell
        have hgr : Hid (Calls Tryd.prog 60 #[tp (tal x).1, .int .i64 x] wr fun e w' => e = .returned (vG x τ) ∧ Below wr.heap.size wr w') := group_any _ _ m τ wr (hM.tals x τ hτ) x
        have hzr := hR.below.size
        have hbr := hR.below
        have hrowR := hR.row
        have HE : Hid (gE G x = encG x τ) := by show gE G x = encG x τ; unfold gE; rw [hτ]; rfl
        have h1 : (0 : Int) ≤ (k : Int) := by omega
        have h2 : (k : Int) < (ks.length : Int) := by omega
        clear hM hgw hR hsm hτ hom
        generalize (tal x).1 = t at *
        go_wp2_with (first
          | (go_at_call 60; refine Calls.mono (Hid.out hgr) ?_; rintro e w5 ⟨rfl, hb5⟩; simp only [vG])
          | (at_builtin; refine wpList_append_own_at _ rfl _ _ 94 rfl w.heap.size 88 i0 zG 6 48 Tryd.underlying94 hi0 hz0 hz1 hz2 rfl (by decide) _ _ _ rfl ((gkept_below hrowR hb5).alloc _) ⟨w5.heap.size, 0, none⟩ 1 1 (encG x τ) rfl rfl (World.news_of_block (World.alloc_heap_new w5 _)) (encG_one x τ) (by unfold maxLen; omega) (by omega) (by have := hb5.size; simp; omega) ?_; intro v' w6 hown6 hg6 _ hloc6)
          | fail)
        go_roundg (ks.length - (k + 1))
        case measure => have := HGk.out; omega
        case rel => exact ⟨k + 1, by omega, rfl, by go_num, HR.out.step hb5 hx (by rw [HE.out]; exact hown6) hg6 hloc6⟩
      · have e1 : k = ks.length := by omega
        have hge : ¬ ((k : Int) < (ks.length : Int)) := by omega
        go_wp2
        go_ret
        have hR := HR.out
        have hrow := hR.row
        rw [e1, List.take_length] at hrow
        exact ⟨_, rfl, ks, HP.out.1, HP.out.2.1, HP.out.2.2, hrow, hR.below⟩

end Go.Proofs.YtgffodmipbefpaaDoor
