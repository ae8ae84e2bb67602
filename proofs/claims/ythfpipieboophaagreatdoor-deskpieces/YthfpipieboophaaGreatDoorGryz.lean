/- Gryz: several texts in one. -/
import Derived.Test.YthfpipieboophaaGreatDoorGrz
import Derived.Test.YthfpipieboophaaGreatDoorGrsh
import Derived.Deep.LoopGhost
import Derived.Deep.CutRange
import Derived.Maps.AppendAt
import Derived.Deep.AppendLies
/- Package group: Of; the keys in order; what All needs. -/
namespace Go.Proofs.YthfpipieboophaaGreatDoor
open Go.RowKit Go.Maps Go.Sort Go.Shelf
set_option maxRecDepth 100000
def vOf (k : Int) : Option Tl → Value
  | none => .tuple #[.agg #[.int .i64 0, .int .i64 0, .int .i64 0, .int .i64 0, .int .i64 0, .bool false], .iface 24 (.int .i64 8)]
  | some τ => .tuple #[vG k τ, .nilIface]
theorem keys_mem {D : DataW Value} {tal : Int → Nat × Nat} {G : Int → Option Tl} {w : World} {bm n : Nat} (hd : GDat D tal G) (hown : w.ownsMap Tryz.prog 3 gR bm n D) :
    (intKeys D).Nodup ∧ ∀ k, k ∈ intKeys D ↔ (G k).isSome = true := by
  obtain ⟨es, rfl, hp, hk⟩ := hown.entries gkeyed
  have hint : ∀ p ∈ es, ∃ k τ, p.1 = gi k ∧ G k = some τ := fun p hp' => by
    obtain ⟨k, τ, e, h⟩ := hd.keys p.1 (List.any_eq_true.2 ⟨p, hp', WideAt.sameKey_self (hk p hp')⟩)
    exact ⟨k, τ, e, h⟩
  refine ⟨?_, fun k => ?_⟩
  · unfold intKeys
    rw [List.Nodup, List.pairwise_map]
    refine List.Pairwise.imp_of_mem ?_ hp
    intro p q h1 h2 hne e
    obtain ⟨k1, _, e1, _⟩ := hint p h1
    obtain ⟨k2, _, e2, _⟩ := hint q h2
    rw [e1, e2] at e hne
    exact hne (by rw [show k1 = k2 from e])
  · unfold intKeys
    rw [List.mem_map]
    constructor
    · rintro ⟨p, hp', e⟩
      obtain ⟨k1, τ, e1, h1⟩ := hint p hp'
      rw [e1] at e
      rw [← show k1 = k from e, h1]; rfl
    · intro h
      obtain ⟨τ, hτ⟩ := Option.isSome_iff_exists.1 h
      have h1 := hd.has k (hd.wf k τ hτ)
      rw [hτ] at h1
      obtain ⟨p, hp', e⟩ := List.any_eq_true.1 h1
      refine ⟨p, hp', ?_⟩
      rw [WideAt.sameKey_eq e]; rfl
theorem Tryz.sortsG (m : Nat) : AnyZI.SortsIn Tryz.prog Tryz.sortedG_ren Fence.wide m :=
  ⟨fun blk off cap ss W hH hblk hsz => callsIn_wide.2 (AnyM.slices_Sort_int Tryz.sortG blk off cap ss W hH hblk hsz),
   fun p cap W => callsIn_wide.2 (AnyM.slices_Sort_int_none Tryz.sortG p cap W)⟩
theorem gkeys_in (mb : Option Nat) (W : World) : Calls Tryz.prog 129 #[.map mb] W fun e w' => e = .returned (.func (.func 211) #[] #[.pointer (some ⟨W.heap.size, 0, none⟩)]) ∧ w' = W.alloc (.cells #[.map mb] 104) :=
  (callsIn_wide (n := 5)).1 (AnyZI.keys_in Tryz.keysG Fence.wide 5 trivial rfl mb W)
theorem gsorted_any (Bm b o m : Nat) (om : Option Nat) (tal : Int → Nat × Nat) (G : Int → Option Tl) (W : World) (h : GAt W b o om tal m G) (hm : m ≤ 100000000) (hBm : Bm < W.heap.size) (hc : W.cell? ⟨Bm, 0, none⟩ = some (.map om)) :
    Calls Tryz.prog 128 #[.func (.func 211) #[] #[.pointer (some ⟨Bm, 0, none⟩)]] W fun e W' => ∃ (v : Value) (ks : List Int), e = .returned v ∧ ks.Pairwise (fun x y => x < y) ∧ (∀ k, k ∈ ks ↔ (G k).isSome = true) ∧ ks.length ≤ m ∧ W'.ownsRow W.heap.size 3 1 v ks.length (ks.map encZ) ∧ Below W.heap.size W W' := by
  rcases h.map with ⟨rfl, rfl⟩ | ⟨bm, n, D, rfl, hM⟩
  · have hseq : SeqGives Fence.wide 2 Tryz.prog 211 #[.pointer (some ⟨Bm, 0, none⟩)] encZ (fun ss : List Int => ss = []) 0 W :=
      AnyZI.keys_gives_nil (ρ := Tryz.keysG_ren) { Tryz.keysG with } Fence.wide _ trivial rfl Bm W hBm hc
    have cS := AnyZI.sorted_in Tryz.sortedG Fence.wide 5 trivial trivial trivial trivial rfl (by omega) (Tryz.sortsG _) (enters_of Tryz.func131 (by kernel_rfl) rfl) 211 #[.pointer (some ⟨Bm, 0, none⟩)] trivial (enters_of Tryz.func211 (by kernel_rfl) rfl) _ 0 (Nat.zero_le _) (by omega) W hseq
    refine ((callsIn_wide (n := 5)).1 cS).mono ?_
    rintro e w' ⟨v, ss, rfl, rfl, hrow, hnil, hb⟩
    exact ⟨v, [], rfl, List.Pairwise.nil, fun k => by simp, by simp, by have h2 : w'.ownsRow W.heap.size 3 1 v 0 (([].mergeSort (fun x y => decide (x ≤ y))).map encZ) := hrow; simpa using h2, hb⟩
  · have hle := hM.own.size_le
    have hnm := hM.le
    have hseq : SeqGives Fence.wide 2 Tryz.prog 211 #[.pointer (some ⟨Bm, 0, none⟩)] encZ (fun ss => ss.Perm (intKeys D)) (Maps.size D) W :=
      AnyZI.keys_gives (ρ := Tryz.keysG_ren) { Tryz.keysG with } Fence.wide _ trivial rfl (by omega) Bm bm n D W hBm hc hM.own
    have cS := AnyZI.sorted_in Tryz.sortedG Fence.wide 5 trivial trivial trivial trivial rfl (by omega) (Tryz.sortsG _) (enters_of Tryz.func131 (by kernel_rfl) rfl) 211 #[.pointer (some ⟨Bm, 0, none⟩)] trivial (enters_of Tryz.func211 (by kernel_rfl) rfl) _ (Maps.size D) (by unfold maxLen; omega) (by omega) W hseq
    refine ((callsIn_wide (n := 5)).1 cS).mono ?_
    rintro e w' ⟨v, ss, rfl, hp, hrow, hnil, hb⟩
    obtain ⟨hnd, hmem⟩ := keys_mem hM.dat hM.own
    have hps : (ss.mergeSort (fun x y => decide (x ≤ y))).Perm ss := List.mergeSort_perm ss _
    have hso : (ss.mergeSort (fun x y => decide (x ≤ y))).Pairwise (fun x y => decide (x ≤ y) = true) := List.pairwise_mergeSort (fun a b c h1 h2 => by simp at *; omega) (fun a b => by simp; omega) ss
    have hnd2 : (ss.mergeSort (fun x y => decide (x ≤ y))).Nodup := (hps.trans hp).nodup_iff.2 hnd
    have hlen : (ss.mergeSort (fun x y => decide (x ≤ y))).length = ss.length := hps.length_eq
    have hsz : (intKeys D).length ≤ n := by
      obtain ⟨es, rfl, _, _⟩ := hM.own.entries gkeyed
      simpa [intKeys, Maps.size] using hle
    refine ⟨v, _, rfl, ?_, fun k => by rw [(hps.trans hp).mem_iff]; exact hmem k, by rw [hlen, hp.length_eq]; omega, by rw [hlen]; exact hrow, hb⟩
    refine (hso.and hnd2).imp fun {x y} h => ?_
    have h1 : x ≤ y := by simpa using h.1
    have h2 : x ≠ y := h.2
    omega
end Go.Proofs.YthfpipieboophaaGreatDoor

/- Package group: All. -/
namespace Go.Proofs.YthfpipieboophaaGreatDoor
open Go.RowKit Go.Maps Go.Sort Go.Shelf
set_option maxRecDepth 100000
def encG (k : Int) (τ : Tl) : List Value := [.int .i64 k, .int .i64 τ.c, .int .i64 τ.s, .int .i64 (lo τ.R), .int .i64 (hi τ.R), .bool (some? τ.R)]
def gE (G : Int → Option Tl) (k : Int) : List Value := encG k ((G k).getD τ0)
def zG : Value := .agg #[.int .i64 0, .int .i64 0, .int .i64 0, .int .i64 0, .int .i64 0, .bool false]
theorem info57 : (Tryz.prog.info? 140).map (fun i => (i.zero, i.size, i.bytes)) = some (some zG, 6, 48) := by kernel_rfl
theorem encG_one (k : Int) (τ : Tl) : ∀ u ∈ encG k τ, u.oneCell' = true := by
  intro u hu; simp [encG] at hu; rcases hu with rfl | rfl | rfl | rfl | rfl | rfl <;> rfl
theorem gkept_below {w w' : World} {base : Nat} {e : TypeId} {size : Nat} {v : Value} {n : Nat} {xs : List Value} (h : w.ownsRow base e size v n xs) (hb : Below w.heap.size w w') : w'.ownsRow base e size v n xs :=
  h.kept (row := none) ⟨hb.os, hb.tape, hb.output, hb.size, fun k hk _ => hb.block k hk⟩ (by cases h' : v.ownBlock with | none => exact .inl rfl | some g => exact .inr (by simp))
theorem gadd_at (g o : Nat) : (⟨g, 0, none⟩ : Addr).add o = ⟨g, o, none⟩ := by
  unfold Addr.add; split
  · rename_i h; rw [h]
  · simp
theorem gk_cell {W : World} {base gs n ck : Nat} {ks : List Int} (h : W.ownsRow base 3 1 (.slice (some ⟨gs, 0, none⟩) n ck) n (ks.map encZ)) (k : Nat) (x : Int) (hx : ks[k]? = some x) : W.cell? ⟨gs, k, none⟩ = some (.int .i64 x) := by
  have := h.cells (g := gs) rfl k (encZ x) (by simp [hx])
  simpa [gadd_at, encZ] using this
theorem glen_map {w : World} {b o m : Nat} {om : Option Nat} {tal : Int → Nat × Nat} {G : Int → Option Tl} (h : GAt w b o om tal m G) : ∃ N : Nat, N ≤ m ∧ (Builtin.len_ #[104] 3 #[.map om]).run Tryz.prog w = .ok (.int .i64 N) w := by
  rcases h.map with ⟨rfl, rfl⟩ | ⟨bm, n, D, rfl, hM⟩
  · exact ⟨0, Nat.zero_le _, by kernel_rfl⟩
  · exact ⟨Maps.size D, Nat.le_trans hM.own.size_le hM.le, hM.own.len Tryz.underlying104 3⟩
structure Ga (w : World) (gs ck : Nat) (ks : List Int) (G : Int → Option Tl) (k : Nat) (v : Value) (W : World) : Prop where
  below : Below w.heap.size w W
  row : W.ownsRow w.heap.size 140 6 v k ((ks.take k).flatMap (gE G))
  keys : W.ownsRow w.heap.size 3 1 (.slice (some ⟨gs, 0, none⟩) ks.length ck) ks.length (ks.map encZ)
  ne : v.ownBlock ≠ some gs
theorem Ga.step {w W w5 w6 : World} {gs ck k : Nat} {ks : List Int} {G : Int → Option Tl} {v v' : Value} {o : Obj} (h : Ga w gs ck ks G k v W) (hb : Below W.heap.size W w5) {x : Int} (hx : ks[k]? = some x)
    (hown : w6.ownsRow w.heap.size 140 6 v' (k + 1) ((ks.take k).flatMap (gE G) ++ gE G x)) (hg : (w5.alloc o).grownBy w6 v.ownBlock) (hloc : v'.ownBlock = v.ownBlock ∨ v'.ownBlock = some (w5.alloc o).heap.size) : Ga w gs ck ks G (k + 1) v' w6 := by
  have hs := h.below.size
  have hs5 := hb.size
  have hgs : gs < W.heap.size := by
    rcases h.keys.2 with ⟨h3, _⟩ | ⟨g, cap, cur, h3, _, h4, _⟩
    · cases h3
    · cases h3; exact (Array.getElem?_eq_some_iff.1 h4).1
  have hk5 : w5.ownsRow w.heap.size 3 1 (.slice (some ⟨gs, 0, none⟩) ks.length ck) ks.length (ks.map encZ) := gkept_below h.keys hb
  have hb5 : Below w.heap.size w w5 := h.below.trans (hb.mono hs)
  refine ⟨(hb5.alloc (by omega) o).grown hg (by simp; omega) (fun j e => ?_), ?_, (hk5.alloc o).kept hg (.inr (by simpa [Value.ownBlock] using fun e => h.ne e.symm)), ?_⟩
  · rcases h.row.2 with ⟨rfl, _⟩ | ⟨g, cap, cur, rfl, h3, _⟩
    · simp [Value.ownBlock] at e
    · simp [Value.ownBlock] at e; omega
  · rw [List.take_add_one, hx, List.flatMap_append]
    simpa using hown
  · rcases hloc with e | e
    · rw [e]; exact h.ne
    · rw [e]; simp; omega
set_option maxHeartbeats 4000000 in
theorem gall_any (b o m : Nat) (S : Nat → Prop) (G : Int → Option Tl) (w : World) (h : Grp w b o m S G) (hm : m ≤ 1000000) :
    Calls Tryz.prog 72 #[.pointer (some ⟨b, o, none⟩)] w fun e w' => ∃ (v : Value) (ks : List Int), e = .returned v ∧ ks.Pairwise (fun x y => x < y) ∧ (∀ k, k ∈ ks ↔ (G k).isSome = true) ∧ ks.length ≤ m ∧ w'.ownsRow w.heap.size 140 6 v ks.length (ks.flatMap (gE G)) ∧ Below w.heap.size w w' := by
  obtain ⟨i0, hi0, hz0, hz1, hz2⟩ := info_parts info57
  obtain ⟨om, tal, hg, hS, hlt⟩ := h
  have hc := hg.cell
  have hblt := hg.blt
  obtain ⟨N, hN, hlen⟩ := glen_map hg
  have HG : Hid (GAt w b o om tal m G) := hg
  clear hg hS hlt
  go_enter Tryz.func72, Tryz.ntmps72
  go_wp2_with (first
    | (refine wpList_make_own _ rfl _ _ 74 rfl w.heap.size 140 i0 zG 6 Tryz.underlying74 hi0 hz0 hz1 .i64 .i64 _ N rfl rfl rfl (by rw [hz2]; omega) (by unfold maxLen; omega) (Nat.le_refl _) ?_; intro w1 hrow1 hg1; have hb1 : Below w.heap.size w w1 := (Below.refl _ w).grown hg1 (Nat.le_refl _) (fun k e => by cases e); have hc1 := (HG.out.below hb1).cell)
    | (go_at_call 129; refine (gkeys_in om _).mono ?_; rintro e w2 ⟨rfl, rfl⟩)
    | fail)
  have hb2 : Below w.heap.size w (w1.alloc (.cells #[.map om] 104)) := hb1.alloc hb1.size _
  have hrow2 := hrow1.alloc (.cells #[.map om] 104)
  have hz1' := hb1.size
  have hgw1 : w.heap.size < w1.heap.size := by
    rcases hrow1.2 with ⟨h3, _⟩ | ⟨g, cap, cur, h3, _, h4, _⟩
    · cases h3
    · cases h3; exact (Array.getElem?_eq_some_iff.1 h4).1
  refine (gsorted_any w1.heap.size b o m om tal G _ (HG.out.below hb2) (by omega) (by simp) (by simp)).mono ?_
  rintro e w3 ⟨v, ks, rfl, hord, hmem, hkl, hks, hb3⟩
  have hbw3 : Below w.heap.size w w3 := hb2.trans (hb3.mono (by simp; omega))
  have hrow3 : w3.ownsRow w.heap.size 140 6 (.slice (some ⟨w.heap.size, 0, none⟩) 0 N) 0 [] := gkept_below hrow2 hb3
  have HP : Hid (ks.Pairwise (fun x y => x < y) ∧ (∀ k, k ∈ ks ↔ (G k).isSome = true) ∧ ks.length ≤ m) := ⟨hord, hmem, hkl⟩
  rcases Go.Joins.ownsRow_forms hks with ⟨rfl, h0⟩ | ⟨gs, ck, rfl⟩
  · have hx0 : ks = [] := List.eq_nil_of_length_eq_zero h0
    subst hx0
    clear hks hord hmem
    go_wp2
    refine wp_loop_rounds 1 ?_
    rw [rounds_succ]
    go_wp2
    go_ret
    exact ⟨_, [], rfl, HP.out.1, HP.out.2.1, HP.out.2.2, hrow3, hbw3⟩
  · have hgs : w.heap.size < gs := by
      rcases hks.2 with ⟨h3, _⟩ | ⟨g, cap, cur, h3, h5, h4, _⟩
      · cases h3
      · cases h3; simp at h5; omega
    have hks' : w3.ownsRow w.heap.size 3 1 (.slice (some ⟨gs, 0, none⟩) ks.length ck) ks.length (ks.map encZ) := Go.Joins.ownsRow_le hks (by simp; omega)
    have HA : Hid (Ga w gs ck ks G 0 (.slice (some ⟨w.heap.size, 0, none⟩) 0 N) w3) := ⟨hbw3, hrow3, hks', by simp [Value.ownBlock]; omega⟩
    have hkm : ks.length ≤ 1000000 := by omega
    clear hks hord hmem hrow1 hrow2 hg1 hb1 hb2 hb3 hc1 hks' hrow3 hbw3 hkl
    go_wp2
    go_loopg [3, 19] ks.length (fun g v i wr => ∃ k : Nat, k ≤ ks.length ∧ g = ks.length - k ∧ i = .int .i64 k ∧ Hid (Ga w gs ck ks G k v wr))
    case atStart =>
      exact ⟨0, Nat.zero_le _, rfl, rfl, HA.out⟩
    case round =>
      obtain ⟨k, hk, hgk2, rfl, HR⟩ := hrel
      have HGk : Hid (gk = ks.length - k) := hgk2
      clear hgk2
      by_cases hlt : k < ks.length
      · obtain ⟨x, hx⟩ : ∃ x, ks[k]? = some x := ⟨_, List.getElem?_eq_getElem hlt⟩
        have hR := HR.out
        have hq := gk_cell hR.keys k x hx
        have hsm : (G x).isSome = true := (HP.out.2.1 x).1 (List.mem_of_getElem? hx)
        obtain ⟨τ, hτ⟩ := Option.isSome_iff_exists.1 hsm
        have hgw := HG.out.below hR.below
        obtain ⟨bm, n, D, hom, hM⟩ : ∃ bm n D, om = some bm ∧ GMap wr b bm tal m G n D := by
          rcases hgw.map with ⟨_, rfl⟩ | h
          · cases hτ
          · exact h
        have hlk := hM.look1 rfl (hM.dat.wf x τ hτ) hτ
        rw [← hom] at hlk
        have hcb := hgw.cell
        have hgr : Hid (Calls Tryz.prog 130 #[tp (tal x).1, .int .i64 x] wr fun e w' => e = .returned (vG x τ) ∧ Below wr.heap.size wr w') := group_any _ _ m τ wr (hM.tals x τ hτ) x
        have hzr := hR.below.size
        have hbr := hR.below
        have hrowR := hR.row
        have HE : Hid (gE G x = encG x τ) := by show gE G x = encG x τ; unfold gE; rw [hτ]; rfl
        have h1 : (0 : Int) ≤ (k : Int) := by omega
        have h2 : (k : Int) < (ks.length : Int) := by omega
        clear hM hgw hR hsm hτ hom
        generalize (tal x).1 = t at *
        go_wp2_with (first
          | (go_at_call 130; refine Calls.mono (Hid.out hgr) ?_; rintro e w5 ⟨rfl, hb5⟩; simp only [vG])
          | (at_builtin; refine wpList_append_own_at _ rfl _ _ 74 rfl w.heap.size 140 i0 zG 6 48 Tryz.underlying74 hi0 hz0 hz1 hz2 rfl (by decide) _ _ _ rfl ((gkept_below hrowR hb5).alloc _) ⟨w5.heap.size, 0, none⟩ 1 1 (encG x τ) rfl rfl (World.news_of_block (World.alloc_heap_new w5 _)) (encG_one x τ) (by unfold maxLen; omega) (by omega) (by have := hb5.size; simp; omega) ?_; intro v' w6 hown6 hg6 _ hloc6)
          | fail)
        go_roundg (ks.length - (k + 1))
        case measure => have := HGk.out; omega
        case rel => exact ⟨k + 1, by omega, rfl, by go_num, HR.out.step hb5 hx (by rw [HE.out]; exact hown6) hg6 hloc6⟩
      · have e1 : k = ks.length := by omega
        have hge : ¬ ((k : Int) < (ks.length : Int)) := by omega
        go_wp2
        go_ret
        have hR := HR.out
        have hrow := hR.row
        rw [e1, List.take_length] at hrow
        exact ⟨_, rfl, ks, HP.out.1, HP.out.2.1, HP.out.2.2, hrow, hR.below⟩
end Go.Proofs.YthfpipieboophaaGreatDoor

/- What all of a key come to, by the list of those that are there: it hangs not on the order; what came and went is not in it. -/
namespace Go.Proofs.YthfpipieboophaaGreatDoor
open Go.RowKit Go.Sort
set_option maxRecDepth 100000
def talOf : List O → Tl
  | [] => τ0
  | x :: M => putT (talOf M) x
def ofK (L : List O) (k : Int) : List O := L.filter fun o => o.k == k
def absG (L : List O) (k : Int) : Option Tl := if ofK L k = [] then none else some (talOf (ofK L k))
structure Teq (τ τ' : Tl) : Prop where
  c : τ.c = τ'.c
  s : τ.s = τ'.s
  R : τ.R.Perm τ'.R
theorem Teq.refl (τ : Tl) : Teq τ τ := ⟨rfl, rfl, List.Perm.refl _⟩
theorem Teq.symm {τ τ' : Tl} (h : Teq τ τ') : Teq τ' τ := ⟨h.c.symm, h.s.symm, h.R.symm⟩
theorem Teq.trans {a b c : Tl} (h : Teq a b) (k : Teq b c) : Teq a c := ⟨h.c.trans k.c, h.s.trans k.s, h.R.trans k.R⟩
theorem Teq.put {τ τ' : Tl} (h : Teq τ τ') (x : O) : Teq (putT τ x) (putT τ' x) := by
  refine ⟨by simp [putT, h.c], by simp [putT, h.s], ?_⟩
  cases hr : x.hr <;> simp [putT, hr, h.R]
theorem Teq.take {τ τ' : Tl} (h : Teq τ τ') (x : O) : Teq (takeT τ x) (takeT τ' x) := by
  refine ⟨by simp [takeT, h.c], by simp [takeT, h.s], ?_⟩
  cases hr : x.hr
  · simpa [takeT, hr] using h.R
  · simpa [takeT, hr] using h.R.erase x.rv
theorem wrap_idem (n : Int) : wrap64 (wrap64 n) = wrap64 n := by unfold wrap64; omega
theorem tal_in (M : List O) : wrap64 (talOf M).s = (talOf M).s := by
  induction M with
  | nil => show wrap64 0 = 0; unfold wrap64; omega
  | cons x M ih =>
    show wrap64 (putT (talOf M) x).s = (putT (talOf M) x).s
    cases hl : x.hl
    · simpa [putT, hl] using ih
    · simp [putT, hl, wrap_idem]
theorem put_swap (τ : Tl) (x y : O) : Teq (putT (putT τ x) y) (putT (putT τ y) x) := by
  refine ⟨by simp [putT], ?_, ?_⟩
  · cases hx : x.hl <;> cases hy : y.hl <;> simp [putT, hx, hy]
    unfold wrap64; omega
  · cases hx : x.hr <;> cases hy : y.hr <;> simp [putT, hx, hy]
    exact List.Perm.swap _ _ _
theorem tal_perm {M M' : List O} (h : M.Perm M') : Teq (talOf M) (talOf M') := by
  induction h with
  | nil => exact Teq.refl _
  | cons x _ ih => exact ih.put x
  | swap x y l => exact put_swap _ _ _
  | trans _ _ h1 h2 => exact h1.trans h2
theorem take_put (M : List O) (x : O) : Teq (takeT (putT (talOf M) x) x) (talOf M) := by
  refine ⟨by simp [putT, takeT], ?_, ?_⟩
  · cases hl : x.hl
    · simp [putT, takeT, hl]
    · have := tal_in M
      simp only [putT, takeT, hl, if_true]
      unfold wrap64 at *; omega
  · cases hr : x.hr <;> simp [putT, takeT, hr]
theorem tal_count (M : List O) : (talOf M).c = M.length := by
  induction M with
  | nil => rfl
  | cons x M ih => show (talOf M).c + 1 = _; rw [ih]; rfl
theorem tal_right {M : List O} {x : O} (h : x ∈ M) (hr : x.hr = true) : x.rv ∈ (talOf M).R := by
  induction M with
  | nil => cases h
  | cons y M ih =>
    show x.rv ∈ (putT (talOf M) y).R
    rcases List.mem_cons.1 h with rfl | h
    · simp [putT, hr]
    · have := ih h
      cases hy : y.hr
      · simpa [putT, hy] using this
      · simp [putT, hy, this]
theorem ofK_same (x : O) (L : List O) : ofK (x :: L) x.k = x :: ofK L x.k := by simp [ofK]
theorem ofK_other (x : O) (L : List O) {k : Int} (h : k ≠ x.k) : ofK (x :: L) k = ofK L k := by simp [ofK, Ne.symm h]
theorem ofK_perm {L L' : List O} (h : L.Perm L') (k : Int) : (ofK L k).Perm (ofK L' k) := h.filter _
theorem ofK_mem {L : List O} {x : O} : x ∈ ofK L x.k ↔ x ∈ L := by simp [ofK]
def Geq (G G' : Int → Option Tl) : Prop := ∀ k, (G k = none ∧ G' k = none) ∨ ∃ τ τ', G k = some τ ∧ G' k = some τ' ∧ Teq τ τ'
theorem Geq.refl (G : Int → Option Tl) : Geq G G := fun k => by
  cases h : G k with
  | none => exact .inl ⟨rfl, rfl⟩
  | some τ => exact .inr ⟨τ, τ, rfl, rfl, Teq.refl τ⟩
theorem abs_nil : absG [] = fun _ => none := by funext k; simp [absG, ofK]
theorem abs_put (L : List O) (x : O) : putG (absG L) x = absG (x :: L) := by
  funext k
  by_cases e : k = x.k
  · subst e
    have e1 : absG (x :: L) x.k = some (putT (talOf (ofK L x.k)) x) := by
      unfold absG
      rw [ofK_same]
      exact if_neg (by simp)
    have e0 : (absG L x.k).getD τ0 = talOf (ofK L x.k) := by
      unfold absG
      by_cases h : ofK L x.k = []
      · rw [if_pos h, h]; rfl
      · rw [if_neg h]; rfl
    unfold putG
    rw [setG_same, e1, e0]
  · unfold putG
    rw [setG_other _ _ e]
    unfold absG
    rw [ofK_other x L e]
theorem abs_has {L : List O} {x : O} (h : x ∈ L) : absG L x.k = some (talOf (ofK L x.k)) := by
  unfold absG
  rw [if_neg (List.ne_nil_of_mem (ofK_mem.2 h))]
theorem abs_yes {L : List O} {x : O} (h : x ∈ L) : yesG x (talOf (ofK L x.k)) := fun hr => tal_right (ofK_mem.2 h) hr
theorem abs_take {L : List O} {x : O} (h : x ∈ L) : Geq (takeG (absG L) x (talOf (ofK L x.k))) (absG (L.erase x)) := fun k => by
  have hp := ofK_perm (List.perm_cons_erase h) k
  by_cases e : k = x.k
  · subst e
    rw [ofK_same] at hp
    unfold takeG
    rw [setG_same]
    have hlen := hp.length_eq
    simp only [List.length_cons] at hlen
    by_cases h1 : (talOf (ofK L x.k)).c = 1
    · rw [if_pos h1]
      rw [tal_count] at h1
      refine .inl ⟨rfl, ?_⟩
      unfold absG
      rw [if_pos (List.eq_nil_of_length_eq_zero (by omega))]
    · rw [if_neg h1]
      rw [tal_count] at h1
      refine .inr ⟨_, talOf (ofK (L.erase x) x.k), rfl, ?_, ?_⟩
      · unfold absG
        rw [if_neg (fun e => by rw [e] at hlen; simp at hlen; omega)]
      · exact ((tal_perm hp).take x).trans (take_put _ x)
  · rw [ofK_other x _ e] at hp
    unfold takeG
    rw [setG_other _ _ e]
    unfold absG
    by_cases h0 : ofK L k = []
    · have h0' : ofK (L.erase x) k = [] := by rw [h0] at hp; exact hp.symm.eq_nil
      exact .inl ⟨if_pos h0, if_pos h0'⟩
    · have h0' : ofK (L.erase x) k ≠ [] := fun e2 => h0 (by rw [e2] at hp; exact hp.eq_nil)
      exact .inr ⟨_, _, if_neg h0, if_neg h0', tal_perm hp⟩
theorem TalAt.same {w : World} {t r m : Nat} {τ τ' : Tl} (h : TalAt w t r m τ) (e : Teq τ τ') : TalAt w t r m τ' := by
  obtain ⟨n, D, h1, h2, h3⟩ := h.own
  refine ⟨by rw [← e.c, ← e.s]; exact h.blk, ⟨n, D, h1, h2, h3.perm e.R⟩, by rw [← e.c]; exact h.lo, by rw [← e.c]; exact h.hi, by rw [← e.R.length_eq]; exact h.len⟩
theorem Geq.back {G G' : Int → Option Tl} (e : Geq G G') {k : Int} {τ' : Tl} (h : G' k = some τ') : ∃ τ, G k = some τ ∧ Teq τ τ' := by
  rcases e k with ⟨_, h2⟩ | ⟨τ, τ2, h1, h2, h3⟩
  · rw [h2] at h; cases h
  · rw [h2] at h; cases h; exact ⟨τ, h1, h3⟩
theorem Geq.on {G G' : Int → Option Tl} (e : Geq G G') {k : Int} {τ : Tl} (h : G k = some τ) : ∃ τ', G' k = some τ' ∧ Teq τ τ' := by
  rcases e k with ⟨h1, _⟩ | ⟨τ1, τ2, h1, h2, h3⟩
  · rw [h1] at h; cases h
  · rw [h1] at h; cases h; exact ⟨τ2, h2, h3⟩
theorem GMap.same {w : World} {b bm m n : Nat} {tal : Int → Nat × Nat} {G G' : Int → Option Tl} {D : DataW Value} (h : GMap w b bm tal m G n D) (e : Geq G G') : GMap w b bm tal m G' n D := by
  refine ⟨h.le, h.own, ⟨h.dat.isMap, fun k hk => ?_, fun k τ hk => ?_, fun l hl => ?_, fun k τ hk => ?_⟩, fun k τ hk => ?_, h.bmb, fun k τ hk => ?_, fun k k' τ τ' hk hk' hne => ?_⟩
  · rw [h.dat.has k hk]
    rcases e k with ⟨h1, h2⟩ | ⟨τ, τ2, h1, h2, _⟩ <;> rw [h1, h2] <;> rfl
  · obtain ⟨τ1, h1, _⟩ := e.back hk; exact h.dat.at_ k τ1 h1
  · obtain ⟨k, τ, e1, h1⟩ := h.dat.keys l hl
    obtain ⟨τ', h2, _⟩ := e.on h1
    exact ⟨k, τ', e1, h2⟩
  · obtain ⟨τ1, h1, _⟩ := e.back hk; exact h.dat.wf k τ1 h1
  · obtain ⟨τ1, h1, h2⟩ := e.back hk; exact (h.tals k τ1 h1).same h2
  · obtain ⟨τ1, h1, _⟩ := e.back hk; exact h.nb k τ1 h1
  · obtain ⟨τ1, h1, _⟩ := e.back hk
    obtain ⟨τ2, h2, _⟩ := e.back hk'
    exact h.inj k k' τ1 τ2 h1 h2 hne
theorem Grp.same {w : World} {b o m : Nat} {S : Nat → Prop} {G G' : Int → Option Tl} (h : Grp w b o m S G) (e : Geq G G') : Grp w b o m S G' := by
  obtain ⟨om, tal, h1, h2, h3⟩ := h
  refine ⟨om, tal, ⟨h1.blk, ?_⟩, fun j hj => h2 j ?_, h3⟩
  · rcases h1.map with ⟨rfl, rfl⟩ | ⟨bm, n, D, rfl, hM⟩
    · refine .inl ⟨rfl, ?_⟩
      funext k
      rcases e k with ⟨_, h⟩ | ⟨_, _, h, _⟩
      · exact h
      · cases h
    · exact .inr ⟨bm, n, D, rfl, hM.same e⟩
  · rcases hj with h | h | ⟨k, τ, hk, h⟩
    · exact .inl h
    · exact .inr (.inl h)
    · obtain ⟨τ1, h1, _⟩ := e.back hk
      exact .inr (.inr ⟨k, τ1, h1, h⟩)
theorem keys_eq {ks ks' : List Int} {G G' : Int → Option Tl} (e : Geq G G') (h1 : ks.Pairwise (fun x y => x < y)) (h2 : ks'.Pairwise (fun x y => x < y)) (m1 : ∀ k, k ∈ ks ↔ (G k).isSome = true) (m2 : ∀ k, k ∈ ks' ↔ (G' k).isSome = true) : ks = ks' := by
  have hm : ∀ k, k ∈ ks ↔ k ∈ ks' := fun k => by
    rw [m1, m2]
    rcases e k with ⟨h1, h2⟩ | ⟨τ, τ', h1, h2, _⟩ <;> rw [h1, h2]
    simp
  have n1 : ks.Nodup := h1.imp fun h => by omega
  have n2 : ks'.Nodup := h2.imp fun h => by omega
  refine List.Perm.eq_of_pairwise (le := fun a b => a < b) (fun a b _ _ h3 h4 => by omega) h1 h2 ((List.perm_ext_iff_of_nodup n1 n2).2 hm)
theorem gapplyL_put (b o m : Nat) (S : Nat → Prop) (L : List O) (w : World) (h : Grp w b o m S (absG L)) (x : O) (hx : x.wf) (hm : m < 100000000) :
    Calls Tryz.prog 108 #[.pointer (some ⟨b, o, none⟩), gvC x false] w fun e w' => e = .returned .nilIface ∧ Grp w' b o (m + 1) (More S w w') (absG (x :: L)) ∧ Turn S b o w w' :=
  (gapply_put b o m S (absG L) w h x hx hm).mono fun _ _ ⟨h1, h2, h3⟩ => ⟨h1, by rw [← abs_put]; exact h2, h3⟩
theorem gapplyL_take (b o m : Nat) (S : Nat → Prop) (L : List O) (w : World) (h : Grp w b o m S (absG L)) (x : O) (hx : x.wf) (hL : x ∈ L) (hm : m < 100000000) :
    Calls Tryz.prog 108 #[.pointer (some ⟨b, o, none⟩), gvC x true] w fun e w' => e = .returned .nilIface ∧ Grp w' b o (m + 1) (More S w w') (absG (L.erase x)) ∧ Turn S b o w w' :=
  (gapply_take b o m S (absG L) w h x hx _ (abs_has hL) (abs_yes hL) hm).mono fun _ _ ⟨h1, h2, h3⟩ => ⟨h1, h2.same (abs_take hL), h3⟩
end Go.Proofs.YthfpipieboophaaGreatDoor
