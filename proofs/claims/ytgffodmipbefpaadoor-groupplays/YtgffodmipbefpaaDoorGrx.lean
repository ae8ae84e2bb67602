/- Package group: Of; the keys in order; what All needs. -/
import Derived.Test.YtgffodmipbefpaaDoorGrw
import Derived.Test.YtgffodmipbefpaaDoorGrsh
import Derived.Deep.LoopGhost
import Derived.Deep.CutRange
import Derived.Maps.AppendAt
namespace Go.Proofs.YtgffodmipbefpaaDoor
open Go.RowKit Go.Maps Go.Sort Go.Shelf
set_option maxRecDepth 100000

/-- What Of tells of a key. -/
def vOf (k : Int) : Option Tl → Value
  | none => .tuple #[.agg #[.int .i64 0, .int .i64 0, .int .i64 0, .int .i64 0, .int .i64 0, .bool false], .iface 40 (.int .i64 8)]
  | some τ => .tuple #[vG k τ, .nilIface]

set_option maxHeartbeats 2000000 in
theorem of_none (b o m : Nat) (om : Option Nat) (tal : Int → Nat × Nat) (G : Int → Option Tl) (w : World) (h : GAt w b o om tal m G) (k : Int) (hkw : (gi k).wf = true) (hk : G k = none) :
    Calls Tryd.prog 33 #[.pointer (some ⟨b, o, none⟩), .int .i64 k] w fun e w' => e = .returned (vOf k none) ∧ Below w.heap.size w w' := by
  have hcell := h.cell
  have hblt := h.blt
  let z0 : Obj := .cells #[.int .i64 0, .int .i64 0, .int .i64 0, .int .i64 0, .int .i64 0, .bool false] 88
  have hlook : (Instr.lookup 82 (.map om) (.int .i64 k) true).run Tryd.prog (w.alloc z0) = .ok (.tuple #[.pointer none, .bool false]) (w.alloc z0) := by
    rcases h.map with ⟨rfl, rfl⟩ | ⟨bm, n, D, rfl, hM⟩
    · exact gnilLook _ hkw
    · exact hM.look_none (W := w.alloc z0) (Below.heap_alloc w _ bm hM.own.lt) hkw hk
  simp only [z0] at hlook
  clear h hk z0
  go_enter Tryd.func33, Tryd.ntmps33
  go_wp2
  refine bodyPost_ret (v := vOf k none) (by simp [results, Tryd.results33, go_sem, vOf]) rfl ⟨rfl, ?_⟩
  exact Go.Joins.below_alloc1 _ _

set_option maxHeartbeats 2000000 in
theorem of_some (b o bm m n : Nat) (tal : Int → Nat × Nat) (G : Int → Option Tl) (D : DataW Value) (w : World) (hcell : w.cell? ⟨b, o, none⟩ = some (.map (some bm))) (hblt : b < w.heap.size) (h : GMap w b bm tal m G n D) (k : Int) (τ : Tl) (hk : G k = some τ) :
    Calls Tryd.prog 33 #[.pointer (some ⟨b, o, none⟩), .int .i64 k] w fun e w' => e = .returned (vOf k (some τ)) ∧ Below w.heap.size w w' := by
  let z0 : Obj := .cells #[.int .i64 0, .int .i64 0, .int .i64 0, .int .i64 0, .int .i64 0, .bool false] 88
  have hlook := h.look (W := w.alloc z0) (Below.heap_alloc w _ bm h.own.lt) (h.dat.wf k τ hk) hk
  have hT : TalAt (w.alloc z0) (tal k).1 (tal k).2 m τ := (h.tals k τ hk).kept (Below.heap_alloc w _ _ (h.tals k τ hk).lt.1) (Below.heap_alloc w _ _ (h.tals k τ hk).lt.2)
  have hg := group_any _ _ m τ _ hT k
  have HG : Hid (Calls Tryd.prog 60 #[tp (tal k).1, .int .i64 k] (w.alloc z0) fun e w' => e = .returned (vG k τ) ∧ Below (w.alloc z0).heap.size (w.alloc z0) w') := hg
  have hz : (w.alloc z0).heap[w.heap.size]? = some z0 := (MapKept.heap_alloc w z0).1
  have hs : (w.alloc z0).heap.size = w.heap.size + 1 := by simp
  have HB0 : Hid (Below w.heap.size w (w.alloc z0)) := Go.Joins.below_alloc1 _ _
  simp only [z0] at hlook HG hz hs HB0
  clear hg hT h hk z0
  generalize (tal k).1 = t at *
  have HZ : Hid _ := hz
  have HS : Hid _ := hs
  clear hz hs
  go_enter Tryd.func33, Tryd.ntmps33
  go_wp2_with (go_at_call 60; refine Calls.mono (Hid.out HG) ?_; rintro e w' ⟨rfl, hb⟩; have hcz := gl_cells ((hb.block w.heap.size (by rw [HS.out]; omega)).trans HZ.out); have HB : Hid (Below w.heap.size w w') := HB0.out.trans (hb.mono (by rw [HS.out]; omega)); clear hb; simp only [vG])
  refine bodyPost_ret (v := vOf k (some τ)) (by simp [results, Tryd.results33, go_sem, hcz, vOf, vG]) rfl ⟨rfl, ?_⟩
  exact (((((HB.out.setCell (p := ⟨w.heap.size, 0, none⟩) (Nat.le_refl _) _).setCell (p := ⟨w.heap.size, 1, none⟩) (Nat.le_refl _) _).setCell (p := ⟨w.heap.size, 2, none⟩) (Nat.le_refl _) _).setCell (p := ⟨w.heap.size, 3, none⟩) (Nat.le_refl _) _).setCell (p := ⟨w.heap.size, 4, none⟩) (Nat.le_refl _) _).setCell (p := ⟨w.heap.size, 5, none⟩) (Nat.le_refl _) _

theorem of_any (b o m : Nat) (S : Nat → Prop) (G : Int → Option Tl) (w : World) (h : Grp w b o m S G) (k : Int) (hkw : (gi k).wf = true) :
    Calls Tryd.prog 33 #[.pointer (some ⟨b, o, none⟩), .int .i64 k] w fun e w' => e = .returned (vOf k (G k)) ∧ Below w.heap.size w w' := by
  obtain ⟨om, tal, hg, hS, hlt⟩ := h
  cases hk : G k with
  | none => exact of_none b o m om tal G w hg k hkw hk
  | some τ =>
    rcases hg.map with ⟨rfl, rfl⟩ | ⟨bm, n, D, rfl, hM⟩
    · cases hk
    · exact of_some b o bm m n tal G D w hg.cell.1 hg.blt hM k τ hk

/-- The keys of the map's datum. -/
theorem keys_mem {D : DataW Value} {tal : Int → Nat × Nat} {G : Int → Option Tl} {w : World} {bm n : Nat} (hd : GDat D tal G) (hown : w.ownsMap Tryd.prog 3 gR bm n D) :
    (intKeys D).Nodup ∧ ∀ k, k ∈ intKeys D ↔ (G k).isSome = true := by
  obtain ⟨es, rfl, hp, hk⟩ := hown.entries gkeyed
  have hint : ∀ p ∈ es, ∃ k τ, p.1 = gi k ∧ G k = some τ := fun p hp' => by
    obtain ⟨k, τ, e, h⟩ := hd.keys p.1 (List.any_eq_true.2 ⟨p, hp', WideAt.sameKey_self (hk p hp')⟩)
    exact ⟨k, τ, e, h⟩
  refine ⟨?_, fun k => ?_⟩
  · unfold intKeys
    rw [List.Nodup, List.pairwise_map]
    refine List.Pairwise.imp_of_mem ?_ hp
    intro p q h1 h2 hne e
    obtain ⟨k1, _, e1, _⟩ := hint p h1
    obtain ⟨k2, _, e2, _⟩ := hint q h2
    rw [e1, e2] at e hne
    exact hne (by rw [show k1 = k2 from e])
  · unfold intKeys
    rw [List.mem_map]
    constructor
    · rintro ⟨p, hp', e⟩
      obtain ⟨k1, τ, e1, h1⟩ := hint p hp'
      rw [e1] at e
      rw [← show k1 = k from e, h1]; rfl
    · intro h
      obtain ⟨τ, hτ⟩ := Option.isSome_iff_exists.1 h
      have h1 := hd.has k (hd.wf k τ hτ)
      rw [hτ] at h1
      obtain ⟨p, hp', e⟩ := List.any_eq_true.1 h1
      refine ⟨p, hp', ?_⟩
      rw [WideAt.sameKey_eq e]; rfl

theorem Tryd.sortsG (m : Nat) : AnyZI.SortsIn Tryd.prog Tryd.sortedG_ren Fence.wide m :=
  ⟨fun blk off cap ss W hH hblk hsz => callsIn_wide.2 (AnyM.slices_Sort_int Tryd.sortG blk off cap ss W hH hblk hsz),
   fun p cap W => callsIn_wide.2 (AnyM.slices_Sort_int_none Tryd.sortG p cap W)⟩

theorem gkeys_in (mb : Option Nat) (W : World) : Calls Tryd.prog 62 #[.map mb] W fun e w' => e = .returned (.func (.func 91) #[] #[.pointer (some ⟨W.heap.size, 0, none⟩)]) ∧ w' = W.alloc (.cells #[.map mb] 82) :=
  (callsIn_wide (n := 5)).1 (AnyZI.keys_in Tryd.keysG Fence.wide 5 trivial rfl mb W)

/-- 'slices.Sorted(maps.Keys(g.tallies))'. -/
theorem gsorted_any (Bm b o m : Nat) (om : Option Nat) (tal : Int → Nat × Nat) (G : Int → Option Tl) (W : World) (h : GAt W b o om tal m G) (hm : m ≤ 100000000) (hBm : Bm < W.heap.size) (hc : W.cell? ⟨Bm, 0, none⟩ = some (.map om)) :
    Calls Tryd.prog 61 #[.func (.func 91) #[] #[.pointer (some ⟨Bm, 0, none⟩)]] W fun e W' => ∃ (v : Value) (ks : List Int), e = .returned v ∧ ks.Pairwise (fun x y => x < y) ∧ (∀ k, k ∈ ks ↔ (G k).isSome = true) ∧ ks.length ≤ m ∧ W'.ownsRow W.heap.size 3 1 v ks.length (ks.map encZ) ∧ Below W.heap.size W W' := by
  rcases h.map with ⟨rfl, rfl⟩ | ⟨bm, n, D, rfl, hM⟩
  · have hseq : SeqGives Fence.wide 2 Tryd.prog 91 #[.pointer (some ⟨Bm, 0, none⟩)] encZ (fun ss : List Int => ss = []) 0 W :=
      AnyZI.keys_gives_nil (ρ := Tryd.keysG_ren) { Tryd.keysG with } Fence.wide _ trivial rfl Bm W hBm hc
    have cS := AnyZI.sorted_in Tryd.sortedG Fence.wide 5 trivial trivial trivial trivial rfl (by omega) (Tryd.sortsG _) (enters_of Tryd.func90 (by kernel_rfl) rfl) 91 #[.pointer (some ⟨Bm, 0, none⟩)] trivial (enters_of Tryd.func91 (by kernel_rfl) rfl) _ 0 (Nat.zero_le _) (by omega) W hseq
    refine ((callsIn_wide (n := 5)).1 cS).mono ?_
    rintro e w' ⟨v, ss, rfl, rfl, hrow, hnil, hb⟩
    exact ⟨v, [], rfl, List.Pairwise.nil, fun k => by simp, by simp, by have h2 : w'.ownsRow W.heap.size 3 1 v 0 (([].mergeSort (fun x y => decide (x ≤ y))).map encZ) := hrow; simpa using h2, hb⟩
  · have hle := hM.own.size_le
    have hnm := hM.le
    have hseq : SeqGives Fence.wide 2 Tryd.prog 91 #[.pointer (some ⟨Bm, 0, none⟩)] encZ (fun ss => ss.Perm (intKeys D)) (Maps.size D) W :=
      AnyZI.keys_gives (ρ := Tryd.keysG_ren) { Tryd.keysG with } Fence.wide _ trivial rfl (by omega) Bm bm n D W hBm hc hM.own
    have cS := AnyZI.sorted_in Tryd.sortedG Fence.wide 5 trivial trivial trivial trivial rfl (by omega) (Tryd.sortsG _) (enters_of Tryd.func90 (by kernel_rfl) rfl) 91 #[.pointer (some ⟨Bm, 0, none⟩)] trivial (enters_of Tryd.func91 (by kernel_rfl) rfl) _ (Maps.size D) (by unfold maxLen; omega) (by omega) W hseq
    refine ((callsIn_wide (n := 5)).1 cS).mono ?_
    rintro e w' ⟨v, ss, rfl, hp, hrow, hnil, hb⟩
    obtain ⟨hnd, hmem⟩ := keys_mem hM.dat hM.own
    have hps : (ss.mergeSort (fun x y => decide (x ≤ y))).Perm ss := List.mergeSort_perm ss _
    have hso : (ss.mergeSort (fun x y => decide (x ≤ y))).Pairwise (fun x y => decide (x ≤ y) = true) := List.pairwise_mergeSort (fun a b c h1 h2 => by simp at *; omega) (fun a b => by simp; omega) ss
    have hnd2 : (ss.mergeSort (fun x y => decide (x ≤ y))).Nodup := (hps.trans hp).nodup_iff.2 hnd
    have hlen : (ss.mergeSort (fun x y => decide (x ≤ y))).length = ss.length := hps.length_eq
    have hsz : (intKeys D).length ≤ n := by
      obtain ⟨es, rfl, _, _⟩ := hM.own.entries gkeyed
      simpa [intKeys, Maps.size] using hle
    refine ⟨v, _, rfl, ?_, fun k => by rw [(hps.trans hp).mem_iff]; exact hmem k, by rw [hlen, hp.length_eq]; omega, by rw [hlen]; exact hrow, hb⟩
    refine (hso.and hnd2).imp fun {x y} h => ?_
    have h1 : x ≤ y := by simpa using h.1
    have h2 : x ≠ y := h.2
    omega

end Go.Proofs.YtgffodmipbefpaaDoor
