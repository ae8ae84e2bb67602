/- GroupBack's ground: pick, summed; rotations; two Groups in memory. -/
import Derived.Test.YtgffodmipbefpaaGza
namespace Go.Proofs.Ytgffodmipbefpaa
open Go.Shelf Go.RowKit Go.Lib Go.Sort
set_option maxRecDepth 100000

/-- A number below n. -/
def pickN (a : Int) (n : Nat) : Nat := ((IntKind.u64.wrap a).tmod n).toNat
theorem wrap_nonneg (a : Int) : 0 ≤ IntKind.u64.wrap a := by simp [IntKind.wrap, IntKind.bits, IntKind.signed]; omega
theorem pickN_lt (a : Int) (n : Nat) (hn : 0 < n) : pickN a n < n ∧ ((pickN a n : Nat) : Int) = (IntKind.u64.wrap a).tmod n := by
  have h0 := wrap_nonneg a
  unfold pickN
  rw [Int.tmod_eq_emod_of_nonneg h0]
  have h1 := Int.emod_nonneg (IntKind.u64.wrap a) (b := (n : Int)) (by omega)
  have h2 := Int.emod_lt_of_pos (IntKind.u64.wrap a) (b := (n : Int)) (by omega)
  omega
theorem pick_any (a : Int) (n : Nat) (w : World) (hn : 0 < n) (h60 : n ≤ 60) : Calls Try.prog 22 #[.int .i64 a, .int .i64 n] w fun e w' => e = .returned (.int .i64 (pickN a n)) ∧ w' = w := by
  obtain ⟨h1, h2⟩ := pickN_lt a n hn
  have h3 : wrap64 ((IntKind.u64.wrap a).tmod n) = (pickN a n : Int) := by rw [← h2]; unfold wrap64; omega
  clear h2
  go_enter Try.func22, Try.ntmps22
  go_wp2
  go_ret
  exact ⟨ret_int h3, rfl⟩

/-- Groups in the call's own memory. -/
structure GMine (w : World) (b m : Nat) (S : Nat → Prop) (L : List O) (W : World) : Prop where
  grp : Grp W b 0 m S (absG L)
  below : Below w.heap.size w W
  base : ∀ j, S j → w.heap.size ≤ j
theorem GMine.go {w W W' : World} {b m m' : Nat} {S : Nat → Prop} {L L' : List O} (h : GMine w b m S L W) (hg : Grp W' b 0 m' (More S W W') (absG L')) (ht : Turn S b 0 W W') : GMine w b m' (More S W W') L' W' :=
  ⟨hg, h.below.trans (ht.below h.below.size h.base), fun j hj => by
    rcases hj with hj | hj
    · exact h.base j hj
    · have := h.below.size; omega⟩
theorem GMine.by_below {w W W' : World} {b m : Nat} {S : Nat → Prop} {L : List O} (h : GMine w b m S L W) (hb : Below W.heap.size W W') : GMine w b m S L W' :=
  ⟨h.grp.below hb, h.below.trans (hb.mono h.below.size), h.base⟩

/-- Two Groups in the call's own memory, apart. -/
structure GDuo (w : World) (ba bb ma mb : Nat) (Sa Sb : Nat → Prop) (La Lb : List O) (W : World) : Prop where
  a : GMine w ba ma Sa La W
  b : GMine w bb mb Sb Lb W
  apart : ∀ j, Sa j → ¬ Sb j
theorem Grp.lt {w : World} {b o m : Nat} {S : Nat → Prop} {G : Int → Option Tl} (h : Grp w b o m S G) : ∀ j, S j → j < w.heap.size := by obtain ⟨_, _, _, _, h3⟩ := h; exact h3
theorem GDuo.stepA {w W W' : World} {ba bb ma mb ma' : Nat} {Sa Sb : Nat → Prop} {La Lb La' : List O} (h : GDuo w ba bb ma mb Sa Sb La Lb W) (hg : Grp W' ba 0 ma' (More Sa W W') (absG La')) (ht : Turn Sa ba 0 W W') : GDuo w ba bb ma' mb (More Sa W W') Sb La' Lb W' := by
  have hA := h.a.go hg ht
  refine ⟨hA, ⟨h.b.grp.kept ht.size fun j hj => ht.block j (h.b.grp.lt j hj) (fun e => h.apart j e hj), hA.below, h.b.base⟩, fun j hj hb => ?_⟩
  rcases hj with hj | hj
  · exact h.apart j hj hb
  · have := h.b.grp.lt j hb; omega
theorem GDuo.swap {w W : World} {ba bb ma mb : Nat} {Sa Sb : Nat → Prop} {La Lb : List O} (h : GDuo w ba bb ma mb Sa Sb La Lb W) : GDuo w bb ba mb ma Sb Sa Lb La W := ⟨h.b, h.a, fun j e1 e2 => h.apart j e2 e1⟩
theorem GDuo.stepB {w W W' : World} {ba bb ma mb mb' : Nat} {Sa Sb : Nat → Prop} {La Lb Lb' : List O} (h : GDuo w ba bb ma mb Sa Sb La Lb W) (hg : Grp W' bb 0 mb' (More Sb W W') (absG Lb')) (ht : Turn Sb bb 0 W W') : GDuo w ba bb ma mb' Sa (More Sb W W') La Lb' W' := (h.swap.stepA hg ht).swap
theorem GDuo.by_below {w W W' : World} {ba bb ma mb : Nat} {Sa Sb : Nat → Prop} {La Lb : List O} (h : GDuo w ba bb ma mb Sa Sb La Lb W) (hb : Below W.heap.size W W') : GDuo w ba bb ma mb Sa Sb La Lb W' := ⟨h.a.by_below hb, h.b.by_below hb, h.apart⟩

theorem mod_at {n p j : Nat} (hp : p < n) (hj : j < n) : (j + p) % n = if j + p < n then j + p else j + p - n := by
  split
  · rename_i h; exact Nat.mod_eq_of_lt h
  · rename_i h
    rw [Nat.mod_eq_sub_mod (by omega), Nat.mod_eq_of_lt (by omega)]
theorem rot_range (n p : Nat) (hp : p < n) : ((List.range n).map fun j => (j + p) % n).Perm (List.range n) := by
  refine (List.perm_ext_iff_of_nodup ?_ List.nodup_range).2 fun x => ?_
  · rw [List.Nodup, List.pairwise_map]
    refine List.Pairwise.imp_of_mem (fun {a b} ha hb hne e => ?_) (List.nodup_range (n := n))
    rw [List.mem_range] at ha hb
    rw [mod_at hp ha, mod_at hp hb] at e
    apply hne
    split at e <;> split at e <;> omega
  · rw [List.mem_map, List.mem_range]
    constructor
    · rintro ⟨a, ha, rfl⟩; exact Nat.mod_lt _ (by omega)
    · intro hx
      by_cases h : p ≤ x
      · exact ⟨x - p, by rw [List.mem_range]; omega, by rw [mod_at hp (by omega)]; split <;> omega⟩
      · exact ⟨x + n - p, by rw [List.mem_range]; omega, by rw [mod_at hp (by omega)]; split <;> omega⟩
theorem rot_perm (n p : Nat) (S : Nat → O) (hp : p < n) : ((List.range n).map fun j => S ((j + p) % n)).Perm ((List.range n).map S) := by
  have := (rot_range n p hp).map S
  rwa [List.map_map] at this

/-- Nine cells at an address: an Out. -/
def Cells9 (W : World) (g o : Nat) (x : O) : Prop := W.cell? ⟨g, o, none⟩ = some (.int .i64 x.k) ∧ W.cell? ⟨g, o + 1, none⟩ = some (.int .i64 x.lk) ∧ W.cell? ⟨g, o + 2, none⟩ = some (.int .i64 x.lt) ∧ W.cell? ⟨g, o + 3, none⟩ = some (.int .i64 x.lv) ∧ W.cell? ⟨g, o + 4, none⟩ = some (.int .i64 x.rk) ∧ W.cell? ⟨g, o + 5, none⟩ = some (.int .i64 x.rt) ∧ W.cell? ⟨g, o + 6, none⟩ = some (.int .i64 x.rv) ∧ W.cell? ⟨g, o + 7, none⟩ = some (.bool x.hl) ∧ W.cell? ⟨g, o + 8, none⟩ = some (.bool x.hr)
theorem Cells9.below {w W : World} {g o : Nat} {x : O} (h : Cells9 w g o x) (hb : Below w.heap.size w W) (hg : g < w.heap.size) : Cells9 W g o x := by
  have key := fun (o : Nat) => hb.cell (p := ⟨g, o, none⟩) hg
  unfold Cells9 at *
  simp only [key]
  exact h

/-- A slice of Outs that came in. -/
def ArgAt (w : World) (oa : Option Addr) (n : Nat) (S : Nat → O) : Prop := 0 < n → ∃ g o, oa = some ⟨g, o, none⟩ ∧ g < w.heap.size ∧ ∀ k, k < n → Cells9 w g (o + k * 9) (S k) ∧ (S k).wf

def y1 : O := ⟨1, 1, 0, 5, 1, 0, 3, true, true⟩
def y2 : O := ⟨1, 0, 0, 0, 1, 0, 8, false, true⟩
theorem y1_wf : y1.wf := ⟨by decide, by decide, by decide, by decide, by decide, by decide, by decide⟩
theorem y2_wf : y2.wf := ⟨by decide, by decide, by decide, by decide, by decide, by decide, by decide⟩
theorem of_two : vOf 1 (absG [y2, y1] 1) = .tuple #[.agg #[.int .i64 1, .int .i64 2, .int .i64 5, .int .i64 3, .int .i64 8, .bool true], .nilIface] := by
  have h : absG [y2, y1] 1 = some ⟨2, wrap64 (0 + 5), [8, 3]⟩ := by
    unfold absG; rw [if_neg (by simp [ofK, y1, y2])]; simp [ofK, y1, y2, talOf, putT]
  rw [h]
  have e : wrap64 (0 + 5) = 5 := by unfold wrap64; omega
  rw [e]
  simp [vOf, vG, lo, hi, some?]
  omega

set_option maxHeartbeats 4000000 in
theorem summed_any (w : World) : Calls Try.prog 25 #[] w fun e w' => e = .returned (.bool true) ∧ Below w.heap.size w w' := by
  go_enter Try.func25, Try.ntmps25
  go_wp2_with fail
  have M1 : GMine w w.heap.size 0 (fun j => j = w.heap.size) [] ((w.alloc (.cells #[.map none] 53)).alloc (.cells (encO y1).toArray 27)) :=
    (GMine.mk (group_new w) (Go.Joins.below_alloc1 _ _) (fun j e => by omega)).by_below (Go.Joins.below_alloc1 _ _)
  refine (gapplyL_put w.heap.size 0 0 _ [] _ M1.grp y1 y1_wf (by omega)).mono ?_
  rintro e w2 ⟨rfl, hg2, ht2⟩
  have M2 := M1.go hg2 ht2
  clear M1 hg2 ht2
  revert M2
  generalize More (fun j => j = w.heap.size) _ w2 = S2
  intro M2
  have HM2 : Hid (GMine w w.heap.size 1 S2 [y1] w2) := M2
  clear M2
  go_wp2_with fail
  refine (gapplyL_put w.heap.size 0 1 S2 [y1] w2 HM2.out.grp y2 y2_wf (by omega)).mono ?_
  rintro e w3 ⟨rfl, hg3, ht3⟩
  have HM3 : Hid (GMine w w.heap.size 2 (More S2 w2 w3) [y2, y1] w3) := HM2.out.go hg3 ht3
  clear hg3 ht3
  go_wp2_with fail
  refine (of_any w.heap.size 0 2 _ _ w3 HM3.out.grp 1 (by decide)).mono ?_
  rintro e w4 ⟨rfl, hb4⟩
  rw [of_two]
  have HB : Hid (Below w.heap.size w w4) := HM3.out.below.trans (hb4.mono HM3.out.below.size)
  clear hb4 HM3 HM2
  go_wp2
  go_ret
  exact ⟨rfl, HB.out.alloc HB.out.size _⟩

end Go.Proofs.Ytgffodmipbefpaa
