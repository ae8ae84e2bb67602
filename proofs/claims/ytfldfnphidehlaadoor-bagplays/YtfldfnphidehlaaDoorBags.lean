/- slices.AppendSeq, slices.Collect over maps.Keys of a bag's map. -/
import Derived.Test.YtfldfnphidehlaaDoorBagk
import Derived.RangeFuncBox
import Derived.Maps.AppendAt
import Derived.Deep.AppendLies
namespace Go.Proofs.YtfldfnphidehlaaDoor
open Go.RowKit Go.Maps Go.Sort Go.Shelf
set_option maxRecDepth 100000

attribute [local go_sem] Oper.semAt_some

def zO : Value := .agg #[.int .i64 0, .int .i64 0, .int .i64 0, .int .i64 0, .int .i64 0, .int .i64 0, .int .i64 0, .bool false, .bool false]
theorem info27 : (Tryd.prog.info? 37).map (fun i => (i.zero, i.size, i.bytes)) = some (some zO, 9, 64) := by kernel_rfl

theorem encO_len (x : O) : (encO x).length = 9 := rfl
theorem flat_len (xs : List O) : (xs.flatMap encO).length = xs.length * 9 := by
  induction xs with
  | nil => rfl
  | cons a r ih => rw [List.flatMap_cons, List.length_append, ih, encO_len, List.length_cons]; omega
theorem enc_one (x : O) : ∀ u ∈ encO x, u.oneCell' = true := by
  intro u hu; simp [encO] at hu; rcases hu with rfl | rfl | rfl | rfl | rfl | rfl | rfl | rfl | rfl <;> rfl

/-- Block B holds an Out. -/
def OutAt (W : World) (B : Nat) (x : O) : Prop := W.heap[B]? = some (.cells (encO x).toArray 37 (0, 0))
theorem OutAt.cells {W : World} {B : Nat} {x : O} (h : OutAt W B x) : W.cell? ⟨B, 0, none⟩ = some (.int .i64 x.k) ∧ W.cell? ⟨B, 1, none⟩ = some (.int .i64 x.lk) ∧ W.cell? ⟨B, 2, none⟩ = some (.int .i64 x.lt) ∧ W.cell? ⟨B, 3, none⟩ = some (.int .i64 x.lv) ∧ W.cell? ⟨B, 4, none⟩ = some (.int .i64 x.rk) ∧ W.cell? ⟨B, 5, none⟩ = some (.int .i64 x.rt) ∧ W.cell? ⟨B, 6, none⟩ = some (.int .i64 x.rv) ∧ W.cell? ⟨B, 7, none⟩ = some (.bool x.hl) ∧ W.cell? ⟨B, 8, none⟩ = some (.bool x.hr) := by
  have h' : W.heap[B]? = some (.cells (encO x).toArray 37 (0, 0)) := h
  refine ⟨?_, ?_, ?_, ?_, ?_, ?_, ?_, ?_, ?_⟩ <;> (rw [Go.Joins.cell_of_block h']; rfl)

set_option maxRecDepth 100000 in
set_option maxHeartbeats 4000000 in
theorem appendSeq_in (F : Fence) (n : Nat) (h43 : F.fn 46) (h42 : F.fn 32) (hro : F.round = none) (hn : 3 ≤ n) (Bm N : Nat) (S : List O → Prop) (w : World) (hN : N ≤ 100000000)
    (hseq : SeqStops F (n - 1) Tryd.prog 32 #[.pointer (some ⟨Bm, 0, none⟩)] vO S (fun _ => True) N w) :
    CallsIn F n Tryd.prog 46 #[.slice none 0 0, .func (.func 32) #[] #[.pointer (some ⟨Bm, 0, none⟩)]] w fun e W' => ∃ v xs, e = .returned v ∧ S xs ∧ W'.ownsRow w.heap.size 37 9 v xs.length (xs.flatMap encO) ∧ (v = .slice none 0 0 ↔ xs = []) ∧ Below w.heap.size w W' := by
  have h1 : 1 ≤ n := by omega
  obtain ⟨i0, hi, hz0, hz1, hz2⟩ := info_parts info27
  refine callsIn_of_wp_marks Tryd.func46 rfl h43 ?_ hro
  simp only [Tryd.ntmps46, List.size_toArray, List.length_cons, List.length_nil, Nat.reduceAdd, Nat.reduceSub, Array.replicate_succ, Array.replicate_zero, List.push_toArray, List.append_toArray, List.nil_append, List.cons_append]
  gi_wp2
  have bO := Boxed.new w 27 (.slice none 0 0)
  have hB0 : Below w.heap.size w (w.alloc (.cells #[.slice none 0 0] 27)) := (Below.refl _ w).alloc (Nat.le_refl _) _
  refine wpIn_rangeFunc_ownH hro h1 (gf := 32) (lb := #[.pointer (some ⟨Bm, 0, none⟩)]) rfl h42 (enters_of Tryd.func32 (by kernel_rfl) rfl)
    hseq walksK_t walksK_b hB0 (fun _ => rfl)
    (fun pre W => (∃ v, Boxed W w.heap.size 27 v ∧ W.ownsRow w.heap.size 37 9 v pre.length (pre.flatMap encO) ∧ (v = .slice none 0 0 ↔ pre = [])) ∧ Below w.heap.size w W)
    (fun _ _ _ => False)
    (OwnFrom.and (Own.from (holdsRow_own w.heap.size w.heap.size 27 37 9 (fun pre => pre.length) (fun pre => pre.flatMap encO) (fun pre v => v = .slice none 0 0 ↔ pre = [])) _) (ownFrom_below (Nat.le_refl _) (by simp)))
    (fun _ _ _ _ _ hs _ _ => hs)
    ⟨⟨_, bO, World.ownsRow_nil _ _ _ _, by simp⟩, hB0⟩
    (fun x a' W => ∃ Bx, w.heap.size < Bx ∧ OutAt W Bx x ∧ a' = { tmps := #[.slice none 0 0, .func (.func 32) #[] #[.pointer (some ⟨Bm, 0, none⟩)], .pointer (some ⟨w.heap.size, 0, none⟩), undef, .slice none 0 0, .pointer (some ⟨Bx, 0, none⟩), .func (.func 32) #[] #[.pointer (some ⟨Bm, 0, none⟩)], vO x, undef, undef, undef, undef, undef], defers := [] })
    (fun x a' _ X Y row hs hg hr => by
      obtain ⟨Bx, h1, h2, h3⟩ := hs
      have h2' : X.heap[Bx]? = some (.cells (encO x).toArray 37 (0, 0)) := h2
      refine ⟨Bx, h1, (hg.block Bx (Array.getElem?_eq_some_iff.1 h2').1 (fun e => ?_)).trans h2', h3⟩
      obtain ⟨o, ho, hc⟩ := (hr Bx e.symm).2
      rw [h2'] at ho; cases ho; cases hc)
    ?assign ?body ?done ?stop
  case assign =>
    rintro l pre x W K ⟨⟨v, hv, hrow, hnil⟩, hB⟩ hK
    simp only [vO] at *
    gi_wp2
    exact hK _ _ ((KeepsOthers.alloc _ _).from _) (KeepsWalks.alloc _ _) ⟨⟨v, hv.alloc _, hrow.alloc _, hnil⟩, hB.alloc hB.size _⟩ ⟨W.heap.size, hv.lt, World.alloc_heap_new W _, rfl⟩
  case body =>
    rintro l pre x a' W hl ⟨r, hr⟩ ⟨⟨v, hv, hrow, hnil⟩, hB⟩ ⟨Bx, hBx, bX, rfl⟩ hlt
    have hc := hv.cell
    have hcx := bX.cells
    gi_wp2_with (gi_at_builtin; refine wpListIn_append_own _ rfl _ _ 27 rfl w.heap.size 37 i0 zO 9 64 Tryd.underlying27 hi hz0 hz1 hz2 rfl (by decide) _ _ _ rfl (hrow.alloc _) ⟨W.heap.size, 0, none⟩ 1 1 (encO x) rfl rfl (World.news_of_block (heap_alloc_new W _)) (enc_one x) (by unfold maxLen; omega) (by omega) (by have := hB.size; simp; omega) ?_; intro v' w1 hown' hgrow _; obtain ⟨g', cap', rfl⟩ := ownsRow_succ hown'; obtain ⟨hv1, hv2, hr2, hk2, hb2⟩ := hv.appended (by decide) hrow hB.size (Nat.le_refl _) hown' hgrow; have hc1 := hv1.cell; have hf1 := hv1.frozen)
    have hr3 : (w1.setCell ⟨w.heap.size, 0, none⟩ (.slice (some ⟨g', 0, none⟩) (pre.length + 1) cap')).ownsRow w.heap.size 37 9 (.slice (some ⟨g', 0, none⟩) (pre.length + 1) cap') (pre ++ [x]).length ((pre ++ [x]).flatMap encO) := by
      simpa [List.flatMap_append] using hr2
    exact ⟨hk2.from _, hk2.walks, ⟨_, hv2, hr3, by simp⟩, hB.trans hb2⟩
  case done =>
    rintro D ys W hD hS ⟨⟨v, hv, hrow, hnil⟩, hB⟩ hK
    have hc := hv.cell
    gi_wp2
    refine ⟨by simp, .inl ⟨_, _, rfl, run_takeDeferred hK, ?_⟩⟩
    exact ⟨_, results_tmp rfl _ _ _, v, ys, rfl, hS, ownsRow_putObj hrow _ hK rfl, hnil, hB.trans (belowK_b (w := w) (Nat.le_refl _) W D _ _ (by simp at hD; omega) hK rfl rfl)⟩
  case stop =>
    rintro D c pre W _ _ h _
    exact h.elim

set_option maxHeartbeats 1000000 in
theorem collect_in (F : Fence) (n : Nat) (h40 : F.fn 30) (h43 : F.fn 46) (h42 : F.fn 32) (hro : F.round = none) (hn : 4 ≤ n) (Bm N : Nat) (S : List O → Prop) (w : World) (hN : N ≤ 100000000)
    (hseq : SeqStops F (n - 1 - 1) Tryd.prog 32 #[.pointer (some ⟨Bm, 0, none⟩)] vO S (fun _ => True) N w) :
    CallsIn F n Tryd.prog 30 #[.func (.func 32) #[] #[.pointer (some ⟨Bm, 0, none⟩)]] w fun e W' => ∃ v xs, e = .returned v ∧ S xs ∧ W'.ownsRow w.heap.size 37 9 v xs.length (xs.flatMap encO) ∧ (v = .slice none 0 0 ↔ xs = []) ∧ Below w.heap.size w W' := by
  have h1 : 1 ≤ n := by omega
  refine callsIn_of_wp Tryd.func30 rfl h40 ?_ hro
  simp only [Tryd.ntmps30, List.size_toArray, List.length_cons, List.length_nil, Nat.reduceAdd, Nat.reduceSub, Array.replicate_succ, Array.replicate_zero, List.push_toArray, List.append_toArray, List.nil_append, List.cons_append]
  gi_wp2_with (gi_at_call 46; refine (appendSeq_in F (n - 1) h43 h42 hro (by omega) Bm N S w hN hseq).mono ?_; rintro e w' ⟨v, xs, rfl, hpost⟩)
  go_ret
  exact ⟨v, xs, rfl, hpost⟩

/-- .. over a bag's keys, as a plain call. -/
theorem collect_keys (Bm b nn : Nat) (D0 : DataW Unit) (L : List O) (hc : Cnt D0 L) (w : World) (hBm : Bm < w.heap.size) (hnn : nn ≤ 100000000)
    (hm : w.cell? ⟨Bm, 0, none⟩ = some (.map (some b))) (hown : w.ownsMap Tryd.prog 37 (plainElem (H := Unit) Tryd.prog 3) b nn D0) :
    Calls Tryd.prog 30 #[.func (.func 32) #[] #[.pointer (some ⟨Bm, 0, none⟩)]] w fun e W' => ∃ v xs, e = .returned v ∧ (xs.Nodup ∧ ∀ x, x ∈ xs ↔ x ∈ L) ∧ W'.ownsRow w.heap.size 37 9 v xs.length (xs.flatMap encO) ∧ (v = .slice none 0 0 ↔ xs = []) ∧ Below w.heap.size w W' :=
  (callsIn_wide (n := 4)).1 (collect_in Fence.wide 4 trivial trivial trivial rfl (by omega) Bm (Maps.size D0) _ w (Nat.le_trans hown.size_le hnn) (keys_stops Fence.wide _ trivial rfl (by omega) Bm b nn D0 L hc w hBm hm hown))

set_option maxRecDepth 100000 in
set_option maxHeartbeats 1000000 in
theorem keys1_nil (F : Fence) (n : Nat) (h42 : F.fn 32) (hro : F.round = none) (l Bm : Nat) (J : List O → World → Prop) (W : World) (hJ : AbidesFrom W.heap.size J)
    (hm : W.cell? ⟨Bm, 0, none⟩ = some (.map none)) (h0 : J [] W) :
    CallsIn F n Tryd.prog 32 #[.func (.yield l) #[] #[], .pointer (some ⟨Bm, 0, none⟩)] W fun e W' => (∃ v, e = .returned v) ∧ J [] W' := by
  refine callsIn_of_wp Tryd.func32 rfl h42 ?_ hro
  simp only [Tryd.ntmps32, List.size_toArray, List.length_cons, List.length_nil, Nat.reduceAdd, Nat.reduceSub, Array.replicate_succ, Array.replicate_zero, List.push_toArray, List.append_toArray, List.nil_append, List.cons_append]
  have hrg := run_range_nilMap (P := Tryd.prog) W 23 37 3 Tryd.underlying23
  have hnx : ∀ ty, (Instr.next (.pointer (some ⟨W.heap.size, 0, none⟩)) false ty).run Tryd.prog (W.alloc (.mapIter none 0 #[] 0)) = _ := fun ty => run_next_nilMap _ ty 0 0 #[]
  gi_wp2
  refine wpIn_loop_rounds 1 ?_
  rw [roundsIn_succ]
  gi_wp2
  go_end0
  exact ⟨⟨_, rfl⟩, hJ [] W _ none h0 (World.grownBy_alloc W _ none) (fun r e => by cases e)⟩

theorem keys_stops_nil (F : Fence) (n : Nat) (h42 : F.fn 32) (hro : F.round = none) (Bm : Nat) (w : World) (hBm : Bm < w.heap.size) (hm : w.cell? ⟨Bm, 0, none⟩ = some (.map none)) :
    SeqStops F n Tryd.prog 32 #[.pointer (some ⟨Bm, 0, none⟩)] vO (fun xs : List O => xs = []) (fun _ => True) 0 w := fun l J _ W hW hJ _ _ h0 =>
  (keys1_nil F n h42 hro l Bm J W hJ ((hW.cell (p := ⟨Bm, 0, none⟩) hBm).trans hm) h0).mono fun _ _ ⟨he, hj⟩ => ⟨he, .inl ⟨[], rfl, hj⟩⟩

/-- slices.Collect(maps.Keys(b.many)), at whatever bag. -/
theorem collect_bag (Bm b m : Nat) (om : Option Nat) (L : List O) (w : World) (h : BagAt w b om m L) (hBm : Bm < w.heap.size) (hmm : m ≤ 100000000) (hm : w.cell? ⟨Bm, 0, none⟩ = some (.map om)) :
    Calls Tryd.prog 30 #[.func (.func 32) #[] #[.pointer (some ⟨Bm, 0, none⟩)]] w fun e W' => ∃ v xs, e = .returned v ∧ (xs.Nodup ∧ ∀ x, x ∈ xs ↔ x ∈ L) ∧ W'.ownsRow w.heap.size 37 9 v xs.length (xs.flatMap encO) ∧ (v = .slice none 0 0 ↔ xs = []) ∧ Below w.heap.size w W' := by
  rcases h.map with ⟨rfl, rfl⟩ | ⟨bm, n, D, rfl, hn, hown, hc⟩
  · refine ((callsIn_wide (n := 4)).1 (collect_in Fence.wide 4 trivial trivial trivial rfl (by omega) Bm 0 _ w (by omega) (keys_stops_nil Fence.wide _ trivial rfl Bm w hBm hm))).mono ?_
    rintro e w' ⟨v, xs, he, rfl, hrest⟩
    exact ⟨v, [], he, ⟨List.nodup_nil, by simp⟩, hrest⟩
  · exact collect_keys Bm bm n D L hc w hBm (by omega) hm hown

end Go.Proofs.YtfldfnphidehlaaDoor
