/- Svz: several texts in one. -/
import Derived.Test.YthfpipieboophaaGreatDoorLin
import Derived.Deep.AppendLies
/- What Saved asks: how many, marks, rows; the writer; an Out as a line. -/
namespace Go.Proofs.YthfpipieboophaaGreatDoor
open Go.RowKit Go.Sort Go.Shelf
set_option maxRecDepth 100000
theorem bsize_any (b o m : Nat) (om : Option Nat) (L : List O) (w : World) (h : BagAt w b o om m L) : Calls Tryz.prog 57 #[.pointer (some ⟨b, o, none⟩)] w fun e w' => e = .returned (.int .i64 L.length) ∧ w' = w := by
  have hc := h.cells
  have hlt := h.lt
  clear h
  go_enter Tryz.func57, Tryz.ntmps57
  go_wp2
  go_ret
  exact ⟨rfl, rfl⟩
theorem writer_any (bb : Nat) (w : World) : Calls Tryz.prog 58 #[.pointer (some ⟨bb, 0, none⟩)] w fun e w' => e = .returned (.func (.func 115) #[] #[.pointer (some ⟨w.heap.size, 0, none⟩)]) ∧ w' = w.alloc (.cells #[.pointer (some ⟨bb, 0, none⟩)] 123) := by
  go_enter Tryz.func58, Tryz.ntmps58
  go_wp2
  go_ret
  exact ⟨rfl, rfl⟩
section
variable (be bj bm : Nat) (v0 v1 : Value) (f0 f1 : Int) (om : Option Nat) (Sg : Nat → Prop) (x : J) (L Lg : List O) (w : World)
theorem elate_any (h : EngIn w be bj bm v0 v1 f0 f1 om Sg x L Lg) : Calls Tryz.prog 25 #[.pointer (some ⟨be, 0, none⟩)] w fun e w' => e = .returned (.int .i64 x.late) ∧ w' = w := by
  have H : Hid (Calls Tryz.prog 67 #[.pointer (some ⟨bj, 0, none⟩)] w fun e w' => e = .returned (.int .i64 x.late) ∧ w' = w) := jlate_any 0 bj bm v0 v1 x w h.join
  have hc := h.cells.2.2.2.1
  have hlt := h.blt
  clear h
  go_enter Tryz.func25, Tryz.ntmps25
  go_wp2_with (first
    | (go_at_call 67; refine H.out.mono ?_; rintro e w' ⟨rfl, hw⟩; have hw := hw.symm; subst hw)
    | fail)
  go_ret
  exact ⟨rfl, rfl⟩
theorem emark_any (s : Int) (h : EngIn w be bj bm v0 v1 f0 f1 om Sg x L Lg) : Calls Tryz.prog 20 #[.pointer (some ⟨be, 0, none⟩), .int .i64 s] w fun e w' => e = .returned (.int .i64 (ofI x.m0 x.m1 s)) ∧ w' = w := by
  have H : Hid (Calls Tryz.prog 64 #[.pointer (some ⟨bj, 0, none⟩), .int .i64 s] w fun e w' => e = .returned (.int .i64 (ofI x.m0 x.m1 s)) ∧ w' = w) := jmark_any 0 bj bm v0 v1 x s w h.join
  have hc := h.cells.2.2.2.1
  have hlt := h.blt
  clear h
  go_enter Tryz.func20, Tryz.ntmps20
  go_wp2_with (first
    | (go_at_call 64; refine H.out.mono ?_; rintro e w' ⟨rfl, hw⟩; have hw := hw.symm; subst hw)
    | fail)
  go_ret
  exact ⟨rfl, rfl⟩
theorem erows0 (h : EngIn w be bj bm v0 v1 f0 f1 om Sg x L Lg) (hL : x.R0.length ≤ 100000) : Calls Tryz.prog 23 #[.pointer (some ⟨be, 0, none⟩), .int .i64 0] w fun e w' => ∃ v, e = .returned v ∧ w'.ownsRow w.heap.size 130 4 v x.R0.length (x.R0.flatMap encD) ∧ Below w.heap.size w w' := by
  have H : Hid (Calls Tryz.prog 65 #[.pointer (some ⟨bj, 0, none⟩), .int .i64 0] w fun e w' => ∃ v, e = .returned v ∧ w'.ownsRow w.heap.size 130 4 v x.R0.length (x.R0.flatMap encD) ∧ Below w.heap.size w w') := jrows0 0 bj bm v0 v1 x w h.join hL
  have hc := h.cells.2.2.2.1
  have hlt := h.blt
  clear h
  go_enter Tryz.func23, Tryz.ntmps23
  go_wp2_with (first
    | (go_at_call 65; refine H.out.mono ?_; rintro e w1 ⟨v, rfl, h1⟩)
    | fail)
  go_ret
  exact ⟨v, rfl, h1⟩
theorem erows1 (h : EngIn w be bj bm v0 v1 f0 f1 om Sg x L Lg) (hL : x.R1.length ≤ 100000) : Calls Tryz.prog 23 #[.pointer (some ⟨be, 0, none⟩), .int .i64 1] w fun e w' => ∃ v, e = .returned v ∧ w'.ownsRow w.heap.size 130 4 v x.R1.length (x.R1.flatMap encD) ∧ Below w.heap.size w w' := by
  have H : Hid (Calls Tryz.prog 65 #[.pointer (some ⟨bj, 0, none⟩), .int .i64 1] w fun e w' => ∃ v, e = .returned v ∧ w'.ownsRow w.heap.size 130 4 v x.R1.length (x.R1.flatMap encD) ∧ Below w.heap.size w w') := jrows1 0 bj bm v0 v1 x w h.join hL
  have hc := h.cells.2.2.2.1
  have hlt := h.blt
  clear h
  go_enter Tryz.func23, Tryz.ntmps23
  go_wp2_with (first
    | (go_at_call 65; refine H.out.mono ?_; rintro e w1 ⟨v, rfl, h1⟩)
    | fail)
  go_ret
  exact ⟨v, rfl, h1⟩
end
def headO (o : O) : ByteArray := ⟨if o.hl then (if o.hr then #[111, 117, 116, 32, 51] else #[111, 117, 116, 32, 49]) else #[111, 117, 116, 32, 50]⟩
def numsO (o : O) : List Int := (if o.hl then [o.lk, o.lt, o.lv] else []) ++ (if o.hr then [o.rk, o.rt, o.rv] else [])
set_option maxHeartbeats 1000000 in
theorem outHead_any (o : O) (w : World) : Calls Tryz.prog 59 #[vO o] w fun e w' => e = .returned (.string (headO o)) ∧ Below w.heap.size w w' := by
  simp only [vO]
  cases hl : o.hl
  · go_enter Tryz.func59, Tryz.ntmps59
    go_wp2
    go_ret
    refine ⟨by simp [headO, hl], ?_⟩
    exact Go.Joins.below_alloc1 _ _
  · cases hr : o.hr
    · go_enter Tryz.func59, Tryz.ntmps59
      go_wp2
      go_ret
      refine ⟨by simp [headO, hl, hr], ?_⟩
      exact Go.Joins.below_alloc1 _ _
    · go_enter Tryz.func59, Tryz.ntmps59
      go_wp2
      go_ret
      refine ⟨by simp [headO, hl, hr], ?_⟩
      exact Go.Joins.below_alloc1 _ _
end Go.Proofs.YthfpipieboophaaGreatDoor

/- An Out's numbers. -/
namespace Go.Proofs.YthfpipieboophaaGreatDoor
open Go.RowKit Go.Sort Go.Shelf
set_option maxRecDepth 100000
theorem infoI : (Tryz.prog.info? 3).map (fun i => (i.zero, i.size, i.bytes)) = some (some (.int .i64 0), 1, 8) := by kernel_rfl
abbrev vI (ns : List Int) : List Value := ns.map (Value.int .i64)
theorem vI_one (ns : List Int) : ∀ u ∈ vI ns, u.oneCell' = true := by
  intro u hu
  obtain ⟨n, _, rfl⟩ := List.mem_map.1 hu
  rfl
theorem three_news {w : World} {g : Nat} {a b c : Int} {T : TypeId} (h : w.heap[g]? = some (.cells #[.int .i64 a, .int .i64 b, .int .i64 c] T)) : ∀ j u, (vI [a, b, c])[j]? = some u → w.cell? ((⟨g, 0, none⟩ : Addr).add j) = some u := by
  intro j u hu
  rw [add_at, Lib.cell_of_heap h, ← hu]
  rcases j with _ | _ | _ | j <;> simp [vI]
theorem nums_of_row {w : World} {base bb : Nat} {v : Value} {ns : List Int} (h : w.ownsRow base 3 1 v ns.length (vI ns)) (hb : ∀ k, v.ownBlock = some k → k ≠ bb) : Nums w bb v ns := by
  rcases h.2 with ⟨rfl, h0⟩ | ⟨g, cap, cur, rfl, h1, h2, h3, h4, h5, h6⟩
  · exact ⟨none, 0, by rw [h0], fun hp => by omega⟩
  · refine ⟨_, _, rfl, fun _ => ⟨g, 0, cur, 3, _, rfl, h2, by decide, hb g rfl, fun k n hn => ?_⟩⟩
    have := h.cells (g := g) rfl k (.int .i64 n) (by simp [vI, hn])
    rw [add_at, Lib.cell_of_heap h2] at this
    simpa using this
abbrev boxO (o : O) : Obj := .cells #[.int .i64 o.k, .int .i64 o.lk, .int .i64 o.lt, .int .i64 o.lv, .int .i64 o.rk, .int .i64 o.rt, .int .i64 o.rv, .bool o.hl, .bool o.hr] 89
theorem boxO_cells {W : World} {b : Nat} {o : O} (h : W.heap[b]? = some (boxO o)) : W.cell? ⟨b, 1, none⟩ = some (.int .i64 o.lk) ∧ W.cell? ⟨b, 2, none⟩ = some (.int .i64 o.lt) ∧ W.cell? ⟨b, 3, none⟩ = some (.int .i64 o.lv) ∧ W.cell? ⟨b, 4, none⟩ = some (.int .i64 o.rk) ∧ W.cell? ⟨b, 5, none⟩ = some (.int .i64 o.rt) ∧ W.cell? ⟨b, 6, none⟩ = some (.int .i64 o.rv) ∧ W.cell? ⟨b, 7, none⟩ = some (.bool o.hl) ∧ W.cell? ⟨b, 8, none⟩ = some (.bool o.hr) := by
  refine ⟨?_, ?_, ?_, ?_, ?_, ?_, ?_, ?_⟩ <;> (rw [Go.Joins.cell_of_block h]; rfl)
set_option maxHeartbeats 2000000 in
theorem outNumbers_any (o : O) (w : World) : Calls Tryz.prog 60 #[vO o] w fun e w' => ∃ v, e = .returned v ∧ w'.ownsRow w.heap.size 3 1 v (numsO o).length (vI (numsO o)) ∧ Below w.heap.size w w' := by
  obtain ⟨i0, hi0, hz0, hz1, hz2⟩ := info_parts infoI
  obtain ⟨k, lk, lt, lv, rk, rt, rv, hl, hr⟩ := o
  have hb0 : Below w.heap.size w (w.alloc (boxO ⟨k, lk, lt, lv, rk, rt, rv, hl, hr⟩)) := Go.Joins.below_alloc1 _ _
  have hbx := heap_alloc_new w (boxO ⟨k, lk, lt, lv, rk, rt, rv, hl, hr⟩)
  simp only [vO]
  cases hl <;> cases hr
  all_goals go_enter Tryz.func60, Tryz.ntmps60
  · go_wp2
    go_ret
    exact ⟨_, rfl, World.ownsRow_nil _ _ _ _, hb0⟩
  · go_wp2_with (first
      | (at_builtin; refine wpList_append_lies _ rfl _ _ 84 rfl w.heap.size 3 i0 (.int .i64 0) 1 8 Tryz.underlying84 hi0 hz0 hz1 hz2 rfl (by decide) (.slice none 0 0) 0 [] rfl (World.ownsRow_nil _ _ _ _) ⟨w.heap.size + 1, 0, none⟩ 3 3 (vI [rk, rt, rv]) rfl rfl (by have := heap_alloc_new (w.alloc (.cells #[.int .i64 k, .int .i64 lk, .int .i64 lt, .int .i64 lv, .int .i64 rk, .int .i64 rt, .int .i64 rv, .bool false, .bool true] 89)) (.cells #[.int .i64 rk, .int .i64 rt, .int .i64 rv] 3); simp only [World.size_alloc] at this; exact three_news this) (vI_one _) (by omega) (by unfold maxLen; omega) (by omega) (by simp only [World.size_alloc]; omega) _ rfl ?_)
      | fail)
    intro g cap w2 hown hgrow hat hlt
    go_wp2
    go_ret
    refine ⟨_, rfl, hown, ?_⟩
    exact (hb0.alloc (by simp) _).grown hgrow (by simp; omega) (fun k e => by cases e)
  · go_wp2_with (first
      | (at_builtin; refine wpList_append_lies _ rfl _ _ 84 rfl w.heap.size 3 i0 (.int .i64 0) 1 8 Tryz.underlying84 hi0 hz0 hz1 hz2 rfl (by decide) (.slice none 0 0) 0 [] rfl (World.ownsRow_nil _ _ _ _) ⟨w.heap.size + 1, 0, none⟩ 3 3 (vI [lk, lt, lv]) rfl rfl (by have := heap_alloc_new (w.alloc (.cells #[.int .i64 k, .int .i64 lk, .int .i64 lt, .int .i64 lv, .int .i64 rk, .int .i64 rt, .int .i64 rv, .bool true, .bool false] 89)) (.cells #[.int .i64 lk, .int .i64 lt, .int .i64 lv] 3); simp only [World.size_alloc] at this; exact three_news this) (vI_one _) (by omega) (by unfold maxLen; omega) (by omega) (by simp only [World.size_alloc]; omega) _ rfl ?_)
      | fail)
    intro g cap w2 hown hgrow hat hlt
    have hb2 : Below w.heap.size w w2 := (hb0.alloc (by simp) _).grown hgrow (by simp; omega) (fun k e => by cases e)
    have hc2 := boxO_cells (o := ⟨k, lk, lt, lv, rk, rt, rv, true, false⟩) ((hgrow.block w.heap.size (by simp; omega) (by simp [Value.ownBlock])).trans (((Go.Joins.below_alloc1 (w.alloc (.cells #[.int .i64 k, .int .i64 lk, .int .i64 lt, .int .i64 lv, .int .i64 rk, .int .i64 rt, .int .i64 rv, .bool true, .bool false] 89)) (.cells #[.int .i64 lk, .int .i64 lt, .int .i64 lv] 3)).block w.heap.size (by simp)).trans hbx))
    clear hgrow hb0 hbx hat
    go_wp2
    go_ret
    exact ⟨_, rfl, hown, hb2⟩
  · go_wp2_with (first
      | (at_builtin; refine wpList_append_lies _ rfl _ _ 84 rfl w.heap.size 3 i0 (.int .i64 0) 1 8 Tryz.underlying84 hi0 hz0 hz1 hz2 rfl (by decide) (.slice none 0 0) 0 [] rfl (World.ownsRow_nil _ _ _ _) ⟨w.heap.size + 1, 0, none⟩ 3 3 (vI [lk, lt, lv]) rfl rfl (by have := heap_alloc_new (w.alloc (.cells #[.int .i64 k, .int .i64 lk, .int .i64 lt, .int .i64 lv, .int .i64 rk, .int .i64 rt, .int .i64 rv, .bool true, .bool true] 89)) (.cells #[.int .i64 lk, .int .i64 lt, .int .i64 lv] 3); simp only [World.size_alloc] at this; exact three_news this) (vI_one _) (by omega) (by unfold maxLen; omega) (by omega) (by simp only [World.size_alloc]; omega) _ rfl ?_)
      | fail)
    intro g cap w2 hown hgrow hat hlt
    have hb2 : Below w.heap.size w w2 := (hb0.alloc (by simp) _).grown hgrow (by simp; omega) (fun k e => by cases e)
    have hc2 := boxO_cells (o := ⟨k, lk, lt, lv, rk, rt, rv, true, true⟩) ((hgrow.block w.heap.size (by simp; omega) (by simp [Value.ownBlock])).trans (((Go.Joins.below_alloc1 (w.alloc (.cells #[.int .i64 k, .int .i64 lk, .int .i64 lt, .int .i64 lv, .int .i64 rk, .int .i64 rt, .int .i64 rv, .bool true, .bool true] 89)) (.cells #[.int .i64 lk, .int .i64 lt, .int .i64 lv] 3)).block w.heap.size (by simp)).trans hbx))
    have hl2 : w.heap.size < w2.heap.size := by have := hgrow.size; simp at this; omega
    have HB2 : Hid (Below w.heap.size w w2) := hb2
    have HO : Hid (w2.ownsRow w.heap.size 3 1 (.slice (some ⟨g, 0, none⟩) 3 cap) 3 (vI [lk, lt, lv])) := hown
    clear hgrow hb0 hbx hat hb2 hown
    go_wp2_with (first
      | (at_builtin; refine wpList_append_lies _ rfl _ _ 84 rfl w.heap.size 3 i0 (.int .i64 0) 1 8 Tryz.underlying84 hi0 hz0 hz1 hz2 rfl (by decide) (.slice (some ⟨g, 0, none⟩) 3 cap) 3 (vI [lk, lt, lv]) rfl (HO.out.alloc _) ⟨w2.heap.size, 0, none⟩ 3 3 (vI [rk, rt, rv]) rfl rfl (three_news (heap_alloc_new w2 (.cells #[.int .i64 rk, .int .i64 rt, .int .i64 rv] 3))) (vI_one _) (by omega) (by unfold maxLen; omega) (by omega) (by simp only [World.size_alloc]; omega) _ rfl ?_)
      | fail)
    intro g' cap' w3 hown' hgrow' hat' hlt'
    go_wp2
    go_ret
    refine ⟨_, rfl, hown', ?_⟩
    exact (HB2.out.alloc (by omega) _).grown hgrow' (by simp; omega) (fun k e => (HO.out.lt k e).1)
end Go.Proofs.YthfpipieboophaaGreatDoor

/- Saved. -/
namespace Go.Proofs.YthfpipieboophaaGreatDoor
open Go.RowKit Go.Sort Go.Shelf
set_option maxRecDepth 100000
def In64 (n : Int) : Prop := -9223372036854775808 ≤ n ∧ n ≤ 9223372036854775807
structure Sv64 (x : J) : Prop where
  lo : In64 x.lo
  hi : In64 x.hi
  mode : In64 x.mode
  m0 : In64 x.m0
  m1 : In64 x.m1
  late : In64 x.late
  r0 : ∀ y ∈ x.R0, In64 y.k ∧ In64 y.t ∧ In64 y.v ∧ In64 y.n
  r1 : ∀ y ∈ x.R1, In64 y.k ∧ In64 y.t ∧ In64 y.v ∧ In64 y.n
abbrev bPlan : ByteArray := ⟨#[112, 108, 97, 110]⟩
abbrev bFed : ByteArray := ⟨#[102, 101, 100]⟩
abbrev bMarks : ByteArray := ⟨#[109, 97, 114, 107, 115]⟩
abbrev bRow : ByteArray := ⟨#[114, 111, 119]⟩
abbrev bEnd : ByteArray := ⟨#[101, 110, 100]⟩
def rowsB (s : Int) (R : List D) : List UInt8 := R.flatMap fun y => lineB bRow.data.toList [s, y.k, y.t, y.v, y.n]
def outsB (Z : List O) : List UInt8 := Z.flatMap fun o => lineB (headO o).data.toList (numsO o)
def headB (x : J) (f0 f1 : Int) : List UInt8 := lineB bPlan.data.toList [x.lo, x.hi, x.mode] ++ lineB bFed.data.toList [f0, f1, x.late] ++ lineB bMarks.data.toList [x.m0, x.m1]
def savedB (x : J) (f0 f1 : Int) (Z : List O) : List UInt8 := headB x f0 f1 ++ rowsB 0 x.R0 ++ rowsB 1 x.R1 ++ outsB Z ++ lineB bEnd.data.toList []
theorem line_len (hd : List UInt8) (ns : List Int) (h : ∀ n ∈ ns, In64 n) : (lineB hd ns).length ≤ hd.length + ns.length * 22 + 1 := by
  have := numsB_len ns h
  unfold lineB
  simp only [List.length_append, List.length_cons, List.length_nil]
  omega
theorem rows_len (s : Int) (hs : In64 s) (R : List D) (h : ∀ y ∈ R, In64 y.k ∧ In64 y.t ∧ In64 y.v ∧ In64 y.n) : (rowsB s R).length ≤ R.length * 120 := by
  unfold rowsB
  induction R with
  | nil => simp
  | cons a r ih =>
    have h1 := ih (fun y hy => h y (by simp [hy]))
    obtain ⟨a1, a2, a3, a4⟩ := h a (by simp)
    have h2 := line_len bRow.data.toList [s, a.k, a.t, a.v, a.n] (by intro n hn; simp only [List.mem_cons, List.mem_nil_iff, or_false] at hn; rcases hn with rfl | rfl | rfl | rfl | rfl <;> assumption)
    have e : bRow.data.toList.length = 3 := rfl
    simp only [List.flatMap_cons, List.length_append, List.length_cons, List.length_nil] at h1 h2 ⊢
    omega
theorem rows_take (s : Int) (R : List D) (i : Nat) (y : D) (h : R[i]? = some y) : rowsB s (R.take (i + 1)) = rowsB s (R.take i) ++ lineB bRow.data.toList [s, y.k, y.t, y.v, y.n] := by
  unfold rowsB
  rw [List.take_add_one, h]
  simp
theorem in64_of_wf {n : Int} (h : (Lit.int .i64 n).wf = true) : In64 n := by
  simp [Lit.wf, IntKind.min, IntKind.max, IntKind.signed, IntKind.bits] at h
  unfold In64
  omega
theorem numsO_in (o : O) (h : o.wf) : ∀ n ∈ numsO o, In64 n := by
  intro n hn
  unfold numsO at hn
  rw [List.mem_append] at hn
  rcases hn with hn | hn
  · split at hn
    · simp only [List.mem_cons, List.mem_nil_iff, or_false] at hn
      rcases hn with rfl | rfl | rfl
      · exact in64_of_wf h.lk
      · exact in64_of_wf h.lt
      · exact in64_of_wf h.lv
    · cases hn
  · split at hn
    · simp only [List.mem_cons, List.mem_nil_iff, or_false] at hn
      rcases hn with rfl | rfl | rfl
      · exact in64_of_wf h.rk
      · exact in64_of_wf h.rt
      · exact in64_of_wf h.rv
    · cases hn
theorem numsO_len (o : O) : (numsO o).length ≤ 6 := by
  unfold numsO
  rw [List.length_append]
  split <;> split <;> simp
theorem headO_size (o : O) : (headO o).size = 5 := by
  unfold headO
  split
  · split <;> rfl
  · rfl
theorem headO_len (o : O) : (headO o).data.toList.length = 5 := by
  have := headO_size o
  rw [Array.length_toList]
  exact this
theorem outs_take (Z : List O) (i : Nat) (o : O) (h : Z[i]? = some o) : outsB (Z.take (i + 1)) = outsB (Z.take i) ++ lineB (headO o).data.toList (numsO o) := by
  unfold outsB
  rw [List.take_add_one, h]
  simp
theorem outs_len (Z : List O) (h : ∀ o ∈ Z, o.wf) : (outsB Z).length ≤ Z.length * 140 := by
  unfold outsB
  induction Z with
  | nil => simp
  | cons a r ih =>
    have h1 := ih (fun y hy => h y (by simp [hy]))
    have h2 := line_len (headO a).data.toList (numsO a) (numsO_in a (h a (by simp)))
    have h3 := numsO_len a
    have h4 := headO_len a
    simp only [List.flatMap_cons, List.length_append, List.length_cons] at h1 ⊢
    omega
theorem boxO_nine {W : World} {b : Nat} {o : O} (h : W.heap[b]? = some (boxO o)) : W.cell? ⟨b, 0, none⟩ = some (.int .i64 o.k) ∧ W.cell? ⟨b, 1, none⟩ = some (.int .i64 o.lk) ∧ W.cell? ⟨b, 2, none⟩ = some (.int .i64 o.lt) ∧ W.cell? ⟨b, 3, none⟩ = some (.int .i64 o.lv) ∧ W.cell? ⟨b, 4, none⟩ = some (.int .i64 o.rk) ∧ W.cell? ⟨b, 5, none⟩ = some (.int .i64 o.rt) ∧ W.cell? ⟨b, 6, none⟩ = some (.int .i64 o.rv) ∧ W.cell? ⟨b, 7, none⟩ = some (.bool o.hl) ∧ W.cell? ⟨b, 8, none⟩ = some (.bool o.hr) := by
  refine ⟨?_, ?_, ?_, ?_, ?_, ?_, ?_, ?_, ?_⟩ <;> (rw [Go.Joins.cell_of_block h]; rfl)
def Rs (x : J) (i : Nat) : List D := if i = 0 then x.R0 else x.R1
def rowsT (x : J) (i : Nat) : List UInt8 := if i = 0 then [] else if i = 1 then rowsB 0 x.R0 else rowsB 0 x.R0 ++ rowsB 1 x.R1
theorem rowsT_succ (x : J) (i : Nat) (h : i < 2) : rowsT x (i + 1) = rowsT x i ++ rowsB (i : Int) (Rs x i) := by
  have : i = 0 ∨ i = 1 := by omega
  rcases this with rfl | rfl
  · simp [rowsT, Rs]
  · simp [rowsT, Rs]
theorem nums_new {W' : World} {bb : Nat} {ns : List Int} {g : Nat} (h : W'.heap[g]? = some (.cells (vI ns).toArray 3)) (hb : g ≠ bb) : Nums W' bb (.slice (some ⟨g, 0, none⟩) ns.length ns.length) ns :=
  ⟨_, _, rfl, fun _ => ⟨g, 0, _, 3, _, rfl, h, by decide, hb, fun k n hn => by simp [vI, hn]⟩⟩
theorem line_new {w0 W W' : World} {bb bw : Nat} {txt : List UInt8} (h : Wr w0 bb bw txt W) (tab : Lib.TabIs Tryz.prog w0 "internal/strconv.uint64pow10" .u64 Lib.pow10Tab) (hd : ByteArray) (ns : List Int) (hr : ∀ n ∈ ns, In64 n) (hl : txt.length + hd.size ≤ 100000000) (hn : ns.length ≤ 10)
    (hb : Below W.heap.size W W') (hg : W'.heap[W.heap.size]? = some (.cells (vI ns).toArray 3)) :
    Calls Tryz.prog 115 #[.string hd, .slice (some ⟨W.heap.size, 0, none⟩) ns.length ns.length, .pointer (some ⟨bw, 0, none⟩)] W' fun e w' => e = .returned (.tuple #[]) ∧ Wr w0 bb bw (txt ++ lineB hd.data.toList ns) w' ∧ Lib.OthersKept 5 (some bb) W w' := by
  have hlt : bb < W.heap.size := by
    obtain ⟨p, v, h1⟩ := h.blk
    exact (Array.getElem?_eq_some_iff.1 h1).1
  refine (line_any w0 bb bw txt hd ns _ W' (h.below hb) tab (nums_new hg (by omega)) hr (by omega) (by omega)).mono ?_
  rintro e w' ⟨h1, h2, h3⟩
  exact ⟨h1, h2, (kept_low hb).trans h3⟩
theorem wr_new (w : World) : Wr w w.heap.size (w.heap.size + 1) [] ((w.alloc (.cells #[.pointer none, .slice none 0 0] 126)).alloc (.cells #[.pointer (some ⟨w.heap.size, 0, none⟩)] 123)) := by
  refine ⟨.inl ⟨Nat.le_refl _, .slice none 0 0, ?_, World.ownsRowF_nil _ _ _ _, by simp [Value.ownBlock]⟩, ?_, Go.Joins.below_alloc2 _ _ _⟩
  · exact ((Go.Joins.below_alloc1 (w.alloc (.cells #[.pointer none, .slice none 0 0] 126)) (.cells #[.pointer (some ⟨w.heap.size, 0, none⟩)] 123)).block _ (by simp)).trans (heap_alloc_new w _)
  · have := heap_alloc_new (w.alloc (.cells #[.pointer none, .slice none 0 0] 126)) (.cells #[.pointer (some ⟨w.heap.size, 0, none⟩)] 123)
    simp only [World.size_alloc] at this
    exact this
end Go.Proofs.YthfpipieboophaaGreatDoor
