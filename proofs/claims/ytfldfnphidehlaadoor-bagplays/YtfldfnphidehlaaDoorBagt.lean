/- Package bag: take, Apply. -/
import Derived.Test.YtfldfnphidehlaaDoorBagf
import Derived.Maps.OwnSet
namespace Go.Proofs.YtfldfnphidehlaaDoor
open Go.RowKit Go.Sort
set_option maxRecDepth 100000

set_option maxRecDepth 20000 in
set_option maxHeartbeats 400000 in
theorem take_none (b m : Nat) (om : Option Nat) (L : List O) (w : World) (h : BagAt w b om m L) (x : O) (hx : x.wf) (hno : x ∉ L) :
    Calls Tryd.prog 20 #[.pointer (some ⟨b, 0, none⟩), vO x] w fun e w' => e = .returned (.iface 40 (.int .i64 8)) ∧ Below w.heap.size w w' := by
  have hc := h.cells
  have hlt := h.lt
  have h0 : L.count x = 0 := List.count_eq_zero.2 hno
  have hrun : (Instr.lookup 23 (.map om) (vO x) false).run Tryd.prog (w.alloc (.cells (encO x).toArray 37)).drew = .ok (.int .i64 0) (w.alloc (.cells (encO x).toArray 37)).drew := by
    rcases h.map with ⟨rfl, rfl⟩ | ⟨bm, n, D, rfl, hn, hown, hcn⟩
    · exact nilLook _ x hx
    · have := look (hown.alloc (.cells (encO x).toArray 37)).drew hcn x hx
      rw [h0] at this; exact this
  simp only [vO, encO] at hrun ⊢
  clear h h0
  go_enter Tryd.func20, Tryd.ntmps20
  go_wp2
  go_region
  all_goals (try go_wp2)
  all_goals go_ret
  all_goals exact ⟨rfl, (Go.Joins.below_alloc1 _ _).drew⟩

set_option maxRecDepth 20000 in
set_option maxHeartbeats 800000 in
theorem take_more (b bm m : Nat) (L : List O) (w : World) (h : BagAt w b (some bm) m L) (x : O) (hx : x.wf) (h2 : 2 ≤ L.count x) (hm : m < 100000000) (hL : L.length < 100000000) :
    Calls Tryd.prog 20 #[.pointer (some ⟨b, 0, none⟩), vO x] w fun e w' => e = .returned .nilIface ∧ BagAt w' b (some bm) (m + 1) (L.erase x) ∧ Keep b (some bm) w w' := by
  have hlt := h.lt
  have hle : L.count x ≤ L.length := List.count_le_length
  have hmem : x ∈ L := List.count_pos_iff.1 (by omega)
  have h' : BagAt ((w.alloc (.cells (encO x).toArray 37)).drew) b (some bm) m L := h.below ((Go.Joins.below_alloc1 w _).drew)
  have hc := h.cells
  rcases h.map with ⟨h0, _⟩ | ⟨bm', n, D, h0, hn, hown, hcn⟩
  · cases h0
  cases h0
  have hown' := (hown.alloc (.cells (encO x).toArray 37)).drew
  have hrun := look hown' hcn x hx
  have hrun2 := look hown'.drew hcn x hx
  obtain ⟨v0, st, W1, W2, he1, he2, hown2, hg⟩ := entry hown'.drew (by omega) x hx (L.count x - 1 : Int) (WalkArith.wf_i64 (by omega))
  have hrun1 := look_entry hown'.drew hcn (by omega) x hx he1
  obtain ⟨hB, hK, c2, f2⟩ := bag_after' h' hown2 (by omega) hg (hcn.less x hx h2)
  have e2 : (((L.erase x).length : Nat) : Int) = (L.length : Int) - 1 := by rw [List.length_erase_of_mem hmem]; omega
  rw [e2] at hB hK
  have HB : Hid _ := hB
  have HK : Hid (Keep b (some bm) w (W2.setCell ⟨b, 1, none⟩ (.int .i64 ((L.length : Int) - 1)))) := (Keep.of_below ((Go.Joins.below_alloc1 w _).drew)).trans hK (.inl rfl)
  simp only [vO, encO] at hrun hrun1 hrun2 he1 he2 ⊢
  have hle' : (L.count x : Int) < 100000000 := by omega
  have hle2 : 2 ≤ (L.count x : Int) := by omega
  have hL' : (L.length : Int) < 100000000 := by omega
  have hL2 : 2 ≤ (L.length : Int) := by omega
  clear h h' hown hown' hown2 hg hB hK hcn e2 h2 hle hL hmem
  generalize (L.count x : Int) = c at *
  generalize (L.length : Int) = len at *
  go_enter Tryd.func20, Tryd.ntmps20
  go_wp2
  go_region
  all_goals (try go_wp2)
  all_goals go_region
  all_goals (try go_wp2)
  all_goals go_ret
  all_goals exact ⟨rfl, HB.out, HK.out⟩

set_option maxRecDepth 20000 in
set_option maxHeartbeats 800000 in
theorem take_one (b bm m : Nat) (L : List O) (w : World) (h : BagAt w b (some bm) m L) (x : O) (hx : x.wf) (h2 : L.count x = 1) (hL : L.length < 100000000) :
    Calls Tryd.prog 20 #[.pointer (some ⟨b, 0, none⟩), vO x] w fun e w' => e = .returned .nilIface ∧ BagAt w' b (some bm) (m + 1) (L.erase x) ∧ Keep b (some bm) w w' := by
  have hlt := h.lt
  have hle : L.count x ≤ L.length := List.count_le_length
  have hmem : x ∈ L := List.count_pos_iff.1 (by omega)
  have h' : BagAt ((w.alloc (.cells (encO x).toArray 37)).drew) b (some bm) m L := h.below ((Go.Joins.below_alloc1 w _).drew)
  have hc := h.cells
  rcases h.map with ⟨h0, _⟩ | ⟨bm', n, D, h0, hn, hown, hcn⟩
  · cases h0
  cases h0
  have hown' := (hown.alloc (.cells (encO x).toArray 37)).drew
  have hrun := look hown' hcn x hx
  rw [h2] at hrun
  obtain ⟨W2, hd, hown2, ht⟩ := hown'.drew.drop keyed Tryd.underlying23 (key_of x hx) 0
  have hg : ((w.alloc (.cells (encO x).toArray 37)).drew).drew.grownBy W2 (some bm) := ht.grown
  obtain ⟨hB, hK, c2, f2⟩ := bag_after' h' hown2 (by omega) hg (hcn.del x hx h2)
  have e2 : (((L.erase x).length : Nat) : Int) = (L.length : Int) - 1 := by rw [List.length_erase_of_mem hmem]; omega
  rw [e2] at hB hK
  have HB : Hid _ := hB
  have HK : Hid (Keep b (some bm) w (W2.setCell ⟨b, 1, none⟩ (.int .i64 ((L.length : Int) - 1)))) := (Keep.of_below ((Go.Joins.below_alloc1 w _).drew)).trans hK (.inl rfl)
  simp only [vO, encO] at hrun hd ⊢
  have hL' : (L.length : Int) < 100000000 := by omega
  have hL2 : 1 ≤ (L.length : Int) := by omega
  clear h h' hown hown' hown2 hg hB hK hcn e2 h2 hle hL hmem ht
  generalize (L.length : Int) = len at *
  go_enter Tryd.func20, Tryd.ntmps20
  go_wp2
  go_region
  all_goals (try go_wp2)
  all_goals go_region
  all_goals (try go_wp2)
  all_goals go_ret
  all_goals exact ⟨rfl, HB.out, HK.out⟩

/-- A change. -/
def vC (x : O) (g : Bool) : Value := .agg #[.int .i64 x.k, .int .i64 x.lk, .int .i64 x.lt, .int .i64 x.lv, .int .i64 x.rk, .int .i64 x.rt, .int .i64 x.rv, .bool x.hl, .bool x.hr, .bool g]

/-- Where the map lies behind it: where it lay, or in new memory. -/
def Moves (w : World) (om om' : Option Nat) : Prop := om' = om ∨ ∃ k, om' = some k ∧ w.heap.size ≤ k

theorem put_any (b m : Nat) (om : Option Nat) (L : List O) (w : World) (h : BagAt w b om m L) (x : O) (hx : x.wf) (hm : m < 100000000) (hL : L.length < 100000000) :
    Calls Tryd.prog 21 #[.pointer (some ⟨b, 0, none⟩), vO x] w fun e w' => e = .returned (.tuple #[]) ∧ ∃ om', BagAt w' b om' (m + 1) (x :: L) ∧ Keep b om w w' ∧ Moves w om om' := by
  cases om with
  | none => exact (put_none b m L w h x hx hm).mono fun e w' ⟨h1, h2, h3⟩ => ⟨h1, _, h2, h3, .inr ⟨_, rfl, Nat.le_succ _⟩⟩
  | some bm => exact (put_some b bm m L w h x hx hm hL).mono fun e w' ⟨h1, h2, h3⟩ => ⟨h1, _, h2, h3, .inl rfl⟩

theorem take_any (b m : Nat) (om : Option Nat) (L : List O) (w : World) (h : BagAt w b om m L) (x : O) (hx : x.wf) (hmem : x ∈ L) (hm : m < 100000000) (hL : L.length < 100000000) :
    Calls Tryd.prog 20 #[.pointer (some ⟨b, 0, none⟩), vO x] w fun e w' => e = .returned .nilIface ∧ BagAt w' b om (m + 1) (L.erase x) ∧ Keep b om w w' := by
  have hpos : 0 < L.count x := List.count_pos_iff.2 hmem
  cases om with
  | none =>
    rcases h.map with ⟨_, rfl⟩ | ⟨_, _, _, h, _⟩
    · cases hmem
    · cases h
  | some bm =>
    by_cases h1 : L.count x = 1
    · exact take_one b bm m L w h x hx h1 hL
    · exact take_more b bm m L w h x hx (by omega) hm hL

set_option maxRecDepth 20000 in
set_option maxHeartbeats 400000 in
theorem apply_put (b m : Nat) (om : Option Nat) (L : List O) (w : World) (h : BagAt w b om m L) (x : O) (hx : x.wf) (hm : m < 100000000) (hL : L.length < 100000000) :
    Calls Tryd.prog 6 #[.pointer (some ⟨b, 0, none⟩), vC x false] w fun e w' => e = .returned .nilIface ∧ ∃ om', BagAt w' b om' (m + 1) (x :: L) ∧ Keep b om w w' ∧ Moves w om om' := by
  have hbel := Go.Joins.below_alloc1 w (.cells #[.int .i64 x.k, .int .i64 x.lk, .int .i64 x.lt, .int .i64 x.lv, .int .i64 x.rk, .int .i64 x.rt, .int .i64 x.rv, .bool x.hl, .bool x.hr, .bool false] 39)
  have hp := put_any b m om L _ (h.below hbel) x hx hm hL
  have HP : Hid (Calls Tryd.prog 21 #[.pointer (some ⟨b, 0, none⟩), vO x] (w.alloc (.cells #[.int .i64 x.k, .int .i64 x.lk, .int .i64 x.lt, .int .i64 x.lv, .int .i64 x.rk, .int .i64 x.rt, .int .i64 x.rv, .bool x.hl, .bool x.hr, .bool false] 39)) fun e w' => e = .returned (.tuple #[]) ∧ ∃ om', BagAt w' b om' (m + 1) (x :: L) ∧ Keep b om w w' ∧ Moves w om om') :=
    hp.mono fun e w' ⟨h1, om', h2, h3, h4⟩ => ⟨h1, om', h2, (Keep.of_below hbel).trans h3 (.inl rfl), h4.imp id (fun ⟨k, e1, e2⟩ => ⟨k, e1, by simp at e2; omega⟩)⟩
  clear hp hbel h
  simp only [vO] at HP
  simp only [vC]
  go_enter Tryd.func6, Tryd.ntmps6
  go_wp2_with (go_at_call 21; refine Calls.mono (Hid.out HP) ?_; rintro e w' ⟨rfl, hpost⟩)
  go_ret
  exact ⟨rfl, hpost⟩

set_option maxRecDepth 20000 in
set_option maxHeartbeats 400000 in
theorem apply_take (b m : Nat) (om : Option Nat) (L : List O) (w : World) (h : BagAt w b om m L) (x : O) (hx : x.wf) (hmem : x ∈ L) (hm : m < 100000000) (hL : L.length < 100000000) :
    Calls Tryd.prog 6 #[.pointer (some ⟨b, 0, none⟩), vC x true] w fun e w' => e = .returned .nilIface ∧ BagAt w' b om (m + 1) (L.erase x) ∧ Keep b om w w' := by
  have hbel := Go.Joins.below_alloc1 w (.cells #[.int .i64 x.k, .int .i64 x.lk, .int .i64 x.lt, .int .i64 x.lv, .int .i64 x.rk, .int .i64 x.rt, .int .i64 x.rv, .bool x.hl, .bool x.hr, .bool true] 39)
  have hp := take_any b m om L _ (h.below hbel) x hx hmem hm hL
  have HP : Hid (Calls Tryd.prog 20 #[.pointer (some ⟨b, 0, none⟩), vO x] (w.alloc (.cells #[.int .i64 x.k, .int .i64 x.lk, .int .i64 x.lt, .int .i64 x.lv, .int .i64 x.rk, .int .i64 x.rt, .int .i64 x.rv, .bool x.hl, .bool x.hr, .bool true] 39)) fun e w' => e = .returned .nilIface ∧ BagAt w' b om (m + 1) (L.erase x) ∧ Keep b om w w') :=
    hp.mono fun e w' ⟨h1, h2, h3⟩ => ⟨h1, h2, (Keep.of_below hbel).trans h3 (.inl rfl)⟩
  clear hp hbel h
  simp only [vO] at HP
  simp only [vC]
  go_enter Tryd.func6, Tryd.ntmps6
  go_wp2_with (go_at_call 20; refine Calls.mono (Hid.out HP) ?_; rintro e w' ⟨rfl, hpost⟩)
  go_ret
  exact ⟨rfl, hpost⟩

set_option maxRecDepth 20000 in
set_option maxHeartbeats 400000 in
theorem apply_none (b m : Nat) (om : Option Nat) (L : List O) (w : World) (h : BagAt w b om m L) (x : O) (hx : x.wf) (hno : x ∉ L) :
    Calls Tryd.prog 6 #[.pointer (some ⟨b, 0, none⟩), vC x true] w fun e w' => e = .returned (.iface 40 (.int .i64 8)) ∧ Below w.heap.size w w' := by
  have hbel := Go.Joins.below_alloc1 w (.cells #[.int .i64 x.k, .int .i64 x.lk, .int .i64 x.lt, .int .i64 x.lv, .int .i64 x.rk, .int .i64 x.rt, .int .i64 x.rv, .bool x.hl, .bool x.hr, .bool true] 39)
  have hp := take_none b m om L _ (h.below hbel) x hx hno
  have HP : Hid (Calls Tryd.prog 20 #[.pointer (some ⟨b, 0, none⟩), vO x] (w.alloc (.cells #[.int .i64 x.k, .int .i64 x.lk, .int .i64 x.lt, .int .i64 x.lv, .int .i64 x.rk, .int .i64 x.rt, .int .i64 x.rv, .bool x.hl, .bool x.hr, .bool true] 39)) fun e w' => e = .returned (.iface 40 (.int .i64 8)) ∧ Below w.heap.size w w') :=
    hp.mono fun e w' ⟨h1, h2⟩ => ⟨h1, hbel.trans (h2.mono (by simp))⟩
  clear hp hbel h
  simp only [vO] at HP
  simp only [vC]
  go_enter Tryd.func6, Tryd.ntmps6
  go_wp2_with (go_at_call 20; refine Calls.mono (Hid.out HP) ?_; rintro e w' ⟨rfl, hpost⟩)
  go_ret
  exact ⟨rfl, hpost⟩

end Go.Proofs.YtfldfnphidehlaaDoor
