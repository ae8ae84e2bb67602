/- Package group: take. -/
import Derived.Test.YtgffodmipbefpaaDoorGrt
namespace Go.Proofs.YtgffodmipbefpaaDoor
open Go.RowKit Go.Sort
set_option maxRecDepth 100000

/-- One less is none: no such key, or no such right value. -/
def noG (G : Int → Option Tl) (x : O) : Prop := G x.k = none ∨ ∃ τ, G x.k = some τ ∧ x.hr = true ∧ x.rv ∉ τ.R

set_option maxHeartbeats 2000000 in
theorem take_no (b o m : Nat) (om : Option Nat) (tal : Int → Nat × Nat) (G : Int → Option Tl) (w : World) (h : GAt w b o om tal m G) (x : O) (hx : x.wf) (hk : G x.k = none) :
    Calls Tryd.prog 58 #[.pointer (some ⟨b, o, none⟩), vO x] w fun e w' => e = .returned (.iface 40 (.int .i64 8)) ∧ Below w.heap.size w w' := by
  have hcell := h.cell
  have hblt := h.blt
  have hlook : (Instr.lookup 82 (.map om) (.int .i64 x.k) true).run Tryd.prog (w.alloc (.cells (encO x).toArray 37)).drew = .ok (.tuple #[.pointer none, .bool false]) (w.alloc (.cells (encO x).toArray 37)).drew := by
    rcases h.map with ⟨rfl, rfl⟩ | ⟨bm, n, D, rfl, hM⟩
    · exact gnilLook _ hx.k
    · exact hM.look_none (W := (w.alloc (.cells (encO x).toArray 37)).drew) (Below.heap_alloc w _ bm hM.own.lt) hx.k hk
  clear h hk
  simp only [vO, encO] at hlook ⊢
  go_enter Tryd.func58, Tryd.ntmps58
  go_wp2
  go_region
  all_goals (try go_wp2)
  all_goals go_region
  all_goals (try go_wp2)
  all_goals go_ret
  all_goals exact ⟨rfl, ((Go.Joins.below_alloc1 _ _).drew).drew⟩

set_option maxHeartbeats 2000000 in
theorem take_noright (b o bm m n : Nat) (tal : Int → Nat × Nat) (G : Int → Option Tl) (D : DataW Value) (w : World) (hcell : w.cell? ⟨b, o, none⟩ = some (.map (some bm))) (hblt : b < w.heap.size) (h : GMap w b bm tal m G n D) (x : O) (hx : x.wf) (τ : Tl) (hk : G x.k = some τ) (hr : x.hr = true) (hno : x.rv ∉ τ.R) :
    Calls Tryd.prog 58 #[.pointer (some ⟨b, o, none⟩), vO x] w fun e w' => e = .returned (.iface 40 (.int .i64 8)) ∧ Below w.heap.size w w' := by
  have hT := h.tals x.k τ hk
  have hlook := h.look (W := (w.alloc (.cells (encO x).toArray 37)).drew) (Below.heap_alloc w _ bm h.own.lt) hx.k hk
  have hc := hT.cells
  have htlt := hT.lt
  obtain ⟨nr, Dr, hnr, hownr, hcr⟩ := hT.own
  have hrl := glook (W := (w.alloc (.cells (encO x).toArray 37)).drew.drew) (ownsMap_at hownr (Below.heap_alloc w _ _ htlt.2)) hcr x.rv hx.rv
  rw [List.count_eq_zero.2 hno] at hrl
  clear hcr hownr h hT hk hno
  generalize (tal x.k).1 = t at *
  generalize (tal x.k).2 = r at *
  obtain ⟨k, lk, lt, lv, rk, rt, rv, hl, hr'⟩ := x
  simp only at hr
  subst hr
  simp only [vO, encO] at hlook hrl ⊢
  go_enter Tryd.func58, Tryd.ntmps58
  go_wp2
  go_region
  all_goals (try go_wp2)
  all_goals go_region
  all_goals (try go_wp2)
  all_goals go_ret
  all_goals exact ⟨rfl, ((Go.Joins.below_alloc1 _ _).drew).drew⟩

/-- What may be taken. -/
def yesG (x : O) (τ : Tl) : Prop := x.hr = true → x.rv ∈ τ.R

set_option maxHeartbeats 2000000 in
theorem gtake_last (b o bm m n : Nat) (tal : Int → Nat × Nat) (G : Int → Option Tl) (D : DataW Value) (w : World) (hcell : w.cell? ⟨b, o, none⟩ = some (.map (some bm))) (hblt : b < w.heap.size) (h : GMap w b bm tal m G n D) (x : O) (hx : x.wf) (τ : Tl) (hk : G x.k = some τ) (hy : yesG x τ) (h1 : τ.c = 1) (hm : m < 100000000) :
    Calls Tryd.prog 58 #[.pointer (some ⟨b, o, none⟩), vO x] w fun e w' => e = .returned .nilIface ∧ w'.ownsMap Tryd.prog 3 gR bm n (D.del (gi x.k)) ∧ (w.alloc (.cells (encO x).toArray 37)).grownBy w' (some bm) := by
  have hT := h.tals x.k τ hk
  have hlook := h.look (W := (w.alloc (.cells (encO x).toArray 37)).drew) (Below.heap_alloc w _ bm h.own.lt) hx.k hk
  have hc := hT.cells
  have htlt := hT.lt
  have hlen := hT.len
  obtain ⟨nr, Dr, hnr, hownr, hcr⟩ := hT.own
  have hrl := glook (W := (w.alloc (.cells (encO x).toArray 37)).drew.drew) (ownsMap_at hownr (Below.heap_alloc w _ _ htlt.2)) hcr x.rv hx.rv
  have hcle : τ.R.count x.rv ≤ τ.R.length := List.count_le_length
  have hpos : x.hr = true → (1 : Int) ≤ τ.R.count x.rv := fun e => by have := List.count_pos_iff.2 (hy e); omega
  have hhi : (τ.R.count x.rv : Int) < 100000000 := by omega
  have hown : (w.alloc (.cells (encO x).toArray 37)).drew.drew.drew.ownsMap Tryd.prog 3 gR bm n D := ownsMap_at h.own (Below.heap_alloc w _ bm h.own.lt)
  obtain ⟨W2, hd, hown2, ht⟩ := hown.drop gkeyed Tryd.underlying82 (gkey hx.k) 0
  have hend : Hid (W2.ownsMap Tryd.prog 3 gR bm n (D.del (gi x.k)) ∧ (w.alloc (.cells (encO x).toArray 37)).grownBy W2 (some bm)) := ⟨hown2, ht.grown.os, ht.grown.tape, ht.grown.output, ht.grown.size, ht.grown.block⟩
  rw [h1] at hc
  clear hcr hownr h hT hk hown hown2 ht hcle hlen hy h1
  generalize (τ.R.count x.rv : Int) = cn at *
  generalize (tal x.k).1 = t at *
  generalize (tal x.k).2 = r at *
  obtain ⟨k, lk, lt, lv, rk, rt, rv, hl, hr⟩ := x
  cases hr
  · clear hrl hpos
    simp only [vO, encO] at hlook hd hend ⊢
    go_enter Tryd.func58, Tryd.ntmps58
    go_wp2
    go_region
    all_goals (try go_wp2)
    all_goals go_region
    all_goals (try go_wp2)
    all_goals go_region
    all_goals (try go_wp2)
    all_goals go_ret
    all_goals exact ⟨rfl, hend.out⟩
  · have hpos' := hpos rfl
    clear hpos
    simp only [vO, encO] at hlook hd hrl hend hpos' hhi ⊢
    go_enter Tryd.func58, Tryd.ntmps58
    go_wp2
    go_region
    all_goals (try go_wp2)
    all_goals go_region
    all_goals (try go_wp2)
    all_goals go_region
    all_goals (try go_wp2)
    all_goals go_ret
    all_goals exact ⟨rfl, hend.out⟩

/-- The world in which take has turned a tally's count and sum. -/
def takeW (w : World) (x : O) (t : Nat) (c s : Int) : World :=
  if x.hl then (((w.setCell ⟨t, 0, none⟩ (.int .i64 (c - 1))).setCell ⟨t, 1, none⟩ (.int .i64 (wrap64 (s - x.lv)))).alloc (.cells (encO x).toArray 37)).drew.drew.drew
  else ((w.setCell ⟨t, 0, none⟩ (.int .i64 (c - 1))).alloc (.cells (encO x).toArray 37)).drew.drew

/-- .. the right values as they were. -/
def lessT (τ : Tl) (x : O) : Tl := ⟨τ.c - 1, if x.hl then wrap64 (τ.s - x.lv) else τ.s, τ.R⟩

theorem takeW_at {w : World} {t r : Nat} (τ : Tl) (x : O) (h2 : 1 ≤ τ.c) (h : w.heap[t]? = some (.cells #[.int .i64 τ.c, .int .i64 τ.s, .map (some r)] 167)) :
    (takeW w x t τ.c τ.s).heap[t]? = some (.cells #[.int .i64 (lessT τ x).c, .int .i64 (lessT τ x).s, .map (some r)] 167) ∧ (takeW w x t τ.c τ.s).heap.size = w.heap.size + 1 ∧
    (∀ j, j < w.heap.size → j ≠ t → (takeW w x t τ.c τ.s).heap[j]? = w.heap[j]?) ∧ (takeW w x t τ.c τ.s).os = w.os ∧ (takeW w x t τ.c τ.s).tape = w.tape ∧ (takeW w x t τ.c τ.s).output = w.output := by
  have hlt : t < w.heap.size := (Array.getElem?_eq_some_iff.1 h).1
  have hb1 : (w.setCell ⟨t, 0, none⟩ (.int .i64 ((τ.c : Int) - 1))).heap[t]? = some (.cells #[.int .i64 ((τ.c : Int) - 1), .int .i64 τ.s, .map (some r)] 167) := by
    rw [Go.Joins.block_setCell h]; rfl
  have ho : ∀ j, j ≠ t → (w.setCell ⟨t, 0, none⟩ (.int .i64 ((τ.c : Int) - 1))).heap[j]? = w.heap[j]? := fun j hne => Below.heap_setCell _ _ _ _ hne
  have hput : (lessT τ x).c = τ.c - 1 := rfl
  have e1 : (((τ.c - 1 : Nat) : Int)) = (τ.c : Int) - 1 := by omega
  rw [hput, e1]
  unfold takeW
  cases hl : x.hl
  · simp only [Bool.false_eq_true, if_false]
    refine ⟨?_, by simp, fun j hj hne => ?_, rfl, rfl, rfl⟩
    · refine (Below.heap_alloc _ _ t (by simpa using hlt)).trans ?_
      rw [hb1]; simp [lessT, hl]
    · exact (Below.heap_alloc _ _ j (by simpa using hj)).trans (ho j hne)
  · simp only [if_true]
    refine ⟨?_, by simp, fun j hj hne => ?_, rfl, rfl, rfl⟩
    · refine (Below.heap_alloc _ _ t (by simpa using hlt)).trans ?_
      rw [Go.Joins.block_setCell hb1]; simp [lessT, hl]
    · refine (Below.heap_alloc _ _ j (by simpa using hj)).trans ?_
      rw [Below.heap_setCell _ _ _ _ hne]; exact ho j hne

set_option maxHeartbeats 4000000 in
theorem gtake_more (b o bm m n : Nat) (tal : Int → Nat × Nat) (G : Int → Option Tl) (D : DataW Value) (w : World) (hcell : w.cell? ⟨b, o, none⟩ = some (.map (some bm))) (hblt : b < w.heap.size) (h : GMap w b bm tal m G n D) (x : O) (hx : x.wf) (τ : Tl) (hk : G x.k = some τ) (hy : yesG x τ) (h2 : 2 ≤ τ.c) (hm : m < 100000000) :
    Calls Tryd.prog 58 #[.pointer (some ⟨b, o, none⟩), vO x] w fun e w' => e = .returned .nilIface ∧
      ((x.hr = false ∧ w' = takeW w x (tal x.k).1 τ.c τ.s) ∨ (x.hr = true ∧ w'.heap.size = (takeW w x (tal x.k).1 τ.c τ.s).heap.size ∧ (takeW w x (tal x.k).1 τ.c τ.s).grownBy w' (some (tal x.k).2) ∧ ∃ n D, n ≤ m + 1 ∧ w'.ownsMap Tryd.prog 3 (plainElem (H := Unit) Tryd.prog 3) (tal x.k).2 n D ∧ GCnt D (τ.R.erase x.rv))) := by
  have hT := h.tals x.k τ hk
  have hlook := h.look (W := (w.alloc (.cells (encO x).toArray 37)).drew) (Below.heap_alloc w _ bm h.own.lt) hx.k hk
  have hc := hT.cells
  have htlt := hT.lt
  have hne := hT.ne
  have hnb := h.nb x.k τ hk
  have hlen := hT.len
  have hlo : (2 : Int) ≤ τ.c := by omega
  have hthi := hT.hi
  have hhi : (τ.c : Int) < 100000000 := by omega
  obtain ⟨p1, p2, p3, p4, p5, p6⟩ := takeW_at τ x (by omega) hT.blk
  obtain ⟨nr, Dr, hnr, hownr, hcr⟩ := hT.own
  have hrl := glook (W := (w.alloc (.cells (encO x).toArray 37)).drew.drew) (ownsMap_at hownr (Below.heap_alloc w _ _ htlt.2)) hcr x.rv hx.rv
  have hcle : τ.R.count x.rv ≤ τ.R.length := List.count_le_length
  have hpos : x.hr = true → (1 : Int) ≤ τ.R.count x.rv := fun e => by have := List.count_pos_iff.2 (hy e); omega
  have hhi2 : (τ.R.count x.rv : Int) < 100000000 := by omega
  have hT2 : TalAt (takeW w x (tal x.k).1 τ.c τ.s) (tal x.k).1 (tal x.k).2 m (lessT τ x) :=
    ⟨p1, ⟨nr, Dr, hnr, ownsMap_at hownr (p3 _ htlt.2 hne.symm), hcr⟩, by show 1 ≤ τ.c - 1; omega, by show τ.c - 1 ≤ m; omega, hlen⟩
  have HR : Hid (x.hr = true → Calls Tryd.prog 88 #[tp (tal x.k).1, .int .i64 x.rv] (takeW w x (tal x.k).1 τ.c τ.s) fun e w' => e = .returned (.tuple #[]) ∧ (w'.heap.size = (takeW w x (tal x.k).1 τ.c τ.s).heap.size ∧ (takeW w x (tal x.k).1 τ.c τ.s).grownBy w' (some (tal x.k).2) ∧ ∃ n D, n ≤ m + 1 ∧ w'.ownsMap Tryd.prog 3 (plainElem (H := Unit) Tryd.prog 3) (tal x.k).2 n D ∧ GCnt D (τ.R.erase x.rv))) :=
    fun e => takeRight_any _ _ m _ _ hT2 x.rv (hy e) hm
  clear p1 p2 p3 p4 p5 p6 hcr hownr h hT hk hcle hlen hy h2 hT2 hthi
  generalize (τ.R.count x.rv : Int) = cn at *
  generalize (tal x.k).1 = t at *
  generalize (tal x.k).2 = r at *
  generalize (τ.c : Int) = c at *
  generalize τ.s = s at *
  generalize τ.R = R at *
  obtain ⟨k, lk, lt, lv, rk, rt, rv, hl, hr⟩ := x
  cases hr
  · clear hrl hpos HR
    cases hl
    · simp only [vO, encO, takeW, Bool.false_eq_true, if_false] at hlook ⊢
      go_enter Tryd.func58, Tryd.ntmps58
      go_wp2
      go_region
      all_goals (try go_wp2)
      all_goals go_region
      all_goals (try go_wp2)
      all_goals go_ret
      all_goals exact ⟨rfl, .inl ⟨trivial, rfl⟩⟩
    · simp only [vO, encO, takeW, Bool.false_eq_true, if_true] at hlook ⊢
      go_enter Tryd.func58, Tryd.ntmps58
      go_wp2
      go_region
      all_goals (try go_wp2)
      all_goals go_region
      all_goals (try go_wp2)
      all_goals go_region
      all_goals (try go_wp2)
      all_goals go_ret
      all_goals exact ⟨rfl, .inl ⟨trivial, rfl⟩⟩
  · have hpos' := hpos rfl
    have HR' := HR.out rfl
    clear hpos HR
    cases hl
    · simp only [vO, encO, takeW, Bool.false_eq_true, if_false] at hlook hrl HR' hpos' hhi2 ⊢
      have HR : Hid _ := HR'
      clear HR'
      go_enter Tryd.func58, Tryd.ntmps58
      go_wp2
      go_region
      all_goals (try go_wp2)
      all_goals go_region
      all_goals (go_wp2_with (go_at_call 88; refine Calls.mono (Hid.out HR) ?_; rintro e w' ⟨rfl, hpost⟩))
      all_goals go_ret
      all_goals exact ⟨rfl, .inr ⟨trivial, hpost⟩⟩
    · simp only [vO, encO, takeW, if_true] at hlook hrl HR' hpos' hhi2 ⊢
      have HR : Hid _ := HR'
      clear HR'
      go_enter Tryd.func58, Tryd.ntmps58
      go_wp2
      go_region
      all_goals (try go_wp2)
      all_goals go_region
      all_goals (try go_wp2)
      all_goals go_region
      all_goals (go_wp2_with (go_at_call 88; refine Calls.mono (Hid.out HR) ?_; rintro e w' ⟨rfl, hpost⟩))
      all_goals go_ret
      all_goals exact ⟨rfl, .inr ⟨trivial, hpost⟩⟩

end Go.Proofs.YtgffodmipbefpaaDoor
