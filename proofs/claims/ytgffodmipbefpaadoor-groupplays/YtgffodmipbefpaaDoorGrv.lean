/- Package group: take and Apply, whatever is there. -/
import Derived.Test.YtgffodmipbefpaaDoorGru
namespace Go.Proofs.YtgffodmipbefpaaDoor
open Go.RowKit Go.Sort
set_option maxRecDepth 100000

def takeG (G : Int → Option Tl) (x : O) (τ : Tl) : Int → Option Tl := setG G x.k (if τ.c = 1 then none else some (takeT τ x))

theorem gtake_none (b o m : Nat) (S : Nat → Prop) (G : Int → Option Tl) (w : World) (h : Grp w b o m S G) (x : O) (hx : x.wf) (hn : noG G x) :
    Calls Tryd.prog 58 #[.pointer (some ⟨b, o, none⟩), vO x] w fun e w' => e = .returned (.iface 40 (.int .i64 8)) ∧ Below w.heap.size w w' := by
  obtain ⟨om, tal, hg, hS, hlt⟩ := h
  rcases hn with hk | ⟨τ, hk, hr, hno⟩
  · exact take_no b o m om tal G w hg x hx hk
  · rcases hg.map with ⟨rfl, rfl⟩ | ⟨bm, n, D, rfl, hM⟩
    · cases hk
    · exact take_noright b o bm m n tal G D w hg.cell.1 hg.blt hM x hx τ hk hr hno

theorem gtake_any (b o m : Nat) (S : Nat → Prop) (G : Int → Option Tl) (w : World) (h : Grp w b o m S G) (x : O) (hx : x.wf) (τ : Tl) (hk : G x.k = some τ) (hy : yesG x τ) (hm : m < 100000000) :
    Calls Tryd.prog 58 #[.pointer (some ⟨b, o, none⟩), vO x] w fun e w' => e = .returned .nilIface ∧ Grp w' b o (m + 1) (More S w w') (takeG G x τ) ∧ Turn S b o w w' := by
  obtain ⟨om, tal, hg, hS, hlt⟩ := h
  rcases hg.map with ⟨rfl, rfl⟩ | ⟨bm, n, D, rfl, hM⟩
  · cases hk
  have hT := hM.tals x.k τ hk
  have hlo := hT.lo
  have hhi := hT.hi
  have hlen := hT.len
  have hbmlt := hM.own.lt
  have hblt := hg.blt
  by_cases h1 : τ.c = 1
  · refine (gtake_last b o bm m n tal G D w hg.cell.1 hg.blt hM x hx τ hk hy h1 hm).mono fun e w' ⟨e1, hown, hgr⟩ => ⟨e1, ?_⟩
    have ht : takeG G x τ = setG G x.k none := by simp [takeG, h1]
    have hb : ∀ j, j < w.heap.size → j ≠ bm → w'.heap[j]? = w.heap[j]? := fun j hj hne => (hgr.block j (by simp; omega) (fun e => hne (by injection e))).trans (Below.heap_alloc w _ j hj)
    have hsz : w.heap.size ≤ w'.heap.size := by have := hgr.size; simp at this; omega
    have hbb := hb b hblt hM.bmb.symm
    rw [ht]
    refine ⟨⟨some bm, tal, ⟨?_, .inr ⟨bm, n, _, rfl, (hM.del x.k hown fun j hj _ => hb j hj).mono (Nat.le_succ m)⟩⟩, fun j hj => .inl (hS j ?_), fun j hj => ?_⟩, ⟨hgr.os, hgr.tape, hgr.output, hsz, fun j hj hn => hb j hj (fun e => hn (hS j (.inr (.inl (by rw [e]))))), fun cs T hc => ⟨cs, hbb.trans hc, rfl, fun _ _ => rfl⟩⟩⟩
    · obtain ⟨cs, T, k1, k2⟩ := hg.blk
      exact ⟨cs, T, hbb.trans k1, k2⟩
    · rcases hj with e | e | ⟨i, τi, hi, e⟩
      · exact .inl e
      · exact .inr (.inl e)
      · by_cases ei : i = x.k
        · rw [ei, setG_same] at hi; cases hi
        · rw [setG_other _ _ ei] at hi; exact .inr (.inr ⟨i, τi, hi, e⟩)
    · rcases hj with hj | hj
      · exact Nat.lt_of_lt_of_le (hlt j hj) hsz
      · exact hj.2
  · refine (gtake_more b o bm m n tal G D w hg.cell.1 hg.blt hM x hx τ hk hy (by omega) hm).mono fun e w' ⟨e1, hE⟩ => ⟨e1, ?_⟩
    have ht : takeG G x τ = setG G x.k (some (takeT τ x)) := by simp [takeG, h1]
    rw [ht]
    have hne := hT.ne
    have htlt := hT.lt
    obtain ⟨p1, p2, p3, p4, p5, p6⟩ := takeW_at τ x (by omega) hT.blk
    obtain ⟨nr, Dr, hnr, hownr, hcr⟩ := hT.own
    rcases hE with ⟨hr, rfl⟩ | ⟨hr, hsz, hg', n', D', hn', hown', hc'⟩
    · refine grp_set hg hM hS hlt hk (Nat.le_succ m) ⟨p1, ⟨nr, Dr, by omega, ownsMap_at hownr (p3 _ htlt.2 hne.symm), ?_⟩, by simp [takeT]; omega, by simp [takeT]; omega, ?_⟩ (fun j hj n1 _ => p3 j hj n1) (by omega) p4 p5 p6
      · simpa [takeT, hr] using hcr
      · simp [takeT, hr]; omega
    · have q : ∀ j, j < w.heap.size → j ≠ (tal x.k).2 → w'.heap[j]? = (takeW w x (tal x.k).1 τ.c τ.s).heap[j]? := fun j hj n2 => hg'.block j (by omega) (fun e => n2 (by injection e))
      refine grp_set hg hM hS hlt hk (Nat.le_succ m) ⟨(q _ htlt.1 hne).trans p1, ⟨n', D', hn', hown', ?_⟩, by simp [takeT]; omega, by simp [takeT]; omega, ?_⟩ (fun j hj n1 n2 => (q j hj n2).trans (p3 j hj n1)) (by omega) (hg'.os.trans p4) (hg'.tape.trans p5) (hg'.output.trans p6)
      · simpa [takeT, hr] using hc'
      · have := List.length_erase_le (a := x.rv) (l := τ.R)
        simp [takeT, hr]; omega

/-- A change. -/
def gvC (x : O) (g : Bool) : Value := .agg #[.int .i64 x.k, .int .i64 x.lk, .int .i64 x.lt, .int .i64 x.lv, .int .i64 x.rk, .int .i64 x.rt, .int .i64 x.rv, .bool x.hl, .bool x.hr, .bool g]

abbrev boxC (x : O) (g : Bool) : Obj := .cells #[.int .i64 x.k, .int .i64 x.lk, .int .i64 x.lt, .int .i64 x.lv, .int .i64 x.rk, .int .i64 x.rt, .int .i64 x.rv, .bool x.hl, .bool x.hr, .bool g] 39

/-- Behind a call in a world that has a box more. -/
theorem more_box {S : Nat → Prop} {w w' : World} {o : Obj} {b oo m : Nat} {G : Int → Option Tl} (h : Grp w' b oo m (More S (w.alloc o) w') G) (ht : Turn S b oo (w.alloc o) w') : Grp w' b oo m (More S w w') G ∧ Turn S b oo w w' := by
  refine ⟨?_, (Turn.of_below (Go.Joins.below_alloc1 w o)).trans ht fun _ _ h => h⟩
  obtain ⟨om, tal, h1, h2, h3⟩ := h
  have hs := ht.size
  simp at hs
  refine ⟨om, tal, h1, fun j hj => (h2 j hj).imp id fun h => ?_, fun j hj => ?_⟩
  · simp at h; exact ⟨by omega, h.2⟩
  · rcases hj with hj | hj
    · exact h3 j (.inl hj)
    · exact hj.2

set_option maxHeartbeats 400000 in
theorem gapply_put (b o m : Nat) (S : Nat → Prop) (G : Int → Option Tl) (w : World) (h : Grp w b o m S G) (x : O) (hx : x.wf) (hm : m < 100000000) :
    Calls Tryd.prog 30 #[.pointer (some ⟨b, o, none⟩), gvC x false] w fun e w' => e = .returned .nilIface ∧ Grp w' b o (m + 1) (More S w w') (putG G x) ∧ Turn S b o w w' := by
  have HP : Hid (Calls Tryd.prog 59 #[.pointer (some ⟨b, o, none⟩), vO x] (w.alloc (boxC x false)) fun e w' => e = .returned (.tuple #[]) ∧ Grp w' b o (m + 1) (More S w w') (putG G x) ∧ Turn S b o w w') :=
    (gput_any b o m S G _ (h.below (Go.Joins.below_alloc1 w (boxC x false))) x hx hm).mono fun e w' ⟨h1, h2, h3⟩ => ⟨h1, more_box h2 h3⟩
  clear h
  simp only [vO] at HP
  simp only [gvC]
  go_enter Tryd.func30, Tryd.ntmps30
  go_wp2_with (go_at_call 59; refine Calls.mono (Hid.out HP) ?_; rintro e w' ⟨rfl, hpost⟩)
  go_ret
  exact ⟨rfl, hpost⟩

set_option maxHeartbeats 400000 in
theorem gapply_take (b o m : Nat) (S : Nat → Prop) (G : Int → Option Tl) (w : World) (h : Grp w b o m S G) (x : O) (hx : x.wf) (τ : Tl) (hk : G x.k = some τ) (hy : yesG x τ) (hm : m < 100000000) :
    Calls Tryd.prog 30 #[.pointer (some ⟨b, o, none⟩), gvC x true] w fun e w' => e = .returned .nilIface ∧ Grp w' b o (m + 1) (More S w w') (takeG G x τ) ∧ Turn S b o w w' := by
  have HP : Hid (Calls Tryd.prog 58 #[.pointer (some ⟨b, o, none⟩), vO x] (w.alloc (boxC x true)) fun e w' => e = .returned .nilIface ∧ Grp w' b o (m + 1) (More S w w') (takeG G x τ) ∧ Turn S b o w w') :=
    (gtake_any b o m S G _ (h.below (Go.Joins.below_alloc1 w (boxC x true))) x hx τ hk hy hm).mono fun e w' ⟨h1, h2, h3⟩ => ⟨h1, more_box h2 h3⟩
  clear h hk hy
  simp only [vO] at HP
  simp only [gvC]
  go_enter Tryd.func30, Tryd.ntmps30
  go_wp2_with (go_at_call 58; refine Calls.mono (Hid.out HP) ?_; rintro e w' ⟨rfl, hpost⟩)
  go_ret
  exact ⟨rfl, hpost⟩

set_option maxHeartbeats 400000 in
theorem gapply_none (b o m : Nat) (S : Nat → Prop) (G : Int → Option Tl) (w : World) (h : Grp w b o m S G) (x : O) (hx : x.wf) (hn : noG G x) :
    Calls Tryd.prog 30 #[.pointer (some ⟨b, o, none⟩), gvC x true] w fun e w' => e = .returned (.iface 40 (.int .i64 8)) ∧ Below w.heap.size w w' := by
  have hbel := Go.Joins.below_alloc1 w (boxC x true)
  have HP : Hid (Calls Tryd.prog 58 #[.pointer (some ⟨b, o, none⟩), vO x] (w.alloc (boxC x true)) fun e w' => e = .returned (.iface 40 (.int .i64 8)) ∧ Below w.heap.size w w') :=
    (gtake_none b o m S G _ (h.below hbel) x hx hn).mono fun e w' ⟨h1, h2⟩ => ⟨h1, hbel.trans (h2.mono (by simp))⟩
  clear hbel h hn
  simp only [vO] at HP
  simp only [gvC]
  go_enter Tryd.func30, Tryd.ntmps30
  go_wp2_with (go_at_call 58; refine Calls.mono (Hid.out HP) ?_; rintro e w' ⟨rfl, hpost⟩)
  go_ret
  exact ⟨rfl, hpost⟩

end Go.Proofs.YtgffodmipbefpaaDoor
