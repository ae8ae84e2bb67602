/- An engine: made, its view, its groups. -/
import Derived.Test.YtpannogknebgaabGreatDoorEnb
import Derived.Deep.Onto
namespace Go.Proofs.YtpannogknebgaabGreatDoor
open Go.RowKit Go.Sort
set_option maxRecDepth 100000

theorem JoinAt.base0 {w : World} {base b bm : Nat} {v0 v1 : Value} {x : J} (h : JoinAt w base b bm v0 v1 x) : JoinAt w 0 b bm v0 v1 x := ⟨h.blk, h.mks, h.r0.mono (Nat.zero_le _), h.r1.mono (Nat.zero_le _), h.apart⟩

/-- A block that is an engine without rows. -/
theorem eng_new {w : World} {bj bm : Nat} {lo hi mode : Int} {cs : Array Value} {T : TypeId} (hj : JoinAt w 0 bj bm (.slice none 0 0) (.slice none 0 0) ⟨lo, hi, mode, -1099511627777, -1099511627777, 0, [], []⟩)
    (hc : cs = #[.int .i64 lo, .int .i64 hi, .int .i64 mode, .pointer (some ⟨bj, 0, none⟩), .int .i64 0, .int .i64 0, .map none, .int .i64 0, .map none]) :
    EngIn (w.alloc (.cells cs T)) w.heap.size bj bm (.slice none 0 0) (.slice none 0 0) 0 0 none (fun k => k = w.heap.size) ⟨lo, hi, mode, -1099511627777, -1099511627777, 0, [], []⟩ [] [] := by
  have hb := World.alloc_heap_new w (.cells cs T)
  subst hc
  refine ⟨⟨_, T, hb, rfl, rfl, rfl, rfl, rfl, rfl⟩, hj.below (Go.Joins.below_alloc1 _ _), ⟨⟨_, T, hb, rfl, rfl⟩, .inl ⟨rfl, rfl⟩⟩, ⟨none, fun _ => (0, 0), ⟨⟨_, T, hb, rfl⟩, .inl ⟨rfl, abs_nil⟩⟩, fun j hj => ?_, (fun j hj => by simp; omega)⟩, fun k e => ?_, (fun k e => by cases e), (by omega), (by omega)⟩
  · rcases hj with h | h | ⟨k, τ, h, _⟩
    · exact h
    · cases h
    · rw [abs_nil] at h; cases h
  · have := hj.foot_lt e
    exact ⟨by omega, by simp, by omega⟩

abbrev planE (lo hi mode : Int) : Obj := .cells #[.int .i64 lo, .int .i64 hi, .int .i64 mode] 32
theorem planE_cells {W : World} {b : Nat} {lo hi mode : Int} (h : W.heap[b]? = some (planE lo hi mode)) : W.cell? ⟨b, 0, none⟩ = some (.int .i64 lo) ∧ W.cell? ⟨b, 1, none⟩ = some (.int .i64 hi) ∧ W.cell? ⟨b, 2, none⟩ = some (.int .i64 mode) := by
  refine ⟨?_, ?_, ?_⟩ <;> (rw [Go.Joins.cell_of_block h]; rfl)

set_option maxHeartbeats 1000000 in
theorem enew_ok (lo hi mode : Int) (w : World) (h : planOk lo hi mode) : Calls Tryz.prog 24 #[.agg #[.int .i64 lo, .int .i64 hi, .int .i64 mode]] w fun e w' => ∃ be bj bm, e = .returned (.tuple #[.pointer (some ⟨be, 0, none⟩), .nilIface]) ∧ EngIn w' be bj bm (.slice none 0 0) (.slice none 0 0) 0 0 none (fun k => k = be) ⟨lo, hi, mode, -1099511627777, -1099511627777, 0, [], []⟩ [] [] ∧ w.heap.size ≤ be ∧ w.heap.size ≤ bj ∧ w.heap.size ≤ bm ∧ Below w.heap.size w w' := by
  have HN : Hid (∀ W, Below w.heap.size w W → W.heap[w.heap.size]? = some (planE lo hi mode) → Calls Tryz.prog 48 #[.agg #[.int .i64 lo, .int .i64 hi, .int .i64 mode]] W fun e w' => ∃ b, e = .returned (.tuple #[.pointer (some ⟨b, 0, none⟩), .nilIface]) ∧ w'.heap[w.heap.size]? = some (planE lo hi mode) ∧ Hid (∃ bm, w.heap.size ≤ b ∧ w.heap.size ≤ bm ∧ Below w.heap.size w w' ∧ JoinAt w' 0 b bm (.slice none 0 0) (.slice none 0 0) ⟨lo, hi, mode, -1099511627777, -1099511627777, 0, [], []⟩)) := by
    intro W hW hbx
    have hs := hW.size
    refine (jnew_ok lo hi mode W h).mono ?_
    rintro e w' ⟨b, bm, rfl, h1, h2, h3, h4⟩
    exact ⟨b, rfl, (h3.block _ (Array.getElem?_eq_some_iff.1 hbx).1).trans hbx, bm, by omega, by omega, hW.trans (h3.mono hs), h4.base0⟩
  clear h
  go_enter Tryz.func24, Tryz.ntmps24
  have B1 : Hid (Below w.heap.size w (w.alloc (planE lo hi mode)) ∧ (w.alloc (planE lo hi mode)).heap[w.heap.size]? = some (planE lo hi mode)) := ⟨Go.Joins.below_alloc1 _ _, heap_alloc_new w (planE lo hi mode)⟩
  go_wp2_with (first
    | (go_at_call 48; refine (HN.out _ B1.out.1 B1.out.2).mono ?_; rintro e w1 ⟨bj, rfl, hb1, h1⟩; have hc1 := planE_cells hb1)
    | fail)
  obtain ⟨bm, g1, g2, g3, g4⟩ := h1.out
  have hE := eng_new (T := 87) g4 rfl
  refine bodyPost_ret (v := .tuple #[.pointer (some ⟨w1.heap.size, 0, none⟩), .nilIface]) (by simp [results, Tryz.results24, go_sem]) rfl ⟨w1.heap.size, bj, bm, rfl, hE, g3.size, g1, g2, g3.alloc g3.size _⟩

theorem eview_any (HS : SortedSays) (be bj bm : Nat) (v0 v1 : Value) (f0 f1 : Int) (om : Option Nat) (Sg : Nat → Prop) (x : J) (L Lg : List O) (w : World) (h : EngIn w be bj bm v0 v1 f0 f1 om Sg x L Lg) (hL : L.length ≤ 1000000) :
    Calls Tryz.prog 10 #[.pointer (some ⟨be, 0, none⟩)] w fun e w' => ∃ v Z, e = .returned v ∧ Z.Perm L ∧ InOrder Z ∧ w'.ownsRow w.heap.size 50 9 v Z.length (Z.flatMap encO) ∧ Below w.heap.size w w' := by
  have H : Hid (Calls Tryz.prog 30 #[.pointer (some ⟨be, 6, none⟩)] w fun e w' => ∃ v Z, e = .returned v ∧ Z.Perm L ∧ InOrder Z ∧ w'.ownsRow w.heap.size 50 9 v Z.length (Z.flatMap encO) ∧ Below w.heap.size w w') := all_any HS be 6 L.length om L w h.bag (by omega) hL
  have hlt := h.blt
  clear h
  go_enter Tryz.func10, Tryz.ntmps10
  go_wp2_with (first
    | (go_at_call 30; refine H.out.mono ?_; rintro e w1 ⟨v, Z, rfl, h1⟩)
    | fail)
  go_ret
  exact ⟨v, Z, rfl, h1⟩

theorem egroups_any (be bj bm : Nat) (v0 v1 : Value) (f0 f1 : Int) (om : Option Nat) (Sg : Nat → Prop) (x : J) (L Lg : List O) (w : World) (h : EngIn w be bj bm v0 v1 f0 f1 om Sg x L Lg) (hL : Lg.length ≤ 1000000) :
    Calls Tryz.prog 14 #[.pointer (some ⟨be, 0, none⟩)] w fun e w' => ∃ (v : Value) (ks : List Int), e = .returned v ∧ ks.Pairwise (fun x y => x < y) ∧ (∀ k, k ∈ ks ↔ (absG Lg k).isSome = true) ∧ ks.length ≤ Lg.length ∧ w'.ownsRow w.heap.size 52 6 v ks.length (ks.flatMap (gE (absG Lg))) ∧ Below w.heap.size w w' := by
  have H : Hid (Calls Tryz.prog 19 #[.pointer (some ⟨be, 8, none⟩)] w fun e w' => ∃ (v : Value) (ks : List Int), e = .returned v ∧ ks.Pairwise (fun x y => x < y) ∧ (∀ k, k ∈ ks ↔ (absG Lg k).isSome = true) ∧ ks.length ≤ Lg.length ∧ w'.ownsRow w.heap.size 52 6 v ks.length (ks.flatMap (gE (absG Lg))) ∧ Below w.heap.size w w') := gall_any be 8 Lg.length Sg (absG Lg) w h.grp hL
  have hlt := h.blt
  clear h
  go_enter Tryz.func14, Tryz.ntmps14
  go_wp2_with (first
    | (go_at_call 19; refine H.out.mono ?_; rintro e w1 ⟨v, Z, rfl, h1⟩)
    | fail)
  go_ret
  exact ⟨v, Z, rfl, h1⟩

end Go.Proofs.YtpannogknebgaabGreatDoor
