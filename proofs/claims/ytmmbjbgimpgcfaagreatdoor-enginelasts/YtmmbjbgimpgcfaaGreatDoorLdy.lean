/- Ldy: several texts in one. -/
import Derived.Test.YtmmbjbgimpgcfaaGreatDoorTlc
import Derived.Deep.RegionHeld3
import Derived.Lib.QuietBelow
import Derived.Lib.SmallJoins
import Derived.Test.YtmmbjbgimpgcfaaGreatDoorEvm
/- Load's pieces, for whatever engine: the plan's line. -/
namespace Go.Proofs.YtmmbjbgimpgcfaaGreatDoor
open Go.RowKit Go.Sort
set_option maxRecDepth 100000

set_option maxHeartbeats 8000000 in
theorem start_ok (g off c : Nat) (a b m : Int) (P : Nat → World → Prop) (w : World) (hg : g < w.heap.size) (h0 : w.cell? ⟨g, off, none⟩ = some (.int .i64 a)) (h1 : w.cell? ⟨g, off + 1, none⟩ = some (.int .i64 b)) (h2 : w.cell? ⟨g, off + 2, none⟩ = some (.int .i64 m))
    (hP : ∀ be W W', P be W → Below W.heap.size W W' → P be W')
    (HN : ∀ W, Below w.heap.size w W → Calls Tryz.prog 24 #[.agg #[.int .i64 a, .int .i64 b, .int .i64 m]] W fun e w' => ∃ be, e = .returned (.tuple #[.pointer (some ⟨be, 0, none⟩), .nilIface]) ∧ P be w' ∧ Below W.heap.size W w') :
    Calls Tryz.prog 88 #[.agg #[.string ⟨#[112, 108, 97, 110]⟩, .slice (some ⟨g, off, none⟩) 3 c]] w fun e w' => ∃ be, e = .returned (.tuple #[.pointer (some ⟨be, 0, none⟩), .bool true]) ∧ P be w' := by
  have HN' : Hid (∀ W, Below w.heap.size w W → W.cell? ⟨w.heap.size, 1, none⟩ = some (.slice (some ⟨g, off, none⟩) 3 c) → Calls Tryz.prog 24 #[.agg #[.int .i64 a, .int .i64 b, .int .i64 m]] W fun e w' => ∃ be, e = .returned (.tuple #[.pointer (some ⟨be, 0, none⟩), .nilIface]) ∧ (w'.cell? ⟨w.heap.size, 1, none⟩ = some (.slice (some ⟨g, off, none⟩) 3 c) ∧ w'.cell? ⟨g, off, none⟩ = some (.int .i64 a) ∧ w'.cell? ⟨g, off + 1, none⟩ = some (.int .i64 b) ∧ w'.cell? ⟨g, off + 2, none⟩ = some (.int .i64 m)) ∧ Hid (P be w')) := by
    intro W hW hW1
    refine (HN W hW).mono ?_
    rintro e w' ⟨be, rfl, hp, hb⟩
    have hb2 := hW.trans (hb.mono hW.size)
    exact ⟨be, rfl, ⟨(hb.cell (p := ⟨w.heap.size, 1, none⟩) (World.block_lt_of_cell? _ _ hW1)).trans hW1, (hb2.cell (p := ⟨g, off, none⟩) hg).trans h0, (hb2.cell (p := ⟨g, off + 1, none⟩) hg).trans h1, (hb2.cell (p := ⟨g, off + 2, none⟩) hg).trans h2⟩, hp⟩
  have hB : Hid (Below w.heap.size w (w.alloc (.cells #[.string ⟨#[112, 108, 97, 110]⟩, .slice (some ⟨g, off, none⟩) 3 c] 167)).drew) := (Go.Joins.below_alloc1 _ _).drew
  have hP' : Hid (∀ be W, Hid (P be W) → P be W.drew) := fun be W h => hP be W _ h.out ((Below.refl _ _).drew)
  clear HN hP
  go_enter Tryz.func88, Tryz.ntmps88
  go_wp2_with fail
  go_region_held3 (fun W => W.cell? ⟨w.heap.size, 1, none⟩ = some (.slice (some ⟨g, off, none⟩) 3 c) ∧ W.cell? ⟨g, off, none⟩ = some (.int .i64 a) ∧ W.cell? ⟨g, off + 1, none⟩ = some (.int .i64 b) ∧ W.cell? ⟨g, off + 2, none⟩ = some (.int .i64 m)) (first | (go_keep; done) | fail) (first
    | (go_at_call 24; refine (HN'.out _ hB.out (by go_keep)).mono ?_; rintro e w2 ⟨be, rfl, hc2, h3⟩)
    | fail)
  go_wp2
  go_region
  go_wp2
  refine bodyPost_ret (v := .tuple #[.pointer (some ⟨be, 0, none⟩), .bool true]) (by simp [results, Tryz.results88, go_sem]) rfl ⟨be, rfl, hP'.out _ _ h3⟩


/-- rowOf, as it is told. -/
def RowOfIs : Prop := ∀ (g off n c : Nat) (k t v : Int) (w : World), g < w.heap.size → 3 ≤ n → n ≤ 1000 → w.cell? ⟨g, off, none⟩ = some (.int .i64 k) → w.cell? ⟨g, off + 1, none⟩ = some (.int .i64 t) → w.cell? ⟨g, off + 2, none⟩ = some (.int .i64 v) →
    Calls Tryz.prog 125 #[.slice (some ⟨g, off, none⟩) n c] w fun e w' => e = .returned (.agg #[.int .i64 k, .int .i64 t, .int .i64 v]) ∧ Below w.heap.size w w'

set_option maxHeartbeats 4000000 in
theorem restore_fed (be g off c : Nat) (P : World → Prop) (w : World)
    (H : ∀ W, Below w.heap.size w W → Calls Tryz.prog 122 #[.pointer (some ⟨be, 0, none⟩), .slice (some ⟨g, off, none⟩) 3 c] W fun e w' => e = .returned (.bool true) ∧ P w') :
    Calls Tryz.prog 87 #[.pointer (some ⟨be, 0, none⟩), .agg #[.string ⟨#[102, 101, 100]⟩, .slice (some ⟨g, off, none⟩) 3 c]] w fun e w' => e = .returned (.bool true) ∧ P w' := by
  have HH : Hid (∀ W, Below w.heap.size w W → Calls Tryz.prog 122 #[.pointer (some ⟨be, 0, none⟩), .slice (some ⟨g, off, none⟩) 3 c] W fun e w' => e = .returned (.bool true) ∧ Hid (P w')) := H
  have hB : Hid (Below w.heap.size w (w.alloc (.cells #[.string ⟨#[102, 101, 100]⟩, .slice (some ⟨g, off, none⟩) 3 c] 167))) := Go.Joins.below_alloc1 _ _
  clear H
  go_enter Tryz.func87, Tryz.ntmps87
  go_wp2_with (first
    | (go_at_call 122; refine (HH.out _ hB.out).mono ?_; rintro e w2 ⟨rfl, h2⟩)
    | fail)
  go_ret
  exact ⟨rfl, h2.out⟩

set_option maxHeartbeats 4000000 in
theorem restore_marks (be g off c : Nat) (P : World → Prop) (w : World)
    (H : ∀ W, Below w.heap.size w W → Calls Tryz.prog 123 #[.pointer (some ⟨be, 0, none⟩), .slice (some ⟨g, off, none⟩) 2 c] W fun e w' => e = .returned (.bool true) ∧ P w') :
    Calls Tryz.prog 87 #[.pointer (some ⟨be, 0, none⟩), .agg #[.string ⟨#[109, 97, 114, 107, 115]⟩, .slice (some ⟨g, off, none⟩) 2 c]] w fun e w' => e = .returned (.bool true) ∧ P w' := by
  have HH : Hid (∀ W, Below w.heap.size w W → Calls Tryz.prog 123 #[.pointer (some ⟨be, 0, none⟩), .slice (some ⟨g, off, none⟩) 2 c] W fun e w' => e = .returned (.bool true) ∧ Hid (P w')) := H
  have hB : Hid (Below w.heap.size w (w.alloc (.cells #[.string ⟨#[109, 97, 114, 107, 115]⟩, .slice (some ⟨g, off, none⟩) 2 c] 167))) := Go.Joins.below_alloc1 _ _
  clear H
  go_enter Tryz.func87, Tryz.ntmps87
  go_wp2_with (first
    | (go_at_call 123; refine (HH.out _ hB.out).mono ?_; rintro e w2 ⟨rfl, h2⟩)
    | fail)
  go_ret
  exact ⟨rfl, h2.out⟩

set_option maxHeartbeats 4000000 in
theorem restore_end (be g off c : Nat) (P : World → Prop) (w : World) (h : ∀ W, Below w.heap.size w W → P W) :
    Calls Tryz.prog 87 #[.pointer (some ⟨be, 0, none⟩), .agg #[.string ⟨#[101, 110, 100]⟩, .slice (some ⟨g, off, none⟩) 0 c]] w fun e w' => e = .returned (.bool true) ∧ P w' := by
  have hB : Hid (P (w.alloc (.cells #[.string ⟨#[101, 110, 100]⟩, .slice (some ⟨g, off, none⟩) 0 c] 167))) := h _ (Go.Joins.below_alloc1 _ _)
  clear h
  go_enter Tryz.func87, Tryz.ntmps87
  go_wp2
  go_ret
  exact ⟨rfl, hB.out⟩

end Go.Proofs.YtmmbjbgimpgcfaaGreatDoor

/- Load's pieces, for whatever engine: rows and Outs. -/
namespace Go.Proofs.YtmmbjbgimpgcfaaGreatDoor
open Go.RowKit Go.Sort
set_option maxRecDepth 100000

set_option maxHeartbeats 8000000 in
/-- A row's line. -/
theorem restore_row (HR : RowOfIs) (be bj g off : Nat) (s k t v n : Int) (P : World → Prop) (w : World) (hg : g < w.heap.size) (hbe : be < w.heap.size)
    (h0 : w.cell? ⟨g, off, none⟩ = some (.int .i64 s)) (h1 : w.cell? ⟨g, off + 1, none⟩ = some (.int .i64 k)) (h2 : w.cell? ⟨g, off + 2, none⟩ = some (.int .i64 t)) (h3 : w.cell? ⟨g, off + 3, none⟩ = some (.int .i64 v)) (h4 : w.cell? ⟨g, off + 4, none⟩ = some (.int .i64 n))
    (hj : w.cell? ⟨be, 3, none⟩ = some (.pointer (some ⟨bj, 0, none⟩)))
    (hPc : ∀ W, P W → W.cell? ⟨be, 3, none⟩ = some (.pointer (some ⟨bj, 0, none⟩)) ∧ W.cell? ⟨g, off, none⟩ = some (.int .i64 s) ∧ W.cell? ⟨g, off + 4, none⟩ = some (.int .i64 n))
    (H : ∀ W, Below w.heap.size w W → Calls Tryz.prog 124 #[.pointer (some ⟨bj, 0, none⟩), .int .i64 s, .agg #[.int .i64 k, .int .i64 t, .int .i64 v], .int .i64 n] W fun e w' => e = .returned .nilIface ∧ P w') :
    Calls Tryz.prog 87 #[.pointer (some ⟨be, 0, none⟩), .agg #[.string ⟨#[114, 111, 119]⟩, .slice (some ⟨g, off, none⟩) 5 5]] w fun e w' => e = .returned (.bool true) ∧ P w' := by
  have HH : Hid (∀ W, Hid (Below w.heap.size w W) → Calls Tryz.prog 124 #[.pointer (some ⟨bj, 0, none⟩), .int .i64 s, .agg #[.int .i64 k, .int .i64 t, .int .i64 v], .int .i64 n] W fun e w' => e = .returned .nilIface ∧ (w'.cell? ⟨be, 3, none⟩ = some (.pointer (some ⟨bj, 0, none⟩)) ∧ w'.cell? ⟨g, off, none⟩ = some (.int .i64 s) ∧ w'.cell? ⟨g, off + 4, none⟩ = some (.int .i64 n)) ∧ Hid (P w')) := by
    intro W hW
    refine (H W hW.out).mono ?_
    rintro e w' ⟨rfl, hp⟩
    exact ⟨rfl, hPc w' hp, hp⟩
  have HR' : Hid (∀ W, Hid (Below w.heap.size w W) → Calls Tryz.prog 125 #[.slice (some ⟨g, off + 1, none⟩) 4 4] W fun e w' => e = .returned (.agg #[.int .i64 k, .int .i64 t, .int .i64 v]) ∧ (w'.cell? ⟨be, 3, none⟩ = some (.pointer (some ⟨bj, 0, none⟩)) ∧ w'.cell? ⟨g, off, none⟩ = some (.int .i64 s) ∧ w'.cell? ⟨g, off + 4, none⟩ = some (.int .i64 n)) ∧ Hid (Below w.heap.size w w')) := by
    intro W hW
    have hb := hW.out
    refine (HR g (off + 1) 4 4 k t v W (Nat.lt_of_lt_of_le hg hb.size) (by omega) (by omega) ((hb.cell (p := ⟨g, off + 1, none⟩) hg).trans h1) ((hb.cell (p := ⟨g, off + 1 + 1, none⟩) hg).trans h2) ((hb.cell (p := ⟨g, off + 1 + 2, none⟩) hg).trans h3)).mono ?_
    rintro e w' ⟨rfl, hb2⟩
    have hb3 := hb.trans (hb2.mono hb.size)
    exact ⟨rfl, ⟨(hb3.cell (p := ⟨be, 3, none⟩) hbe).trans hj, (hb3.cell (p := ⟨g, off, none⟩) hg).trans h0, (hb3.cell (p := ⟨g, off + 4, none⟩) hg).trans h4⟩, hb3⟩
  have hB : Hid (Below w.heap.size w (w.alloc (.cells #[.string ⟨#[114, 111, 119]⟩, .slice (some ⟨g, off, none⟩) 5 5] 167))) := Go.Joins.below_alloc1 _ _
  have hB' : Hid (Below w.heap.size w (w.alloc (.cells #[.string ⟨#[114, 111, 119]⟩, .slice (some ⟨g, off, none⟩) 5 5] 167)).drew) := (Go.Joins.below_alloc1 _ _).drew
  clear H HR hPc h1 h2 h3
  go_enter Tryz.func87, Tryz.ntmps87
  go_wp2_with fail
  go_region_held3 (fun W => W.cell? ⟨be, 3, none⟩ = some (.pointer (some ⟨bj, 0, none⟩)) ∧ W.cell? ⟨g, off, none⟩ = some (.int .i64 s) ∧ W.cell? ⟨g, off + 4, none⟩ = some (.int .i64 n)) (first | (go_keep; done) | fail) (first
    | (go_at_call 124; refine (HH.out _ hb2).mono ?_; rintro e w3 ⟨rfl, hc3, h3⟩)
    | (go_at_call 125; refine (HR'.out _ hB').mono ?_; rintro e w2 ⟨rfl, hc2, hb2⟩)
    | fail)
  go_wp2
  go_ret
  exact ⟨rfl, h3.out⟩

set_option maxHeartbeats 8000000 in
/-- The line of an Out of a side alone. -/
theorem restore_left (HR : RowOfIs) (be g off : Nat) (k t v : Int) (P : World → Prop) (w : World) (hg : g < w.heap.size)
    (h0 : w.cell? ⟨g, off, none⟩ = some (.int .i64 k)) (h1 : w.cell? ⟨g, off + 1, none⟩ = some (.int .i64 t)) (h2 : w.cell? ⟨g, off + 2, none⟩ = some (.int .i64 v))
    (H : ∀ W, Below w.heap.size w W → Calls Tryz.prog 126 #[.pointer (some ⟨be, 0, none⟩), .agg #[.int .i64 k, .int .i64 k, .int .i64 t, .int .i64 v, .int .i64 0, .int .i64 0, .int .i64 0, .bool true, .bool false]] W fun e w' => e = .returned (.bool true) ∧ P w') :
    Calls Tryz.prog 87 #[.pointer (some ⟨be, 0, none⟩), .agg #[.string ⟨#[111, 117, 116, 32, 49]⟩, .slice (some ⟨g, off, none⟩) 3 3]] w fun e w' => e = .returned (.bool true) ∧ P w' := by
  have HH : Hid (∀ W, Hid (Below w.heap.size w W) → Calls Tryz.prog 126 #[.pointer (some ⟨be, 0, none⟩), .agg #[.int .i64 k, .int .i64 k, .int .i64 t, .int .i64 v, .int .i64 0, .int .i64 0, .int .i64 0, .bool true, .bool false]] W fun e w' => e = .returned (.bool true) ∧ Hid (P w')) := fun W hW => H W hW.out
  have HR' : Hid (∀ W, Hid (Below w.heap.size w W) → Calls Tryz.prog 125 #[.slice (some ⟨g, off, none⟩) 3 3] W fun e w' => e = .returned (.agg #[.int .i64 k, .int .i64 t, .int .i64 v]) ∧ Hid (Below w.heap.size w w')) := by
    intro W hW
    have hb := hW.out
    refine (HR g off 3 3 k t v W (Nat.lt_of_lt_of_le hg hb.size) (by omega) (by omega) ((hb.cell (p := ⟨g, off, none⟩) hg).trans h0) ((hb.cell (p := ⟨g, off + 1, none⟩) hg).trans h1) ((hb.cell (p := ⟨g, off + 2, none⟩) hg).trans h2)).mono ?_
    rintro e w' ⟨rfl, hb2⟩
    exact ⟨rfl, hb.trans (hb2.mono hb.size)⟩
  have HL : Hid (∀ W, Hid (Below w.heap.size w W) → Calls Tryz.prog 26 #[.int .i64 0, .agg #[.int .i64 k, .int .i64 t, .int .i64 v]] W fun e w' => e = .returned (.agg #[.int .i64 k, .int .i64 k, .int .i64 t, .int .i64 v, .int .i64 0, .int .i64 0, .int .i64 0, .bool true, .bool false]) ∧ Hid (Below w.heap.size w w')) := by
    intro W hW
    refine (lone_left k t v W).mono ?_
    rintro e w' ⟨rfl, hb2⟩
    exact ⟨rfl, hW.out.trans (hb2.mono hW.out.size)⟩
  have hB : Hid (Below w.heap.size w (w.alloc (.cells #[.string ⟨#[111, 117, 116, 32, 49]⟩, .slice (some ⟨g, off, none⟩) 3 3] 167))) := Go.Joins.below_alloc1 _ _
  clear H HR h0 h1 h2
  go_enter Tryz.func87, Tryz.ntmps87
  go_wp2_with (first
    | (go_at_call 126; refine (HH.out _ hb3).mono ?_; rintro e w4 ⟨rfl, h4⟩)
    | (go_at_call 26; refine (HL.out _ hb2).mono ?_; rintro e w3 ⟨rfl, hb3⟩)
    | (go_at_call 125; refine (HR'.out _ hB).mono ?_; rintro e w2 ⟨rfl, hb2⟩)
    | fail)
  go_ret
  exact ⟨rfl, h4.out⟩

set_option maxHeartbeats 8000000 in
theorem restore_right (HR : RowOfIs) (be g off : Nat) (k t v : Int) (P : World → Prop) (w : World) (hg : g < w.heap.size)
    (h0 : w.cell? ⟨g, off, none⟩ = some (.int .i64 k)) (h1 : w.cell? ⟨g, off + 1, none⟩ = some (.int .i64 t)) (h2 : w.cell? ⟨g, off + 2, none⟩ = some (.int .i64 v))
    (H : ∀ W, Below w.heap.size w W → Calls Tryz.prog 126 #[.pointer (some ⟨be, 0, none⟩), .agg #[.int .i64 k, .int .i64 0, .int .i64 0, .int .i64 0, .int .i64 k, .int .i64 t, .int .i64 v, .bool false, .bool true]] W fun e w' => e = .returned (.bool true) ∧ P w') :
    Calls Tryz.prog 87 #[.pointer (some ⟨be, 0, none⟩), .agg #[.string ⟨#[111, 117, 116, 32, 50]⟩, .slice (some ⟨g, off, none⟩) 3 3]] w fun e w' => e = .returned (.bool true) ∧ P w' := by
  have HH : Hid (∀ W, Hid (Below w.heap.size w W) → Calls Tryz.prog 126 #[.pointer (some ⟨be, 0, none⟩), .agg #[.int .i64 k, .int .i64 0, .int .i64 0, .int .i64 0, .int .i64 k, .int .i64 t, .int .i64 v, .bool false, .bool true]] W fun e w' => e = .returned (.bool true) ∧ Hid (P w')) := fun W hW => H W hW.out
  have HR' : Hid (∀ W, Hid (Below w.heap.size w W) → Calls Tryz.prog 125 #[.slice (some ⟨g, off, none⟩) 3 3] W fun e w' => e = .returned (.agg #[.int .i64 k, .int .i64 t, .int .i64 v]) ∧ Hid (Below w.heap.size w w')) := by
    intro W hW
    have hb := hW.out
    refine (HR g off 3 3 k t v W (Nat.lt_of_lt_of_le hg hb.size) (by omega) (by omega) ((hb.cell (p := ⟨g, off, none⟩) hg).trans h0) ((hb.cell (p := ⟨g, off + 1, none⟩) hg).trans h1) ((hb.cell (p := ⟨g, off + 2, none⟩) hg).trans h2)).mono ?_
    rintro e w' ⟨rfl, hb2⟩
    exact ⟨rfl, hb.trans (hb2.mono hb.size)⟩
  have HL : Hid (∀ W, Hid (Below w.heap.size w W) → Calls Tryz.prog 26 #[.int .i64 1, .agg #[.int .i64 k, .int .i64 t, .int .i64 v]] W fun e w' => e = .returned (.agg #[.int .i64 k, .int .i64 0, .int .i64 0, .int .i64 0, .int .i64 k, .int .i64 t, .int .i64 v, .bool false, .bool true]) ∧ Hid (Below w.heap.size w w')) := by
    intro W hW
    refine (lone_right k t v W).mono ?_
    rintro e w' ⟨rfl, hb2⟩
    exact ⟨rfl, hW.out.trans (hb2.mono hW.out.size)⟩
  have hB : Hid (Below w.heap.size w (w.alloc (.cells #[.string ⟨#[111, 117, 116, 32, 50]⟩, .slice (some ⟨g, off, none⟩) 3 3] 167))) := Go.Joins.below_alloc1 _ _
  clear H HR h0 h1 h2
  go_enter Tryz.func87, Tryz.ntmps87
  go_wp2_with (first
    | (go_at_call 126; refine (HH.out _ hb3).mono ?_; rintro e w4 ⟨rfl, h4⟩)
    | (go_at_call 26; refine (HL.out _ hb2).mono ?_; rintro e w3 ⟨rfl, hb3⟩)
    | (go_at_call 125; refine (HR'.out _ hB).mono ?_; rintro e w2 ⟨rfl, hb2⟩)
    | fail)
  go_ret
  exact ⟨rfl, h4.out⟩

set_option maxHeartbeats 8000000 in
/-- The line of a pair. -/
theorem restore_pair (HR : RowOfIs) (be g off : Nat) (k t v k2 t2 v2 : Int) (P : World → Prop) (w : World) (hg : g < w.heap.size)
    (h0 : w.cell? ⟨g, off, none⟩ = some (.int .i64 k)) (h1 : w.cell? ⟨g, off + 1, none⟩ = some (.int .i64 t)) (h2 : w.cell? ⟨g, off + 2, none⟩ = some (.int .i64 v))
    (h3 : w.cell? ⟨g, off + 3, none⟩ = some (.int .i64 k2)) (h4 : w.cell? ⟨g, off + 4, none⟩ = some (.int .i64 t2)) (h5 : w.cell? ⟨g, off + 5, none⟩ = some (.int .i64 v2))
    (H : ∀ W, Below w.heap.size w W → Calls Tryz.prog 126 #[.pointer (some ⟨be, 0, none⟩), .agg #[.int .i64 k, .int .i64 k, .int .i64 t, .int .i64 v, .int .i64 k2, .int .i64 t2, .int .i64 v2, .bool true, .bool true]] W fun e w' => e = .returned (.bool true) ∧ P w') :
    Calls Tryz.prog 87 #[.pointer (some ⟨be, 0, none⟩), .agg #[.string ⟨#[111, 117, 116, 32, 51]⟩, .slice (some ⟨g, off, none⟩) 6 6]] w fun e w' => e = .returned (.bool true) ∧ P w' := by
  have HH : Hid (∀ W, Hid (Below w.heap.size w W) → Calls Tryz.prog 126 #[.pointer (some ⟨be, 0, none⟩), .agg #[.int .i64 k, .int .i64 k, .int .i64 t, .int .i64 v, .int .i64 k2, .int .i64 t2, .int .i64 v2, .bool true, .bool true]] W fun e w' => e = .returned (.bool true) ∧ Hid (P w')) := fun W hW => H W hW.out
  have HR1 : Hid (∀ W, Hid (Below w.heap.size w W) → Calls Tryz.prog 125 #[.slice (some ⟨g, off, none⟩) 6 6] W fun e w' => e = .returned (.agg #[.int .i64 k, .int .i64 t, .int .i64 v]) ∧ Hid (Below w.heap.size w w')) := by
    intro W hW
    have hb := hW.out
    refine (HR g off 6 6 k t v W (Nat.lt_of_lt_of_le hg hb.size) (by omega) (by omega) ((hb.cell (p := ⟨g, off, none⟩) hg).trans h0) ((hb.cell (p := ⟨g, off + 1, none⟩) hg).trans h1) ((hb.cell (p := ⟨g, off + 2, none⟩) hg).trans h2)).mono ?_
    rintro e w' ⟨rfl, hb2⟩
    exact ⟨rfl, hb.trans (hb2.mono hb.size)⟩
  have HR2 : Hid (∀ W, Hid (Below w.heap.size w W) → Calls Tryz.prog 125 #[.slice (some ⟨g, off + 3, none⟩) 3 3] W fun e w' => e = .returned (.agg #[.int .i64 k2, .int .i64 t2, .int .i64 v2]) ∧ Hid (Below w.heap.size w w')) := by
    intro W hW
    have hb := hW.out
    refine (HR g (off + 3) 3 3 k2 t2 v2 W (Nat.lt_of_lt_of_le hg hb.size) (by omega) (by omega) ((hb.cell (p := ⟨g, off + 3, none⟩) hg).trans h3) ((hb.cell (p := ⟨g, off + 3 + 1, none⟩) hg).trans h4) ((hb.cell (p := ⟨g, off + 3 + 2, none⟩) hg).trans h5)).mono ?_
    rintro e w' ⟨rfl, hb2⟩
    exact ⟨rfl, hb.trans (hb2.mono hb.size)⟩
  have HL : Hid (∀ W, Hid (Below w.heap.size w W) → Calls Tryz.prog 27 #[.agg #[.int .i64 k, .int .i64 t, .int .i64 v], .agg #[.int .i64 k2, .int .i64 t2, .int .i64 v2]] W fun e w' => e = .returned (.agg #[.int .i64 k, .int .i64 k, .int .i64 t, .int .i64 v, .int .i64 k2, .int .i64 t2, .int .i64 v2, .bool true, .bool true]) ∧ Hid (Below w.heap.size w w')) := by
    intro W hW
    refine (rpair_below k t v k2 t2 v2 W).mono ?_
    rintro e w' ⟨rfl, hb2⟩
    exact ⟨rfl, hW.out.trans (hb2.mono hW.out.size)⟩
  have hB : Hid (Below w.heap.size w (w.alloc (.cells #[.string ⟨#[111, 117, 116, 32, 51]⟩, .slice (some ⟨g, off, none⟩) 6 6] 167))) := Go.Joins.below_alloc1 _ _
  clear H HR h0 h1 h2 h3 h4 h5
  go_enter Tryz.func87, Tryz.ntmps87
  go_wp2_with fail
  have hB2 : Hid (Below w.heap.size w (w.alloc (.cells #[.string ⟨#[111, 117, 116, 32, 51]⟩, .slice (some ⟨g, off, none⟩) 6 6] 167)).drew) := hB.out.drew
  go_region_held3 (fun _ => True) (first | exact trivial | fail) (first
    | (go_at_call 126; refine (HH.out _ hb4).mono ?_; rintro e w5 ⟨rfl, h5⟩)
    | (go_at_call 27; refine (HL.out _ hb3).mono ?_; rintro e w4 ⟨rfl, hb4⟩)
    | (go_at_call 125; refine (HR2.out _ hb2).mono ?_; rintro e w3 ⟨rfl, hb3⟩)
    | (go_at_call 125; refine (HR1.out _ hB2).mono ?_; rintro e w2 ⟨rfl, hb2⟩)
    | fail)
  go_wp2
  go_ret
  exact ⟨rfl, h5.out⟩

end Go.Proofs.YtmmbjbgimpgcfaaGreatDoor
