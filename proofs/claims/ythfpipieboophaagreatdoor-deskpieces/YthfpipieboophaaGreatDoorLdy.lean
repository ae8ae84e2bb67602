/- Ldy: several texts in one. -/
import Derived.Test.YthfpipieboophaaGreatDoorVwz
import Derived.Deep.RegionHeld3
import Derived.Lib.QuietBelow
import Derived.Lib.SmallJoins
import Derived.Test.YthfpipieboophaaGreatDoorJnz
/- Load's pieces, for whatever engine: the plan's line. -/
namespace Go.Proofs.YthfpipieboophaaGreatDoor
open Go.RowKit Go.Sort
set_option maxRecDepth 100000
set_option maxHeartbeats 8000000 in
theorem start_ok (g off c : Nat) (a b m : Int) (P : Nat → World → Prop) (w : World) (hg : g < w.heap.size) (h0 : w.cell? ⟨g, off, none⟩ = some (.int .i64 a)) (h1 : w.cell? ⟨g, off + 1, none⟩ = some (.int .i64 b)) (h2 : w.cell? ⟨g, off + 2, none⟩ = some (.int .i64 m))
    (hP : ∀ be W W', P be W → Below W.heap.size W W' → P be W')
    (HN : ∀ W, Below w.heap.size w W → Calls Tryz.prog 13 #[.agg #[.int .i64 a, .int .i64 b, .int .i64 m]] W fun e w' => ∃ be, e = .returned (.tuple #[.pointer (some ⟨be, 0, none⟩), .nilIface]) ∧ P be w' ∧ Below W.heap.size W w') :
    Calls Tryz.prog 93 #[.agg #[.string ⟨#[112, 108, 97, 110]⟩, .slice (some ⟨g, off, none⟩) 3 c]] w fun e w' => ∃ be, e = .returned (.tuple #[.pointer (some ⟨be, 0, none⟩), .bool true]) ∧ P be w' := by
  have HN' : Hid (∀ W, Below w.heap.size w W → W.cell? ⟨w.heap.size, 1, none⟩ = some (.slice (some ⟨g, off, none⟩) 3 c) → Calls Tryz.prog 13 #[.agg #[.int .i64 a, .int .i64 b, .int .i64 m]] W fun e w' => ∃ be, e = .returned (.tuple #[.pointer (some ⟨be, 0, none⟩), .nilIface]) ∧ (w'.cell? ⟨w.heap.size, 1, none⟩ = some (.slice (some ⟨g, off, none⟩) 3 c) ∧ w'.cell? ⟨g, off, none⟩ = some (.int .i64 a) ∧ w'.cell? ⟨g, off + 1, none⟩ = some (.int .i64 b) ∧ w'.cell? ⟨g, off + 2, none⟩ = some (.int .i64 m)) ∧ Hid (P be w')) := by
    intro W hW hW1
    refine (HN W hW).mono ?_
    rintro e w' ⟨be, rfl, hp, hb⟩
    have hb2 := hW.trans (hb.mono hW.size)
    exact ⟨be, rfl, ⟨(hb.cell (p := ⟨w.heap.size, 1, none⟩) (World.block_lt_of_cell? _ _ hW1)).trans hW1, (hb2.cell (p := ⟨g, off, none⟩) hg).trans h0, (hb2.cell (p := ⟨g, off + 1, none⟩) hg).trans h1, (hb2.cell (p := ⟨g, off + 2, none⟩) hg).trans h2⟩, hp⟩
  have hB : Hid (Below w.heap.size w (w.alloc (.cells #[.string ⟨#[112, 108, 97, 110]⟩, .slice (some ⟨g, off, none⟩) 3 c] 169)).drew) := (Go.Joins.below_alloc1 _ _).drew
  have hP' : Hid (∀ be W, Hid (P be W) → P be W.drew) := fun be W h => hP be W _ h.out ((Below.refl _ _).drew)
  clear HN hP
  go_enter Tryz.func93, Tryz.ntmps93
  go_wp2_with fail
  go_region_held3 (fun W => W.cell? ⟨w.heap.size, 1, none⟩ = some (.slice (some ⟨g, off, none⟩) 3 c) ∧ W.cell? ⟨g, off, none⟩ = some (.int .i64 a) ∧ W.cell? ⟨g, off + 1, none⟩ = some (.int .i64 b) ∧ W.cell? ⟨g, off + 2, none⟩ = some (.int .i64 m)) (first | (go_keep; done) | fail) (first
    | (go_at_call 13; refine (HN'.out _ hB.out (by go_keep)).mono ?_; rintro e w2 ⟨be, rfl, hc2, h3⟩)
    | fail)
  go_wp2
  go_region
  go_wp2
  refine bodyPost_ret (v := .tuple #[.pointer (some ⟨be, 0, none⟩), .bool true]) (by simp [results, Tryz.results93, go_sem]) rfl ⟨be, rfl, hP'.out _ _ h3⟩
def RowOfIs : Prop := ∀ (g off n c : Nat) (k t v : Int) (w : World), g < w.heap.size → 3 ≤ n → n ≤ 1000 → w.cell? ⟨g, off, none⟩ = some (.int .i64 k) → w.cell? ⟨g, off + 1, none⟩ = some (.int .i64 t) → w.cell? ⟨g, off + 2, none⟩ = some (.int .i64 v) →
    Calls Tryz.prog 165 #[.slice (some ⟨g, off, none⟩) n c] w fun e w' => e = .returned (.agg #[.int .i64 k, .int .i64 t, .int .i64 v]) ∧ Below w.heap.size w w'
set_option maxHeartbeats 4000000 in
theorem restore_fed (be g off c : Nat) (P : World → Prop) (w : World)
    (H : ∀ W, Below w.heap.size w W → Calls Tryz.prog 162 #[.pointer (some ⟨be, 0, none⟩), .slice (some ⟨g, off, none⟩) 3 c] W fun e w' => e = .returned (.bool true) ∧ P w') :
    Calls Tryz.prog 92 #[.pointer (some ⟨be, 0, none⟩), .agg #[.string ⟨#[102, 101, 100]⟩, .slice (some ⟨g, off, none⟩) 3 c]] w fun e w' => e = .returned (.bool true) ∧ P w' := by
  have HH : Hid (∀ W, Below w.heap.size w W → Calls Tryz.prog 162 #[.pointer (some ⟨be, 0, none⟩), .slice (some ⟨g, off, none⟩) 3 c] W fun e w' => e = .returned (.bool true) ∧ Hid (P w')) := H
  have hB : Hid (Below w.heap.size w (w.alloc (.cells #[.string ⟨#[102, 101, 100]⟩, .slice (some ⟨g, off, none⟩) 3 c] 169))) := Go.Joins.below_alloc1 _ _
  clear H
  go_enter Tryz.func92, Tryz.ntmps92
  go_wp2_with (first
    | (go_at_call 162; refine (HH.out _ hB.out).mono ?_; rintro e w2 ⟨rfl, h2⟩)
    | fail)
  go_ret
  exact ⟨rfl, h2.out⟩
set_option maxHeartbeats 4000000 in
theorem restore_marks (be g off c : Nat) (P : World → Prop) (w : World)
    (H : ∀ W, Below w.heap.size w W → Calls Tryz.prog 163 #[.pointer (some ⟨be, 0, none⟩), .slice (some ⟨g, off, none⟩) 2 c] W fun e w' => e = .returned (.bool true) ∧ P w') :
    Calls Tryz.prog 92 #[.pointer (some ⟨be, 0, none⟩), .agg #[.string ⟨#[109, 97, 114, 107, 115]⟩, .slice (some ⟨g, off, none⟩) 2 c]] w fun e w' => e = .returned (.bool true) ∧ P w' := by
  have HH : Hid (∀ W, Below w.heap.size w W → Calls Tryz.prog 163 #[.pointer (some ⟨be, 0, none⟩), .slice (some ⟨g, off, none⟩) 2 c] W fun e w' => e = .returned (.bool true) ∧ Hid (P w')) := H
  have hB : Hid (Below w.heap.size w (w.alloc (.cells #[.string ⟨#[109, 97, 114, 107, 115]⟩, .slice (some ⟨g, off, none⟩) 2 c] 169))) := Go.Joins.below_alloc1 _ _
  clear H
  go_enter Tryz.func92, Tryz.ntmps92
  go_wp2_with (first
    | (go_at_call 163; refine (HH.out _ hB.out).mono ?_; rintro e w2 ⟨rfl, h2⟩)
    | fail)
  go_ret
  exact ⟨rfl, h2.out⟩
set_option maxHeartbeats 4000000 in
theorem restore_end (be g off c : Nat) (P : World → Prop) (w : World) (h : ∀ W, Below w.heap.size w W → P W) :
    Calls Tryz.prog 92 #[.pointer (some ⟨be, 0, none⟩), .agg #[.string ⟨#[101, 110, 100]⟩, .slice (some ⟨g, off, none⟩) 0 c]] w fun e w' => e = .returned (.bool true) ∧ P w' := by
  have hB : Hid (P (w.alloc (.cells #[.string ⟨#[101, 110, 100]⟩, .slice (some ⟨g, off, none⟩) 0 c] 169))) := h _ (Go.Joins.below_alloc1 _ _)
  clear h
  go_enter Tryz.func92, Tryz.ntmps92
  go_wp2
  go_ret
  exact ⟨rfl, hB.out⟩
end Go.Proofs.YthfpipieboophaaGreatDoor

/- Load's pieces, for whatever engine: rows and Outs. -/
namespace Go.Proofs.YthfpipieboophaaGreatDoor
open Go.RowKit Go.Sort
set_option maxRecDepth 100000
set_option maxHeartbeats 8000000 in
theorem restore_row (HR : RowOfIs) (be bj g off : Nat) (s k t v n : Int) (P : World → Prop) (w : World) (hg : g < w.heap.size) (hbe : be < w.heap.size)
    (h0 : w.cell? ⟨g, off, none⟩ = some (.int .i64 s)) (h1 : w.cell? ⟨g, off + 1, none⟩ = some (.int .i64 k)) (h2 : w.cell? ⟨g, off + 2, none⟩ = some (.int .i64 t)) (h3 : w.cell? ⟨g, off + 3, none⟩ = some (.int .i64 v)) (h4 : w.cell? ⟨g, off + 4, none⟩ = some (.int .i64 n))
    (hj : w.cell? ⟨be, 3, none⟩ = some (.pointer (some ⟨bj, 0, none⟩)))
    (hPc : ∀ W, P W → W.cell? ⟨be, 3, none⟩ = some (.pointer (some ⟨bj, 0, none⟩)) ∧ W.cell? ⟨g, off, none⟩ = some (.int .i64 s) ∧ W.cell? ⟨g, off + 4, none⟩ = some (.int .i64 n))
    (H : ∀ W, Below w.heap.size w W → Calls Tryz.prog 164 #[.pointer (some ⟨bj, 0, none⟩), .int .i64 s, .agg #[.int .i64 k, .int .i64 t, .int .i64 v], .int .i64 n] W fun e w' => e = .returned .nilIface ∧ P w') :
    Calls Tryz.prog 92 #[.pointer (some ⟨be, 0, none⟩), .agg #[.string ⟨#[114, 111, 119]⟩, .slice (some ⟨g, off, none⟩) 5 5]] w fun e w' => e = .returned (.bool true) ∧ P w' := by
  have HH : Hid (∀ W, Hid (Below w.heap.size w W) → Calls Tryz.prog 164 #[.pointer (some ⟨bj, 0, none⟩), .int .i64 s, .agg #[.int .i64 k, .int .i64 t, .int .i64 v], .int .i64 n] W fun e w' => e = .returned .nilIface ∧ (w'.cell? ⟨be, 3, none⟩ = some (.pointer (some ⟨bj, 0, none⟩)) ∧ w'.cell? ⟨g, off, none⟩ = some (.int .i64 s) ∧ w'.cell? ⟨g, off + 4, none⟩ = some (.int .i64 n)) ∧ Hid (P w')) := by
    intro W hW
    refine (H W hW.out).mono ?_
    rintro e w' ⟨rfl, hp⟩
    exact ⟨rfl, hPc w' hp, hp⟩
  have HR' : Hid (∀ W, Hid (Below w.heap.size w W) → Calls Tryz.prog 165 #[.slice (some ⟨g, off + 1, none⟩) 4 4] W fun e w' => e = .returned (.agg #[.int .i64 k, .int .i64 t, .int .i64 v]) ∧ (w'.cell? ⟨be, 3, none⟩ = some (.pointer (some ⟨bj, 0, none⟩)) ∧ w'.cell? ⟨g, off, none⟩ = some (.int .i64 s) ∧ w'.cell? ⟨g, off + 4, none⟩ = some (.int .i64 n)) ∧ Hid (Below w.heap.size w w')) := by
    intro W hW
    have hb := hW.out
    refine (HR g (off + 1) 4 4 k t v W (Nat.lt_of_lt_of_le hg hb.size) (by omega) (by omega) ((hb.cell (p := ⟨g, off + 1, none⟩) hg).trans h1) ((hb.cell (p := ⟨g, off + 1 + 1, none⟩) hg).trans h2) ((hb.cell (p := ⟨g, off + 1 + 2, none⟩) hg).trans h3)).mono ?_
    rintro e w' ⟨rfl, hb2⟩
    have hb3 := hb.trans (hb2.mono hb.size)
    exact ⟨rfl, ⟨(hb3.cell (p := ⟨be, 3, none⟩) hbe).trans hj, (hb3.cell (p := ⟨g, off, none⟩) hg).trans h0, (hb3.cell (p := ⟨g, off + 4, none⟩) hg).trans h4⟩, hb3⟩
  have hB : Hid (Below w.heap.size w (w.alloc (.cells #[.string ⟨#[114, 111, 119]⟩, .slice (some ⟨g, off, none⟩) 5 5] 169))) := Go.Joins.below_alloc1 _ _
  have hB' : Hid (Below w.heap.size w (w.alloc (.cells #[.string ⟨#[114, 111, 119]⟩, .slice (some ⟨g, off, none⟩) 5 5] 169)).drew) := (Go.Joins.below_alloc1 _ _).drew
  clear H HR hPc h1 h2 h3
  go_enter Tryz.func92, Tryz.ntmps92
  go_wp2_with fail
  go_region_held3 (fun W => W.cell? ⟨be, 3, none⟩ = some (.pointer (some ⟨bj, 0, none⟩)) ∧ W.cell? ⟨g, off, none⟩ = some (.int .i64 s) ∧ W.cell? ⟨g, off + 4, none⟩ = some (.int .i64 n)) (first | (go_keep; done) | fail) (first
    | (go_at_call 164; refine (HH.out _ hb2).mono ?_; rintro e w3 ⟨rfl, hc3, h3⟩)
    | (go_at_call 165; refine (HR'.out _ hB').mono ?_; rintro e w2 ⟨rfl, hc2, hb2⟩)
    | fail)
  go_wp2
  go_ret
  exact ⟨rfl, h3.out⟩
set_option maxHeartbeats 8000000 in
theorem restore_left (HR : RowOfIs) (be g off : Nat) (k t v : Int) (P : World → Prop) (w : World) (hg : g < w.heap.size)
    (h0 : w.cell? ⟨g, off, none⟩ = some (.int .i64 k)) (h1 : w.cell? ⟨g, off + 1, none⟩ = some (.int .i64 t)) (h2 : w.cell? ⟨g, off + 2, none⟩ = some (.int .i64 v))
    (H : ∀ W, Below w.heap.size w W → Calls Tryz.prog 166 #[.pointer (some ⟨be, 0, none⟩), .agg #[.int .i64 k, .int .i64 k, .int .i64 t, .int .i64 v, .int .i64 0, .int .i64 0, .int .i64 0, .bool true, .bool false]] W fun e w' => e = .returned (.bool true) ∧ P w') :
    Calls Tryz.prog 92 #[.pointer (some ⟨be, 0, none⟩), .agg #[.string ⟨#[111, 117, 116, 32, 49]⟩, .slice (some ⟨g, off, none⟩) 3 3]] w fun e w' => e = .returned (.bool true) ∧ P w' := by
  have HH : Hid (∀ W, Hid (Below w.heap.size w W) → Calls Tryz.prog 166 #[.pointer (some ⟨be, 0, none⟩), .agg #[.int .i64 k, .int .i64 k, .int .i64 t, .int .i64 v, .int .i64 0, .int .i64 0, .int .i64 0, .bool true, .bool false]] W fun e w' => e = .returned (.bool true) ∧ Hid (P w')) := fun W hW => H W hW.out
  have HR' : Hid (∀ W, Hid (Below w.heap.size w W) → Calls Tryz.prog 165 #[.slice (some ⟨g, off, none⟩) 3 3] W fun e w' => e = .returned (.agg #[.int .i64 k, .int .i64 t, .int .i64 v]) ∧ Hid (Below w.heap.size w w')) := by
    intro W hW
    have hb := hW.out
    refine (HR g off 3 3 k t v W (Nat.lt_of_lt_of_le hg hb.size) (by omega) (by omega) ((hb.cell (p := ⟨g, off, none⟩) hg).trans h0) ((hb.cell (p := ⟨g, off + 1, none⟩) hg).trans h1) ((hb.cell (p := ⟨g, off + 2, none⟩) hg).trans h2)).mono ?_
    rintro e w' ⟨rfl, hb2⟩
    exact ⟨rfl, hb.trans (hb2.mono hb.size)⟩
  have HL : Hid (∀ W, Hid (Below w.heap.size w W) → Calls Tryz.prog 167 #[.int .i64 0, .agg #[.int .i64 k, .int .i64 t, .int .i64 v]] W fun e w' => e = .returned (.agg #[.int .i64 k, .int .i64 k, .int .i64 t, .int .i64 v, .int .i64 0, .int .i64 0, .int .i64 0, .bool true, .bool false]) ∧ Hid (Below w.heap.size w w')) := by
    intro W hW
    refine (lone_left k t v W).mono ?_
    rintro e w' ⟨rfl, hb2⟩
    exact ⟨rfl, hW.out.trans (hb2.mono hW.out.size)⟩
  have hB : Hid (Below w.heap.size w (w.alloc (.cells #[.string ⟨#[111, 117, 116, 32, 49]⟩, .slice (some ⟨g, off, none⟩) 3 3] 169))) := Go.Joins.below_alloc1 _ _
  clear H HR h0 h1 h2
  go_enter Tryz.func92, Tryz.ntmps92
  go_wp2_with (first
    | (go_at_call 166; refine (HH.out _ hb3).mono ?_; rintro e w4 ⟨rfl, h4⟩)
    | (go_at_call 167; refine (HL.out _ hb2).mono ?_; rintro e w3 ⟨rfl, hb3⟩)
    | (go_at_call 165; refine (HR'.out _ hB).mono ?_; rintro e w2 ⟨rfl, hb2⟩)
    | fail)
  go_ret
  exact ⟨rfl, h4.out⟩
set_option maxHeartbeats 8000000 in
theorem restore_right (HR : RowOfIs) (be g off : Nat) (k t v : Int) (P : World → Prop) (w : World) (hg : g < w.heap.size)
    (h0 : w.cell? ⟨g, off, none⟩ = some (.int .i64 k)) (h1 : w.cell? ⟨g, off + 1, none⟩ = some (.int .i64 t)) (h2 : w.cell? ⟨g, off + 2, none⟩ = some (.int .i64 v))
    (H : ∀ W, Below w.heap.size w W → Calls Tryz.prog 166 #[.pointer (some ⟨be, 0, none⟩), .agg #[.int .i64 k, .int .i64 0, .int .i64 0, .int .i64 0, .int .i64 k, .int .i64 t, .int .i64 v, .bool false, .bool true]] W fun e w' => e = .returned (.bool true) ∧ P w') :
    Calls Tryz.prog 92 #[.pointer (some ⟨be, 0, none⟩), .agg #[.string ⟨#[111, 117, 116, 32, 50]⟩, .slice (some ⟨g, off, none⟩) 3 3]] w fun e w' => e = .returned (.bool true) ∧ P w' := by
  have HH : Hid (∀ W, Hid (Below w.heap.size w W) → Calls Tryz.prog 166 #[.pointer (some ⟨be, 0, none⟩), .agg #[.int .i64 k, .int .i64 0, .int .i64 0, .int .i64 0, .int .i64 k, .int .i64 t, .int .i64 v, .bool false, .bool true]] W fun e w' => e = .returned (.bool true) ∧ Hid (P w')) := fun W hW => H W hW.out
  have HR' : Hid (∀ W, Hid (Below w.heap.size w W) → Calls Tryz.prog 165 #[.slice (some ⟨g, off, none⟩) 3 3] W fun e w' => e = .returned (.agg #[.int .i64 k, .int .i64 t, .int .i64 v]) ∧ Hid (Below w.heap.size w w')) := by
    intro W hW
    have hb := hW.out
    refine (HR g off 3 3 k t v W (Nat.lt_of_lt_of_le hg hb.size) (by omega) (by omega) ((hb.cell (p := ⟨g, off, none⟩) hg).trans h0) ((hb.cell (p := ⟨g, off + 1, none⟩) hg).trans h1) ((hb.cell (p := ⟨g, off + 2, none⟩) hg).trans h2)).mono ?_
    rintro e w' ⟨rfl, hb2⟩
    exact ⟨rfl, hb.trans (hb2.mono hb.size)⟩
  have HL : Hid (∀ W, Hid (Below w.heap.size w W) → Calls Tryz.prog 167 #[.int .i64 1, .agg #[.int .i64 k, .int .i64 t, .int .i64 v]] W fun e w' => e = .returned (.agg #[.int .i64 k, .int .i64 0, .int .i64 0, .int .i64 0, .int .i64 k, .int .i64 t, .int .i64 v, .bool false, .bool true]) ∧ Hid (Below w.heap.size w w')) := by
    intro W hW
    refine (lone_right k t v W).mono ?_
    rintro e w' ⟨rfl, hb2⟩
    exact ⟨rfl, hW.out.trans (hb2.mono hW.out.size)⟩
  have hB : Hid (Below w.heap.size w (w.alloc (.cells #[.string ⟨#[111, 117, 116, 32, 50]⟩, .slice (some ⟨g, off, none⟩) 3 3] 169))) := Go.Joins.below_alloc1 _ _
  clear H HR h0 h1 h2
  go_enter Tryz.func92, Tryz.ntmps92
  go_wp2_with (first
    | (go_at_call 166; refine (HH.out _ hb3).mono ?_; rintro e w4 ⟨rfl, h4⟩)
    | (go_at_call 167; refine (HL.out _ hb2).mono ?_; rintro e w3 ⟨rfl, hb3⟩)
    | (go_at_call 165; refine (HR'.out _ hB).mono ?_; rintro e w2 ⟨rfl, hb2⟩)
    | fail)
  go_ret
  exact ⟨rfl, h4.out⟩
set_option maxHeartbeats 8000000 in
theorem restore_pair (HR : RowOfIs) (be g off : Nat) (k t v k2 t2 v2 : Int) (P : World → Prop) (w : World) (hg : g < w.heap.size)
    (h0 : w.cell? ⟨g, off, none⟩ = some (.int .i64 k)) (h1 : w.cell? ⟨g, off + 1, none⟩ = some (.int .i64 t)) (h2 : w.cell? ⟨g, off + 2, none⟩ = some (.int .i64 v))
    (h3 : w.cell? ⟨g, off + 3, none⟩ = some (.int .i64 k2)) (h4 : w.cell? ⟨g, off + 4, none⟩ = some (.int .i64 t2)) (h5 : w.cell? ⟨g, off + 5, none⟩ = some (.int .i64 v2))
    (H : ∀ W, Below w.heap.size w W → Calls Tryz.prog 166 #[.pointer (some ⟨be, 0, none⟩), .agg #[.int .i64 k, .int .i64 k, .int .i64 t, .int .i64 v, .int .i64 k2, .int .i64 t2, .int .i64 v2, .bool true, .bool true]] W fun e w' => e = .returned (.bool true) ∧ P w') :
    Calls Tryz.prog 92 #[.pointer (some ⟨be, 0, none⟩), .agg #[.string ⟨#[111, 117, 116, 32, 51]⟩, .slice (some ⟨g, off, none⟩) 6 6]] w fun e w' => e = .returned (.bool true) ∧ P w' := by
  have HH : Hid (∀ W, Hid (Below w.heap.size w W) → Calls Tryz.prog 166 #[.pointer (some ⟨be, 0, none⟩), .agg #[.int .i64 k, .int .i64 k, .int .i64 t, .int .i64 v, .int .i64 k2, .int .i64 t2, .int .i64 v2, .bool true, .bool true]] W fun e w' => e = .returned (.bool true) ∧ Hid (P w')) := fun W hW => H W hW.out
  have HR1 : Hid (∀ W, Hid (Below w.heap.size w W) → Calls Tryz.prog 165 #[.slice (some ⟨g, off, none⟩) 6 6] W fun e w' => e = .returned (.agg #[.int .i64 k, .int .i64 t, .int .i64 v]) ∧ Hid (Below w.heap.size w w')) := by
    intro W hW
    have hb := hW.out
    refine (HR g off 6 6 k t v W (Nat.lt_of_lt_of_le hg hb.size) (by omega) (by omega) ((hb.cell (p := ⟨g, off, none⟩) hg).trans h0) ((hb.cell (p := ⟨g, off + 1, none⟩) hg).trans h1) ((hb.cell (p := ⟨g, off + 2, none⟩) hg).trans h2)).mono ?_
    rintro e w' ⟨rfl, hb2⟩
    exact ⟨rfl, hb.trans (hb2.mono hb.size)⟩
  have HR2 : Hid (∀ W, Hid (Below w.heap.size w W) → Calls Tryz.prog 165 #[.slice (some ⟨g, off + 3, none⟩) 3 3] W fun e w' => e = .returned (.agg #[.int .i64 k2, .int .i64 t2, .int .i64 v2]) ∧ Hid (Below w.heap.size w w')) := by
    intro W hW
    have hb := hW.out
    refine (HR g (off + 3) 3 3 k2 t2 v2 W (Nat.lt_of_lt_of_le hg hb.size) (by omega) (by omega) ((hb.cell (p := ⟨g, off + 3, none⟩) hg).trans h3) ((hb.cell (p := ⟨g, off + 3 + 1, none⟩) hg).trans h4) ((hb.cell (p := ⟨g, off + 3 + 2, none⟩) hg).trans h5)).mono ?_
    rintro e w' ⟨rfl, hb2⟩
    exact ⟨rfl, hb.trans (hb2.mono hb.size)⟩
  have HL : Hid (∀ W, Hid (Below w.heap.size w W) → Calls Tryz.prog 168 #[.agg #[.int .i64 k, .int .i64 t, .int .i64 v], .agg #[.int .i64 k2, .int .i64 t2, .int .i64 v2]] W fun e w' => e = .returned (.agg #[.int .i64 k, .int .i64 k, .int .i64 t, .int .i64 v, .int .i64 k2, .int .i64 t2, .int .i64 v2, .bool true, .bool true]) ∧ Hid (Below w.heap.size w w')) := by
    intro W hW
    refine (rpair_below k t v k2 t2 v2 W).mono ?_
    rintro e w' ⟨rfl, hb2⟩
    exact ⟨rfl, hW.out.trans (hb2.mono hW.out.size)⟩
  have hB : Hid (Below w.heap.size w (w.alloc (.cells #[.string ⟨#[111, 117, 116, 32, 51]⟩, .slice (some ⟨g, off, none⟩) 6 6] 169))) := Go.Joins.below_alloc1 _ _
  clear H HR h0 h1 h2 h3 h4 h5
  go_enter Tryz.func92, Tryz.ntmps92
  go_wp2_with fail
  have hB2 : Hid (Below w.heap.size w (w.alloc (.cells #[.string ⟨#[111, 117, 116, 32, 51]⟩, .slice (some ⟨g, off, none⟩) 6 6] 169)).drew) := hB.out.drew
  go_region_held3 (fun _ => True) (first | exact trivial | fail) (first
    | (go_at_call 166; refine (HH.out _ hb4).mono ?_; rintro e w5 ⟨rfl, h5⟩)
    | (go_at_call 168; refine (HL.out _ hb3).mono ?_; rintro e w4 ⟨rfl, hb4⟩)
    | (go_at_call 165; refine (HR2.out _ hb2).mono ?_; rintro e w3 ⟨rfl, hb3⟩)
    | (go_at_call 165; refine (HR1.out _ hB2).mono ?_; rintro e w2 ⟨rfl, hb2⟩)
    | fail)
  go_wp2
  go_ret
  exact ⟨rfl, h5.out⟩
end Go.Proofs.YthfpipieboophaaGreatDoor

/- Load's pieces, for whatever engine: its marks. -/
namespace Go.Proofs.YthfpipieboophaaGreatDoor
open Go.RowKit Go.Sort
set_option maxRecDepth 100000
set_option maxHeartbeats 8000000 in
theorem marks_ok (be g off c : Nat) (a mk : Nat → Int) (St : Nat → World → Prop) (w : World) (h0 : St 0 w)
    (hg : ∀ i W, St i W → g < W.heap.size) (hd : ∀ i W W', St i W → Below W.heap.size W W' → St i W')
    (hc : ∀ i j W, St i W → j < 2 → W.cell? ⟨g, off + j, none⟩ = some (.int .i64 (a j)))
    (HM : ∀ i W, i < 2 → St i W → Calls Tryz.prog 20 #[.pointer (some ⟨be, 0, none⟩), .int .i64 i] W fun e w' => e = .returned (.int .i64 (mk i)) ∧ w' = W)
    (HV : ∀ i W, i < 2 → a i ≠ mk i → St i W → Calls Tryz.prog 15 #[.pointer (some ⟨be, 0, none⟩), .int .i64 i, .int .i64 (a i)] W fun e w' => e = .returned .nilIface ∧ St (i + 1) w')
    (HE : ∀ i W, i < 2 → a i = mk i → St i W → St (i + 1) W) :
    Calls Tryz.prog 163 #[.pointer (some ⟨be, 0, none⟩), .slice (some ⟨g, off, none⟩) 2 c] w fun e w' => e = .returned (.bool true) ∧ St 2 w' := by
  have S0 : Hid (St 0 w) := h0
  clear h0
  go_enter Tryz.func163, Tryz.ntmps163
  go_wp2
  go_loopg [6] 2 (fun gg s6 wr => ∃ i : Nat, i ≤ 2 ∧ gg = 2 - i ∧ s6 = .int .i64 i ∧ Hid (St i wr))
  case atStart => exact ⟨0, Nat.zero_le _, rfl, rfl, S0⟩
  case round =>
    obtain ⟨i, hile, hgk, rfl, I⟩ := hrel
    have HG : Hid (gk = 2 - i) := hgk
    clear hgk S0
    by_cases hlt2 : i < 2
    · have j1 : (0 : Int) ≤ (i : Int) := by omega
      have j2 : (i : Int) < 2 := by omega
      by_cases he : a i = mk i
      · have hS : Hid (∀ W, Below wr.heap.size wr W → St (i + 1) W) := fun W hW => HE i W hlt2 he (hd i wr W I.out hW)
        have hcc := fun p os => hc i i _ (hd i wr _ I.out (below_regrown wr p os)) hlt2
        have hgl := fun p os => hg i _ (hd i wr _ I.out (below_regrown wr p os))
        have hcm : Hid (∀ p os, Calls Tryz.prog 20 #[.pointer (some ⟨be, 0, none⟩), .int .i64 i] (Go.Sort.grow (redrawn wr p) os) fun e w' => e = .returned (.int .i64 (mk i)) ∧ Below (Go.Sort.grow (redrawn wr p) os).heap.size (Go.Sort.grow (redrawn wr p) os) w') := fun p os => (HM i _ hlt2 (hd i wr _ I.out (below_regrown wr p os))).mono fun e w' ⟨h1, h2⟩ => ⟨h1, by rw [h2]; exact Below.refl _ _⟩
        have hb : (a i != mk i) = false := by rw [he]; simp
        clear HV HE HM he hd hg hc I
        go_wp2
        refine wp_region_quiet_below (by kernel_rfl) (by kernel_rfl) ?_
        repeat (quiet_step (first | (go_at_call 20; exact Calls.regrown_of (hcm.out _ _)) | fail))
        refine wpQuiet_nil ?_
        intro _ hw'
        obtain ⟨⟨dq, osq⟩, hw''⟩ := hw'
        subst hw''
        have G6 : Hid (St (i + 1) (Go.Sort.grow (redrawn wr dq) osq)) := hS.out _ (below_regrown wr dq osq)
        clear hcc hgl hcm hS
        dsimp only
        revert G6
        generalize Go.Sort.grow (redrawn wr dq) osq = w6
        intro G6
        go_wp2
        go_roundg (2 - (i + 1))
        all_goals first
          | (have := HG.out; omega)
          | exact ⟨i + 1, by omega, rfl, by first | rfl | (congr 1; omega) | go_num, G6⟩
      · have hgl := hg i wr I.out
        have hcc := hc i i wr I.out hlt2
        have hI : Hid (St i wr.drew) := hd i wr wr.drew I.out ((Below.refl _ _).drew)
        have hcm : Hid (Calls Tryz.prog 20 #[.pointer (some ⟨be, 0, none⟩), .int .i64 i] wr.drew fun e w' => e = .returned (.int .i64 (mk i)) ∧ w' = wr.drew) := HM i wr.drew hlt2 hI.out
        have hcv : Hid (Calls Tryz.prog 15 #[.pointer (some ⟨be, 0, none⟩), .int .i64 i, .int .i64 (a i)] wr.drew fun e w' => e = .returned .nilIface ∧ w'.cell? ⟨g, off + i, none⟩ = some (.int .i64 (a i)) ∧ Hid (St (i + 1) w')) := by
          refine (HV i wr.drew hlt2 he hI.out).mono ?_
          rintro e w' ⟨rfl, h⟩
          exact ⟨rfl, hc _ i w' h hlt2, h⟩
        have hb : (a i != mk i) = true := by simpa using he
        clear HV HE HM he hd hg hc I
        go_wp2
        go_region_held3 (fun W => W.cell? ⟨g, off + i, none⟩ = some (.int .i64 (a i))) (first | (go_keep; done) | fail) (first
          | (go_at_call 15; refine hcv.out.mono ?_; rintro e w3 ⟨rfl, hc3, h3⟩)
          | (go_at_call 20; refine hcm.out.mono ?_; rintro e w2 ⟨rfl, hw⟩; subst hw)
          | fail)
        go_wp2
        go_roundg (2 - (i + 1))
        all_goals first
          | (have := HG.out; omega)
          | exact ⟨i + 1, by omega, rfl, by first | rfl | (congr 1; omega) | go_num, h3⟩
    · have j2 : ¬ ((i : Int) < 2) := by omega
      have I2 := I.out
      rw [show i = 2 by omega] at I2
      clear I
      go_wp2
      go_ret
      exact ⟨rfl, I2⟩
end Go.Proofs.YthfpipieboophaaGreatDoor
