/- RowOuts' ground: the Out of one row as a list of cells; what lies in the boxes. -/
import Derived.Test.YtedojilgkdcaoaaRefo
namespace Go.Proofs.Ytedojilgkdcaoaa
open Go.RowKit Go.Sort

def loneA (s k t v : Int) : Array Value := if s = 0 then #[.int .i64 k, .int .i64 k, .int .i64 t, .int .i64 v, .int .i64 0, .int .i64 0, .int .i64 0, .bool true, .bool false] else #[.int .i64 k, .int .i64 0, .int .i64 0, .int .i64 0, .int .i64 k, .int .i64 t, .int .i64 v, .bool false, .bool true]
theorem loneV_agg (s k t v : Int) : loneV s k t v = .agg (loneA s k t v) := by unfold loneV loneA; by_cases h : s = 0 <;> simp [h]
theorem lone_r (s : Int) (l : R) (w : World) : Calls Try.prog 14 #[.int .i64 s, .agg #[.int .i64 l.k, .int .i64 l.t, .int .i64 l.v]] w fun e w' => e = .returned (.agg (loneA s l.k l.t l.v)) ∧ Below w.heap.size w w' := by
  rw [← loneV_agg]; exact lone_any s l.k l.t l.v w
theorem refLone_r (s : Int) (l : R) (w : World) : Calls Try.prog 15 #[.int .i64 s, .agg #[.int .i64 l.k, .int .i64 l.t, .int .i64 l.v]] w fun e w' => e = .returned (.agg (loneA s l.k l.t l.v)) ∧ Below w.heap.size w w' := by
  rw [← loneV_agg]; exact refLone_any s l.k l.t l.v w
theorem neq_lone (s k t v : Int) (w : World) : (binOp .neq 27 (.agg (loneA s k t v)) (.agg (loneA s k t v))).run Try.prog w = .ok (.bool false) w := by
  unfold loneA
  by_cases h : s = 0
  · simp only [if_pos h]; go_simp
  · simp only [if_neg h]; go_simp
theorem good_r (l : R) (w : World) : Calls Try.prog 7 #[.agg #[.int .i64 l.k, .int .i64 l.t, .int .i64 l.v]] w fun e w' => e = .returned (.bool (goodI l.k l.t l.v)) ∧ Below w.heap.size w w' := refGood_any l.k l.t l.v w
theorem meets_r (p l r : R) (b : Bool) (h : meetsI p.k p.t l.k l.t l.v r.k r.t r.v = b) (w : World) : Calls Try.prog 16 #[.agg #[.int .i64 p.k, .int .i64 p.t, .int .i64 p.v], .agg #[.int .i64 l.k, .int .i64 l.t, .int .i64 l.v], .agg #[.int .i64 r.k, .int .i64 r.t, .int .i64 r.v]] w fun e w' => e = .returned (.bool b) ∧ Below w.heap.size w w' := by
  rw [← h]; exact meets_any p.k p.t p.v l.k l.t l.v r.k r.t r.v w

theorem boxes5 (a b : O) (p l r : R) (w w1 : World) (hb : Below (w.heap.size + 1 + 1 + 1 + 1 + 1) (((((w.alloc (.cells #[.int .i64 a.k, .int .i64 a.lk, .int .i64 a.lt, .int .i64 a.lv, .int .i64 a.rk, .int .i64 a.rt, .int .i64 a.rv, .bool a.hl, .bool a.hr] 27)).alloc (.cells #[.int .i64 b.k, .int .i64 b.lk, .int .i64 b.lt, .int .i64 b.lv, .int .i64 b.rk, .int .i64 b.rt, .int .i64 b.rv, .bool b.hl, .bool b.hr] 27)).alloc (.cells #[.int .i64 p.k, .int .i64 p.t, .int .i64 p.v] 31)).alloc (.cells #[.int .i64 l.k, .int .i64 l.t, .int .i64 l.v] 23)).alloc (.cells #[.int .i64 r.k, .int .i64 r.t, .int .i64 r.v] 23)) w1) :
    w1.cell? ⟨w.heap.size, 0, none⟩ = some (.int .i64 a.k) ∧ w1.cell? ⟨w.heap.size, 1, none⟩ = some (.int .i64 a.lk) ∧ w1.cell? ⟨w.heap.size, 2, none⟩ = some (.int .i64 a.lt) ∧ w1.cell? ⟨w.heap.size, 3, none⟩ = some (.int .i64 a.lv) ∧ w1.cell? ⟨w.heap.size, 4, none⟩ = some (.int .i64 a.rk) ∧ w1.cell? ⟨w.heap.size, 5, none⟩ = some (.int .i64 a.rt) ∧ w1.cell? ⟨w.heap.size, 6, none⟩ = some (.int .i64 a.rv) ∧ w1.cell? ⟨w.heap.size, 7, none⟩ = some (.bool a.hl) ∧ w1.cell? ⟨w.heap.size, 8, none⟩ = some (.bool a.hr) ∧ w1.cell? ⟨w.heap.size + 1, 0, none⟩ = some (.int .i64 b.k) ∧ w1.cell? ⟨w.heap.size + 1, 1, none⟩ = some (.int .i64 b.lk) ∧ w1.cell? ⟨w.heap.size + 1, 2, none⟩ = some (.int .i64 b.lt) ∧ w1.cell? ⟨w.heap.size + 1, 3, none⟩ = some (.int .i64 b.lv) ∧ w1.cell? ⟨w.heap.size + 1, 4, none⟩ = some (.int .i64 b.rk) ∧ w1.cell? ⟨w.heap.size + 1, 5, none⟩ = some (.int .i64 b.rt) ∧ w1.cell? ⟨w.heap.size + 1, 6, none⟩ = some (.int .i64 b.rv) ∧ w1.cell? ⟨w.heap.size + 1, 7, none⟩ = some (.bool b.hl) ∧ w1.cell? ⟨w.heap.size + 1, 8, none⟩ = some (.bool b.hr) ∧ w1.cell? ⟨w.heap.size + 1 + 1, 0, none⟩ = some (.int .i64 p.k) ∧ w1.cell? ⟨w.heap.size + 1 + 1, 1, none⟩ = some (.int .i64 p.t) ∧ w1.cell? ⟨w.heap.size + 1 + 1, 2, none⟩ = some (.int .i64 p.v) ∧ w1.cell? ⟨w.heap.size + 1 + 1 + 1, 0, none⟩ = some (.int .i64 l.k) ∧ w1.cell? ⟨w.heap.size + 1 + 1 + 1, 1, none⟩ = some (.int .i64 l.t) ∧ w1.cell? ⟨w.heap.size + 1 + 1 + 1, 2, none⟩ = some (.int .i64 l.v) ∧ w1.cell? ⟨w.heap.size + 1 + 1 + 1 + 1, 0, none⟩ = some (.int .i64 r.k) ∧ w1.cell? ⟨w.heap.size + 1 + 1 + 1 + 1, 1, none⟩ = some (.int .i64 r.t) ∧ w1.cell? ⟨w.heap.size + 1 + 1 + 1 + 1, 2, none⟩ = some (.int .i64 r.v) := by
  have h := fun (B o : Nat) (hB : B < w.heap.size + 1 + 1 + 1 + 1 + 1) => hb.cell (p := ⟨B, o, none⟩) hB
  simp (disch := omega) only [h]
  simp (disch := first | omega | (simp only [World.size_alloc]; done) | (simp only [World.size_alloc]; omega)) only [World.cell?_alloc_past, World.cell?_alloc_at]
  simp
theorem below5 (w : World) (o1 o2 o3 o4 o5 : Obj) : Below w.heap.size w (((((w.alloc o1).alloc o2).alloc o3).alloc o4).alloc o5) := by
  refine (((((Below.refl _ _).alloc ?_ _).alloc ?_ _).alloc ?_ _).alloc ?_ _).alloc ?_ _ <;> simp <;> omega

end Go.Proofs.Ytedojilgkdcaoaa
