/- estuarylaw.bare: an error is the number that it is told to be, without a place. -/
import Derived.Test.YtgffodmipbefpaaDoorAs
import Derived.WalkSpells
import Derived.WalkLawsBesides
import Derived.Below
import Derived.Deep.RegionWith
import Derived.BigQuiet
import Derived.Lib.SmallJoins
namespace Go.Proofs.YtgffodmipbefpaaDoor
open Go.RowKit

set_option maxRecDepth 100000

def errV (k : Int) : Value := if k = 0 then .nilIface else .iface 40 (.int .i64 k)

theorem below_as (w : World) (o1 o2 o3 o4 o5 : Obj) (v : Value) : Below w.heap.size w ((((((w.alloc o1).alloc o2).alloc o3).alloc o4).alloc o5).setCell ⟨w.heap.size, 0, none⟩ v) :=
  (((((Go.Joins.below_alloc1 w _).alloc (by simp) _).alloc (by simp; omega) _).alloc (by simp; omega) _).alloc (by simp; omega) _).setCell (Nat.le_refl _) _

theorem cell_as (w : World) (v0 : Value) (t : TypeId) (o2 o3 o4 o5 : Obj) (v : Value) : ((((((w.alloc (.cells #[v0] t)).alloc o2).alloc o3).alloc o4).alloc o5).setCell ⟨w.heap.size, 0, none⟩ v).cell? ⟨w.heap.size, 0, none⟩ = some v := by
  refine World.cell?_setCell_same _ _ _ (u := v0) ?_
  rw [World.cell?_alloc_lt _ _ _ (by simp; omega), World.cell?_alloc_lt _ _ _ (by simp; omega), World.cell?_alloc_lt _ _ _ (by simp; omega), World.cell?_alloc_lt _ _ _ (by simp)]
  simp

theorem tell_nil (w : World) : Calls Tryd.prog 64 #[.nilIface] w fun e w' => e = .returned (.int .i64 0) ∧ w' = w := by
  go_enter Tryd.func64, Tryd.ntmps64
  go_wp2
  go_ret
  exact ⟨rfl, rfl⟩

set_option maxHeartbeats 400000 in
theorem tell_some (k : Int) (w : World) (hg : w.cell? ⟨0, 0, none⟩ = some (.iface 175 (.agg #[.pointer (some ⟨1, 32, none⟩)]))) (hz : 0 < w.heap.size) :
    Calls Tryd.prog 64 #[.iface 40 (.int .i64 k)] w fun e w' => e = .returned (.int .i64 k) ∧ Below w.heap.size w w' := by
  have hg1 : (w.alloc (.cells #[.int .i64 0] 40)).cell? ⟨0, 0, none⟩ = some (.iface 175 (.agg #[.pointer (some ⟨1, 32, none⟩)])) := by
    rw [World.cell?_alloc_lt _ _ ⟨0, 0, none⟩ hz]; exact hg
  have hA := as_hit k ⟨w.heap.size, 0, none⟩ (.int .i64 0) (w.alloc (.cells #[.int .i64 0] 40)) hg1 (by simp) (by simp)
  go_enter Tryd.func64, Tryd.ntmps64
  go_wp2_with (go_at_call 92; refine hA.mono ?_; rintro e w' ⟨rfl, hw'⟩; have hc : w'.cell? ⟨w.heap.size, 0, none⟩ = some (.int .i64 k) := (by subst hw'; exact cell_as w _ _ _ _ _ _ _); have hB : Below w.heap.size w w' := (by subst hw'; exact below_as w _ _ _ _ _ _); clear hw')
  go_ret
  exact ⟨rfl, hB⟩

theorem Tryd.not72 (v : Value) (w : World) : (Instr.typeAssert (.iface 40 v) 32 135 true).run Tryd.prog w = .ok (.tuple #[.pointer none, .bool false]) w := by kernel_rfl
theorem Tryd.lacks74 (v : Value) (xT : TypeId) (w : World) : (Instr.typeAssert (.iface 40 v) xT 137 true).run Tryd.prog w = .ok (.tuple #[.nilIface, .bool false]) w :=
  run_typeAssert_lacksB Tryd.underlying137 (by kernel_rfl) (by kernel_rfl) v xT w

set_option maxHeartbeats 400000 in
theorem plainBare_nil (w : World) : Calls Tryd.prog 37 #[.nilIface] w fun e w' => e = .returned (.tuple #[.int .i64 0, .bool true]) ∧ w' = w := by
  go_enter Tryd.func37, Tryd.ntmps37
  go_wp2_with (go_at_call 64; refine (tell_nil _).mono ?_; rintro e w' ⟨rfl, rfl⟩)
  refine wp_loop_rounds 1 ?_
  rw [rounds_succ]
  go_wp2
  go_ret2
  exact ⟨rfl, rfl⟩

set_option maxRecDepth 100000 in
set_option maxHeartbeats 400000 in
theorem plainBare_some (k : Int) (w : World) (hg : w.cell? ⟨0, 0, none⟩ = some (.iface 175 (.agg #[.pointer (some ⟨1, 32, none⟩)]))) (hz : 0 < w.heap.size) :
    Calls Tryd.prog 37 #[.iface 40 (.int .i64 k)] w fun e w' => e = .returned (.tuple #[.int .i64 k, .bool true]) ∧ Below w.heap.size w w' := by
  have hl := Tryd.lacks74
  have hn := Tryd.not72
  go_enter Tryd.func37, Tryd.ntmps37
  go_wp2_with (go_at_call 64; refine (tell_some k _ hg hz).mono ?_; rintro e w' ⟨rfl, hb⟩)
  refine wp_loop_rounds 1 ?_
  rw [rounds_succ]
  go_wp2
  go_ret2
  exact ⟨rfl, hb⟩

/-- bare(err, e): err is e, without a place. -/
theorem bare_any (k e0 : Int) (w : World) (hg : w.cell? ⟨0, 0, none⟩ = some (.iface 175 (.agg #[.pointer (some ⟨1, 32, none⟩)]))) (hz : 0 < w.heap.size) :
    Calls Tryd.prog 7 #[errV k, .int .i64 e0] w fun e w' => e = .returned (.bool (k == e0)) ∧ Below w.heap.size w w' := by
  unfold errV
  by_cases h0 : k = 0
  · subst h0
    rw [if_pos rfl]
    go_enter Tryd.func7, Tryd.ntmps7
    go_wp2_with (go_at_call 37; refine (plainBare_nil _).mono ?_; rintro e w' ⟨rfl, rfl⟩)
    go_ret
    exact ⟨rfl, Below.refl _ _⟩
  · rw [if_neg h0]
    go_enter Tryd.func7, Tryd.ntmps7
    go_wp2_with (go_at_call 37; refine (plainBare_some k _ hg hz).mono ?_; rintro e w' ⟨rfl, hb⟩)
    go_ret
    exact ⟨rfl, hb⟩


theorem bare_same (k : Int) (w0 w : World) (hg : w0.cell? ⟨0, 0, none⟩ = some (.iface 175 (.agg #[.pointer (some ⟨1, 32, none⟩)]))) (hz : 0 < w0.heap.size) (hb : Below w0.heap.size w0 w) :
    Calls Tryd.prog 7 #[errV k, .int .i64 k] w fun e w' => e = .returned (.bool true) ∧ Below w.heap.size w w' :=
  (bare_any k k w ((hb.cell (by exact hz)).trans hg) (Nat.lt_of_lt_of_le hz hb.size)).mono fun e w' ⟨h, hw⟩ => ⟨by rw [h]; simp, hw⟩

end Go.Proofs.YtgffodmipbefpaaDoor
