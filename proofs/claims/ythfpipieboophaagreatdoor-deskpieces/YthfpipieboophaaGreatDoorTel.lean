/- api.Tell of an Errno. -/
import Derived.Test.YthfpipieboophaaGreatDoorAs
import Derived.WalkSpells
import Derived.WalkLawsBesides
import Derived.Below
import Derived.Deep.RegionWith
import Derived.BigQuiet
import Derived.Lib.SmallJoins
namespace Go.Proofs.YthfpipieboophaaGreatDoor
open Go.RowKit
set_option maxRecDepth 100000
theorem below_as (w : World) (o1 o2 o3 o4 o5 : Obj) (v : Value) : Below w.heap.size w ((((((w.alloc o1).alloc o2).alloc o3).alloc o4).alloc o5).setCell ⟨w.heap.size, 0, none⟩ v) :=
  (((((Go.Joins.below_alloc1 w _).alloc (by simp) _).alloc (by simp; omega) _).alloc (by simp; omega) _).alloc (by simp; omega) _).setCell (Nat.le_refl _) _
theorem cell_as (w : World) (v0 : Value) (t : TypeId) (o2 o3 o4 o5 : Obj) (v : Value) : ((((((w.alloc (.cells #[v0] t)).alloc o2).alloc o3).alloc o4).alloc o5).setCell ⟨w.heap.size, 0, none⟩ v).cell? ⟨w.heap.size, 0, none⟩ = some v := by
  refine World.cell?_setCell_same _ _ _ (u := v0) ?_
  rw [World.cell?_alloc_lt _ _ _ (by simp; omega), World.cell?_alloc_lt _ _ _ (by simp; omega), World.cell?_alloc_lt _ _ _ (by simp; omega), World.cell?_alloc_lt _ _ _ (by simp)]
  simp
set_option maxHeartbeats 400000 in
theorem tell_some (k : Int) (w : World) (hg : w.cell? ⟨2, 0, none⟩ = some (.iface 278 (.agg #[.pointer (some ⟨12, 29, none⟩)]))) (_hz : 0 < w.heap.size) :
    Calls Tryz.prog 46 #[.iface 24 (.int .i64 k)] w fun e w' => e = .returned (.int .i64 k) ∧ Below w.heap.size w w' := by
  have hg1 : (w.alloc (.cells #[.int .i64 0] 24)).cell? ⟨2, 0, none⟩ = some (.iface 278 (.agg #[.pointer (some ⟨12, 29, none⟩)])) := by
    rw [World.cell?_alloc_lt _ _ ⟨2, 0, none⟩ (World.block_lt_of_cell? _ _ hg)]; exact hg
  have hA := as_hit k ⟨w.heap.size, 0, none⟩ (.int .i64 0) (w.alloc (.cells #[.int .i64 0] 24)) hg1 (by simp) (by simp)
  go_enter Tryz.func46, Tryz.ntmps46
  go_wp2_with (go_at_call 106; refine hA.mono ?_; rintro e w' ⟨rfl, hw'⟩; have hc : w'.cell? ⟨w.heap.size, 0, none⟩ = some (.int .i64 k) := (by subst hw'; exact cell_as w _ _ _ _ _ _ _); have hB : Below w.heap.size w w' := (by subst hw'; exact below_as w _ _ _ _ _ _); clear hw')
  go_ret
  exact ⟨rfl, hB⟩
end Go.Proofs.YthfpipieboophaaGreatDoor
