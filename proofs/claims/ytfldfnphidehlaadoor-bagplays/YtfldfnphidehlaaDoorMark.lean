/- Package mark's functions: what they answer of two marks l, r that lie at block b. -/
import Derived.Test.YtfldfnphidehlaaDoorAs
import Derived.WalkSpells
import Derived.WalkLawsBesides
import Derived.Below
import Derived.Deep.RegionWith
import Derived.BigQuiet
import Derived.Lib.SmallJoins
namespace Go.Proofs.YtfldfnphidehlaaDoor
open Go.RowKit

theorem ret_int {k : IntKind} {a b : Int} (h : a = b) : Ending.returned (.int k a) = .returned (.int k b) := by rw [h]
theorem ret_bool {a b : Bool} (h : a = b) : Ending.returned (.bool a) = .returned (.bool b) := by rw [h]

def sideB (s : Int) : Bool := s == 0 || s == 1
def ofI (l r s : Int) : Int := if s = 0 then l else if s = 1 then r else -1099511627777

theorem isSide_any (s : Int) (w : World) : Calls Tryd.prog 28 #[.int .i64 s] w fun e w' => e = .returned (.bool (sideB s)) ∧ w' = w := by
  by_cases h0 : s = 0
  · subst h0
    go_enter Tryd.func28, Tryd.ntmps28
    go_wp2
    go_ret
    exact ⟨ret_bool (by simp [sideB]), rfl⟩
  · by_cases h1 : s = 1
    · subst h1
      go_enter Tryd.func28, Tryd.ntmps28
      go_wp2
      go_ret
      exact ⟨ret_bool (by simp [sideB]), rfl⟩
    · go_enter Tryd.func28, Tryd.ntmps28
      go_wp2
      go_ret
      exact ⟨ret_bool (by simp_all [sideB]), rfl⟩

theorem new_any (w : World) : Calls Tryd.prog 14 #[] w fun e w' => e = .returned (.pointer (some ⟨w.heap.size, 0, none⟩)) ∧ w' = w.alloc (.cells #[.int .i64 (-1099511627777), .int .i64 (-1099511627777)] 69) := by
  go_enter Tryd.func14, Tryd.ntmps14
  go_wp2
  go_ret
  exact ⟨rfl, rfl⟩

theorem of_any (b : Nat) (l r s : Int) (w : World) (hl : w.cell? ⟨b, 0, none⟩ = some (.int .i64 l)) (hr : w.cell? ⟨b, 1, none⟩ = some (.int .i64 r)) :
    Calls Tryd.prog 16 #[.pointer (some ⟨b, 0, none⟩), .int .i64 s] w fun e w' => e = .returned (.int .i64 (ofI l r s)) ∧ w' = w := by
  by_cases h0 : s = 0
  · subst h0
    go_enter Tryd.func16, Tryd.ntmps16
    go_wp2_with (go_at_call 28; refine (isSide_any _ _).mono ?_; rintro e w' ⟨rfl, rfl⟩; simp only [sideB, beq_self_eq_true, Bool.true_or])
    go_ret
    exact ⟨ret_int (by simp [ofI]), rfl⟩
  · by_cases h1 : s = 1
    · subst h1
      go_enter Tryd.func16, Tryd.ntmps16
      go_wp2_with (go_at_call 28; refine (isSide_any _ _).mono ?_; rintro e w' ⟨rfl, rfl⟩; simp only [sideB, beq_self_eq_true, Bool.or_true])
      go_ret
      exact ⟨ret_int (by simp [ofI]), rfl⟩
    · have hs : sideB s = false := by simp [sideB, h0, h1]
      go_enter Tryd.func16, Tryd.ntmps16
      go_wp2_with (go_at_call 28; refine (isSide_any _ _).mono ?_; rintro e w' ⟨rfl, rfl⟩; rw [hs])
      go_ret
      exact ⟨ret_int (by simp [ofI, h0, h1]), rfl⟩

theorem late_any (b : Nat) (l r s t : Int) (w : World) (hl : w.cell? ⟨b, 0, none⟩ = some (.int .i64 l)) (hr : w.cell? ⟨b, 1, none⟩ = some (.int .i64 r)) :
    Calls Tryd.prog 15 #[.pointer (some ⟨b, 0, none⟩), .int .i64 s, .int .i64 t] w fun e w' => e = .returned (.bool (decide (t ≤ ofI l r s))) ∧ w' = w := by
  go_enter Tryd.func15, Tryd.ntmps15
  go_wp2_with (go_at_call 16; refine (of_any b l r s _ hl hr).mono ?_; rintro e w' ⟨rfl, rfl⟩)
  go_ret
  exact ⟨rfl, rfl⟩

def errV (k : Int) : Value := if k = 0 then .nilIface else .iface 40 (.int .i64 k)
def moveE (l r s t : Int) : Int := if sideB s = false then 1 else if t < -1099511627776 ∨ 1099511627776 < t then 2 else if t < ofI l r s then 10 else 0
def movL (l r s t : Int) : Int := if moveE l r s t = 0 ∧ s = 0 then t else l
def movR (l r s t : Int) : Int := if moveE l r s t = 0 ∧ s = 1 then t else r

/-- Only block b has turned. -/
structure Only (b : Nat) (w w' : World) : Prop where
  os : w'.os = w.os
  tape : w'.tape = w.tape
  output : w'.output = w.output
  size : w.heap.size = w'.heap.size
  block : ∀ k, k ≠ b → w'.heap[k]? = w.heap[k]?
theorem Only.refl (b : Nat) (w : World) : Only b w w := ⟨rfl, rfl, rfl, rfl, fun _ _ => rfl⟩
theorem Only.setCell (b i : Nat) (w : World) (v : Value) : Only b w (w.setCell ⟨b, i, none⟩ v) :=
  ⟨rfl, rfl, rfl, by simp, fun k hk => Below.heap_setCell w _ v k hk⟩
theorem Only.below {b B : Nat} {w w' : World} (h : Only b w w') (hB : B ≤ b) : Below B w w' :=
  ⟨h.os, h.tape, h.output, Nat.le_of_eq h.size, fun k hk => h.block k (by omega)⟩

theorem move_any (b : Nat) (l r s t : Int) (w : World) (hb : w.heap[b]? = some (.cells #[.int .i64 l, .int .i64 r] 69)) :
    Calls Tryd.prog 17 #[.pointer (some ⟨b, 0, none⟩), .int .i64 s, .int .i64 t] w fun e w' => e = .returned (errV (moveE l r s t)) ∧ w'.heap[b]? = some (.cells #[.int .i64 (movL l r s t), .int .i64 (movR l r s t)] 69) ∧ Only b w w' := by
  have hl : w.cell? ⟨b, 0, none⟩ = some (.int .i64 l) := by rw [Go.Joins.cell_of_block hb]; rfl
  have hr : w.cell? ⟨b, 1, none⟩ = some (.int .i64 r) := by rw [Go.Joins.cell_of_block hb]; rfl
  have hfl : w.frozen? ⟨b, 0, none⟩ = false := Go.Joins.unfrozen_of_block hb 0
  have hfr : w.frozen? ⟨b, 1, none⟩ = false := Go.Joins.unfrozen_of_block hb 1
  have H0 := Go.Joins.block_setCell (i := 0) hb (.int .i64 t)
  have H1 := Go.Joins.block_setCell (i := 1) hb (.int .i64 t)
  have HB : Hid (w.heap[b]? = some (.cells #[.int .i64 l, .int .i64 r] 69)) := hb
  have K0 : Hid _ := H0
  have K1 : Hid _ := H1
  clear hb H0 H1
  cases hs : sideB s
  · have he : moveE l r s t = 1 := by simp [moveE, hs]
    have HE : Hid _ := he
    clear he
    go_enter Tryd.func17, Tryd.ntmps17
    go_wp2_with (go_at_call 28; refine (isSide_any _ _).mono ?_; rintro e w' ⟨rfl, rfl⟩; rw [hs])
    go_ret
    refine ⟨by rw [HE.out]; rfl, ?_, Only.refl _ _⟩
    unfold movL movR; rw [HE.out]; exact HB.out
  · by_cases g1 : t < -1099511627776
    · have he : moveE l r s t = 2 := by simp [moveE, hs, g1]
      have HE : Hid _ := he
      clear he
      go_enter Tryd.func17, Tryd.ntmps17
      go_wp2_with (go_at_call 28; refine (isSide_any _ _).mono ?_; rintro e w' ⟨rfl, rfl⟩; rw [hs])
      go_ret
      refine ⟨by rw [HE.out]; rfl, ?_, Only.refl _ _⟩
      unfold movL movR; rw [HE.out]; exact HB.out
    · by_cases g2 : 1099511627776 < t
      · have he : moveE l r s t = 2 := by simp [moveE, hs, g2]
        have HE : Hid _ := he
        clear he
        go_enter Tryd.func17, Tryd.ntmps17
        go_wp2_with (go_at_call 28; refine (isSide_any _ _).mono ?_; rintro e w' ⟨rfl, rfl⟩; rw [hs])
        go_ret
        refine ⟨by rw [HE.out]; rfl, ?_, Only.refl _ _⟩
        unfold movL movR; rw [HE.out]; exact HB.out
      · have hor : ¬ (t < -1099511627776 ∨ 1099511627776 < t) := by omega
        rcases (show s = 0 ∨ s = 1 by simpa [sideB] using hs) with rfl | rfl
        · by_cases g3 : t < l
          · have he : moveE l r 0 t = 10 := by unfold moveE; rw [if_neg (by simp [hs]), if_neg hor, if_pos (by simpa [ofI] using g3)]
            have HE : Hid _ := he
            clear he hor
            go_enter Tryd.func17, Tryd.ntmps17
            go_wp2_with (go_at_call 28; refine (isSide_any _ _).mono ?_; rintro e w' ⟨rfl, rfl⟩; rw [hs])
            go_ret
            refine ⟨by rw [HE.out]; rfl, ?_, Only.refl _ _⟩
            unfold movL movR; rw [HE.out]; exact HB.out
          · have he : moveE l r 0 t = 0 := by unfold moveE; rw [if_neg (by simp [hs]), if_neg hor, if_neg (by simpa [ofI] using g3)]
            have HE : Hid _ := he
            clear he hor
            go_enter Tryd.func17, Tryd.ntmps17
            go_wp2_with (go_at_call 28; refine (isSide_any _ _).mono ?_; rintro e w' ⟨rfl, rfl⟩; rw [hs])
            go_ret
            refine ⟨by rw [HE.out]; rfl, ?_, Only.setCell _ _ _ _⟩
            unfold movL movR; rw [HE.out]; exact K0.out
        · by_cases g3 : t < r
          · have he : moveE l r 1 t = 10 := by unfold moveE; rw [if_neg (by simp [hs]), if_neg hor, if_pos (by simpa [ofI] using g3)]
            have HE : Hid _ := he
            clear he hor
            go_enter Tryd.func17, Tryd.ntmps17
            go_wp2_with (go_at_call 28; refine (isSide_any _ _).mono ?_; rintro e w' ⟨rfl, rfl⟩; rw [hs])
            go_ret
            refine ⟨by rw [HE.out]; rfl, ?_, Only.refl _ _⟩
            unfold movL movR; rw [HE.out]; exact HB.out
          · have he : moveE l r 1 t = 0 := by unfold moveE; rw [if_neg (by simp [hs]), if_neg hor, if_neg (by simpa [ofI] using g3)]
            have HE : Hid _ := he
            clear he hor
            go_enter Tryd.func17, Tryd.ntmps17
            go_wp2_with (go_at_call 28; refine (isSide_any _ _).mono ?_; rintro e w' ⟨rfl, rfl⟩; rw [hs])
            go_ret
            refine ⟨by rw [HE.out]; rfl, ?_, Only.setCell _ _ _ _⟩
            unfold movL movR; rw [HE.out]; exact K1.out

theorem both_any (b : Nat) (l r : Int) (w : World) (hl : w.cell? ⟨b, 0, none⟩ = some (.int .i64 l)) (hr : w.cell? ⟨b, 1, none⟩ = some (.int .i64 r)) :
    Calls Tryd.prog 18 #[.pointer (some ⟨b, 0, none⟩)] w fun e w' => e = .returned (.int .i64 (min l r)) ∧ w' = w.drew := by
  go_enter Tryd.func18, Tryd.ntmps18
  go_wp2
  go_region
  all_goals (try go_wp2)
  all_goals go_ret
  all_goals exact ⟨ret_int (by omega), rfl⟩

theorem below_as (w : World) (o1 o2 o3 o4 o5 : Obj) (v : Value) : Below w.heap.size w ((((((w.alloc o1).alloc o2).alloc o3).alloc o4).alloc o5).setCell ⟨w.heap.size, 0, none⟩ v) :=
  (((((Go.Joins.below_alloc1 w _).alloc (by simp) _).alloc (by simp; omega) _).alloc (by simp; omega) _).alloc (by simp; omega) _).setCell (Nat.le_refl _) _

theorem cell_as (w : World) (v0 : Value) (t : TypeId) (o2 o3 o4 o5 : Obj) (v : Value) : ((((((w.alloc (.cells #[v0] t)).alloc o2).alloc o3).alloc o4).alloc o5).setCell ⟨w.heap.size, 0, none⟩ v).cell? ⟨w.heap.size, 0, none⟩ = some v := by
  refine World.cell?_setCell_same _ _ _ (u := v0) ?_
  rw [World.cell?_alloc_lt _ _ _ (by simp; omega), World.cell?_alloc_lt _ _ _ (by simp; omega), World.cell?_alloc_lt _ _ _ (by simp; omega), World.cell?_alloc_lt _ _ _ (by simp)]
  simp

theorem tell_nil (w : World) : Calls Tryd.prog 29 #[.nilIface] w fun e w' => e = .returned (.int .i64 0) ∧ w' = w := by
  go_enter Tryd.func29, Tryd.ntmps29
  go_wp2
  go_ret
  exact ⟨rfl, rfl⟩

set_option maxHeartbeats 400000 in
theorem tell_some (k : Int) (w : World) (hg : w.cell? ⟨0, 0, none⟩ = some (.iface 106 (.agg #[.pointer (some ⟨1, 32, none⟩)]))) (hz : 0 < w.heap.size) :
    Calls Tryd.prog 29 #[.iface 40 (.int .i64 k)] w fun e w' => e = .returned (.int .i64 k) ∧ Below w.heap.size w w' := by
  have hg1 : (w.alloc (.cells #[.int .i64 0] 40)).cell? ⟨0, 0, none⟩ = some (.iface 106 (.agg #[.pointer (some ⟨1, 32, none⟩)])) := by
    rw [World.cell?_alloc_lt _ _ ⟨0, 0, none⟩ hz]; exact hg
  have hA := as_hit k ⟨w.heap.size, 0, none⟩ (.int .i64 0) (w.alloc (.cells #[.int .i64 0] 40)) hg1 (by simp) (by simp)
  go_enter Tryd.func29, Tryd.ntmps29
  go_wp2_with (go_at_call 45; refine hA.mono ?_; rintro e w' ⟨rfl, hw'⟩; have hc : w'.cell? ⟨w.heap.size, 0, none⟩ = some (.int .i64 k) := (by subst hw'; exact cell_as w _ _ _ _ _ _ _); have hB : Below w.heap.size w w' := (by subst hw'; exact below_as w _ _ _ _ _ _); clear hw')
  go_ret
  exact ⟨rfl, hB⟩

theorem Tryd.not72 (v : Value) (w : World) : (Instr.typeAssert (.iface 40 v) 32 72 true).run Tryd.prog w = .ok (.tuple #[.pointer none, .bool false]) w := by kernel_rfl
theorem Tryd.lacks74 (v : Value) (xT : TypeId) (w : World) : (Instr.typeAssert (.iface 40 v) xT 74 true).run Tryd.prog w = .ok (.tuple #[.nilIface, .bool false]) w :=
  run_typeAssert_lacksB Tryd.underlying74 (by kernel_rfl) (by kernel_rfl) v xT w

set_option maxHeartbeats 400000 in
theorem plainBare_nil (w : World) : Calls Tryd.prog 19 #[.nilIface] w fun e w' => e = .returned (.tuple #[.int .i64 0, .bool true]) ∧ w' = w := by
  go_enter Tryd.func19, Tryd.ntmps19
  go_wp2_with (go_at_call 29; refine (tell_nil _).mono ?_; rintro e w' ⟨rfl, rfl⟩)
  refine wp_loop_rounds 1 ?_
  rw [rounds_succ]
  go_wp2
  go_ret2
  exact ⟨rfl, rfl⟩

set_option maxRecDepth 100000 in
set_option maxHeartbeats 400000 in
theorem plainBare_some (k : Int) (w : World) (hg : w.cell? ⟨0, 0, none⟩ = some (.iface 106 (.agg #[.pointer (some ⟨1, 32, none⟩)]))) (hz : 0 < w.heap.size) :
    Calls Tryd.prog 19 #[.iface 40 (.int .i64 k)] w fun e w' => e = .returned (.tuple #[.int .i64 k, .bool true]) ∧ Below w.heap.size w w' := by
  have hl := Tryd.lacks74
  have hn := Tryd.not72
  go_enter Tryd.func19, Tryd.ntmps19
  go_wp2_with (go_at_call 29; refine (tell_some k _ hg hz).mono ?_; rintro e w' ⟨rfl, hb⟩)
  refine wp_loop_rounds 1 ?_
  rw [rounds_succ]
  go_wp2
  go_ret2
  exact ⟨rfl, hb⟩

/-- bare(err, e): err is e, without a place. -/
theorem bare_any (k e0 : Int) (w : World) (hg : w.cell? ⟨0, 0, none⟩ = some (.iface 106 (.agg #[.pointer (some ⟨1, 32, none⟩)]))) (hz : 0 < w.heap.size) :
    Calls Tryd.prog 5 #[errV k, .int .i64 e0] w fun e w' => e = .returned (.bool (k == e0)) ∧ Below w.heap.size w w' := by
  unfold errV
  by_cases h0 : k = 0
  · subst h0
    rw [if_pos rfl]
    go_enter Tryd.func5, Tryd.ntmps5
    go_wp2_with (go_at_call 19; refine (plainBare_nil _).mono ?_; rintro e w' ⟨rfl, rfl⟩)
    go_ret
    exact ⟨rfl, Below.refl _ _⟩
  · rw [if_neg h0]
    go_enter Tryd.func5, Tryd.ntmps5
    go_wp2_with (go_at_call 19; refine (plainBare_some k _ hg hz).mono ?_; rintro e w' ⟨rfl, hb⟩)
    go_ret
    exact ⟨rfl, hb⟩
end Go.Proofs.YtfldfnphidehlaaDoor
