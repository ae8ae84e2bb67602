/- Jnz: several texts in one. -/
import Derived.Test.YthfpipieboophaaGreatDoorSidz
import Derived.WalkSpells
import Derived.WalkLawsBesides
import Derived.Below
import Derived.Deep.RegionWith
import Derived.BigQuiet
import Derived.Lib.SmallJoins
/- Package mark's functions: what they answer of two marks l, r that lie at block b. -/
namespace Go.Proofs.YthfpipieboophaaGreatDoor
open Go.RowKit
set_option maxRecDepth 100000
def sideB (s : Int) : Bool := s == 0 || s == 1
def ofI (l r s : Int) : Int := if s = 0 then l else if s = 1 then r else -1099511627777
theorem markSide_any (s : Int) (w : World) : Calls Tryz.prog 170 #[.int .i64 s] w fun e w' => e = .returned (.bool (sideB s)) ∧ w' = w := by
  by_cases h0 : s = 0
  · subst h0
    go_enter Tryz.func170, Tryz.ntmps170
    go_wp2
    go_ret
    exact ⟨ret_bool (by simp [sideB]), rfl⟩
  · by_cases h1 : s = 1
    · subst h1
      go_enter Tryz.func170, Tryz.ntmps170
      go_wp2
      go_ret
      exact ⟨ret_bool (by simp [sideB]), rfl⟩
    · go_enter Tryz.func170, Tryz.ntmps170
      go_wp2
      go_ret
      exact ⟨ret_bool (by simp_all [sideB]), rfl⟩
theorem markNew_any (w : World) : Calls Tryz.prog 110 #[] w fun e w' => e = .returned (.pointer (some ⟨w.heap.size, 0, none⟩)) ∧ w' = w.alloc (.cells #[.int .i64 (-1099511627777), .int .i64 (-1099511627777)] 250) := by
  go_enter Tryz.func110, Tryz.ntmps110
  go_wp2
  go_ret
  exact ⟨rfl, rfl⟩
theorem markOf_any (b : Nat) (l r s : Int) (w : World) (hl : w.cell? ⟨b, 0, none⟩ = some (.int .i64 l)) (hr : w.cell? ⟨b, 1, none⟩ = some (.int .i64 r)) :
    Calls Tryz.prog 100 #[.pointer (some ⟨b, 0, none⟩), .int .i64 s] w fun e w' => e = .returned (.int .i64 (ofI l r s)) ∧ w' = w := by
  by_cases h0 : s = 0
  · subst h0
    go_enter Tryz.func100, Tryz.ntmps100
    go_wp2_with (go_at_call 170; refine (markSide_any _ _).mono ?_; rintro e w' ⟨rfl, rfl⟩; simp only [sideB, beq_self_eq_true, Bool.true_or])
    go_ret
    exact ⟨ret_int (by simp [ofI]), rfl⟩
  · by_cases h1 : s = 1
    · subst h1
      go_enter Tryz.func100, Tryz.ntmps100
      go_wp2_with (go_at_call 170; refine (markSide_any _ _).mono ?_; rintro e w' ⟨rfl, rfl⟩; simp only [sideB, beq_self_eq_true, Bool.or_true])
      go_ret
      exact ⟨ret_int (by simp [ofI]), rfl⟩
    · have hs : sideB s = false := by simp [sideB, h0, h1]
      go_enter Tryz.func100, Tryz.ntmps100
      go_wp2_with (go_at_call 170; refine (markSide_any _ _).mono ?_; rintro e w' ⟨rfl, rfl⟩; rw [hs])
      go_ret
      exact ⟨ret_int (by simp [ofI, h0, h1]), rfl⟩
theorem markLate_any (b : Nat) (l r s t : Int) (w : World) (hl : w.cell? ⟨b, 0, none⟩ = some (.int .i64 l)) (hr : w.cell? ⟨b, 1, none⟩ = some (.int .i64 r)) :
    Calls Tryz.prog 97 #[.pointer (some ⟨b, 0, none⟩), .int .i64 s, .int .i64 t] w fun e w' => e = .returned (.bool (decide (t ≤ ofI l r s))) ∧ w' = w := by
  go_enter Tryz.func97, Tryz.ntmps97
  go_wp2_with (go_at_call 100; refine (markOf_any b l r s _ hl hr).mono ?_; rintro e w' ⟨rfl, rfl⟩)
  go_ret
  exact ⟨rfl, rfl⟩
def errV (k : Int) : Value := if k = 0 then .nilIface else .iface 24 (.int .i64 k)
def moveE (l r s t : Int) : Int := if sideB s = false then 1 else if t < -1099511627776 ∨ 1099511627776 < t then 2 else if t < ofI l r s then 10 else 0
def movL (l r s t : Int) : Int := if moveE l r s t = 0 ∧ s = 0 then t else l
def movR (l r s t : Int) : Int := if moveE l r s t = 0 ∧ s = 1 then t else r
structure Only (b : Nat) (w w' : World) : Prop where
  os : w'.os = w.os
  tape : w'.tape = w.tape
  output : w'.output = w.output
  size : w.heap.size = w'.heap.size
  block : ∀ k, k ≠ b → w'.heap[k]? = w.heap[k]?
theorem Only.refl (b : Nat) (w : World) : Only b w w := ⟨rfl, rfl, rfl, rfl, fun _ _ => rfl⟩
theorem Only.setCell (b i : Nat) (w : World) (v : Value) : Only b w (w.setCell ⟨b, i, none⟩ v) :=
  ⟨rfl, rfl, rfl, by simp, fun k hk => Below.heap_setCell w _ v k hk⟩
theorem Only.below {b B : Nat} {w w' : World} (h : Only b w w') (hB : B ≤ b) : Below B w w' :=
  ⟨h.os, h.tape, h.output, Nat.le_of_eq h.size, fun k hk => h.block k (by omega)⟩
theorem markMove_any (b : Nat) (l r s t : Int) (w : World) (hb : w.heap[b]? = some (.cells #[.int .i64 l, .int .i64 r] 250)) :
    Calls Tryz.prog 111 #[.pointer (some ⟨b, 0, none⟩), .int .i64 s, .int .i64 t] w fun e w' => e = .returned (errV (moveE l r s t)) ∧ w'.heap[b]? = some (.cells #[.int .i64 (movL l r s t), .int .i64 (movR l r s t)] 250) ∧ Only b w w' := by
  have hl : w.cell? ⟨b, 0, none⟩ = some (.int .i64 l) := by rw [Go.Joins.cell_of_block hb]; rfl
  have hr : w.cell? ⟨b, 1, none⟩ = some (.int .i64 r) := by rw [Go.Joins.cell_of_block hb]; rfl
  have hfl : w.frozen? ⟨b, 0, none⟩ = false := Go.Joins.unfrozen_of_block hb 0
  have hfr : w.frozen? ⟨b, 1, none⟩ = false := Go.Joins.unfrozen_of_block hb 1
  have H0 := Go.Joins.block_setCell (i := 0) hb (.int .i64 t)
  have H1 := Go.Joins.block_setCell (i := 1) hb (.int .i64 t)
  have HB : Hid (w.heap[b]? = some (.cells #[.int .i64 l, .int .i64 r] 250)) := hb
  have K0 : Hid _ := H0
  have K1 : Hid _ := H1
  clear hb H0 H1
  cases hs : sideB s
  · have he : moveE l r s t = 1 := by simp [moveE, hs]
    have HE : Hid _ := he
    clear he
    go_enter Tryz.func111, Tryz.ntmps111
    go_wp2_with (go_at_call 170; refine (markSide_any _ _).mono ?_; rintro e w' ⟨rfl, rfl⟩; rw [hs])
    go_ret
    refine ⟨by rw [HE.out]; rfl, ?_, Only.refl _ _⟩
    unfold movL movR; rw [HE.out]; exact HB.out
  · by_cases g1 : t < -1099511627776
    · have he : moveE l r s t = 2 := by simp [moveE, hs, g1]
      have HE : Hid _ := he
      clear he
      go_enter Tryz.func111, Tryz.ntmps111
      go_wp2_with (go_at_call 170; refine (markSide_any _ _).mono ?_; rintro e w' ⟨rfl, rfl⟩; rw [hs])
      go_ret
      refine ⟨by rw [HE.out]; rfl, ?_, Only.refl _ _⟩
      unfold movL movR; rw [HE.out]; exact HB.out
    · by_cases g2 : 1099511627776 < t
      · have he : moveE l r s t = 2 := by simp [moveE, hs, g2]
        have HE : Hid _ := he
        clear he
        go_enter Tryz.func111, Tryz.ntmps111
        go_wp2_with (go_at_call 170; refine (markSide_any _ _).mono ?_; rintro e w' ⟨rfl, rfl⟩; rw [hs])
        go_ret
        refine ⟨by rw [HE.out]; rfl, ?_, Only.refl _ _⟩
        unfold movL movR; rw [HE.out]; exact HB.out
      · have hor : ¬ (t < -1099511627776 ∨ 1099511627776 < t) := by omega
        rcases (show s = 0 ∨ s = 1 by simpa [sideB] using hs) with rfl | rfl
        · by_cases g3 : t < l
          · have he : moveE l r 0 t = 10 := by unfold moveE; rw [if_neg (by simp [hs]), if_neg hor, if_pos (by simpa [ofI] using g3)]
            have HE : Hid _ := he
            clear he hor
            go_enter Tryz.func111, Tryz.ntmps111
            go_wp2_with (go_at_call 170; refine (markSide_any _ _).mono ?_; rintro e w' ⟨rfl, rfl⟩; rw [hs])
            go_ret
            refine ⟨by rw [HE.out]; rfl, ?_, Only.refl _ _⟩
            unfold movL movR; rw [HE.out]; exact HB.out
          · have he : moveE l r 0 t = 0 := by unfold moveE; rw [if_neg (by simp [hs]), if_neg hor, if_neg (by simpa [ofI] using g3)]
            have HE : Hid _ := he
            clear he hor
            go_enter Tryz.func111, Tryz.ntmps111
            go_wp2_with (go_at_call 170; refine (markSide_any _ _).mono ?_; rintro e w' ⟨rfl, rfl⟩; rw [hs])
            go_ret
            refine ⟨by rw [HE.out]; rfl, ?_, Only.setCell _ _ _ _⟩
            unfold movL movR; rw [HE.out]; exact K0.out
        · by_cases g3 : t < r
          · have he : moveE l r 1 t = 10 := by unfold moveE; rw [if_neg (by simp [hs]), if_neg hor, if_pos (by simpa [ofI] using g3)]
            have HE : Hid _ := he
            clear he hor
            go_enter Tryz.func111, Tryz.ntmps111
            go_wp2_with (go_at_call 170; refine (markSide_any _ _).mono ?_; rintro e w' ⟨rfl, rfl⟩; rw [hs])
            go_ret
            refine ⟨by rw [HE.out]; rfl, ?_, Only.refl _ _⟩
            unfold movL movR; rw [HE.out]; exact HB.out
          · have he : moveE l r 1 t = 0 := by unfold moveE; rw [if_neg (by simp [hs]), if_neg hor, if_neg (by simpa [ofI] using g3)]
            have HE : Hid _ := he
            clear he hor
            go_enter Tryz.func111, Tryz.ntmps111
            go_wp2_with (go_at_call 170; refine (markSide_any _ _).mono ?_; rintro e w' ⟨rfl, rfl⟩; rw [hs])
            go_ret
            refine ⟨by rw [HE.out]; rfl, ?_, Only.setCell _ _ _ _⟩
            unfold movL movR; rw [HE.out]; exact K1.out
end Go.Proofs.YthfpipieboophaaGreatDoor

/- Package join: its small functions; Outs and changes as records. -/
namespace Go.Proofs.YthfpipieboophaaGreatDoor
open Go.Shelf Go.RowKit
set_option maxRecDepth 100000
structure Ch where
  x : O
  g : Bool
  deriving DecidableEq, Inhabited
def encC (c : Ch) : List Value := [.int .i64 c.x.k, .int .i64 c.x.lk, .int .i64 c.x.lt, .int .i64 c.x.lv, .int .i64 c.x.rk, .int .i64 c.x.rt, .int .i64 c.x.rv, .bool c.x.hl, .bool c.x.hr, .bool c.g]
def zC : Value := .agg #[.int .i64 0, .int .i64 0, .int .i64 0, .int .i64 0, .int .i64 0, .int .i64 0, .int .i64 0, .bool false, .bool false, .bool false]
theorem encC_len (c : Ch) : (encC c).length = 10 := rfl
theorem encC_one (c : Ch) : ∀ u ∈ encC c, u.oneCell' = true := by
  intro u hu; simp [encC] at hu; rcases hu with rfl | rfl | rfl | rfl | rfl | rfl | rfl | rfl | rfl | rfl <;> rfl
theorem infoCh : (Tryz.prog.info? 95).map (fun i => (i.zero, i.size, i.bytes)) = some (some zC, 10, 72) := by kernel_rfl
def loneO (s : Int) (k t v : Int) : O := if s = 0 then ⟨k, k, t, v, 0, 0, 0, true, false⟩ else ⟨k, 0, 0, 0, k, t, v, false, true⟩
def pairO (s : Int) (k t v k2 t2 v2 : Int) : O := if s = 0 then ⟨k, k, t, v, k2, t2, v2, true, true⟩ else ⟨k2, k2, t2, v2, k, t, v, true, true⟩
def tellsB (mode s : Int) : Bool := if s = 0 then mode == 1 || mode == 3 else mode == 2 || mode == 3
theorem jisSide_any (s : Int) (w : World) : Calls Tryz.prog 95 #[.int .i64 s] w fun e w' => e = .returned (.bool (sideB s)) ∧ w' = w := by
  by_cases h0 : s = 0
  · subst h0
    go_enter Tryz.func95, Tryz.ntmps95
    go_wp2
    go_ret
    exact ⟨ret_bool (by simp [sideB]), rfl⟩
  · by_cases h1 : s = 1
    · subst h1
      go_enter Tryz.func95, Tryz.ntmps95
      go_wp2
      go_ret
      exact ⟨ret_bool (by simp [sideB]), rfl⟩
    · go_enter Tryz.func95, Tryz.ntmps95
      go_wp2
      go_ret
      exact ⟨ret_bool (by simp_all [sideB]), rfl⟩
theorem other_zero (w : World) : Calls Tryz.prog 101 #[.int .i64 0] w fun e w' => e = .returned (.int .i64 1) ∧ w' = w := by
  go_enter Tryz.func101, Tryz.ntmps101
  go_wp2
  go_ret
  exact ⟨rfl, rfl⟩
theorem other_one (w : World) : Calls Tryz.prog 101 #[.int .i64 1] w fun e w' => e = .returned (.int .i64 0) ∧ w' = w := by
  go_enter Tryz.func101, Tryz.ntmps101
  go_wp2
  go_ret
  exact ⟨rfl, rfl⟩
theorem oneMoreJ_any (n : Int) (w : World) (h1 : -9223372036854775808 ≤ n) (h2 : n ≤ 9223372036854775807) : Calls Tryz.prog 98 #[.int .i64 n] w fun e w' => e = .returned (.int .i64 (moreI n)) ∧ w' = w := by
  by_cases e : n = 9223372036854775807
  · subst e
    go_enter Tryz.func98, Tryz.ntmps98
    go_wp2
    go_ret
    exact ⟨rfl, rfl⟩
  · have hm : moreI n = n + 1 := by simp [moreI, e]
    have he : (n == 9223372036854775807) = false := by simp [e]
    have h3 : n < 9223372036854775807 := by omega
    rw [hm]
    clear hm
    go_enter Tryz.func98, Tryz.ntmps98
    go_wp2
    go_ret
    exact ⟨rfl, rfl⟩
theorem reach_left (b : Nat) (lo hi : Int) (w : World) (h1 : w.cell? ⟨b, 0, none⟩ = some (.int .i64 lo)) (h2 : w.cell? ⟨b, 1, none⟩ = some (.int .i64 hi)) :
    Calls Tryz.prog 99 #[.pointer (some ⟨b, 0, none⟩), .int .i64 0] w fun e w' => e = .returned (.tuple #[.int .i64 lo, .int .i64 hi]) ∧ w' = w.drew := by
  go_enter Tryz.func99, Tryz.ntmps99
  go_wp2
  go_region
  go_wp2
  exact bodyPost_ret (v := .tuple #[.int .i64 lo, .int .i64 hi]) (by simp [results, Tryz.results99, go_sem]) rfl ⟨rfl, rfl⟩
theorem reach_right (b : Nat) (lo hi : Int) (w : World) (h1 : w.cell? ⟨b, 0, none⟩ = some (.int .i64 lo)) (h2 : w.cell? ⟨b, 1, none⟩ = some (.int .i64 hi)) (g1 : -1048576 ≤ lo) (g2 : lo ≤ 1048576) (g3 : -1048576 ≤ hi) (g4 : hi ≤ 1048576) :
    Calls Tryz.prog 99 #[.pointer (some ⟨b, 0, none⟩), .int .i64 1] w fun e w' => e = .returned (.tuple #[.int .i64 (-hi), .int .i64 (-lo)]) ∧ w' = w.drew := by
  have e1 : IntKind.i64.wrap (-hi) = -hi := wr64 (by omega) (by omega)
  have e2 : IntKind.i64.wrap (-lo) = -lo := wr64 (by omega) (by omega)
  go_enter Tryz.func99, Tryz.ntmps99
  go_wp2
  go_region
  go_wp2
  exact bodyPost_ret (v := .tuple #[.int .i64 (-hi), .int .i64 (-lo)]) (by simp [results, Tryz.results99, go_sem]) rfl ⟨rfl, rfl⟩
theorem tells_any (b : Nat) (mode s : Int) (w : World) (h : w.cell? ⟨b, 2, none⟩ = some (.int .i64 mode)) (hs : s = 0 ∨ s = 1) :
    Calls Tryz.prog 174 #[.pointer (some ⟨b, 0, none⟩), .int .i64 s] w fun e w' => e = .returned (.bool (tellsB mode s)) ∧ w' = w := by
  rcases hs with rfl | rfl
  · cases hm : (mode == 1)
    · go_enter Tryz.func174, Tryz.ntmps174
      go_wp2
      go_ret
      exact ⟨ret_bool (by simp [tellsB, hm]), rfl⟩
    · go_enter Tryz.func174, Tryz.ntmps174
      go_wp2
      go_ret
      exact ⟨ret_bool (by simp [tellsB, hm]), rfl⟩
  · cases hm : (mode == 2)
    · go_enter Tryz.func174, Tryz.ntmps174
      go_wp2
      go_ret
      exact ⟨ret_bool (by simp [tellsB, hm]), rfl⟩
    · go_enter Tryz.func174, Tryz.ntmps174
      go_wp2
      go_ret
      exact ⟨ret_bool (by simp [tellsB, hm]), rfl⟩
def loneV (s k t v : Int) : Value := if s = 0 then .agg #[.int .i64 k, .int .i64 k, .int .i64 t, .int .i64 v, .int .i64 0, .int .i64 0, .int .i64 0, .bool true, .bool false] else .agg #[.int .i64 k, .int .i64 0, .int .i64 0, .int .i64 0, .int .i64 k, .int .i64 t, .int .i64 v, .bool false, .bool true]
set_option maxHeartbeats 400000 in
theorem lone_left (k t v : Int) (w : World) :
    Calls Tryz.prog 167 #[.int .i64 0, .agg #[.int .i64 k, .int .i64 t, .int .i64 v]] w fun e w' => e = .returned (.agg #[.int .i64 k, .int .i64 k, .int .i64 t, .int .i64 v, .int .i64 0, .int .i64 0, .int .i64 0, .bool true, .bool false]) ∧ Below w.heap.size w w' := by
  go_enter Tryz.func167, Tryz.ntmps167
  go_wp2
  exact bodyPost_ret (v := .agg #[.int .i64 k, .int .i64 k, .int .i64 t, .int .i64 v, .int .i64 0, .int .i64 0, .int .i64 0, .bool true, .bool false]) (by simp [results, Tryz.results167, go_sem]) rfl ⟨rfl, Go.Joins.below_alloc2 _ _ _⟩
set_option maxHeartbeats 400000 in
theorem lone_right (k t v : Int) (w : World) :
    Calls Tryz.prog 167 #[.int .i64 1, .agg #[.int .i64 k, .int .i64 t, .int .i64 v]] w fun e w' => e = .returned (.agg #[.int .i64 k, .int .i64 0, .int .i64 0, .int .i64 0, .int .i64 k, .int .i64 t, .int .i64 v, .bool false, .bool true]) ∧ Below w.heap.size w w' := by
  go_enter Tryz.func167, Tryz.ntmps167
  go_wp2
  exact bodyPost_ret (v := .agg #[.int .i64 k, .int .i64 0, .int .i64 0, .int .i64 0, .int .i64 k, .int .i64 t, .int .i64 v, .bool false, .bool true]) (by simp [results, Tryz.results167, go_sem]) rfl ⟨rfl, Go.Joins.below_alloc2 _ _ _⟩
set_option maxHeartbeats 400000 in
theorem rpair_any (k1 t1 v1 k2 t2 v2 : Int) (w : World) :
    Calls Tryz.prog 168 #[.agg #[.int .i64 k1, .int .i64 t1, .int .i64 v1], .agg #[.int .i64 k2, .int .i64 t2, .int .i64 v2]] w fun e w' => e = .returned (.agg #[.int .i64 k1, .int .i64 k1, .int .i64 t1, .int .i64 v1, .int .i64 k2, .int .i64 t2, .int .i64 v2, .bool true, .bool true]) ∧ w' = ((w.alloc (.cells #[.int .i64 k1, .int .i64 t1, .int .i64 v1] 37)).alloc (.cells #[.int .i64 k2, .int .i64 t2, .int .i64 v2] 37)).alloc (.cells #[.int .i64 k1, .int .i64 k1, .int .i64 t1, .int .i64 v1, .int .i64 k2, .int .i64 t2, .int .i64 v2, .bool true, .bool true] 89) := by
  go_enter Tryz.func168, Tryz.ntmps168
  go_wp2
  exact bodyPost_ret (v := .agg #[.int .i64 k1, .int .i64 k1, .int .i64 t1, .int .i64 v1, .int .i64 k2, .int .i64 t2, .int .i64 v2, .bool true, .bool true]) (by simp [results, Tryz.results168, go_sem]) rfl ⟨rfl, rfl⟩
set_option maxHeartbeats 1000000 in
theorem jpair_left (k t v k2 t2 v2 : Int) (w : World) :
    Calls Tryz.prog 175 #[.int .i64 0, .agg #[.int .i64 k, .int .i64 t, .int .i64 v], .agg #[.int .i64 k2, .int .i64 t2, .int .i64 v2]] w fun e w' => e = .returned (.agg #[.int .i64 k, .int .i64 k, .int .i64 t, .int .i64 v, .int .i64 k2, .int .i64 t2, .int .i64 v2, .bool true, .bool true]) ∧ Below w.heap.size w w' := by
  go_enter Tryz.func175, Tryz.ntmps175
  go_wp2_with (go_at_call 168; refine (rpair_any _ _ _ _ _ _ _).mono ?_; rintro e w' ⟨rfl, rfl⟩)
  refine bodyPost_ret (v := .agg #[.int .i64 k, .int .i64 k, .int .i64 t, .int .i64 v, .int .i64 k2, .int .i64 t2, .int .i64 v2, .bool true, .bool true]) (by simp [results, Tryz.results175, go_sem]) rfl ⟨rfl, ?_⟩
  repeat (first | exact Below.refl _ _ | refine Below.setCell ?_ (by simp; omega) _ | refine Below.alloc ?_ (by simp; omega) _ | refine Below.alloc ?_ (by simp) _)
set_option maxHeartbeats 1000000 in
theorem jpair_right (k t v k2 t2 v2 : Int) (w : World) :
    Calls Tryz.prog 175 #[.int .i64 1, .agg #[.int .i64 k, .int .i64 t, .int .i64 v], .agg #[.int .i64 k2, .int .i64 t2, .int .i64 v2]] w fun e w' => e = .returned (.agg #[.int .i64 k2, .int .i64 k2, .int .i64 t2, .int .i64 v2, .int .i64 k, .int .i64 t, .int .i64 v, .bool true, .bool true]) ∧ Below w.heap.size w w' := by
  go_enter Tryz.func175, Tryz.ntmps175
  go_wp2_with (go_at_call 168; refine (rpair_any _ _ _ _ _ _ _).mono ?_; rintro e w' ⟨rfl, rfl⟩)
  refine bodyPost_ret (v := .agg #[.int .i64 k2, .int .i64 k2, .int .i64 t2, .int .i64 v2, .int .i64 k, .int .i64 t, .int .i64 v, .bool true, .bool true]) (by simp [results, Tryz.results175, go_sem]) rfl ⟨rfl, ?_⟩
  repeat (first | exact Below.refl _ _ | refine Below.setCell ?_ (by simp; omega) _ | refine Below.alloc ?_ (by simp; omega) _ | refine Below.alloc ?_ (by simp) _)
end Go.Proofs.YthfpipieboophaaGreatDoor

/- Package join: what comes of a row that meets these (changes). -/
namespace Go.Proofs.YthfpipieboophaaGreatDoor
open Go.Shelf Go.RowKit
set_option maxRecDepth 100000
def chg1 (T : Bool) (s s' : Int) (k t v : Int) (m : D) : List Ch := (if m.n = 0 ∧ T = true then [⟨loneO s' m.k m.t m.v, true⟩] else []) ++ [⟨pairO s k t v m.k m.t m.v, false⟩]
theorem chg1_len (T : Bool) (s s' : Int) (k t v : Int) (m : D) : (chg1 T s s' k t v m).length ≤ 2 := by unfold chg1; split <;> simp
theorem chgs_len (T : Bool) (s s' : Int) (k t v : Int) (M : List D) : (M.flatMap (chg1 T s s' k t v)).length ≤ 2 * M.length := by
  induction M with
  | nil => simp
  | cons a r ih => have := chg1_len T s s' k t v a; simp only [List.flatMap_cons, List.length_append, List.length_cons]; omega
structure Cg (w1 : World) (X : List Ch) (v9 : Value) (wr : World) : Prop where
  low : Below w1.heap.size w1 wr
  row : wr.ownsRow w1.heap.size 95 10 v9 X.length (X.flatMap encC)
theorem Cg.start (w1 : World) : Cg w1 [] (.slice none 0 0) w1 := ⟨Below.refl _ _, World.ownsRow_nil _ _ _ _⟩
theorem kept_below86 {w w' : World} {base : Nat} {v : Value} {n : Nat} {xs : List Value} (h : w.ownsRow base 95 10 v n xs) (hb : Below w.heap.size w w') : w'.ownsRow base 95 10 v n xs :=
  h.kept (row := none) ⟨hb.os, hb.tape, hb.output, hb.size, fun k hk _ => hb.block k hk⟩ (by cases h' : v.ownBlock with | none => exact .inl rfl | some g => exact .inr (by simp))
theorem Cg.go {w1 wr W : World} {X : List Ch} {v9 : Value} (h : Cg w1 X v9 wr) (hb : Below wr.heap.size wr W) : Cg w1 X v9 W :=
  ⟨h.low.trans (hb.mono h.low.size), kept_below86 h.row hb⟩
theorem Cg.step {w1 W w3 : World} {X : List Ch} {v9 : Value} {c : Ch} {g cap : Nat} (h : Cg w1 X v9 W) (hown : w3.ownsRow w1.heap.size 95 10 (.slice (some ⟨g, 0, none⟩) (X.length + 1) cap) (X.length + 1) (X.flatMap encC ++ encC c)) (hg : W.grownBy w3 v9.ownBlock) :
    Cg w1 (X ++ [c]) (.slice (some ⟨g, 0, none⟩) (X.length + 1) cap) w3 :=
  ⟨h.low.grown hg h.low.size (fun k e => (h.row.lt k e).1), by rw [List.length_append, List.flatMap_append]; simpa using hown⟩
theorem Cg.far {w1 W : World} {X : List Ch} {v9 : Value} (h : Cg w1 X v9 W) (k : Nat) (hk : W.heap.size ≤ k) : v9.ownBlock ≠ some k := fun e => by have := (h.row.lt k e).2; omega
theorem four_cells {W : World} {B : Nat} {x : D} (h : W.heap[B]? = some (.cells #[.int .i64 x.k, .int .i64 x.t, .int .i64 x.v, .int .i64 x.n] 130)) :
    W.cell? ⟨B, 0, none⟩ = some (.int .i64 x.k) ∧ W.cell? ⟨B, 1, none⟩ = some (.int .i64 x.t) ∧ W.cell? ⟨B, 2, none⟩ = some (.int .i64 x.v) ∧ W.cell? ⟨B, 3, none⟩ = some (.int .i64 x.n) := by
  refine ⟨?_, ?_, ?_, ?_⟩ <;> (rw [Go.Joins.cell_of_block h]; rfl)
abbrev chB (c : Ch) : Obj := .cells #[.int .i64 c.x.k, .int .i64 c.x.lk, .int .i64 c.x.lt, .int .i64 c.x.lv, .int .i64 c.x.rk, .int .i64 c.x.rt, .int .i64 c.x.rv, .bool c.x.hl, .bool c.x.hr, .bool c.g] 95
set_option maxHeartbeats 4000000 in
theorem changes_some (base b gs ck : Nat) (mode s s' : Int) (T : Bool) (k t v : Int) (M : List D) (w : World)
    (ho : ∀ W, Calls Tryz.prog 101 #[.int .i64 s] W fun e w' => e = .returned (.int .i64 s') ∧ w' = W)
    (ht : ∀ W, W.cell? ⟨b, 2, none⟩ = some (.int .i64 mode) → Calls Tryz.prog 174 #[.pointer (some ⟨b, 0, none⟩), .int .i64 s'] W fun e w' => e = .returned (.bool T) ∧ w' = W)
    (hl : ∀ k t v W, Calls Tryz.prog 167 #[.int .i64 s', .agg #[.int .i64 k, .int .i64 t, .int .i64 v]] W fun e w' => e = .returned (vO (loneO s' k t v)) ∧ Below W.heap.size W w')
    (hp : ∀ k t v k2 t2 v2 W, Calls Tryz.prog 175 #[.int .i64 s, .agg #[.int .i64 k, .int .i64 t, .int .i64 v], .agg #[.int .i64 k2, .int .i64 t2, .int .i64 v2]] W fun e w' => e = .returned (vO (pairO s k t v k2 t2 v2)) ∧ Below W.heap.size W w')
    (h : w.cell? ⟨b, 2, none⟩ = some (.int .i64 mode)) (hb : b < w.heap.size) (hM : w.ownsRow base 130 4 (.slice (some ⟨gs, 0, none⟩) M.length ck) M.length (M.flatMap encD)) (h0 : 0 < M.length) (hlen : M.length ≤ 100000) :
    Calls Tryz.prog 105 #[.pointer (some ⟨b, 0, none⟩), .int .i64 s, .agg #[.int .i64 k, .int .i64 t, .int .i64 v], .slice (some ⟨gs, 0, none⟩) M.length ck] w fun e w' => ∃ v9, e = .returned v9 ∧ w'.ownsRow w.heap.size 95 10 v9 (M.flatMap (chg1 T s s' k t v)).length ((M.flatMap (chg1 T s s' k t v)).flatMap encC) ∧ Below w.heap.size w w' := by
  obtain ⟨i0, hi, hz0, hz1, hz2⟩ := info_parts infoCh
  obtain ⟨Z, hZ⟩ : ∃ Z, Z = M.flatMap (chg1 T s s' k t v) := ⟨_, rfl⟩
  rw [← hZ]
  have HZ : Hid (Z = M.flatMap (chg1 T s s' k t v)) := hZ
  clear hZ
  have HO : Hid (∀ W, Calls Tryz.prog 101 #[.int .i64 s] W fun e w' => e = .returned (.int .i64 s') ∧ w' = W) := ho
  have HT : Hid (∀ W, W.cell? ⟨b, 2, none⟩ = some (.int .i64 mode) → Calls Tryz.prog 174 #[.pointer (some ⟨b, 0, none⟩), .int .i64 s'] W fun e w' => e = .returned (.bool T) ∧ w' = W) := ht
  simp only [vO] at hl hp
  have HL := hl
  have HP := hp
  have HM : Hid (w.ownsRow base 130 4 (.slice (some ⟨gs, 0, none⟩) M.length ck) M.length (M.flatMap encD)) := hM
  have iz : ((M.length : Int) == 0) = false := by simp only [beq_eq_false_iff_ne]; omega
  have i1 : (M.length : Int) ≤ 100000 := by omega
  clear ho ht hl hp hM
  revert HL HP
  intro HL HP
  go_enter Tryz.func105, Tryz.ntmps105
  go_wp2
  have W1 : Hid (Below w.heap.size w (w.alloc (.cells #[.int .i64 k, .int .i64 t, .int .i64 v] 37)) ∧ (w.alloc (.cells #[.int .i64 k, .int .i64 t, .int .i64 v] 37)).heap[w.heap.size]? = some (.cells #[.int .i64 k, .int .i64 t, .int .i64 v] 37) ∧ w.heap.size < (w.alloc (.cells #[.int .i64 k, .int .i64 t, .int .i64 v] 37)).heap.size) := ⟨Go.Joins.below_alloc1 _ _, heap_alloc_new _ _, by simp⟩
  revert W1
  generalize w.alloc (.cells #[.int .i64 k, .int .i64 t, .int .i64 v] 37) = w1
  intro W1
  have C0 : Hid (Cg w1 [] (.slice none 0 0) w1) := Cg.start w1
  go_loopg [9, 27] M.length (fun gg v9 v27 wr => ∃ (i : Nat), i ≤ M.length ∧ gg = M.length - i ∧ v27 = .int .i64 i ∧ Hid (Cg w1 ((M.take i).flatMap (chg1 T s s' k t v)) v9 wr))
  case atStart => exact ⟨0, Nat.zero_le _, rfl, rfl, C0⟩
  case round =>
    obtain ⟨i, hi2, hg, rfl, I⟩ := hrel
    have HG : Hid (gk = M.length - i) := hg
    clear hg C0
    have hlw : w.heap.size < wr.heap.size := Nat.lt_of_lt_of_le W1.out.2.2 I.out.low.size
    have hBw : Hid (Below w.heap.size w wr) := (W1.out.1.trans (I.out.low.mono (Nat.le_of_lt W1.out.2.2)))
    by_cases hlt : i < M.length
    · obtain ⟨x, hx⟩ : ∃ x, M[i]? = some x := ⟨_, List.getElem?_eq_getElem hlt⟩
      have hcx := rows_cells (kept_below HM.out hBw.out) i x hx
      have hrb := (I.out.low.block _ W1.out.2.2).trans W1.out.2.1
      have hrc := rbox_cells hrb
      have hmc : wr.cell? ⟨b, 2, none⟩ = some (.int .i64 mode) := (hBw.out.cell (p := ⟨b, 2, none⟩) hb).trans h
      have htk : Hid ((M.take (i + 1)).flatMap (chg1 T s s' k t v) = (M.take i).flatMap (chg1 T s s' k t v) ++ chg1 T s s' k t v x) := by
        show (M.take (i + 1)).flatMap (chg1 T s s' k t v) = (M.take i).flatMap (chg1 T s s' k t v) ++ chg1 T s s' k t v x
        rw [List.take_add_one, hx]; simp
      have hXl : ((M.take i).flatMap (chg1 T s s' k t v)).length ≤ 200000 := by
        have h1 := chgs_len T s s' k t v (M.take i)
        have h2 := List.length_take_le i M
        omega
      generalize (M.take i).flatMap (chg1 T s s' k t v) = X at *
      have j1 : (0 : Int) ≤ (i : Int) := by omega
      have j2 : (i : Int) < (M.length : Int) := by omega
      have hbw : b < wr.heap.size := by omega
      have HB : Hid (wr.heap[w.heap.size]? = some (.cells #[.int .i64 k, .int .i64 t, .int .i64 v] 37)) := hrb
      clear hx hrb
      -- behind whatever is told of the met row alone, the pair is told
      by_cases hc : x.n = 0 ∧ T = true
      · have hcg : Hid (chg1 T s s' k t v x = [⟨loneO s' x.k x.t x.v, true⟩, ⟨pairO s k t v x.k x.t x.v, false⟩]) := by
          show chg1 T s s' k t v x = [⟨loneO s' x.k x.t x.v, true⟩, ⟨pairO s k t v x.k x.t x.v, false⟩]
          unfold chg1; rw [if_pos hc]; rfl
        have hnb : Hid (Below wr.heap.size wr (wr.alloc (.cells #[.int .i64 x.k, .int .i64 x.t, .int .i64 x.v, .int .i64 x.n] 130))) := Go.Joins.below_alloc1 _ _
        have hn2 : (x.n == 0) = true := by simp [hc.1]
        have hT := hc.2
        subst hT
        have hbx : Hid ((wr.alloc (.cells #[.int .i64 x.k, .int .i64 x.t, .int .i64 x.v, .int .i64 x.n] 130)).heap[wr.heap.size]? = some (.cells #[.int .i64 x.k, .int .i64 x.t, .int .i64 x.v, .int .i64 x.n] 130)) := heap_alloc_new _ _
        clear hc
        go_wp2_with (first
          | (go_at_call 101; refine (HO.out _).mono ?_; rintro e w' ⟨rfl, rfl⟩)
          | (go_at_call 174; refine (HT.out _ ?_).mono ?_; (go_simp); rintro e w' ⟨rfl, rfl⟩)
          | fail)
        go_region_held3 (fun W => W.cell? ⟨wr.heap.size, 0, none⟩ = some (.int .i64 x.k) ∧ W.cell? ⟨wr.heap.size, 1, none⟩ = some (.int .i64 x.t) ∧ W.cell? ⟨wr.heap.size, 2, none⟩ = some (.int .i64 x.v)) (first | (go_keep; done) | fail) (first
          | (go_at_call 101; refine (HO.out _).mono ?_; rintro e w' ⟨rfl, rfl⟩)
          | (go_at_call 167; refine (HL _ _ _ _).mono ?_; rintro e w2 ⟨rfl, hb2⟩; have hbz := (hb2.block wr.heap.size (by simp)).trans hbx.out; have C2 : Hid (Cg w1 X u9 (w2.alloc (chB ⟨loneO s' x.k x.t x.v, true⟩)) ∧ w2.heap[wr.heap.size]? = some (.cells #[.int .i64 x.k, .int .i64 x.t, .int .i64 x.v, .int .i64 x.n] 130) ∧ wr.heap.size < w2.heap.size) := ⟨(I.out.go hnb.out.drew).go (hb2.trans ((Go.Joins.below_alloc1 w2 _).mono hb2.size)), hbz, (Array.getElem?_eq_some_iff.1 hbz).1⟩; have hl2 : w1.heap.size ≤ w2.heap.size := Nat.le_trans I.out.low.size (Nat.le_trans hnb.out.size hb2.size); have hx2 := four_cells hbz; have N2 : Hid (∀ j u, (encC ⟨loneO s' x.k x.t x.v, true⟩)[j]? = some u → (w2.alloc (chB ⟨loneO s' x.k x.t x.v, true⟩)).cell? ((⟨w2.heap.size, 0, none⟩ : Addr).add j) = some u) := World.news_of_block (heap_alloc_new w2 (chB ⟨loneO s' x.k x.t x.v, true⟩)); clear hb2 hbz)
          | (refine step_append_lies _ (by rfl) _ _ _ (by rfl) w1.heap.size 95 i0 zC 10 72 Tryz.underlying33 hi hz0 hz1 hz2 rfl (by omega) u9 X.length (X.flatMap encC) (by rfl) ?_ ⟨w2.heap.size, 0, none⟩ 1 1 (encC ⟨loneO s' x.k x.t x.v, true⟩) (by rfl) (by rfl) ?_ (encC_one _) (by omega) (by unfold maxLen; omega) (by omega) ?_ _ rfl ?_; (exact C2.out.1.row); (exact N2.out); (simp; omega); intro g3 cap3 w3 hown3 hgrow3 hat3 hlt3; have hbz3 := (hgrow3.block wr.heap.size (Nat.lt_trans C2.out.2.2 (by simp)) (fun e => I.out.far _ (Nat.le_refl _) e.symm)).trans ((Below.heap_alloc _ _ _ C2.out.2.2).trans C2.out.2.1); have hx3 := four_cells hbz3; have C3 : Hid (Cg w1 (X ++ [⟨loneO s' x.k x.t x.v, true⟩]) (.slice (some ⟨g3, 0, none⟩) (X.length + 1) cap3) w3) := C2.out.1.step hown3 hgrow3; clear hown3 hgrow3 hat3 hlt3 hbz3)
          | fail)
        have hr3 := rbox_cells ((C3.out.low.block _ W1.out.2.2).trans W1.out.2.1)
        have e3 : (X ++ [(⟨loneO s' x.k x.t x.v, true⟩ : Ch)]).length = X.length + 1 := by simp
        go_wp2_with (first
          | (go_at_call 175; refine (HP _ _ _ _ _ _ _).mono ?_; rintro e w4 ⟨rfl, hb4⟩; have C4 : Hid (Cg w1 (X ++ [⟨loneO s' x.k x.t x.v, true⟩]) (.slice (some ⟨g3, 0, none⟩) (X.length + 1) cap3) (w4.alloc (chB ⟨pairO s k t v x.k x.t x.v, false⟩))) := C3.out.go (hb4.trans ((Go.Joins.below_alloc1 w4 _).mono hb4.size)); have hl4 : w1.heap.size ≤ w4.heap.size := Nat.le_trans C3.out.low.size hb4.size; have N4 : Hid (∀ j u, (encC ⟨pairO s k t v x.k x.t x.v, false⟩)[j]? = some u → (w4.alloc (chB ⟨pairO s k t v x.k x.t x.v, false⟩)).cell? ((⟨w4.heap.size, 0, none⟩ : Addr).add j) = some u) := World.news_of_block (heap_alloc_new w4 (chB ⟨pairO s k t v x.k x.t x.v, false⟩)); clear hb4)
          | (refine wpList_append_lies _ rfl _ _ _ rfl w1.heap.size 95 i0 zC 10 72 Tryz.underlying33 hi hz0 hz1 hz2 rfl (by omega) (.slice (some ⟨g3, 0, none⟩) (X.length + 1) cap3) (X ++ [(⟨loneO s' x.k x.t x.v, true⟩ : Ch)]).length ((X ++ [(⟨loneO s' x.k x.t x.v, true⟩ : Ch)]).flatMap encC) rfl C4.out.row ⟨w4.heap.size, 0, none⟩ 1 1 (encC ⟨pairO s k t v x.k x.t x.v, false⟩) rfl rfl N4.out (encC_one _) (by omega) (by unfold maxLen; omega) (by omega) (by simp; omega) _ rfl ?_; intro g5 cap5 w5 hown5 hgrow5 hat5 hlt5; have C5 : Hid (Cg w1 ((X ++ [⟨loneO s' x.k x.t x.v, true⟩]) ++ [⟨pairO s k t v x.k x.t x.v, false⟩]) (.slice (some ⟨g5, 0, none⟩) ((X ++ [(⟨loneO s' x.k x.t x.v, true⟩ : Ch)]).length + 1) cap5) w5) := C4.out.step hown5 hgrow5; clear hown5 hgrow5 hat5 hlt5)
          | fail)
        go_roundg (M.length - (i + 1))
        case measure => have := HG.out; omega
        case rel =>
          have h5 := C5.out
          rw [List.append_assoc] at h5
          exact ⟨i + 1, by omega, rfl, by first | rfl | (congr 1; omega) | go_num, by rw [htk.out, hcg.out]; show Cg _ _ _ _; simpa using h5⟩
      · have hcg : Hid (chg1 T s s' k t v x = [⟨pairO s k t v x.k x.t x.v, false⟩]) := by
          show chg1 T s s' k t v x = [⟨pairO s k t v x.k x.t x.v, false⟩]
          unfold chg1; rw [if_neg hc]; rfl
        have hnb : Hid (Below wr.heap.size wr (wr.alloc (.cells #[.int .i64 x.k, .int .i64 x.t, .int .i64 x.v, .int .i64 x.n] 130))) := Go.Joins.below_alloc1 _ _
        by_cases hn : x.n = 0
        · have hT : T = false := by
            cases hT : T
            · rfl
            · exact absurd ⟨hn, hT⟩ hc
          subst hT
          have hn2 : (x.n == 0) = true := by simp [hn]
          clear hn hc
          go_wp2_with (first
            | (go_at_call 101; refine (HO.out _).mono ?_; rintro e w' ⟨rfl, rfl⟩)
            | (go_at_call 174; refine (HT.out _ ?_).mono ?_; (go_simp); rintro e w' ⟨rfl, rfl⟩)
            | (go_at_call 175; refine (HP _ _ _ _ _ _ _).mono ?_; rintro e w4 ⟨rfl, hb4⟩; have C4 : Hid (Cg w1 X u9 (w4.alloc (chB ⟨pairO s k t v x.k x.t x.v, false⟩))) := (I.out.go hnb.out).go (hb4.trans ((Go.Joins.below_alloc1 w4 _).mono hb4.size)); have hl4 : w1.heap.size ≤ w4.heap.size := Nat.le_trans I.out.low.size (Nat.le_trans hnb.out.size hb4.size); have N4 : Hid (∀ j u, (encC ⟨pairO s k t v x.k x.t x.v, false⟩)[j]? = some u → (w4.alloc (chB ⟨pairO s k t v x.k x.t x.v, false⟩)).cell? ((⟨w4.heap.size, 0, none⟩ : Addr).add j) = some u) := World.news_of_block (heap_alloc_new w4 (chB ⟨pairO s k t v x.k x.t x.v, false⟩)); clear hb4)
            | (refine wpList_append_lies _ rfl _ _ _ rfl w1.heap.size 95 i0 zC 10 72 Tryz.underlying33 hi hz0 hz1 hz2 rfl (by omega) u9 X.length (X.flatMap encC) rfl C4.out.row ⟨w4.heap.size, 0, none⟩ 1 1 (encC ⟨pairO s k t v x.k x.t x.v, false⟩) rfl rfl N4.out (encC_one _) (by omega) (by unfold maxLen; omega) (by omega) (by simp; omega) _ rfl ?_; intro g5 cap5 w5 hown5 hgrow5 hat5 hlt5; have C5 : Hid (Cg w1 (X ++ [⟨pairO s k t v x.k x.t x.v, false⟩]) (.slice (some ⟨g5, 0, none⟩) (X.length + 1) cap5) w5) := C4.out.step hown5 hgrow5; clear hown5 hgrow5 hat5 hlt5)
            | fail)
          go_roundg (M.length - (i + 1))
          case measure => have := HG.out; omega
          case rel => exact ⟨i + 1, by omega, rfl, by first | rfl | (congr 1; omega) | go_num, by rw [htk.out, hcg.out]; exact C5.out⟩
        · have hn2 : (x.n == 0) = false := by simp [hn]
          clear hn hc
          go_wp2_with (first
            | (go_at_call 101; refine (HO.out _).mono ?_; rintro e w' ⟨rfl, rfl⟩)
            | (go_at_call 174; refine (HT.out _ ?_).mono ?_; (go_simp); rintro e w' ⟨rfl, rfl⟩)
            | (go_at_call 175; refine (HP _ _ _ _ _ _ _).mono ?_; rintro e w4 ⟨rfl, hb4⟩; have C4 : Hid (Cg w1 X u9 (w4.alloc (chB ⟨pairO s k t v x.k x.t x.v, false⟩))) := (I.out.go hnb.out).go (hb4.trans ((Go.Joins.below_alloc1 w4 _).mono hb4.size)); have hl4 : w1.heap.size ≤ w4.heap.size := Nat.le_trans I.out.low.size (Nat.le_trans hnb.out.size hb4.size); have N4 : Hid (∀ j u, (encC ⟨pairO s k t v x.k x.t x.v, false⟩)[j]? = some u → (w4.alloc (chB ⟨pairO s k t v x.k x.t x.v, false⟩)).cell? ((⟨w4.heap.size, 0, none⟩ : Addr).add j) = some u) := World.news_of_block (heap_alloc_new w4 (chB ⟨pairO s k t v x.k x.t x.v, false⟩)); clear hb4)
            | (refine wpList_append_lies _ rfl _ _ _ rfl w1.heap.size 95 i0 zC 10 72 Tryz.underlying33 hi hz0 hz1 hz2 rfl (by omega) u9 X.length (X.flatMap encC) rfl C4.out.row ⟨w4.heap.size, 0, none⟩ 1 1 (encC ⟨pairO s k t v x.k x.t x.v, false⟩) rfl rfl N4.out (encC_one _) (by omega) (by unfold maxLen; omega) (by omega) (by simp; omega) _ rfl ?_; intro g5 cap5 w5 hown5 hgrow5 hat5 hlt5; have C5 : Hid (Cg w1 (X ++ [⟨pairO s k t v x.k x.t x.v, false⟩]) (.slice (some ⟨g5, 0, none⟩) (X.length + 1) cap5) w5) := C4.out.step hown5 hgrow5; clear hown5 hgrow5 hat5 hlt5)
            | fail)
          go_roundg (M.length - (i + 1))
          case measure => have := HG.out; omega
          case rel => exact ⟨i + 1, by omega, rfl, by first | rfl | (congr 1; omega) | go_num, by rw [htk.out, hcg.out]; exact C5.out⟩
    · have j2 : ¬ ((i : Int) < (M.length : Int)) := by omega
      go_wp2
      go_ret
      have e1 : M.take i = M := List.take_of_length_le (by omega)
      have hI := I.out
      rw [e1, ← HZ.out] at hI
      exact ⟨u9, rfl, Go.Joins.ownsRow_le hI.row (Nat.le_of_lt W1.out.2.2), hBw.out⟩
end Go.Proofs.YthfpipieboophaaGreatDoor

/- Package join: changes, whole. -/
namespace Go.Proofs.YthfpipieboophaaGreatDoor
open Go.Shelf Go.RowKit
set_option maxRecDepth 100000
def chgs (mode s : Int) (k t v : Int) (M : List D) : List Ch := if M = [] then (if tellsB mode s = true then [⟨loneO s k t v, false⟩] else []) else M.flatMap (chg1 (tellsB mode (1 - s)) s (1 - s) k t v)
set_option maxHeartbeats 1000000 in
theorem changes_told (b c : Nat) (oa : Option Addr) (mode s : Int) (k t v : Int) (w : World)
    (ht : ∀ W, W.cell? ⟨b, 2, none⟩ = some (.int .i64 mode) → Calls Tryz.prog 174 #[.pointer (some ⟨b, 0, none⟩), .int .i64 s] W fun e w' => e = .returned (.bool true) ∧ w' = W)
    (hl : ∀ k t v W, Calls Tryz.prog 167 #[.int .i64 s, .agg #[.int .i64 k, .int .i64 t, .int .i64 v]] W fun e w' => e = .returned (vO (loneO s k t v)) ∧ Below W.heap.size W w')
    (h : w.cell? ⟨b, 2, none⟩ = some (.int .i64 mode)) (hb : b < w.heap.size) :
    Calls Tryz.prog 105 #[.pointer (some ⟨b, 0, none⟩), .int .i64 s, .agg #[.int .i64 k, .int .i64 t, .int .i64 v], .slice oa 0 c] w fun e w' => ∃ v9, e = .returned v9 ∧ w'.ownsRow w.heap.size 95 10 v9 1 (encC ⟨loneO s k t v, false⟩) ∧ Below w.heap.size w w' := by
  simp only [vO] at hl
  have HT : Hid (∀ W, W.cell? ⟨b, 2, none⟩ = some (.int .i64 mode) → Calls Tryz.prog 174 #[.pointer (some ⟨b, 0, none⟩), .int .i64 s] W fun e w' => e = .returned (.bool true) ∧ w' = W) := ht
  clear ht
  go_enter Tryz.func105, Tryz.ntmps105
  go_wp2_with (first
    | (go_at_call 174; refine (HT.out _ ?_).mono ?_; (go_simp); rintro e w' ⟨rfl, rfl⟩)
    | (go_at_call 167; refine (hl _ _ _ _).mono ?_; rintro e w2 ⟨rfl, hb2⟩; have B2 : Hid (Below w.heap.size w w2) := (Go.Joins.below_alloc1 w _).trans (hb2.mono (by simp)); clear hb2)
    | fail)
  go_ret
  refine ⟨_, rfl, ⟨rfl, .inr ⟨w2.heap.size, 1, _, rfl, B2.out.size, heap_alloc_new _ _, Nat.le_refl _, by unfold maxLen; omega, rfl, rfl⟩⟩, B2.out.trans ((Go.Joins.below_alloc1 w2 _).mono B2.out.size)⟩
set_option maxHeartbeats 1000000 in
theorem changes_quiet (b c : Nat) (oa : Option Addr) (mode s : Int) (k t v : Int) (w : World)
    (ht : ∀ W, W.cell? ⟨b, 2, none⟩ = some (.int .i64 mode) → Calls Tryz.prog 174 #[.pointer (some ⟨b, 0, none⟩), .int .i64 s] W fun e w' => e = .returned (.bool false) ∧ w' = W)
    (h : w.cell? ⟨b, 2, none⟩ = some (.int .i64 mode)) (hb : b < w.heap.size) :
    Calls Tryz.prog 105 #[.pointer (some ⟨b, 0, none⟩), .int .i64 s, .agg #[.int .i64 k, .int .i64 t, .int .i64 v], .slice oa 0 c] w fun e w' => ∃ v9, e = .returned v9 ∧ w'.ownsRow w.heap.size 95 10 v9 0 [] ∧ Below w.heap.size w w' := by
  have HT : Hid (∀ W, W.cell? ⟨b, 2, none⟩ = some (.int .i64 mode) → Calls Tryz.prog 174 #[.pointer (some ⟨b, 0, none⟩), .int .i64 s] W fun e w' => e = .returned (.bool false) ∧ w' = W) := ht
  clear ht
  go_enter Tryz.func105, Tryz.ntmps105
  go_wp2_with (first
    | (go_at_call 174; refine (HT.out _ ?_).mono ?_; (go_simp); rintro e w' ⟨rfl, rfl⟩)
    | fail)
  refine wp_loop_rounds 1 ?_
  rw [rounds_succ]
  go_wp2
  go_ret
  exact ⟨_, rfl, World.ownsRow_nil _ _ _ _, Go.Joins.below_alloc1 _ _⟩
theorem changes_any (base b : Nat) (vm : Value) (mode s : Int) (k t v : Int) (M : List D) (w : World) (hs : s = 0 ∨ s = 1)
    (h : w.cell? ⟨b, 2, none⟩ = some (.int .i64 mode)) (hb : b < w.heap.size) (hM : w.ownsRow base 130 4 vm M.length (M.flatMap encD)) (hlen : M.length ≤ 100000) :
    Calls Tryz.prog 105 #[.pointer (some ⟨b, 0, none⟩), .int .i64 s, .agg #[.int .i64 k, .int .i64 t, .int .i64 v], vm] w fun e w' => ∃ v9, e = .returned v9 ∧ w'.ownsRow w.heap.size 95 10 v9 (chgs mode s k t v M).length ((chgs mode s k t v M).flatMap encC) ∧ Below w.heap.size w w' := by
  by_cases h0 : M = []
  · subst h0
    obtain ⟨oa, c, rfl⟩ := rowv_form hM
    cases hT : tellsB mode s
    · have e1 : chgs mode s k t v [] = [] := by simp [chgs, hT]
      rw [e1]
      exact changes_quiet b c oa mode s k t v w (fun W hW => by have := tells_any b mode s W hW hs; rwa [hT] at this) h hb
    · have e1 : chgs mode s k t v [] = [⟨loneO s k t v, false⟩] := by simp [chgs, hT]
      rw [e1]
      refine changes_told b c oa mode s k t v w (fun W hW => by have := tells_any b mode s W hW hs; rwa [hT] at this) ?_ h hb
      intro k t v W
      rcases hs with rfl | rfl
      · exact lone_left k t v W
      · exact lone_right k t v W
  · have hp : 0 < M.length := List.length_pos_iff.2 h0
    obtain ⟨gs, ck, rfl⟩ := Go.Joins.ownsRow_form hM hp
    have e1 : chgs mode s k t v M = M.flatMap (chg1 (tellsB mode (1 - s)) s (1 - s) k t v) := by simp [chgs, h0]
    rw [e1]
    rcases hs with rfl | rfl
    · exact changes_some base b gs ck mode 0 1 (tellsB mode 1) k t v M w other_zero (fun W hW => tells_any b mode 1 W hW (Or.inr rfl)) (fun k t v W => lone_right k t v W) (fun k t v k2 t2 v2 W => jpair_left k t v k2 t2 v2 W) h hb hM hp hlen
    · exact changes_some base b gs ck mode 1 0 (tellsB mode 0) k t v M w other_one (fun W hW => tells_any b mode 0 W hW (Or.inl rfl)) (fun k t v W => lone_left k t v W) (fun k t v k2 t2 v2 W => jpair_right k t v k2 t2 v2 W) h hb hM hp hlen
end Go.Proofs.YthfpipieboophaaGreatDoor

/- Package join: a join in memory. -/
namespace Go.Proofs.YthfpipieboophaaGreatDoor
open Go.Shelf Go.RowKit
set_option maxRecDepth 100000
structure J where
  lo : Int
  hi : Int
  mode : Int
  m0 : Int
  m1 : Int
  late : Int
  R0 : List D
  R1 : List D
structure Turned (S : Nat → Prop) (w w' : World) : Prop where
  os : w'.os = w.os
  tape : w'.tape = w.tape
  output : w'.output = w.output
  size : w.heap.size ≤ w'.heap.size
  block : ∀ k, k < w.heap.size → ¬ S k → w'.heap[k]? = w.heap[k]?
theorem Turned.trans {S S' : Nat → Prop} {a b c : World} (h : Turned S a b) (h2 : Turned S' b c) (hS : ∀ k, k < a.heap.size → S' k → S k) : Turned S a c :=
  ⟨h2.os.trans h.os, h2.tape.trans h.tape, h2.output.trans h.output, Nat.le_trans h.size h2.size, fun k hk hn => (h2.block k (Nat.lt_of_lt_of_le hk h.size) (fun e => hn (hS k hk e))).trans (h.block k hk hn)⟩
theorem Turned.of_below {S : Nat → Prop} {w w' : World} (h : Below w.heap.size w w') : Turned S w w' := ⟨h.os, h.tape, h.output, h.size, fun k hk _ => h.block k hk⟩
theorem Turned.of_grown {S : Nat → Prop} {w w' : World} {om : Option Nat} (h : w.grownBy w' om) (hS : ∀ k, om = some k → S k) : Turned S w w' := ⟨h.os, h.tape, h.output, h.size, fun k hk hn => h.block k hk (fun e => hn (hS k e.symm))⟩
theorem Turned.of_keep {S : Nat → Prop} {w w' : World} {b o : Nat} {u : Value} {om : Option Nat} (h : KeepS b o u om w w') (hb : S b) (hS : ∀ k, om = some k → S k) : Turned S w w' :=
  ⟨h.os, h.tape, h.output, h.size, fun k hk hn => h.block k hk (fun e => hn (by rw [e]; exact hb)) (fun e => hn (hS k e))⟩
theorem Turned.mono {S S' : Nat → Prop} {w w' : World} (h : Turned S w w') (hS : ∀ k, S k → S' k) : Turned S' w w' := ⟨h.os, h.tape, h.output, h.size, fun k hk hn => h.block k hk (fun e => hn (hS k e))⟩
theorem Turned.below {S : Nat → Prop} {B : Nat} {w w' : World} (h : Turned S w w') (hB : B ≤ w.heap.size) (hS : ∀ k, S k → B ≤ k) : Below B w w' :=
  ⟨h.os, h.tape, h.output, h.size, fun k hk => h.block k (by omega) (fun e => by have := hS k e; omega)⟩
def Fresh (w : World) (v v' : Value) : Prop := v'.ownBlock = v.ownBlock ∨ ∃ g, v'.ownBlock = some g ∧ w.heap.size ≤ g
structure JoinAt (w : World) (base b bm : Nat) (v0 v1 : Value) (x : J) : Prop where
  blk : w.heap[b]? = some (.cells #[.int .i64 x.lo, .int .i64 x.hi, .int .i64 x.mode, .pointer (some ⟨bm, 0, none⟩), v0, v1, .int .i64 x.late] 186)
  mks : w.heap[bm]? = some (.cells #[.int .i64 x.m0, .int .i64 x.m1] 250)
  r0 : w.ownsRow base 130 4 v0 x.R0.length (x.R0.flatMap encD)
  r1 : w.ownsRow base 130 4 v1 x.R1.length (x.R1.flatMap encD)
  apart : ∀ g, v0.ownBlock = some g → v1.ownBlock ≠ some g
theorem own_ne {w : World} {base n b T : Nat} {v : Value} {xs : List Value} {cs : Array Value} (h : w.ownsRow base 130 4 v n xs) (hb : w.heap[b]? = some (.cells cs T)) (hT : T ≠ 130) : v.ownBlock ≠ some b := by
  rcases h.2 with ⟨rfl, _⟩ | ⟨g, cap, cur, rfl, _, hg, _⟩
  · simp [Value.ownBlock]
  · intro e
    simp [Value.ownBlock] at e
    subst e
    rw [hb] at hg
    cases hg
    exact hT rfl
theorem JoinAt.lt {w : World} {base b bm : Nat} {v0 v1 : Value} {x : J} (h : JoinAt w base b bm v0 v1 x) : b < w.heap.size := (Array.getElem?_eq_some_iff.1 h.blk).1
theorem JoinAt.ltm {w : World} {base b bm : Nat} {v0 v1 : Value} {x : J} (h : JoinAt w base b bm v0 v1 x) : bm < w.heap.size := (Array.getElem?_eq_some_iff.1 h.mks).1
theorem JoinAt.ne {w : World} {base b bm : Nat} {v0 v1 : Value} {x : J} (h : JoinAt w base b bm v0 v1 x) : bm ≠ b := fun e => by
  have h1 := h.mks
  rw [e, h.blk] at h1
  simp at h1
theorem JoinAt.side0 {w : World} {base b bm : Nat} {v0 v1 : Value} {x : J} (h : JoinAt w base b bm v0 v1 x) : SideAt w base b 4 v0 x.R0 := ⟨⟨_, _, h.blk, rfl⟩, h.r0, own_ne h.r0 h.blk (by omega)⟩
theorem JoinAt.side1 {w : World} {base b bm : Nat} {v0 v1 : Value} {x : J} (h : JoinAt w base b bm v0 v1 x) : SideAt w base b 5 v1 x.R1 := ⟨⟨_, _, h.blk, rfl⟩, h.r1, own_ne h.r1 h.blk (by omega)⟩
theorem JoinAt.below {w w' : World} {base b bm : Nat} {v0 v1 : Value} {x : J} (h : JoinAt w base b bm v0 v1 x) (hb : Below w.heap.size w w') : JoinAt w' base b bm v0 v1 x :=
  ⟨(hb.block _ h.lt).trans h.blk, (hb.block _ h.ltm).trans h.mks, kept_below h.r0 hb, kept_below h.r1 hb, h.apart⟩
theorem JoinAt.cells {w : World} {base b bm : Nat} {v0 v1 : Value} {x : J} (h : JoinAt w base b bm v0 v1 x) :
    w.cell? ⟨b, 0, none⟩ = some (.int .i64 x.lo) ∧ w.cell? ⟨b, 1, none⟩ = some (.int .i64 x.hi) ∧ w.cell? ⟨b, 2, none⟩ = some (.int .i64 x.mode) ∧ w.cell? ⟨b, 3, none⟩ = some (.pointer (some ⟨bm, 0, none⟩)) ∧ w.cell? ⟨b, 6, none⟩ = some (.int .i64 x.late) ∧ w.frozen? ⟨b, 6, none⟩ = false := by
  refine ⟨?_, ?_, ?_, ?_, ?_, Go.Joins.unfrozen_of_block h.blk 6⟩ <;> (rw [Go.Joins.cell_of_block h.blk]; rfl)
theorem JoinAt.marks {w : World} {base b bm : Nat} {v0 v1 : Value} {x : J} (h : JoinAt w base b bm v0 v1 x) : w.cell? ⟨bm, 0, none⟩ = some (.int .i64 x.m0) ∧ w.cell? ⟨bm, 1, none⟩ = some (.int .i64 x.m1) := by
  refine ⟨?_, ?_⟩ <;> (rw [Go.Joins.cell_of_block h.mks]; rfl)
theorem own_still {w w' : World} {base size n : Nat} {e : TypeId} {v : Value} {xs : List Value} (h : w.ownsRow base e size v n xs) (hb : ∀ g, v.ownBlock = some g → w'.heap[g]? = w.heap[g]?) : w'.ownsRow base e size v n xs := by
  refine ⟨h.1, ?_⟩
  rcases h.2 with hn | ⟨g, cap, cur, rfl, hb2, hgg, rest⟩
  · exact .inl hn
  · exact .inr ⟨g, cap, cur, rfl, hb2, (hb g rfl).trans hgg, rest⟩
theorem JoinAt.met1 {w w' : World} {base b bm : Nat} {v0 v1 : Value} {x : J} {R' : List D} (h : JoinAt w base b bm v0 v1 x) (hg : w.grownBy w' v1.ownBlock) (hS : SideAt w' base b 5 v1 R') : JoinAt w' base b bm v0 v1 { x with R1 := R' } := by
  have hb : w'.heap[b]? = w.heap[b]? := hg.block b h.lt (fun e => (own_ne h.r1 h.blk (by omega)) e.symm)
  have hm : w'.heap[bm]? = w.heap[bm]? := hg.block bm h.ltm (fun e => (own_ne h.r1 h.mks (by omega)) e.symm)
  have hr : w'.ownsRow base 130 4 v0 x.R0.length (x.R0.flatMap encD) := own_still h.r0 (fun g e => hg.block g (h.r0.lt g e).2 (fun e2 => h.apart g e e2.symm))
  exact ⟨hb.trans h.blk, hm.trans h.mks, hr, hS.row, h.apart⟩
theorem JoinAt.put0 {w w' : World} {base b bm : Nat} {v0 v1 v' : Value} {x : J} {R' : List D} (h : JoinAt w base b bm v0 v1 x) (hS : SideAt w' base b 4 v' R') (hk : KeepS b 4 v' v0.ownBlock w w') (hf : Fresh w v0 v') : JoinAt w' base b bm v' v1 { x with R0 := R' } := by
  have hb : w'.heap[b]? = some (.cells #[.int .i64 x.lo, .int .i64 x.hi, .int .i64 x.mode, .pointer (some ⟨bm, 0, none⟩), v', v1, .int .i64 x.late] 186) := hk.this.trans (Go.Joins.block_setCell h.blk v')
  have hm : w'.heap[bm]? = w.heap[bm]? := hk.block bm h.ltm h.ne (own_ne h.r0 h.mks (by omega))
  have hne : ∀ g, v1.ownBlock = some g → v0.ownBlock ≠ some g := fun g e e2 => h.apart g e2 e
  have hr : w'.ownsRow base 130 4 v1 x.R1.length (x.R1.flatMap encD) := own_still h.r1 (fun g e => hk.block g (h.r1.lt g e).2 (fun e2 => own_ne h.r1 h.blk (by omega) (by rw [← e2]; exact e)) (hne g e))
  refine ⟨hb, hm.trans h.mks, hS.row, hr, ?_⟩
  intro g e1 e2
  rcases hf with hf | ⟨g', hf, hl⟩
  · rw [hf] at e1
    exact h.apart g e1 e2
  · rw [hf] at e1
    cases e1
    have := (h.r1.lt _ e2).2
    omega
theorem JoinAt.met0 {w w' : World} {base b bm : Nat} {v0 v1 : Value} {x : J} {R' : List D} (h : JoinAt w base b bm v0 v1 x) (hg : w.grownBy w' v0.ownBlock) (hS : SideAt w' base b 4 v0 R') : JoinAt w' base b bm v0 v1 { x with R0 := R' } := by
  have hb : w'.heap[b]? = w.heap[b]? := hg.block b h.lt (fun e => (own_ne h.r0 h.blk (by omega)) e.symm)
  have hm : w'.heap[bm]? = w.heap[bm]? := hg.block bm h.ltm (fun e => (own_ne h.r0 h.mks (by omega)) e.symm)
  have hr : w'.ownsRow base 130 4 v1 x.R1.length (x.R1.flatMap encD) := own_still h.r1 (fun g e => hg.block g (h.r1.lt g e).2 (fun e2 => h.apart g e2.symm e))
  exact ⟨hb.trans h.blk, hm.trans h.mks, hS.row, hr, h.apart⟩
theorem JoinAt.put1 {w w' : World} {base b bm : Nat} {v0 v1 v' : Value} {x : J} {R' : List D} (h : JoinAt w base b bm v0 v1 x) (hS : SideAt w' base b 5 v' R') (hk : KeepS b 5 v' v1.ownBlock w w') (hf : Fresh w v1 v') : JoinAt w' base b bm v0 v' { x with R1 := R' } := by
  have hb : w'.heap[b]? = some (.cells #[.int .i64 x.lo, .int .i64 x.hi, .int .i64 x.mode, .pointer (some ⟨bm, 0, none⟩), v0, v', .int .i64 x.late] 186) := hk.this.trans (Go.Joins.block_setCell h.blk v')
  have hm : w'.heap[bm]? = w.heap[bm]? := hk.block bm h.ltm h.ne (own_ne h.r1 h.mks (by omega))
  have hne : ∀ g, v0.ownBlock = some g → v1.ownBlock ≠ some g := fun g e e2 => h.apart g e e2
  have hr : w'.ownsRow base 130 4 v0 x.R0.length (x.R0.flatMap encD) := own_still h.r0 (fun g e => hk.block g (h.r0.lt g e).2 (fun e2 => own_ne h.r0 h.blk (by omega) (by rw [← e2]; exact e)) (hne g e))
  refine ⟨hb, hm.trans h.mks, hr, hS.row, ?_⟩
  intro g e1 e2
  rcases hf with hf | ⟨g', hf, hl⟩
  · rw [hf] at e2
    exact h.apart g e1 e2
  · rw [hf] at e2
    cases e2
    have := (h.r0.lt _ e1).2
    omega
end Go.Proofs.YthfpipieboophaaGreatDoor

/- Package join: Feed, where it takes. -/
namespace Go.Proofs.YthfpipieboophaaGreatDoor
open Go.Shelf Go.RowKit
set_option maxRecDepth 100000
def J.fed0 (x : J) (k t v : Int) : J := { x with
  R1 := incR x.R1 (posR k (t + x.lo) x.R1) (metR k (t + x.lo) (t + x.hi) x.R1).length
  R0 := if x.m1 < t + x.hi then insR x.R0 (posR k (t + 1) x.R0) ⟨k, t, v, ((metR k (t + x.lo) (t + x.hi) x.R1).length : Int)⟩ else x.R0 }
def J.fed1 (x : J) (k t v : Int) : J := { x with
  R0 := incR x.R0 (posR k (t + -x.hi) x.R0) (metR k (t + -x.hi) (t + -x.lo) x.R0).length
  R1 := if x.m0 < t + -x.lo then insR x.R1 (posR k (t + 1) x.R1) ⟨k, t, v, ((metR k (t + -x.hi) (t + -x.lo) x.R0).length : Int)⟩ else x.R1 }
theorem met_len (key frm til : Int) (R : List D) : (metR key frm til R).length ≤ R.length :=
  Nat.le_trans (List.takeWhile_sublist _).length_le (by simp)
structure Fd (w : World) (base b bm : Nat) (v0 v1 u0 u1 : Value) (x : J) (k t v : Int) (W : World) : Prop where
  here : JoinAt W base b bm u0 u1 x
  box : W.heap[w.heap.size]? = some (.cells #[.int .i64 k, .int .i64 t, .int .i64 v] 37)
  turned : Turned (fun j => j = b ∨ v0.ownBlock = some j ∨ v1.ownBlock = some j) w W
  f0 : Fresh w v0 u0
  f1 : Fresh w v1 u1
theorem Fd.below {w : World} {base b bm : Nat} {v0 v1 u0 u1 : Value} {x : J} {k t v : Int} {W W' : World} (h : Fd w base b bm v0 v1 u0 u1 x k t v W) (hb : Below W.heap.size W W') : Fd w base b bm v0 v1 u0 u1 x k t v W' :=
  ⟨h.here.below hb, (hb.block _ (Array.getElem?_eq_some_iff.1 h.box).1).trans h.box, h.turned.trans (S' := fun _ => False) (Turned.of_below hb) (fun _ _ e => e.elim), h.f0, h.f1⟩
theorem Fd.drew {w : World} {base b bm : Nat} {v0 v1 u0 u1 : Value} {x : J} {k t v : Int} {W : World} (h : Fd w base b bm v0 v1 u0 u1 x k t v W) : Fd w base b bm v0 v1 u0 u1 x k t v W.drew := h.below (Below.refl _ _).drew
theorem Fd.cells {w : World} {base b bm : Nat} {v0 v1 u0 u1 : Value} {x : J} {k t v : Int} {W : World} (h : Fd w base b bm v0 v1 u0 u1 x k t v W) : W.cell? ⟨w.heap.size, 0, none⟩ = some (.int .i64 k) ∧ W.cell? ⟨w.heap.size, 1, none⟩ = some (.int .i64 t) ∧ W.cell? ⟨w.heap.size, 2, none⟩ = some (.int .i64 v) := rbox_cells h.box
theorem Fd.meet0 {w : World} {base b bm : Nat} {v0 v1 : Value} {x : J} {k t v : Int} {W w' : World} {R' : List D} (h : Fd w base b bm v0 v1 v0 v1 x k t v W) (h0 : JoinAt w base b bm v0 v1 x) (hg : W.grownBy w' v1.ownBlock) (hS : SideAt w' base b 5 v1 R') : Fd w base b bm v0 v1 v0 v1 { x with R1 := R' } k t v w' :=
  ⟨h.here.met1 hg hS, (hg.block _ (Array.getElem?_eq_some_iff.1 h.box).1 (fun e => by have := (h0.r1.lt _ e.symm).2; omega)).trans h.box,
    h.turned.trans (Turned.of_grown (S := fun j => v1.ownBlock = some j) hg (fun k e => e)) (fun j _ e => Or.inr (Or.inr e)), h.f0, h.f1⟩
theorem Fd.add0 {w : World} {base b bm : Nat} {v0 v1 v' : Value} {x : J} {k t v : Int} {W w' : World} {R' : List D} (h : Fd w base b bm v0 v1 v0 v1 x k t v W) (hb : b < w.heap.size) (hr : ∀ g, v0.ownBlock = some g → g < w.heap.size) (hS : SideAt w' base b 4 v' R') (hk : KeepS b 4 v' v0.ownBlock W w') (hf : Fresh W v0 v') :
    Fd w base b bm v0 v1 v' v1 { x with R0 := R' } k t v w' :=
  ⟨h.here.put0 hS hk hf, (hk.block _ (Array.getElem?_eq_some_iff.1 h.box).1 (by omega) (fun e => by have := hr _ e; omega)).trans h.box,
    h.turned.trans (Turned.of_keep (S := fun j => j = b ∨ v0.ownBlock = some j) hk (Or.inl rfl) (fun k e => Or.inr e)) (fun j _ e => e.elim Or.inl (fun e => Or.inr (Or.inl e))), hf.imp id (fun ⟨g, h1, h2⟩ => ⟨g, h1, Nat.le_trans h.turned.size h2⟩), h.f1⟩
set_option maxHeartbeats 4000000 in
theorem feed_ok0 (base b bm : Nat) (v0 v1 : Value) (x : J) (k t v : Int) (w : World) (h : JoinAt w base b bm v0 v1 x) (hbase : base ≤ w.heap.size) (hg : goodI k t v = true)
    (p1 : -1048576 ≤ x.lo) (p2 : x.lo ≤ 1048576) (p3 : -1048576 ≤ x.hi) (p4 : x.hi ≤ 1048576) (hs0 : SortedR x.R0) (hs1 : SortedR x.R1) (hL0 : x.R0.length ≤ 300) (hL1 : x.R1.length ≤ 300)
    (hN : ∀ y ∈ x.R1, -9223372036854775808 ≤ y.n ∧ y.n ≤ 9223372036854775807) (hlate : ¬ t ≤ x.m0) (hroom : x.m1 < t + x.hi → x.R0.length < 300) :
    Calls Tryz.prog 45 #[.pointer (some ⟨b, 0, none⟩), .int .i64 0, .agg #[.int .i64 k, .int .i64 t, .int .i64 v]] w fun e w' => ∃ v9 v', e = .returned (.tuple #[v9, .nilIface]) ∧ JoinAt w' base b bm v' v1 (x.fed0 k t v) ∧
      w'.ownsRow w.heap.size 95 10 v9 (chgs x.mode 0 k t v (metR k (t + x.lo) (t + x.hi) x.R1)).length ((chgs x.mode 0 k t v (metR k (t + x.lo) (t + x.hi) x.R1)).flatMap encC) ∧
      Turned (fun j => j = b ∨ v0.ownBlock = some j ∨ v1.ownBlock = some j) w w' ∧ Fresh w v0 v' := by
  have hgo := good_any k t v (w.alloc (.cells #[.int .i64 k, .int .i64 t, .int .i64 v] 37))
  rw [hg] at hgo
  have g1 : -1099511627776 ≤ t ∧ t ≤ 1099511627776 := by simp [goodI, inI] at hg; omega
  have e1 : IntKind.i64.wrap (t + x.lo) = t + x.lo := wr64 (by omega) (by omega)
  have e2 : IntKind.i64.wrap (t + x.hi) = t + x.hi := wr64 (by omega) (by omega)
  have HJ : Hid (JoinAt w base b bm v0 v1 x) := h
  have hlt := h.lt
  have hltm := h.ltm
  have hsd : sideB 0 = true := rfl
  have HLt : Hid (∀ W, W.cell? ⟨bm, 0, none⟩ = some (.int .i64 x.m0) → W.cell? ⟨bm, 1, none⟩ = some (.int .i64 x.m1) → Calls Tryz.prog 97 #[.pointer (some ⟨bm, 0, none⟩), .int .i64 0, .int .i64 t] W fun e w' => e = .returned (.bool false) ∧ w' = W) := by
    intro W h1 h2
    have := markLate_any bm x.m0 x.m1 0 t W h1 h2
    have e : decide (t ≤ ofI x.m0 x.m1 0) = false := by simp [ofI]; omega
    rwa [e] at this
  have HOf : Hid (∀ W, W.cell? ⟨bm, 0, none⟩ = some (.int .i64 x.m0) → W.cell? ⟨bm, 1, none⟩ = some (.int .i64 x.m1) → Calls Tryz.prog 100 #[.pointer (some ⟨bm, 0, none⟩), .int .i64 1] W fun e w' => e = .returned (.int .i64 x.m1) ∧ w' = W) := by
    intro W h1 h2
    have := markOf_any bm x.m0 x.m1 1 W h1 h2
    have e : ofI x.m0 x.m1 1 = x.m1 := by simp [ofI]
    rwa [e] at this
  have HMt : Hid (∀ W, Fd w base b bm v0 v1 v0 v1 x k t v W → Calls Tryz.prog 103 #[.pointer (some ⟨b, 5, none⟩), .int .i64 k, .int .i64 (t + x.lo), .int .i64 (t + x.hi)] W fun e w' => ∃ vm, e = .returned vm ∧ w'.ownsRow W.heap.size 130 4 vm (metR k (t + x.lo) (t + x.hi) x.R1).length ((metR k (t + x.lo) (t + x.hi) x.R1).flatMap encD) ∧ Fd w base b bm v0 v1 v0 v1 { x with R1 := incR x.R1 (posR k (t + x.lo) x.R1) (metR k (t + x.lo) (t + x.hi) x.R1).length } k t v w') := by
    intro W hW
    refine (side_meet base b 5 v1 x.R1 k (t + x.lo) (t + x.hi) W hW.here.side1 hs1 (by omega) hN).mono ?_
    rintro e w' ⟨vm, rfl, h1, h2, h3⟩
    exact ⟨vm, rfl, h1, hW.meet0 h h3 h2⟩
  have HCh : Hid (∀ (W : World) (B : Nat) (u0 u1 : Value) (xx : J) (vm : Value) (M : List D), Fd w base b bm v0 v1 u0 u1 xx k t v W → xx.mode = x.mode → W.ownsRow B 130 4 vm M.length (M.flatMap encD) → M.length ≤ 300 → Calls Tryz.prog 105 #[.pointer (some ⟨b, 0, none⟩), .int .i64 0, .agg #[.int .i64 k, .int .i64 t, .int .i64 v], vm] W fun e w' => ∃ v9, e = .returned v9 ∧ w'.ownsRow w.heap.size 95 10 v9 (chgs x.mode 0 k t v M).length ((chgs x.mode 0 k t v M).flatMap encC) ∧ Fd w base b bm v0 v1 u0 u1 xx k t v w') := by
    intro W B u0 u1 xx vm M hW hm hM hl
    refine (changes_any B b vm x.mode 0 k t v M W (by decide) (by rw [← hm]; exact hW.here.cells.2.2.1) hW.here.lt hM (by omega)).mono ?_
    rintro e w' ⟨v9, rfl, h1, h2⟩
    exact ⟨v9, rfl, Go.Joins.ownsRow_le h1 hW.turned.size, hW.below h2⟩
  have HAd : Hid (∀ (W : World) (B : Nat) (xx : J) (vm : Value) (M : List D), Fd w base b bm v0 v1 v0 v1 xx k t v W → xx.R0 = x.R0 → x.R0.length < 300 → W.ownsRow B 130 4 vm M.length (M.flatMap encD) → w.heap.size ≤ B → Calls Tryz.prog 104 #[.pointer (some ⟨b, 4, none⟩), .agg #[.int .i64 k, .int .i64 t, .int .i64 v], .int .i64 (M.length : Nat)] W fun e w' => e = .returned .nilIface ∧ w'.ownsRow B 130 4 vm M.length (M.flatMap encD) ∧ ∃ v', Fd w base b bm v0 v1 v' v1 { xx with R0 := insR x.R0 (posR k (t + 1) x.R0) ⟨k, t, v, (M.length : Nat)⟩ } k t v w' ∧ Fresh w v0 v') := by
    intro W B xx vm M hW hx hl hM hB
    refine (side_add_ok base b 4 v0 x.R0 k t v (M.length : Nat) W (by rw [← hx]; exact hW.here.side0) hs0 hl (Nat.le_trans hbase hW.turned.size) hg (by omega)).mono ?_
    rintro e w' ⟨rfl, v', h1, h2, h3⟩
    have hfr : Fresh W v0 v' := h3
    have hF := hW.add0 h.lt (fun g e => (h.r0.lt g e).2) h1 h2 hfr
    refine ⟨rfl, own_still hM (fun g e => h2.block g (hM.lt g e).2 (fun e2 => own_ne hM hW.here.blk (by omega) (by rw [← e2]; exact e)) (fun e2 => ?_)), v', hF, hF.f0⟩
    have a1 := (hM.lt g e).1
    have a2 := (h.r0.lt g e2).2
    omega
  have HMy : Hid (∀ W, Fd w base b bm v0 v1 v0 v1 x k t v W → Calls Tryz.prog 102 #[.pointer (some ⟨b, 4, none⟩)] W fun e w' => e = .returned (.int .i64 x.R0.length) ∧ w' = W) := fun W hW => side_many base b 4 v0 x.R0 W hW.here.side0
  have hM3 : (metR k (t + x.lo) (t + x.hi) x.R1).length ≤ 300 := Nat.le_trans (met_len _ _ _ _) hL1
  have HX : Hid (x.fed0 k t v = { x with R1 := incR x.R1 (posR k (t + x.lo) x.R1) (metR k (t + x.lo) (t + x.hi) x.R1).length, R0 := if x.m1 < t + x.hi then insR x.R0 (posR k (t + 1) x.R0) ⟨k, t, v, ((metR k (t + x.lo) (t + x.hi) x.R1).length : Int)⟩ else x.R0 }) := rfl
  generalize metR k (t + x.lo) (t + x.hi) x.R1 = M at *
  generalize x.fed0 k t v = xf at *
  clear h hs0 hs1 hN hlate g1
  go_enter Tryz.func45, Tryz.ntmps45
  go_wp2_with (first
    | (go_at_call 95; refine (jisSide_any _ _).mono ?_; rintro e w' ⟨rfl, rfl⟩; rw [hsd])
    | (go_at_call 96; refine hgo.mono ?_; rintro e w1 ⟨rfl, hb1⟩; have A1 : Hid (Amid w k t v w1) := (show Amid w k t v w1 from ⟨(Go.Joins.below_alloc1 w _).trans (hb1.mono (by simp)), (hb1.block _ (by simp)).trans (heap_alloc_new _ _)⟩); clear hb1)
    | fail)
  clear hgo
  have hc1 := (HJ.out.below A1.out.low).cells
  have hm1 := (HJ.out.below A1.out.low).marks
  have hx1 := A1.out.cells
  go_region_held3 (fun W => W.cell? ⟨b, 3, none⟩ = some (.pointer (some ⟨bm, 0, none⟩)) ∧ W.cell? ⟨w.heap.size, 1, none⟩ = some (.int .i64 t) ∧ W.cell? ⟨bm, 0, none⟩ = some (.int .i64 x.m0) ∧ W.cell? ⟨bm, 1, none⟩ = some (.int .i64 x.m1)) (first | (go_keep; done) | fail) (first
    | (go_at_call 97; refine (HLt.out _ ?_ ?_).mono ?_; (go_simp); (go_simp); rintro e w' ⟨rfl, rfl⟩)
    | fail)
  go_wp2_with (first
    | (go_at_call 99; refine (reach_left b x.lo x.hi _ (by go_simp) (by go_simp)).mono ?_; rintro e w' ⟨rfl, rfl⟩)
    | fail)
  have F3 : Hid (Fd w base b bm v0 v1 v0 v1 x k t v w1.drew.drew) := (show Fd w base b bm v0 v1 v0 v1 x k t v w1.drew.drew from (Fd.drew (Fd.drew ⟨HJ.out.below A1.out.low, A1.out.box, Turned.of_below A1.out.low, Or.inl rfl, Or.inl rfl⟩)))
  clear hc1 hm1 hx1 A1 HLt
  revert F3
  generalize w1.drew.drew = w2
  intro F3
  have hc2 := F3.out.here.cells
  have hm2 := F3.out.here.marks
  have hx2 := F3.out.cells
  go_region_held3 (fun W => W.cell? ⟨b, 3, none⟩ = some (.pointer (some ⟨bm, 0, none⟩)) ∧ W.cell? ⟨w.heap.size, 1, none⟩ = some (.int .i64 t) ∧ W.cell? ⟨bm, 0, none⟩ = some (.int .i64 x.m0) ∧ W.cell? ⟨bm, 1, none⟩ = some (.int .i64 x.m1)) (first | (go_keep; done) | fail) (first
    | (go_at_call 101; refine (other_zero _).mono ?_; rintro e w' ⟨rfl, rfl⟩)
    | (go_at_call 100; refine (HOf.out _ ?_ ?_).mono ?_; (go_simp); (go_simp); rintro e w' ⟨rfl, rfl⟩)
    | fail)
  have F4 : Hid (Fd w base b bm v0 v1 v0 v1 x k t v w2.drew ∧ Fd w base b bm v0 v1 v0 v1 x k t v w2.drew.drew) := ⟨F3.out.drew, F3.out.drew.drew⟩
  clear hc2 hm2 hx2 F3 HOf
  by_cases hh : x.m1 < t + x.hi
  · have hlen := hroom hh
    have i1 : ¬ (300 : Int) ≤ (x.R0.length : Int) := by omega
    have hx3 := F4.out.2.cells
    go_wp2_with (first
      | (go_at_call 102; refine (HMy.out _ F4.out.1).mono ?_; rintro e w' ⟨rfl, rfl⟩)
      | fail)
    go_region_held3 (fun W => W.cell? ⟨w.heap.size, 0, none⟩ = some (.int .i64 k) ∧ W.cell? ⟨w.heap.size, 1, none⟩ = some (.int .i64 t)) (first | (go_keep; done) | fail) (first
      | (go_at_call 101; refine (other_zero _).mono ?_; rintro e w' ⟨rfl, rfl⟩)
      | (go_at_call 103; refine (HMt.out _ F4.out.2).mono ?_; rintro e w4 ⟨vm, rfl, hm4, h4⟩; have hx4 := h4.cells; have F5 : Hid (Fd w base b bm v0 v1 v0 v1 { x with R1 := incR x.R1 (posR k (t + x.lo) x.R1) M.length } k t v w4) := h4; have M4 : Hid (w4.ownsRow w.heap.size 130 4 vm M.length (M.flatMap encD)) := Go.Joins.ownsRow_le hm4 F4.out.2.turned.size; obtain ⟨oam, cm, evm⟩ := rowv_form hm4; subst evm; clear hm4 h4)
      | fail)
    clear hx3 F4 HMt
    have F6 : Hid (Fd w base b bm v0 v1 v0 v1 { x with R1 := incR x.R1 (posR k (t + x.lo) x.R1) M.length } k t v w4.drew ∧ w4.drew.ownsRow w.heap.size 130 4 (.slice oam M.length cm) M.length (M.flatMap encD)) := ⟨F5.out.drew, kept_below M4.out (Below.refl _ _).drew⟩
    have i3 : (M.length : Int) ≤ 300 := by omega
    go_wp2
    go_region_held3 (fun W => W.cell? ⟨w.heap.size, 0, none⟩ = some (.int .i64 k) ∧ W.cell? ⟨w.heap.size, 1, none⟩ = some (.int .i64 t) ∧ W.cell? ⟨w.heap.size, 2, none⟩ = some (.int .i64 v)) (first | (go_keep; done) | fail) (first
      | (go_at_call 104; refine (HAd.out _ _ _ _ M F6.out.1 rfl hlen F6.out.2 (Nat.le_refl _)).mono ?_; rintro e w5 ⟨rfl, hm5, v', h5, hfr5⟩; have hx5 := h5.cells; have F7 : Hid (Fd w base b bm v0 v1 v' v1 { x with R1 := incR x.R1 (posR k (t + x.lo) x.R1) M.length, R0 := insR x.R0 (posR k (t + 1) x.R0) ⟨k, t, v, (M.length : Nat)⟩ } k t v w5 ∧ w5.ownsRow w.heap.size 130 4 (.slice oam M.length cm) M.length (M.flatMap encD) ∧ Fresh w v0 v') := ⟨h5, hm5, hfr5⟩; clear h5 hm5 hfr5)
      | fail)
    clear hx4 F5 F6 HAd
    go_wp2_with (first
      | (go_at_call 105; refine (HCh.out _ _ _ _ _ _ M F7.out.1 rfl F7.out.2.1 hM3).mono ?_; rintro e w6 ⟨v9, rfl, h6, h7⟩; have F8 : Hid (w6.ownsRow w.heap.size 95 10 v9 (chgs x.mode 0 k t v M).length ((chgs x.mode 0 k t v M).flatMap encC) ∧ Fd w base b bm v0 v1 v' v1 { x with R1 := incR x.R1 (posR k (t + x.lo) x.R1) M.length, R0 := insR x.R0 (posR k (t + 1) x.R0) ⟨k, t, v, (M.length : Nat)⟩ } k t v w6) := ⟨h6, h7⟩; clear h6 h7)
      | fail)
    refine bodyPost_ret (v := .tuple #[v9, .nilIface]) (by simp [results, Tryz.results45, go_sem]) rfl ⟨v9, v', rfl, ?_, F8.out.1, F8.out.2.turned, F7.out.2.2⟩
    rw [HX.out, if_pos hh]
    exact F8.out.2.here
  · have hx3 := F4.out.2.cells
    go_wp2
    go_region_held3 (fun W => W.cell? ⟨w.heap.size, 0, none⟩ = some (.int .i64 k) ∧ W.cell? ⟨w.heap.size, 1, none⟩ = some (.int .i64 t)) (first | (go_keep; done) | fail) (first
      | (go_at_call 101; refine (other_zero _).mono ?_; rintro e w' ⟨rfl, rfl⟩)
      | (go_at_call 103; refine (HMt.out _ F4.out.2).mono ?_; rintro e w4 ⟨vm, rfl, hm4, h4⟩; have hx4 := h4.cells; have F5 : Hid (Fd w base b bm v0 v1 v0 v1 { x with R1 := incR x.R1 (posR k (t + x.lo) x.R1) M.length } k t v w4) := h4; have M4 : Hid (w4.ownsRow w.heap.size 130 4 vm M.length (M.flatMap encD)) := Go.Joins.ownsRow_le hm4 F4.out.2.turned.size; obtain ⟨oam, cm, evm⟩ := rowv_form hm4; subst evm; clear hm4 h4)
      | fail)
    clear hx3 F4 HMt
    go_wp2_with (first
      | (go_at_call 105; refine (HCh.out _ _ _ _ _ _ M F5.out rfl M4.out hM3).mono ?_; rintro e w6 ⟨v9, rfl, h6, h7⟩; have F8 : Hid (w6.ownsRow w.heap.size 95 10 v9 (chgs x.mode 0 k t v M).length ((chgs x.mode 0 k t v M).flatMap encC) ∧ Fd w base b bm v0 v1 v0 v1 { x with R1 := incR x.R1 (posR k (t + x.lo) x.R1) M.length } k t v w6) := ⟨h6, h7⟩; clear h6 h7)
      | fail)
    refine bodyPost_ret (v := .tuple #[v9, .nilIface]) (by simp [results, Tryz.results45, go_sem]) rfl ⟨v9, v0, rfl, ?_, F8.out.1, F8.out.2.turned, Or.inl rfl⟩
    rw [HX.out, if_neg (by omega)]
    exact F8.out.2.here
theorem Fd.meet1 {w : World} {base b bm : Nat} {v0 v1 : Value} {x : J} {k t v : Int} {W w' : World} {R' : List D} (h : Fd w base b bm v0 v1 v0 v1 x k t v W) (h0 : JoinAt w base b bm v0 v1 x) (hg : W.grownBy w' v0.ownBlock) (hS : SideAt w' base b 4 v0 R') : Fd w base b bm v0 v1 v0 v1 { x with R0 := R' } k t v w' :=
  ⟨h.here.met0 hg hS, (hg.block _ (Array.getElem?_eq_some_iff.1 h.box).1 (fun e => by have := (h0.r0.lt _ e.symm).2; omega)).trans h.box,
    h.turned.trans (Turned.of_grown (S := fun j => v0.ownBlock = some j) hg (fun k e => e)) (fun j _ e => Or.inr (Or.inl e)), h.f0, h.f1⟩
theorem Fd.add1 {w : World} {base b bm : Nat} {v0 v1 v' : Value} {x : J} {k t v : Int} {W w' : World} {R' : List D} (h : Fd w base b bm v0 v1 v0 v1 x k t v W) (hb : b < w.heap.size) (hr : ∀ g, v1.ownBlock = some g → g < w.heap.size) (hS : SideAt w' base b 5 v' R') (hk : KeepS b 5 v' v1.ownBlock W w') (hf : Fresh W v1 v') :
    Fd w base b bm v0 v1 v0 v' { x with R1 := R' } k t v w' :=
  ⟨h.here.put1 hS hk hf, (hk.block _ (Array.getElem?_eq_some_iff.1 h.box).1 (by omega) (fun e => by have := hr _ e; omega)).trans h.box,
    h.turned.trans (Turned.of_keep (S := fun j => j = b ∨ v1.ownBlock = some j) hk (Or.inl rfl) (fun k e => Or.inr e)) (fun j _ e => e.elim Or.inl (fun e => Or.inr (Or.inr e))), h.f0, hf.imp id (fun ⟨g, h1, h2⟩ => ⟨g, h1, Nat.le_trans h.turned.size h2⟩)⟩
set_option maxHeartbeats 4000000 in
theorem feed_ok1 (base b bm : Nat) (v0 v1 : Value) (x : J) (k t v : Int) (w : World) (h : JoinAt w base b bm v0 v1 x) (hbase : base ≤ w.heap.size) (hg : goodI k t v = true)
    (p1 : -1048576 ≤ x.lo) (p2 : x.lo ≤ 1048576) (p3 : -1048576 ≤ x.hi) (p4 : x.hi ≤ 1048576) (hs0 : SortedR x.R0) (hs1 : SortedR x.R1) (hL0 : x.R0.length ≤ 300) (hL1 : x.R1.length ≤ 300)
    (hN : ∀ y ∈ x.R0, -9223372036854775808 ≤ y.n ∧ y.n ≤ 9223372036854775807) (hlate : ¬ t ≤ x.m1) (hroom : x.m0 < t + -x.lo → x.R1.length < 300) :
    Calls Tryz.prog 45 #[.pointer (some ⟨b, 0, none⟩), .int .i64 1, .agg #[.int .i64 k, .int .i64 t, .int .i64 v]] w fun e w' => ∃ v9 v', e = .returned (.tuple #[v9, .nilIface]) ∧ JoinAt w' base b bm v0 v' (x.fed1 k t v) ∧
      w'.ownsRow w.heap.size 95 10 v9 (chgs x.mode 1 k t v (metR k (t + -x.hi) (t + -x.lo) x.R0)).length ((chgs x.mode 1 k t v (metR k (t + -x.hi) (t + -x.lo) x.R0)).flatMap encC) ∧
      Turned (fun j => j = b ∨ v0.ownBlock = some j ∨ v1.ownBlock = some j) w w' ∧ Fresh w v1 v' := by
  have hgo := good_any k t v (w.alloc (.cells #[.int .i64 k, .int .i64 t, .int .i64 v] 37))
  rw [hg] at hgo
  have g1 : -1099511627776 ≤ t ∧ t ≤ 1099511627776 := by simp [goodI, inI] at hg; omega
  have e1 : IntKind.i64.wrap (t + -x.hi) = t + -x.hi := wr64 (by omega) (by omega)
  have e2 : IntKind.i64.wrap (t + -x.lo) = t + -x.lo := wr64 (by omega) (by omega)
  have HJ : Hid (JoinAt w base b bm v0 v1 x) := h
  have hlt := h.lt
  have hltm := h.ltm
  have hsd : sideB 1 = true := rfl
  have HLt : Hid (∀ W, W.cell? ⟨bm, 0, none⟩ = some (.int .i64 x.m0) → W.cell? ⟨bm, 1, none⟩ = some (.int .i64 x.m1) → Calls Tryz.prog 97 #[.pointer (some ⟨bm, 0, none⟩), .int .i64 1, .int .i64 t] W fun e w' => e = .returned (.bool false) ∧ w' = W) := by
    intro W h1 h2
    have := markLate_any bm x.m0 x.m1 1 t W h1 h2
    have e : decide (t ≤ ofI x.m0 x.m1 1) = false := by simp [ofI]; omega
    rwa [e] at this
  have HOf : Hid (∀ W, W.cell? ⟨bm, 0, none⟩ = some (.int .i64 x.m0) → W.cell? ⟨bm, 1, none⟩ = some (.int .i64 x.m1) → Calls Tryz.prog 100 #[.pointer (some ⟨bm, 0, none⟩), .int .i64 0] W fun e w' => e = .returned (.int .i64 x.m0) ∧ w' = W) := by
    intro W h1 h2
    have := markOf_any bm x.m0 x.m1 0 W h1 h2
    have e : ofI x.m0 x.m1 0 = x.m0 := by simp [ofI]
    rwa [e] at this
  have HMt : Hid (∀ W, Fd w base b bm v0 v1 v0 v1 x k t v W → Calls Tryz.prog 103 #[.pointer (some ⟨b, 4, none⟩), .int .i64 k, .int .i64 (t + -x.hi), .int .i64 (t + -x.lo)] W fun e w' => ∃ vm, e = .returned vm ∧ w'.ownsRow W.heap.size 130 4 vm (metR k (t + -x.hi) (t + -x.lo) x.R0).length ((metR k (t + -x.hi) (t + -x.lo) x.R0).flatMap encD) ∧ Fd w base b bm v0 v1 v0 v1 { x with R0 := incR x.R0 (posR k (t + -x.hi) x.R0) (metR k (t + -x.hi) (t + -x.lo) x.R0).length } k t v w') := by
    intro W hW
    refine (side_meet base b 4 v0 x.R0 k (t + -x.hi) (t + -x.lo) W hW.here.side0 hs0 (by omega) hN).mono ?_
    rintro e w' ⟨vm, rfl, h1, h2, h3⟩
    exact ⟨vm, rfl, h1, hW.meet1 h h3 h2⟩
  have HCh : Hid (∀ (W : World) (B : Nat) (u0 u1 : Value) (xx : J) (vm : Value) (M : List D), Fd w base b bm v0 v1 u0 u1 xx k t v W → xx.mode = x.mode → W.ownsRow B 130 4 vm M.length (M.flatMap encD) → M.length ≤ 300 → Calls Tryz.prog 105 #[.pointer (some ⟨b, 0, none⟩), .int .i64 1, .agg #[.int .i64 k, .int .i64 t, .int .i64 v], vm] W fun e w' => ∃ v9, e = .returned v9 ∧ w'.ownsRow w.heap.size 95 10 v9 (chgs x.mode 1 k t v M).length ((chgs x.mode 1 k t v M).flatMap encC) ∧ Fd w base b bm v0 v1 u0 u1 xx k t v w') := by
    intro W B u0 u1 xx vm M hW hm hM hl
    refine (changes_any B b vm x.mode 1 k t v M W (by decide) (by rw [← hm]; exact hW.here.cells.2.2.1) hW.here.lt hM (by omega)).mono ?_
    rintro e w' ⟨v9, rfl, h1, h2⟩
    exact ⟨v9, rfl, Go.Joins.ownsRow_le h1 hW.turned.size, hW.below h2⟩
  have HAd : Hid (∀ (W : World) (B : Nat) (xx : J) (vm : Value) (M : List D), Fd w base b bm v0 v1 v0 v1 xx k t v W → xx.R1 = x.R1 → x.R1.length < 300 → W.ownsRow B 130 4 vm M.length (M.flatMap encD) → w.heap.size ≤ B → Calls Tryz.prog 104 #[.pointer (some ⟨b, 5, none⟩), .agg #[.int .i64 k, .int .i64 t, .int .i64 v], .int .i64 (M.length : Nat)] W fun e w' => e = .returned .nilIface ∧ w'.ownsRow B 130 4 vm M.length (M.flatMap encD) ∧ ∃ v', Fd w base b bm v0 v1 v0 v' { xx with R1 := insR x.R1 (posR k (t + 1) x.R1) ⟨k, t, v, (M.length : Nat)⟩ } k t v w' ∧ Fresh w v1 v') := by
    intro W B xx vm M hW hx hl hM hB
    refine (side_add_ok base b 5 v1 x.R1 k t v (M.length : Nat) W (by rw [← hx]; exact hW.here.side1) hs1 hl (Nat.le_trans hbase hW.turned.size) hg (by omega)).mono ?_
    rintro e w' ⟨rfl, v', h1, h2, h3⟩
    have hfr : Fresh W v1 v' := h3
    have hF := hW.add1 h.lt (fun g e => (h.r1.lt g e).2) h1 h2 hfr
    refine ⟨rfl, own_still hM (fun g e => h2.block g (hM.lt g e).2 (fun e2 => own_ne hM hW.here.blk (by omega) (by rw [← e2]; exact e)) (fun e2 => ?_)), v', hF, hF.f1⟩
    have a1 := (hM.lt g e).1
    have a2 := (h.r1.lt g e2).2
    omega
  have HMy : Hid (∀ W, Fd w base b bm v0 v1 v0 v1 x k t v W → Calls Tryz.prog 102 #[.pointer (some ⟨b, 5, none⟩)] W fun e w' => e = .returned (.int .i64 x.R1.length) ∧ w' = W) := fun W hW => side_many base b 5 v1 x.R1 W hW.here.side1
  have hM3 : (metR k (t + -x.hi) (t + -x.lo) x.R0).length ≤ 300 := Nat.le_trans (met_len _ _ _ _) hL0
  have HX : Hid (x.fed1 k t v = { x with R0 := incR x.R0 (posR k (t + -x.hi) x.R0) (metR k (t + -x.hi) (t + -x.lo) x.R0).length, R1 := if x.m0 < t + -x.lo then insR x.R1 (posR k (t + 1) x.R1) ⟨k, t, v, ((metR k (t + -x.hi) (t + -x.lo) x.R0).length : Int)⟩ else x.R1 }) := rfl
  generalize metR k (t + -x.hi) (t + -x.lo) x.R0 = M at *
  generalize x.fed1 k t v = xf at *
  clear h hs0 hs1 hN hlate g1
  go_enter Tryz.func45, Tryz.ntmps45
  go_wp2_with (first
    | (go_at_call 95; refine (jisSide_any _ _).mono ?_; rintro e w' ⟨rfl, rfl⟩; rw [hsd])
    | (go_at_call 96; refine hgo.mono ?_; rintro e w1 ⟨rfl, hb1⟩; have A1 : Hid (Amid w k t v w1) := (show Amid w k t v w1 from ⟨(Go.Joins.below_alloc1 w _).trans (hb1.mono (by simp)), (hb1.block _ (by simp)).trans (heap_alloc_new _ _)⟩); clear hb1)
    | fail)
  clear hgo
  have hc1 := (HJ.out.below A1.out.low).cells
  have hm1 := (HJ.out.below A1.out.low).marks
  have hx1 := A1.out.cells
  go_region_held3 (fun W => W.cell? ⟨b, 3, none⟩ = some (.pointer (some ⟨bm, 0, none⟩)) ∧ W.cell? ⟨w.heap.size, 1, none⟩ = some (.int .i64 t) ∧ W.cell? ⟨bm, 0, none⟩ = some (.int .i64 x.m0) ∧ W.cell? ⟨bm, 1, none⟩ = some (.int .i64 x.m1)) (first | (go_keep; done) | fail) (first
    | (go_at_call 97; refine (HLt.out _ ?_ ?_).mono ?_; (go_simp); (go_simp); rintro e w' ⟨rfl, rfl⟩)
    | fail)
  go_wp2_with (first
    | (go_at_call 99; refine (reach_right b x.lo x.hi _ (by go_simp) (by go_simp) p1 p2 p3 p4).mono ?_; rintro e w' ⟨rfl, rfl⟩)
    | fail)
  have F3 : Hid (Fd w base b bm v0 v1 v0 v1 x k t v w1.drew.drew) := (show Fd w base b bm v0 v1 v0 v1 x k t v w1.drew.drew from (Fd.drew (Fd.drew ⟨HJ.out.below A1.out.low, A1.out.box, Turned.of_below A1.out.low, Or.inl rfl, Or.inl rfl⟩)))
  clear hc1 hm1 hx1 A1 HLt
  revert F3
  generalize w1.drew.drew = w2
  intro F3
  have hc2 := F3.out.here.cells
  have hm2 := F3.out.here.marks
  have hx2 := F3.out.cells
  go_region_held3 (fun W => W.cell? ⟨b, 3, none⟩ = some (.pointer (some ⟨bm, 0, none⟩)) ∧ W.cell? ⟨w.heap.size, 1, none⟩ = some (.int .i64 t) ∧ W.cell? ⟨bm, 0, none⟩ = some (.int .i64 x.m0) ∧ W.cell? ⟨bm, 1, none⟩ = some (.int .i64 x.m1)) (first | (go_keep; done) | fail) (first
    | (go_at_call 101; refine (other_one _).mono ?_; rintro e w' ⟨rfl, rfl⟩)
    | (go_at_call 100; refine (HOf.out _ ?_ ?_).mono ?_; (go_simp); (go_simp); rintro e w' ⟨rfl, rfl⟩)
    | fail)
  have F4 : Hid (Fd w base b bm v0 v1 v0 v1 x k t v w2.drew ∧ Fd w base b bm v0 v1 v0 v1 x k t v w2.drew.drew) := ⟨F3.out.drew, F3.out.drew.drew⟩
  clear hc2 hm2 hx2 F3 HOf
  by_cases hh : x.m0 < t + -x.lo
  · have hlen := hroom hh
    have i1 : ¬ (300 : Int) ≤ (x.R1.length : Int) := by omega
    have hx3 := F4.out.2.cells
    go_wp2_with (first
      | (go_at_call 102; refine (HMy.out _ F4.out.1).mono ?_; rintro e w' ⟨rfl, rfl⟩)
      | fail)
    go_region_held3 (fun W => W.cell? ⟨w.heap.size, 0, none⟩ = some (.int .i64 k) ∧ W.cell? ⟨w.heap.size, 1, none⟩ = some (.int .i64 t)) (first | (go_keep; done) | fail) (first
      | (go_at_call 101; refine (other_one _).mono ?_; rintro e w' ⟨rfl, rfl⟩)
      | (go_at_call 103; refine (HMt.out _ F4.out.2).mono ?_; rintro e w4 ⟨vm, rfl, hm4, h4⟩; have hx4 := h4.cells; have F5 : Hid (Fd w base b bm v0 v1 v0 v1 { x with R0 := incR x.R0 (posR k (t + -x.hi) x.R0) M.length } k t v w4) := h4; have M4 : Hid (w4.ownsRow w.heap.size 130 4 vm M.length (M.flatMap encD)) := Go.Joins.ownsRow_le hm4 F4.out.2.turned.size; obtain ⟨oam, cm, evm⟩ := rowv_form hm4; subst evm; clear hm4 h4)
      | fail)
    clear hx3 F4 HMt
    have F6 : Hid (Fd w base b bm v0 v1 v0 v1 { x with R0 := incR x.R0 (posR k (t + -x.hi) x.R0) M.length } k t v w4.drew ∧ w4.drew.ownsRow w.heap.size 130 4 (.slice oam M.length cm) M.length (M.flatMap encD)) := ⟨F5.out.drew, kept_below M4.out (Below.refl _ _).drew⟩
    have i3 : (M.length : Int) ≤ 300 := by omega
    go_wp2
    go_region_held3 (fun W => W.cell? ⟨w.heap.size, 0, none⟩ = some (.int .i64 k) ∧ W.cell? ⟨w.heap.size, 1, none⟩ = some (.int .i64 t) ∧ W.cell? ⟨w.heap.size, 2, none⟩ = some (.int .i64 v)) (first | (go_keep; done) | fail) (first
      | (go_at_call 104; refine (HAd.out _ _ _ _ M F6.out.1 rfl hlen F6.out.2 (Nat.le_refl _)).mono ?_; rintro e w5 ⟨rfl, hm5, v', h5, hfr5⟩; have hx5 := h5.cells; have F7 : Hid (Fd w base b bm v0 v1 v0 v' { x with R0 := incR x.R0 (posR k (t + -x.hi) x.R0) M.length, R1 := insR x.R1 (posR k (t + 1) x.R1) ⟨k, t, v, (M.length : Nat)⟩ } k t v w5 ∧ w5.ownsRow w.heap.size 130 4 (.slice oam M.length cm) M.length (M.flatMap encD) ∧ Fresh w v1 v') := ⟨h5, hm5, hfr5⟩; clear h5 hm5 hfr5)
      | fail)
    clear hx4 F5 F6 HAd
    go_wp2_with (first
      | (go_at_call 105; refine (HCh.out _ _ _ _ _ _ M F7.out.1 rfl F7.out.2.1 hM3).mono ?_; rintro e w6 ⟨v9, rfl, h6, h7⟩; have F8 : Hid (w6.ownsRow w.heap.size 95 10 v9 (chgs x.mode 1 k t v M).length ((chgs x.mode 1 k t v M).flatMap encC) ∧ Fd w base b bm v0 v1 v0 v' { x with R0 := incR x.R0 (posR k (t + -x.hi) x.R0) M.length, R1 := insR x.R1 (posR k (t + 1) x.R1) ⟨k, t, v, (M.length : Nat)⟩ } k t v w6) := ⟨h6, h7⟩; clear h6 h7)
      | fail)
    refine bodyPost_ret (v := .tuple #[v9, .nilIface]) (by simp [results, Tryz.results45, go_sem]) rfl ⟨v9, v', rfl, ?_, F8.out.1, F8.out.2.turned, F7.out.2.2⟩
    rw [HX.out, if_pos hh]
    exact F8.out.2.here
  · have hx3 := F4.out.2.cells
    go_wp2
    go_region_held3 (fun W => W.cell? ⟨w.heap.size, 0, none⟩ = some (.int .i64 k) ∧ W.cell? ⟨w.heap.size, 1, none⟩ = some (.int .i64 t)) (first | (go_keep; done) | fail) (first
      | (go_at_call 101; refine (other_one _).mono ?_; rintro e w' ⟨rfl, rfl⟩)
      | (go_at_call 103; refine (HMt.out _ F4.out.2).mono ?_; rintro e w4 ⟨vm, rfl, hm4, h4⟩; have hx4 := h4.cells; have F5 : Hid (Fd w base b bm v0 v1 v0 v1 { x with R0 := incR x.R0 (posR k (t + -x.hi) x.R0) M.length } k t v w4) := h4; have M4 : Hid (w4.ownsRow w.heap.size 130 4 vm M.length (M.flatMap encD)) := Go.Joins.ownsRow_le hm4 F4.out.2.turned.size; obtain ⟨oam, cm, evm⟩ := rowv_form hm4; subst evm; clear hm4 h4)
      | fail)
    clear hx3 F4 HMt
    go_wp2_with (first
      | (go_at_call 105; refine (HCh.out _ _ _ _ _ _ M F5.out rfl M4.out hM3).mono ?_; rintro e w6 ⟨v9, rfl, h6, h7⟩; have F8 : Hid (w6.ownsRow w.heap.size 95 10 v9 (chgs x.mode 1 k t v M).length ((chgs x.mode 1 k t v M).flatMap encC) ∧ Fd w base b bm v0 v1 v0 v1 { x with R0 := incR x.R0 (posR k (t + -x.hi) x.R0) M.length } k t v w6) := ⟨h6, h7⟩; clear h6 h7)
      | fail)
    refine bodyPost_ret (v := .tuple #[v9, .nilIface]) (by simp [results, Tryz.results45, go_sem]) rfl ⟨v9, v1, rfl, ?_, F8.out.1, F8.out.2.turned, Or.inl rfl⟩
    rw [HX.out, if_neg (by omega)]
    exact F8.out.2.here
end Go.Proofs.YthfpipieboophaaGreatDoor

/- Package join: what it tells; Put, Lateness; Feed where it refuses. -/
namespace Go.Proofs.YthfpipieboophaaGreatDoor
open Go.Shelf Go.RowKit
set_option maxRecDepth 100000
theorem JoinAt.cell4 {w : World} {base b bm : Nat} {v0 v1 : Value} {x : J} (h : JoinAt w base b bm v0 v1 x) (n : Int) :
    JoinAt (w.setCell ⟨b, 6, none⟩ (.int .i64 n)) base b bm v0 v1 { x with late := n } := by
  have hk : ∀ k, k ≠ b → (w.setCell ⟨b, 6, none⟩ (.int .i64 n)).heap[k]? = w.heap[k]? := fun k e => Below.heap_setCell _ _ _ _ e
  exact ⟨Go.Joins.block_setCell h.blk _, (hk bm h.ne).trans h.mks, own_still h.r0 (fun g e => hk g (fun e2 => own_ne h.r0 h.blk (by omega) (by rw [← e2]; exact e))), own_still h.r1 (fun g e => hk g (fun e2 => own_ne h.r1 h.blk (by omega) (by rw [← e2]; exact e))), h.apart⟩
theorem turned_cell {w : World} {b o : Nat} {u : Value} : Turned (fun j => j = b) w (w.setCell ⟨b, o, none⟩ u) := ⟨rfl, rfl, rfl, by simp, fun k _ hn => Below.heap_setCell _ _ _ _ hn⟩
theorem jlate_any (base b bm : Nat) (v0 v1 : Value) (x : J) (w : World) (h : JoinAt w base b bm v0 v1 x) :
    Calls Tryz.prog 67 #[.pointer (some ⟨b, 0, none⟩)] w fun e w' => e = .returned (.int .i64 x.late) ∧ w' = w := by
  have hc := h.cells
  clear h
  go_enter Tryz.func67, Tryz.ntmps67
  go_wp2
  go_ret
  exact ⟨rfl, rfl⟩
theorem jmark_any (base b bm : Nat) (v0 v1 : Value) (x : J) (s : Int) (w : World) (h : JoinAt w base b bm v0 v1 x) :
    Calls Tryz.prog 64 #[.pointer (some ⟨b, 0, none⟩), .int .i64 s] w fun e w' => e = .returned (.int .i64 (ofI x.m0 x.m1 s)) ∧ w' = w := by
  have hc := h.cells
  have hof := markOf_any bm x.m0 x.m1 s w h.marks.1 h.marks.2
  clear h
  go_enter Tryz.func64, Tryz.ntmps64
  go_wp2_with (go_at_call 100; refine hof.mono ?_; rintro e w' ⟨rfl, rfl⟩)
  go_ret
  exact ⟨rfl, rfl⟩
theorem jlateness_any (base b bm : Nat) (v0 v1 : Value) (x : J) (n : Int) (w : World) (h : JoinAt w base b bm v0 v1 x) :
    Calls Tryz.prog 241 #[.pointer (some ⟨b, 0, none⟩), .int .i64 n] w fun e w' => e = .returned (.tuple #[]) ∧ JoinAt w' base b bm v0 v1 { x with late := max n 0 } ∧ Turned (fun j => j = b) w w' := by
  have hc := h.cells
  have HJ : Hid (JoinAt w base b bm v0 v1 x) := h
  clear h
  go_enter Tryz.func241, Tryz.ntmps241
  go_wp2
  go_end0
  exact ⟨rfl, HJ.out.cell4 _, turned_cell⟩
set_option maxHeartbeats 1000000 in
theorem feed_arg (b : Nat) (s k t v : Int) (w : World) (h : sideB s = false ∨ goodI k t v = false) :
    Calls Tryz.prog 45 #[.pointer (some ⟨b, 0, none⟩), .int .i64 s, .agg #[.int .i64 k, .int .i64 t, .int .i64 v]] w fun e w' => e = .returned (.tuple #[.slice none 0 0, .iface 24 (.int .i64 1)]) ∧ Below w.heap.size w w' := by
  cases hs : sideB s
  · go_enter Tryz.func45, Tryz.ntmps45
    go_wp2_with (go_at_call 95; refine (jisSide_any _ _).mono ?_; rintro e w' ⟨rfl, rfl⟩; rw [hs])
    exact bodyPost_ret (v := .tuple #[.slice none 0 0, .iface 24 (.int .i64 1)]) (by simp [results, Tryz.results45, go_sem]) rfl ⟨rfl, Go.Joins.below_alloc1 _ _⟩
  · have hg : goodI k t v = false := by
      rcases h with h | h
      · rw [hs] at h; cases h
      · exact h
    have hgo := good_any k t v (w.alloc (.cells #[.int .i64 k, .int .i64 t, .int .i64 v] 37))
    rw [hg] at hgo
    go_enter Tryz.func45, Tryz.ntmps45
    go_wp2_with (first
      | (go_at_call 95; refine (jisSide_any _ _).mono ?_; rintro e w' ⟨rfl, rfl⟩; rw [hs])
      | (go_at_call 96; refine hgo.mono ?_; rintro e w1 ⟨rfl, hb1⟩)
      | fail)
    exact bodyPost_ret (v := .tuple #[.slice none 0 0, .iface 24 (.int .i64 1)]) (by simp [results, Tryz.results45, go_sem]) rfl ⟨rfl, (Go.Joins.below_alloc1 w _).trans (hb1.mono (by simp))⟩
theorem jheld0 (base b bm : Nat) (v0 v1 : Value) (x : J) (w : World) (h : JoinAt w base b bm v0 v1 x) :
    Calls Tryz.prog 63 #[.pointer (some ⟨b, 0, none⟩), .int .i64 0] w fun e w' => e = .returned (.int .i64 x.R0.length) ∧ w' = w := by
  have hmy := side_many base b 4 v0 x.R0 w h.side0
  have hsd : sideB 0 = true := rfl
  clear h
  go_enter Tryz.func63, Tryz.ntmps63
  go_wp2_with (first
    | (go_at_call 95; refine (jisSide_any _ _).mono ?_; rintro e w' ⟨rfl, rfl⟩; rw [hsd])
    | (go_at_call 102; refine hmy.mono ?_; rintro e w' ⟨rfl, rfl⟩)
    | fail)
  go_ret
  exact ⟨rfl, rfl⟩
theorem jrows0 (base b bm : Nat) (v0 v1 : Value) (x : J) (w : World) (h : JoinAt w base b bm v0 v1 x) (hL : x.R0.length ≤ 100000) :
    Calls Tryz.prog 65 #[.pointer (some ⟨b, 0, none⟩), .int .i64 0] w fun e w' => ∃ v', e = .returned v' ∧ w'.ownsRow w.heap.size 130 4 v' x.R0.length (x.R0.flatMap encD) ∧ Below w.heap.size w w' := by
  have hmy := side_all base b 4 v0 x.R0 w h.side0 hL
  have hsd : sideB 0 = true := rfl
  clear h
  go_enter Tryz.func65, Tryz.ntmps65
  go_wp2_with (first
    | (go_at_call 95; refine (jisSide_any _ _).mono ?_; rintro e w' ⟨rfl, rfl⟩; rw [hsd])
    | (go_at_call 116; refine hmy.mono ?_; rintro e w' ⟨v', rfl, h1, h2⟩)
    | fail)
  go_ret
  exact ⟨v', rfl, h1, h2⟩
set_option maxHeartbeats 1000000 in
theorem jput_ok0 (base b bm : Nat) (v0 v1 : Value) (x : J) (k t v met : Int) (w : World) (h : JoinAt w base b bm v0 v1 x) (hbase : base ≤ w.heap.size) (hs : SortedR x.R0) (hL : x.R0.length < 300) (hg : goodI k t v = true) (hm : 0 ≤ met) :
    Calls Tryz.prog 164 #[.pointer (some ⟨b, 0, none⟩), .int .i64 0, .agg #[.int .i64 k, .int .i64 t, .int .i64 v], .int .i64 met] w fun e w' => e = .returned .nilIface ∧ ∃ v', JoinAt w' base b bm v' v1 { x with R0 := insR x.R0 (posR k (t + 1) x.R0) ⟨k, t, v, met⟩ } ∧ Turned (fun j => j = b ∨ v0.ownBlock = some j) w w' ∧ Fresh w v0 v' := by
  have hsd : sideB 0 = true := rfl
  have HA : Hid (∀ W, Amid w k t v W → Calls Tryz.prog 104 #[.pointer (some ⟨b, 4, none⟩), .agg #[.int .i64 k, .int .i64 t, .int .i64 v], .int .i64 met] W fun e w' => e = .returned .nilIface ∧ w'.heap[w.heap.size]? = some (.cells #[.int .i64 k, .int .i64 t, .int .i64 v] 37) ∧ Hid (∃ v', JoinAt w' base b bm v' v1 { x with R0 := insR x.R0 (posR k (t + 1) x.R0) ⟨k, t, v, met⟩ } ∧ Turned (fun j => j = b ∨ v0.ownBlock = some j) w w' ∧ Fresh w v0 v')) := by
    intro W hA
    have hW := hA.low
    refine (side_add_ok base b 4 v0 x.R0 k t v met W (h.below hW).side0 hs hL (Nat.le_trans hbase hW.size) hg hm).mono ?_
    rintro e w' ⟨rfl, v', h1, h2, h3⟩
    have hfr : Fresh W v0 v' := h3
    have hbx := (h2.block w.heap.size (Array.getElem?_eq_some_iff.1 hA.box).1 (by have := h.lt; omega) (fun e => by have := (h.r0.lt _ e).2; omega)).trans hA.box
    exact ⟨rfl, hbx, v', (h.below hW).put0 h1 h2 hfr, (Turned.of_below hW).trans (Turned.of_keep (S := fun j => j = b ∨ v0.ownBlock = some j) h2 (Or.inl rfl) (fun k e => Or.inr e)) (fun _ _ e => e), hfr.imp id (fun ⟨g, a, c⟩ => ⟨g, a, Nat.le_trans hW.size c⟩)⟩
  clear h
  go_enter Tryz.func164, Tryz.ntmps164
  have A1 : Hid (Amid w k t v (w.alloc (.cells #[.int .i64 k, .int .i64 t, .int .i64 v] 37)).drew) := (show Amid w k t v (w.alloc (.cells #[.int .i64 k, .int .i64 t, .int .i64 v] 37)).drew from ⟨(Go.Joins.below_alloc1 _ _).drew, heap_alloc_new _ _⟩)
  go_wp2_with (first
    | (go_at_call 95; refine (jisSide_any _ _).mono ?_; rintro e w' ⟨rfl, rfl⟩; rw [hsd])
    | fail)
  have hx1 := A1.out.cells
  go_region_held3 (fun W => W.cell? ⟨w.heap.size, 0, none⟩ = some (.int .i64 k) ∧ W.cell? ⟨w.heap.size, 1, none⟩ = some (.int .i64 t) ∧ W.cell? ⟨w.heap.size, 2, none⟩ = some (.int .i64 v)) (first | (go_keep; done) | fail) (first
    | (go_at_call 104; refine (HA.out _ A1.out).mono ?_; rintro e w' ⟨rfl, h2, h1⟩; have hx2 := rbox_cells h2)
    | fail)
  go_wp2
  go_ret
  exact ⟨rfl, h1.out⟩
theorem jheld1 (base b bm : Nat) (v0 v1 : Value) (x : J) (w : World) (h : JoinAt w base b bm v0 v1 x) :
    Calls Tryz.prog 63 #[.pointer (some ⟨b, 0, none⟩), .int .i64 1] w fun e w' => e = .returned (.int .i64 x.R1.length) ∧ w' = w := by
  have hmy := side_many base b 5 v1 x.R1 w h.side1
  have hsd : sideB 1 = true := rfl
  clear h
  go_enter Tryz.func63, Tryz.ntmps63
  go_wp2_with (first
    | (go_at_call 95; refine (jisSide_any _ _).mono ?_; rintro e w' ⟨rfl, rfl⟩; rw [hsd])
    | (go_at_call 102; refine hmy.mono ?_; rintro e w' ⟨rfl, rfl⟩)
    | fail)
  go_ret
  exact ⟨rfl, rfl⟩
theorem jrows1 (base b bm : Nat) (v0 v1 : Value) (x : J) (w : World) (h : JoinAt w base b bm v0 v1 x) (hL : x.R1.length ≤ 100000) :
    Calls Tryz.prog 65 #[.pointer (some ⟨b, 0, none⟩), .int .i64 1] w fun e w' => ∃ v', e = .returned v' ∧ w'.ownsRow w.heap.size 130 4 v' x.R1.length (x.R1.flatMap encD) ∧ Below w.heap.size w w' := by
  have hmy := side_all base b 5 v1 x.R1 w h.side1 hL
  have hsd : sideB 1 = true := rfl
  clear h
  go_enter Tryz.func65, Tryz.ntmps65
  go_wp2_with (first
    | (go_at_call 95; refine (jisSide_any _ _).mono ?_; rintro e w' ⟨rfl, rfl⟩; rw [hsd])
    | (go_at_call 116; refine hmy.mono ?_; rintro e w' ⟨v', rfl, h1, h2⟩)
    | fail)
  go_ret
  exact ⟨v', rfl, h1, h2⟩
set_option maxHeartbeats 1000000 in
theorem jput_ok1 (base b bm : Nat) (v0 v1 : Value) (x : J) (k t v met : Int) (w : World) (h : JoinAt w base b bm v0 v1 x) (hbase : base ≤ w.heap.size) (hs : SortedR x.R1) (hL : x.R1.length < 300) (hg : goodI k t v = true) (hm : 0 ≤ met) :
    Calls Tryz.prog 164 #[.pointer (some ⟨b, 0, none⟩), .int .i64 1, .agg #[.int .i64 k, .int .i64 t, .int .i64 v], .int .i64 met] w fun e w' => e = .returned .nilIface ∧ ∃ v', JoinAt w' base b bm v0 v' { x with R1 := insR x.R1 (posR k (t + 1) x.R1) ⟨k, t, v, met⟩ } ∧ Turned (fun j => j = b ∨ v1.ownBlock = some j) w w' ∧ Fresh w v1 v' := by
  have hsd : sideB 1 = true := rfl
  have HA : Hid (∀ W, Amid w k t v W → Calls Tryz.prog 104 #[.pointer (some ⟨b, 5, none⟩), .agg #[.int .i64 k, .int .i64 t, .int .i64 v], .int .i64 met] W fun e w' => e = .returned .nilIface ∧ w'.heap[w.heap.size]? = some (.cells #[.int .i64 k, .int .i64 t, .int .i64 v] 37) ∧ Hid (∃ v', JoinAt w' base b bm v0 v' { x with R1 := insR x.R1 (posR k (t + 1) x.R1) ⟨k, t, v, met⟩ } ∧ Turned (fun j => j = b ∨ v1.ownBlock = some j) w w' ∧ Fresh w v1 v')) := by
    intro W hA
    have hW := hA.low
    refine (side_add_ok base b 5 v1 x.R1 k t v met W (h.below hW).side1 hs hL (Nat.le_trans hbase hW.size) hg hm).mono ?_
    rintro e w' ⟨rfl, v', h1, h2, h3⟩
    have hfr : Fresh W v1 v' := h3
    have hbx := (h2.block w.heap.size (Array.getElem?_eq_some_iff.1 hA.box).1 (by have := h.lt; omega) (fun e => by have := (h.r1.lt _ e).2; omega)).trans hA.box
    exact ⟨rfl, hbx, v', (h.below hW).put1 h1 h2 hfr, (Turned.of_below hW).trans (Turned.of_keep (S := fun j => j = b ∨ v1.ownBlock = some j) h2 (Or.inl rfl) (fun k e => Or.inr e)) (fun _ _ e => e), hfr.imp id (fun ⟨g, a, c⟩ => ⟨g, a, Nat.le_trans hW.size c⟩)⟩
  clear h
  go_enter Tryz.func164, Tryz.ntmps164
  have A1 : Hid (Amid w k t v (w.alloc (.cells #[.int .i64 k, .int .i64 t, .int .i64 v] 37)).drew) := (show Amid w k t v (w.alloc (.cells #[.int .i64 k, .int .i64 t, .int .i64 v] 37)).drew from ⟨(Go.Joins.below_alloc1 _ _).drew, heap_alloc_new _ _⟩)
  go_wp2_with (first
    | (go_at_call 95; refine (jisSide_any _ _).mono ?_; rintro e w' ⟨rfl, rfl⟩; rw [hsd])
    | fail)
  have hx1 := A1.out.cells
  go_region_held3 (fun W => W.cell? ⟨w.heap.size, 0, none⟩ = some (.int .i64 k) ∧ W.cell? ⟨w.heap.size, 1, none⟩ = some (.int .i64 t) ∧ W.cell? ⟨w.heap.size, 2, none⟩ = some (.int .i64 v)) (first | (go_keep; done) | fail) (first
    | (go_at_call 104; refine (HA.out _ A1.out).mono ?_; rintro e w' ⟨rfl, h2, h1⟩; have hx2 := rbox_cells h2)
    | fail)
  go_wp2
  go_ret
  exact ⟨rfl, h1.out⟩
end Go.Proofs.YthfpipieboophaaGreatDoor

/- Package join: Feed where a row is late, or a side is full; Move. -/
namespace Go.Proofs.YthfpipieboophaaGreatDoor
open Go.Shelf Go.RowKit
set_option maxRecDepth 100000
set_option maxHeartbeats 4000000 in
theorem feed_late0 (base b bm : Nat) (v0 v1 : Value) (x : J) (k t v : Int) (w : World) (h : JoinAt w base b bm v0 v1 x) (hg : goodI k t v = true) (hlate : t ≤ x.m0) (l1 : -9223372036854775808 ≤ x.late) (l2 : x.late ≤ 9223372036854775807) :
    Calls Tryz.prog 45 #[.pointer (some ⟨b, 0, none⟩), .int .i64 0, .agg #[.int .i64 k, .int .i64 t, .int .i64 v]] w fun e w' => e = .returned (.tuple #[.slice none 0 0, .iface 24 (.int .i64 10)]) ∧ JoinAt w' base b bm v0 v1 { x with late := moreI x.late } ∧ Turned (fun j => j = b) w w' := by
  have hgo := good_any k t v (w.alloc (.cells #[.int .i64 k, .int .i64 t, .int .i64 v] 37))
  rw [hg] at hgo
  have g1 : -1099511627776 ≤ t ∧ t ≤ 1099511627776 := by simp [goodI, inI] at hg; omega
  have HJ : Hid (JoinAt w base b bm v0 v1 x) := h
  have hlt := h.lt
  have hltm := h.ltm
  have hsd : sideB 0 = true := rfl
  have HLt : Hid (∀ W, W.cell? ⟨bm, 0, none⟩ = some (.int .i64 x.m0) → W.cell? ⟨bm, 1, none⟩ = some (.int .i64 x.m1) → Calls Tryz.prog 97 #[.pointer (some ⟨bm, 0, none⟩), .int .i64 0, .int .i64 t] W fun e w' => e = .returned (.bool true) ∧ w' = W) := by
    intro W h1 h2
    have := markLate_any bm x.m0 x.m1 0 t W h1 h2
    have e : decide (t ≤ ofI x.m0 x.m1 0) = true := by simp [ofI]; omega
    rwa [e] at this
  have hmo := fun W => oneMoreJ_any x.late W l1 l2
  clear h hlate g1 l1 l2
  go_enter Tryz.func45, Tryz.ntmps45
  go_wp2_with (first
    | (go_at_call 95; refine (jisSide_any _ _).mono ?_; rintro e w' ⟨rfl, rfl⟩; rw [hsd])
    | (go_at_call 96; refine hgo.mono ?_; rintro e w1 ⟨rfl, hb1⟩; have A1 : Hid (Amid w k t v w1) := (show Amid w k t v w1 from ⟨(Go.Joins.below_alloc1 w _).trans (hb1.mono (by simp)), (hb1.block _ (by simp)).trans (heap_alloc_new _ _)⟩); clear hb1)
    | fail)
  clear hgo
  have hc1 := (HJ.out.below A1.out.low).cells
  have hm1 := (HJ.out.below A1.out.low).marks
  have hx1 := A1.out.cells
  go_region_held3 (fun W => W.cell? ⟨b, 3, none⟩ = some (.pointer (some ⟨bm, 0, none⟩)) ∧ W.cell? ⟨w.heap.size, 1, none⟩ = some (.int .i64 t) ∧ W.cell? ⟨bm, 0, none⟩ = some (.int .i64 x.m0) ∧ W.cell? ⟨bm, 1, none⟩ = some (.int .i64 x.m1)) (first | (go_keep; done) | fail) (first
    | (go_at_call 97; refine (HLt.out _ ?_ ?_).mono ?_; (go_simp); (go_simp); rintro e w' ⟨rfl, rfl⟩)
    | fail)
  go_wp2_with (first
    | (go_at_call 98; refine (hmo _).mono ?_; rintro e w' ⟨rfl, rfl⟩)
    | fail)
  refine bodyPost_ret (v := .tuple #[.slice none 0 0, .iface 24 (.int .i64 10)]) (by simp [results, Tryz.results45, go_sem]) rfl ⟨rfl, (HJ.out.below A1.out.low.drew).cell4 _, ?_⟩
  exact (Turned.of_below A1.out.low.drew).trans turned_cell (fun _ _ e => e)
set_option maxHeartbeats 4000000 in
theorem feed_full0 (base b bm : Nat) (v0 v1 : Value) (x : J) (k t v : Int) (w : World) (h : JoinAt w base b bm v0 v1 x) (hg : goodI k t v = true)
    (p1 : -1048576 ≤ x.lo) (p2 : x.lo ≤ 1048576) (p3 : -1048576 ≤ x.hi) (p4 : x.hi ≤ 1048576) (hlate : ¬ t ≤ x.m0) (hh : x.m1 < t + x.hi) (hL : 300 ≤ x.R0.length) :
    Calls Tryz.prog 45 #[.pointer (some ⟨b, 0, none⟩), .int .i64 0, .agg #[.int .i64 k, .int .i64 t, .int .i64 v]] w fun e w' => e = .returned (.tuple #[.slice none 0 0, .iface 24 (.int .i64 12)]) ∧ Below w.heap.size w w' := by
  have hgo := good_any k t v (w.alloc (.cells #[.int .i64 k, .int .i64 t, .int .i64 v] 37))
  rw [hg] at hgo
  have g1 : -1099511627776 ≤ t ∧ t ≤ 1099511627776 := by simp [goodI, inI] at hg; omega
  have HJ : Hid (JoinAt w base b bm v0 v1 x) := h
  have hlt := h.lt
  have hltm := h.ltm
  have hsd : sideB 0 = true := rfl
  have HLt : Hid (∀ W, W.cell? ⟨bm, 0, none⟩ = some (.int .i64 x.m0) → W.cell? ⟨bm, 1, none⟩ = some (.int .i64 x.m1) → Calls Tryz.prog 97 #[.pointer (some ⟨bm, 0, none⟩), .int .i64 0, .int .i64 t] W fun e w' => e = .returned (.bool false) ∧ w' = W) := by
    intro W h1 h2
    have := markLate_any bm x.m0 x.m1 0 t W h1 h2
    have e : decide (t ≤ ofI x.m0 x.m1 0) = false := by simp [ofI]; omega
    rwa [e] at this
  have e1 : IntKind.i64.wrap (t + x.lo) = t + x.lo := wr64 (by omega) (by omega)
  have e2 : IntKind.i64.wrap (t + x.hi) = t + x.hi := wr64 (by omega) (by omega)
  have HOf : Hid (∀ W, W.cell? ⟨bm, 0, none⟩ = some (.int .i64 x.m0) → W.cell? ⟨bm, 1, none⟩ = some (.int .i64 x.m1) → Calls Tryz.prog 100 #[.pointer (some ⟨bm, 0, none⟩), .int .i64 1] W fun e w' => e = .returned (.int .i64 x.m1) ∧ w' = W) := by
    intro W h1 h2
    have := markOf_any bm x.m0 x.m1 1 W h1 h2
    have e : ofI x.m0 x.m1 1 = x.m1 := by simp [ofI]
    rwa [e] at this
  have HMy : Hid (∀ W, Below w.heap.size w W → Calls Tryz.prog 102 #[.pointer (some ⟨b, 4, none⟩)] W fun e w' => e = .returned (.int .i64 x.R0.length) ∧ w' = W) := fun W hW => side_many base b 4 v0 x.R0 W (h.below hW).side0
  have i1 : (300 : Int) ≤ (x.R0.length : Int) := by omega
  clear h hlate g1
  go_enter Tryz.func45, Tryz.ntmps45
  go_wp2_with (first
    | (go_at_call 95; refine (jisSide_any _ _).mono ?_; rintro e w' ⟨rfl, rfl⟩; rw [hsd])
    | (go_at_call 96; refine hgo.mono ?_; rintro e w1 ⟨rfl, hb1⟩; have A1 : Hid (Amid w k t v w1) := (show Amid w k t v w1 from ⟨(Go.Joins.below_alloc1 w _).trans (hb1.mono (by simp)), (hb1.block _ (by simp)).trans (heap_alloc_new _ _)⟩); clear hb1)
    | fail)
  clear hgo
  have hc1 := (HJ.out.below A1.out.low).cells
  have hm1 := (HJ.out.below A1.out.low).marks
  have hx1 := A1.out.cells
  go_region_held3 (fun W => W.cell? ⟨b, 3, none⟩ = some (.pointer (some ⟨bm, 0, none⟩)) ∧ W.cell? ⟨w.heap.size, 1, none⟩ = some (.int .i64 t) ∧ W.cell? ⟨bm, 0, none⟩ = some (.int .i64 x.m0) ∧ W.cell? ⟨bm, 1, none⟩ = some (.int .i64 x.m1)) (first | (go_keep; done) | fail) (first
    | (go_at_call 97; refine (HLt.out _ ?_ ?_).mono ?_; (go_simp); (go_simp); rintro e w' ⟨rfl, rfl⟩)
    | fail)
  go_wp2_with (first
    | (go_at_call 99; refine (reach_left b x.lo x.hi _ (by go_simp) (by go_simp)).mono ?_; rintro e w' ⟨rfl, rfl⟩)
    | fail)
  go_region_held3 (fun W => W.cell? ⟨b, 3, none⟩ = some (.pointer (some ⟨bm, 0, none⟩)) ∧ W.cell? ⟨w.heap.size, 1, none⟩ = some (.int .i64 t) ∧ W.cell? ⟨bm, 0, none⟩ = some (.int .i64 x.m0) ∧ W.cell? ⟨bm, 1, none⟩ = some (.int .i64 x.m1)) (first | (go_keep; done) | fail) (first
    | (go_at_call 101; refine (other_zero _).mono ?_; rintro e w' ⟨rfl, rfl⟩)
    | (go_at_call 100; refine (HOf.out _ ?_ ?_).mono ?_; (go_simp); (go_simp); rintro e w' ⟨rfl, rfl⟩)
    | fail)
  go_wp2_with (first
    | (go_at_call 102; refine (HMy.out _ A1.out.low.drew.drew.drew).mono ?_; rintro e w' ⟨rfl, rfl⟩)
    | fail)
  exact bodyPost_ret (v := .tuple #[.slice none 0 0, .iface 24 (.int .i64 12)]) (by simp [results, Tryz.results45, go_sem]) rfl ⟨rfl, A1.out.low.drew.drew.drew⟩
set_option maxHeartbeats 4000000 in
theorem feed_late1 (base b bm : Nat) (v0 v1 : Value) (x : J) (k t v : Int) (w : World) (h : JoinAt w base b bm v0 v1 x) (hg : goodI k t v = true) (hlate : t ≤ x.m1) (l1 : -9223372036854775808 ≤ x.late) (l2 : x.late ≤ 9223372036854775807) :
    Calls Tryz.prog 45 #[.pointer (some ⟨b, 0, none⟩), .int .i64 1, .agg #[.int .i64 k, .int .i64 t, .int .i64 v]] w fun e w' => e = .returned (.tuple #[.slice none 0 0, .iface 24 (.int .i64 10)]) ∧ JoinAt w' base b bm v0 v1 { x with late := moreI x.late } ∧ Turned (fun j => j = b) w w' := by
  have hgo := good_any k t v (w.alloc (.cells #[.int .i64 k, .int .i64 t, .int .i64 v] 37))
  rw [hg] at hgo
  have g1 : -1099511627776 ≤ t ∧ t ≤ 1099511627776 := by simp [goodI, inI] at hg; omega
  have HJ : Hid (JoinAt w base b bm v0 v1 x) := h
  have hlt := h.lt
  have hltm := h.ltm
  have hsd : sideB 1 = true := rfl
  have HLt : Hid (∀ W, W.cell? ⟨bm, 0, none⟩ = some (.int .i64 x.m0) → W.cell? ⟨bm, 1, none⟩ = some (.int .i64 x.m1) → Calls Tryz.prog 97 #[.pointer (some ⟨bm, 0, none⟩), .int .i64 1, .int .i64 t] W fun e w' => e = .returned (.bool true) ∧ w' = W) := by
    intro W h1 h2
    have := markLate_any bm x.m0 x.m1 1 t W h1 h2
    have e : decide (t ≤ ofI x.m0 x.m1 1) = true := by simp [ofI]; omega
    rwa [e] at this
  have hmo := fun W => oneMoreJ_any x.late W l1 l2
  clear h hlate g1 l1 l2
  go_enter Tryz.func45, Tryz.ntmps45
  go_wp2_with (first
    | (go_at_call 95; refine (jisSide_any _ _).mono ?_; rintro e w' ⟨rfl, rfl⟩; rw [hsd])
    | (go_at_call 96; refine hgo.mono ?_; rintro e w1 ⟨rfl, hb1⟩; have A1 : Hid (Amid w k t v w1) := (show Amid w k t v w1 from ⟨(Go.Joins.below_alloc1 w _).trans (hb1.mono (by simp)), (hb1.block _ (by simp)).trans (heap_alloc_new _ _)⟩); clear hb1)
    | fail)
  clear hgo
  have hc1 := (HJ.out.below A1.out.low).cells
  have hm1 := (HJ.out.below A1.out.low).marks
  have hx1 := A1.out.cells
  go_region_held3 (fun W => W.cell? ⟨b, 3, none⟩ = some (.pointer (some ⟨bm, 0, none⟩)) ∧ W.cell? ⟨w.heap.size, 1, none⟩ = some (.int .i64 t) ∧ W.cell? ⟨bm, 0, none⟩ = some (.int .i64 x.m0) ∧ W.cell? ⟨bm, 1, none⟩ = some (.int .i64 x.m1)) (first | (go_keep; done) | fail) (first
    | (go_at_call 97; refine (HLt.out _ ?_ ?_).mono ?_; (go_simp); (go_simp); rintro e w' ⟨rfl, rfl⟩)
    | fail)
  go_wp2_with (first
    | (go_at_call 98; refine (hmo _).mono ?_; rintro e w' ⟨rfl, rfl⟩)
    | fail)
  refine bodyPost_ret (v := .tuple #[.slice none 0 0, .iface 24 (.int .i64 10)]) (by simp [results, Tryz.results45, go_sem]) rfl ⟨rfl, (HJ.out.below A1.out.low.drew).cell4 _, ?_⟩
  exact (Turned.of_below A1.out.low.drew).trans turned_cell (fun _ _ e => e)
set_option maxHeartbeats 4000000 in
theorem feed_full1 (base b bm : Nat) (v0 v1 : Value) (x : J) (k t v : Int) (w : World) (h : JoinAt w base b bm v0 v1 x) (hg : goodI k t v = true)
    (p1 : -1048576 ≤ x.lo) (p2 : x.lo ≤ 1048576) (p3 : -1048576 ≤ x.hi) (p4 : x.hi ≤ 1048576) (hlate : ¬ t ≤ x.m1) (hh : x.m0 < t + -x.lo) (hL : 300 ≤ x.R1.length) :
    Calls Tryz.prog 45 #[.pointer (some ⟨b, 0, none⟩), .int .i64 1, .agg #[.int .i64 k, .int .i64 t, .int .i64 v]] w fun e w' => e = .returned (.tuple #[.slice none 0 0, .iface 24 (.int .i64 12)]) ∧ Below w.heap.size w w' := by
  have hgo := good_any k t v (w.alloc (.cells #[.int .i64 k, .int .i64 t, .int .i64 v] 37))
  rw [hg] at hgo
  have g1 : -1099511627776 ≤ t ∧ t ≤ 1099511627776 := by simp [goodI, inI] at hg; omega
  have HJ : Hid (JoinAt w base b bm v0 v1 x) := h
  have hlt := h.lt
  have hltm := h.ltm
  have hsd : sideB 1 = true := rfl
  have HLt : Hid (∀ W, W.cell? ⟨bm, 0, none⟩ = some (.int .i64 x.m0) → W.cell? ⟨bm, 1, none⟩ = some (.int .i64 x.m1) → Calls Tryz.prog 97 #[.pointer (some ⟨bm, 0, none⟩), .int .i64 1, .int .i64 t] W fun e w' => e = .returned (.bool false) ∧ w' = W) := by
    intro W h1 h2
    have := markLate_any bm x.m0 x.m1 1 t W h1 h2
    have e : decide (t ≤ ofI x.m0 x.m1 1) = false := by simp [ofI]; omega
    rwa [e] at this
  have e1 : IntKind.i64.wrap (t + -x.hi) = t + -x.hi := wr64 (by omega) (by omega)
  have e2 : IntKind.i64.wrap (t + -x.lo) = t + -x.lo := wr64 (by omega) (by omega)
  have HOf : Hid (∀ W, W.cell? ⟨bm, 0, none⟩ = some (.int .i64 x.m0) → W.cell? ⟨bm, 1, none⟩ = some (.int .i64 x.m1) → Calls Tryz.prog 100 #[.pointer (some ⟨bm, 0, none⟩), .int .i64 0] W fun e w' => e = .returned (.int .i64 x.m0) ∧ w' = W) := by
    intro W h1 h2
    have := markOf_any bm x.m0 x.m1 0 W h1 h2
    have e : ofI x.m0 x.m1 0 = x.m0 := by simp [ofI]
    rwa [e] at this
  have HMy : Hid (∀ W, Below w.heap.size w W → Calls Tryz.prog 102 #[.pointer (some ⟨b, 5, none⟩)] W fun e w' => e = .returned (.int .i64 x.R1.length) ∧ w' = W) := fun W hW => side_many base b 5 v1 x.R1 W (h.below hW).side1
  have i1 : (300 : Int) ≤ (x.R1.length : Int) := by omega
  clear h hlate g1
  go_enter Tryz.func45, Tryz.ntmps45
  go_wp2_with (first
    | (go_at_call 95; refine (jisSide_any _ _).mono ?_; rintro e w' ⟨rfl, rfl⟩; rw [hsd])
    | (go_at_call 96; refine hgo.mono ?_; rintro e w1 ⟨rfl, hb1⟩; have A1 : Hid (Amid w k t v w1) := (show Amid w k t v w1 from ⟨(Go.Joins.below_alloc1 w _).trans (hb1.mono (by simp)), (hb1.block _ (by simp)).trans (heap_alloc_new _ _)⟩); clear hb1)
    | fail)
  clear hgo
  have hc1 := (HJ.out.below A1.out.low).cells
  have hm1 := (HJ.out.below A1.out.low).marks
  have hx1 := A1.out.cells
  go_region_held3 (fun W => W.cell? ⟨b, 3, none⟩ = some (.pointer (some ⟨bm, 0, none⟩)) ∧ W.cell? ⟨w.heap.size, 1, none⟩ = some (.int .i64 t) ∧ W.cell? ⟨bm, 0, none⟩ = some (.int .i64 x.m0) ∧ W.cell? ⟨bm, 1, none⟩ = some (.int .i64 x.m1)) (first | (go_keep; done) | fail) (first
    | (go_at_call 97; refine (HLt.out _ ?_ ?_).mono ?_; (go_simp); (go_simp); rintro e w' ⟨rfl, rfl⟩)
    | fail)
  go_wp2_with (first
    | (go_at_call 99; refine (reach_right b x.lo x.hi _ (by go_simp) (by go_simp) p1 p2 p3 p4).mono ?_; rintro e w' ⟨rfl, rfl⟩)
    | fail)
  go_region_held3 (fun W => W.cell? ⟨b, 3, none⟩ = some (.pointer (some ⟨bm, 0, none⟩)) ∧ W.cell? ⟨w.heap.size, 1, none⟩ = some (.int .i64 t) ∧ W.cell? ⟨bm, 0, none⟩ = some (.int .i64 x.m0) ∧ W.cell? ⟨bm, 1, none⟩ = some (.int .i64 x.m1)) (first | (go_keep; done) | fail) (first
    | (go_at_call 101; refine (other_one _).mono ?_; rintro e w' ⟨rfl, rfl⟩)
    | (go_at_call 100; refine (HOf.out _ ?_ ?_).mono ?_; (go_simp); (go_simp); rintro e w' ⟨rfl, rfl⟩)
    | fail)
  go_wp2_with (first
    | (go_at_call 102; refine (HMy.out _ A1.out.low.drew.drew.drew).mono ?_; rintro e w' ⟨rfl, rfl⟩)
    | fail)
  exact bodyPost_ret (v := .tuple #[.slice none 0 0, .iface 24 (.int .i64 12)]) (by simp [results, Tryz.results45, go_sem]) rfl ⟨rfl, A1.out.low.drew.drew.drew⟩
end Go.Proofs.YthfpipieboophaaGreatDoor

/- Package join: Move; Check, New. -/
namespace Go.Proofs.YthfpipieboophaaGreatDoor
open Go.Shelf Go.RowKit
set_option maxRecDepth 100000
theorem JoinAt.marked {w w' : World} {base b bm : Nat} {v0 v1 : Value} {x : J} {l r : Int} (h : JoinAt w base b bm v0 v1 x) (hm : w'.heap[bm]? = some (.cells #[.int .i64 l, .int .i64 r] 250)) (ho : Only bm w w') : JoinAt w' base b bm v0 v1 { x with m0 := l, m1 := r } :=
  ⟨(ho.block b (fun e => h.ne e.symm)).trans h.blk, hm, own_still h.r0 (fun g e => ho.block g (fun e2 => own_ne h.r0 h.mks (by omega) (by rw [← e2]; exact e))), own_still h.r1 (fun g e => ho.block g (fun e2 => own_ne h.r1 h.mks (by omega) (by rw [← e2]; exact e))), h.apart⟩
theorem ne_err (k : Int) (w : World) : (binOp .neq 29 (.iface 24 (.int .i64 k)) .nilIface).run Tryz.prog w = .ok (.bool true) w := by kernel_rfl
theorem jmove_err (base b bm : Nat) (v0 v1 : Value) (x : J) (s t : Int) (w : World) (h : JoinAt w base b bm v0 v1 x) (he : moveE x.m0 x.m1 s t ≠ 0) :
    Calls Tryz.prog 51 #[.pointer (some ⟨b, 0, none⟩), .int .i64 s, .int .i64 t] w fun e w' => e = .returned (.iface 24 (.int .i64 (moveE x.m0 x.m1 s t))) ∧ Below w.heap.size w w' := by
  have hc := h.cells
  have hmv : Calls Tryz.prog 111 #[.pointer (some ⟨bm, 0, none⟩), .int .i64 s, .int .i64 t] w fun e w' => e = .returned (.iface 24 (.int .i64 (moveE x.m0 x.m1 s t))) ∧ Below w.heap.size w w' := by
    refine (markMove_any bm x.m0 x.m1 s t w h.mks).mono ?_
    rintro e w' ⟨rfl, h1, h2⟩
    refine ⟨by simp [errV, he], h2.os, h2.tape, h2.output, Nat.le_of_eq h2.size, fun k hk => ?_⟩
    by_cases e : k = bm
    · subst e
      rw [h1, h.mks]
      simp [movL, movR, he]
    · exact h2.block k e
  have hq := ne_err
  generalize moveE x.m0 x.m1 s t = E at *
  clear h
  go_enter Tryz.func51, Tryz.ntmps51
  go_wp2_with (go_at_call 111; refine hmv.mono ?_; rintro e w' ⟨rfl, hb⟩)
  go_ret
  exact ⟨rfl, hb⟩
set_option maxHeartbeats 1000000 in
theorem jmove_ok0 (base b bm : Nat) (v0 v1 : Value) (x : J) (t : Int) (w : World) (h : JoinAt w base b bm v0 v1 x) (he : moveE x.m0 x.m1 0 t = 0) (hL : x.R1.length ≤ 100000)
    (p1 : -1048576 ≤ x.lo) (p2 : x.lo ≤ 1048576) (p3 : -1048576 ≤ x.hi) (p4 : x.hi ≤ 1048576) :
    Calls Tryz.prog 51 #[.pointer (some ⟨b, 0, none⟩), .int .i64 0, .int .i64 t] w fun e w' => e = .returned .nilIface ∧ ∃ v', JoinAt w' base b bm v0 v' { x with m0 := t, R1 := keepR (fun y => decide (y.t ≤ t + x.lo)) x.R1 } ∧ Turned (fun j => j = b ∨ j = bm ∨ v1.ownBlock = some j) w w' ∧ v'.ownBlock = v1.ownBlock := by
  have hc := h.cells
  have ht : -1099511627776 ≤ t ∧ t ≤ 1099511627776 := by
    unfold moveE at he
    rw [if_neg (by decide)] at he
    split at he
    · cases he
    · omega
  have e1 : IntKind.i64.wrap (t + x.lo) = t + x.lo := wr64 (by omega) (by omega)
  have hmv : Calls Tryz.prog 111 #[.pointer (some ⟨bm, 0, none⟩), .int .i64 0, .int .i64 t] w fun e w' => e = .returned .nilIface ∧ JoinAt w' base b bm v0 v1 { x with m0 := t } ∧ Turned (fun j => j = bm) w w' := by
    refine (markMove_any bm x.m0 x.m1 0 t w h.mks).mono ?_
    rintro e w' ⟨rfl, h1, h2⟩
    refine ⟨by simp [errV, he], ?_, h2.os, h2.tape, h2.output, Nat.le_of_eq h2.size, fun k hk hn => h2.block k hn⟩
    have e3 : movL x.m0 x.m1 0 t = t := by simp [movL, he]
    have e4 : movR x.m0 x.m1 0 t = x.m1 := by simp [movR, he]
    rw [e3, e4] at h1
    exact h.marked h1 h2
  have HD : Hid (∀ W, JoinAt W base b bm v0 v1 { x with m0 := t } → Turned (fun j => j = bm) w W → Calls Tryz.prog 112 #[.pointer (some ⟨b, 5, none⟩), .int .i64 (t + x.lo)] W fun e w' => (∃ n, e = .returned (.int .i64 n)) ∧ Hid (∃ v', JoinAt w' base b bm v0 v' { x with m0 := t, R1 := keepR (fun y => decide (y.t ≤ t + x.lo)) x.R1 } ∧ Turned (fun j => j = b ∨ j = bm ∨ v1.ownBlock = some j) w w' ∧ v'.ownBlock = v1.ownBlock)) := by
    intro W hW hT
    refine (side_drop base b 5 v1 x.R1 (t + x.lo) W hW.side1 hL).mono ?_
    rintro e w' ⟨rfl, v', h1, h2, h3⟩
    refine ⟨⟨_, rfl⟩, v', hW.put1 h1 h2 (Or.inl h3), ?_, h3⟩
    exact (hT.mono (S' := fun j => j = b ∨ j = bm ∨ v1.ownBlock = some j) (fun k e => Or.inr (Or.inl e))).trans (Turned.of_keep (S := fun j => j = b ∨ j = bm ∨ v1.ownBlock = some j) h2 (Or.inl rfl) (fun k e => Or.inr (Or.inr e))) (fun _ _ e => e)
  clear h he ht
  go_enter Tryz.func51, Tryz.ntmps51
  go_wp2_with (first
    | (go_at_call 111; refine hmv.mono ?_; rintro e w1 ⟨rfl, h1, h2⟩; have hc1 := h1.cells; have J1 : Hid (JoinAt w1 base b bm v0 v1 { x with m0 := t } ∧ Turned (fun j => j = bm) w w1) := ⟨h1, h2⟩; clear h1 h2)
    | (go_at_call 101; refine (other_zero _).mono ?_; rintro e w' ⟨rfl, hw⟩; have hw := hw.symm; subst hw)
    | (go_at_call 99; refine (reach_right b x.lo x.hi _ (by go_simp) (by go_simp) p1 p2 p3 p4).mono ?_; rintro e w' ⟨rfl, rfl⟩)
    | fail)
  have J2 : Hid (JoinAt w1.drew.drew base b bm v0 v1 { x with m0 := t } ∧ Turned (fun j => j = bm) w w1.drew.drew) := ⟨J1.out.1.below ((Below.refl _ _).drew.drew), J1.out.2.trans (Turned.of_below (S := fun _ => False) ((Below.refl _ _).drew.drew)) (fun _ _ e => e.elim)⟩
  go_region_held3 (fun W => True) (first | trivial | fail) (first
    | (go_at_call 101; refine (other_zero _).mono ?_; rintro e w' ⟨rfl, rfl⟩)
    | (go_at_call 112; refine (HD.out _ J2.out.1 J2.out.2).mono ?_; rintro e w3 ⟨⟨n3, rfl⟩, h3⟩)
    | fail)
  go_wp2
  go_ret
  exact ⟨rfl, h3.out⟩
set_option maxHeartbeats 1000000 in
theorem jmove_ok1 (base b bm : Nat) (v0 v1 : Value) (x : J) (t : Int) (w : World) (h : JoinAt w base b bm v0 v1 x) (he : moveE x.m0 x.m1 1 t = 0) (hL : x.R0.length ≤ 100000)
    (p3 : -1048576 ≤ x.hi) (p4 : x.hi ≤ 1048576) :
    Calls Tryz.prog 51 #[.pointer (some ⟨b, 0, none⟩), .int .i64 1, .int .i64 t] w fun e w' => e = .returned .nilIface ∧ ∃ v', JoinAt w' base b bm v' v1 { x with m1 := t, R0 := keepR (fun y => decide (y.t ≤ t - x.hi)) x.R0 } ∧ Turned (fun j => j = b ∨ j = bm ∨ v0.ownBlock = some j) w w' ∧ v'.ownBlock = v0.ownBlock := by
  have hc := h.cells
  have ht : -1099511627776 ≤ t ∧ t ≤ 1099511627776 := by
    unfold moveE at he
    rw [if_neg (by decide)] at he
    split at he
    · cases he
    · omega
  have e1 : IntKind.i64.wrap (t - x.hi) = t - x.hi := wr64 (by omega) (by omega)
  have hmv : Calls Tryz.prog 111 #[.pointer (some ⟨bm, 0, none⟩), .int .i64 1, .int .i64 t] w fun e w' => e = .returned .nilIface ∧ JoinAt w' base b bm v0 v1 { x with m1 := t } ∧ Turned (fun j => j = bm) w w' := by
    refine (markMove_any bm x.m0 x.m1 1 t w h.mks).mono ?_
    rintro e w' ⟨rfl, h1, h2⟩
    refine ⟨by simp [errV, he], ?_, h2.os, h2.tape, h2.output, Nat.le_of_eq h2.size, fun k hk hn => h2.block k hn⟩
    have e3 : movL x.m0 x.m1 1 t = x.m0 := by simp [movL, he]
    have e4 : movR x.m0 x.m1 1 t = t := by simp [movR, he]
    rw [e3, e4] at h1
    exact h.marked h1 h2
  have HD : Hid (∀ W, JoinAt W base b bm v0 v1 { x with m1 := t } → Turned (fun j => j = bm) w W → Calls Tryz.prog 112 #[.pointer (some ⟨b, 4, none⟩), .int .i64 (t - x.hi)] W fun e w' => (∃ n, e = .returned (.int .i64 n)) ∧ Hid (∃ v', JoinAt w' base b bm v' v1 { x with m1 := t, R0 := keepR (fun y => decide (y.t ≤ t - x.hi)) x.R0 } ∧ Turned (fun j => j = b ∨ j = bm ∨ v0.ownBlock = some j) w w' ∧ v'.ownBlock = v0.ownBlock)) := by
    intro W hW hT
    refine (side_drop base b 4 v0 x.R0 (t - x.hi) W hW.side0 hL).mono ?_
    rintro e w' ⟨rfl, v', h1, h2, h3⟩
    refine ⟨⟨_, rfl⟩, v', hW.put0 h1 h2 (Or.inl h3), ?_, h3⟩
    exact (hT.mono (S' := fun j => j = b ∨ j = bm ∨ v0.ownBlock = some j) (fun k e => Or.inr (Or.inl e))).trans (Turned.of_keep (S := fun j => j = b ∨ j = bm ∨ v0.ownBlock = some j) h2 (Or.inl rfl) (fun k e => Or.inr (Or.inr e))) (fun _ _ e => e)
  clear h he ht
  go_enter Tryz.func51, Tryz.ntmps51
  go_wp2_with (first
    | (go_at_call 111; refine hmv.mono ?_; rintro e w1 ⟨rfl, h1, h2⟩; have hc1 := h1.cells; have J1 : Hid (JoinAt w1 base b bm v0 v1 { x with m1 := t } ∧ Turned (fun j => j = bm) w w1) := ⟨h1, h2⟩; clear h1 h2)
    | (go_at_call 101; refine (other_one _).mono ?_; rintro e w' ⟨rfl, hw⟩; have hw := hw.symm; subst hw)
    | (go_at_call 99; refine (reach_left b x.lo x.hi _ (by go_simp) (by go_simp)).mono ?_; rintro e w' ⟨rfl, rfl⟩)
    | fail)
  have J2 : Hid (JoinAt w1.drew.drew base b bm v0 v1 { x with m1 := t } ∧ Turned (fun j => j = bm) w w1.drew.drew) := ⟨J1.out.1.below ((Below.refl _ _).drew.drew), J1.out.2.trans (Turned.of_below (S := fun _ => False) ((Below.refl _ _).drew.drew)) (fun _ _ e => e.elim)⟩
  go_region_held3 (fun W => True) (first | trivial | fail) (first
    | (go_at_call 101; refine (other_one _).mono ?_; rintro e w' ⟨rfl, rfl⟩)
    | (go_at_call 112; refine (HD.out _ J2.out.1 J2.out.2).mono ?_; rintro e w3 ⟨⟨n3, rfl⟩, h3⟩)
    | fail)
  go_wp2
  go_ret
  exact ⟨rfl, h3.out⟩
theorem isSpan_any (n : Int) (w : World) : Calls Tryz.prog 183 #[.int .i64 n] w fun e w' => e = .returned (.bool (decide (-1048576 ≤ n ∧ n ≤ 1048576))) ∧ w' = w := by
  by_cases h : -1048576 ≤ n
  · go_enter Tryz.func183, Tryz.ntmps183
    go_wp2
    go_ret
    exact ⟨ret_bool (by simp [h]), rfl⟩
  · go_enter Tryz.func183, Tryz.ntmps183
    go_wp2
    go_ret
    exact ⟨ret_bool (by simp; omega), rfl⟩
theorem isMode_yes (n : Int) (w : World) (h : 0 ≤ n ∧ n ≤ 3) : Calls Tryz.prog 184 #[.int .i64 n] w fun e w' => e = .returned (.bool true) ∧ w' = w := by
  have : n = 0 ∨ n = 1 ∨ n = 2 ∨ n = 3 := by omega
  rcases this with rfl | rfl | rfl | rfl <;>
    (go_enter Tryz.func184, Tryz.ntmps184
     go_wp2
     go_ret
     exact ⟨rfl, rfl⟩)
def planOk (lo hi mode : Int) : Prop := (-1048576 ≤ lo ∧ lo ≤ 1048576) ∧ (-1048576 ≤ hi ∧ hi ≤ 1048576) ∧ lo ≤ hi ∧ (0 ≤ mode ∧ mode ≤ 3)
set_option maxHeartbeats 1000000 in
theorem check_ok (lo hi mode : Int) (w : World) (h : planOk lo hi mode) : Calls Tryz.prog 109 #[.agg #[.int .i64 lo, .int .i64 hi, .int .i64 mode]] w fun e w' => e = .returned .nilIface ∧ w' = w.alloc (.cells #[.int .i64 lo, .int .i64 hi, .int .i64 mode] 45) := by
  obtain ⟨h1, h2, h3, h4⟩ := h
  have d1 : decide (-1048576 ≤ lo ∧ lo ≤ 1048576) = true := by simp; omega
  have d2 : decide (-1048576 ≤ hi ∧ hi ≤ 1048576) = true := by simp; omega
  have h3' : ¬ hi < lo := by omega
  clear h1 h2 h3
  go_enter Tryz.func109, Tryz.ntmps109
  go_wp2_with (first
    | (go_at_call 183; refine (isSpan_any _ _).mono ?_; rintro e w' ⟨rfl, rfl⟩; first | rw [d1] | rw [d2])
    | (go_at_call 184; refine (isMode_yes _ _ h4).mono ?_; rintro e w' ⟨rfl, rfl⟩)
    | fail)
  go_ret
  exact ⟨rfl, rfl⟩
set_option maxHeartbeats 1000000 in
theorem jnew_ok (lo hi mode : Int) (w : World) (h : planOk lo hi mode) : Calls Tryz.prog 48 #[.agg #[.int .i64 lo, .int .i64 hi, .int .i64 mode]] w fun e w' => ∃ b bm, e = .returned (.tuple #[.pointer (some ⟨b, 0, none⟩), .nilIface]) ∧ w.heap.size ≤ b ∧ w.heap.size ≤ bm ∧ Below w.heap.size w w' ∧ JoinAt w' w.heap.size b bm (.slice none 0 0) (.slice none 0 0) ⟨lo, hi, mode, -1099511627777, -1099511627777, 0, [], []⟩ := by
  have hck := fun W => check_ok lo hi mode W h
  clear h
  go_enter Tryz.func48, Tryz.ntmps48
  go_wp2_with (first
    | (go_at_call 109; refine (hck _).mono ?_; rintro e w' ⟨rfl, rfl⟩)
    | fail)
  go_region_held3 (fun W => W.cell? ⟨w.heap.size, 0, none⟩ = some (.int .i64 lo) ∧ W.cell? ⟨w.heap.size, 1, none⟩ = some (.int .i64 hi) ∧ W.cell? ⟨w.heap.size, 2, none⟩ = some (.int .i64 mode)) (first | (go_keep; done) | (refine ⟨?_, ?_, ?_⟩ <;> go_simp; done) | fail) (first
    | (go_at_call 110; refine (markNew_any _).mono ?_; rintro e w' ⟨rfl, rfl⟩)
    | fail)
  go_wp2
  refine bodyPost_ret (v := .tuple #[.pointer (some ⟨w.heap.size + 1 + 1 + 1, 0, none⟩), .nilIface]) (by simp [results, Tryz.results48, go_sem]) rfl ⟨w.heap.size + 1 + 1 + 1, w.heap.size + 1 + 1, rfl, by omega, by omega, ?_, ?_⟩
  · exact (Below.alloc (Go.Joins.below_alloc3 w _ _ _) (by simp; omega) _).drew
  · refine ⟨?_, ?_, World.ownsRow_nil _ _ _ _, World.ownsRow_nil _ _ _ _, fun g e => by cases e⟩
    · have := heap_alloc_new (((w.alloc (.cells #[.int .i64 lo, .int .i64 hi, .int .i64 mode] 45)).alloc (.cells #[.int .i64 lo, .int .i64 hi, .int .i64 mode] 45)).alloc (.cells #[.int .i64 (-1099511627777), .int .i64 (-1099511627777)] 250)) (.cells #[.int .i64 lo, .int .i64 hi, .int .i64 mode, .pointer (some ⟨w.heap.size + 1 + 1, 0, none⟩), .slice none 0 0, .slice none 0 0, .int .i64 0] 186)
      simp only [World.size_alloc] at this
      exact this
    · have h1 := heap_alloc_new ((w.alloc (.cells #[.int .i64 lo, .int .i64 hi, .int .i64 mode] 45)).alloc (.cells #[.int .i64 lo, .int .i64 hi, .int .i64 mode] 45)) (.cells #[.int .i64 (-1099511627777), .int .i64 (-1099511627777)] 250)
      have h2 := Below.heap_alloc (((w.alloc (.cells #[.int .i64 lo, .int .i64 hi, .int .i64 mode] 45)).alloc (.cells #[.int .i64 lo, .int .i64 hi, .int .i64 mode] 45)).alloc (.cells #[.int .i64 (-1099511627777), .int .i64 (-1099511627777)] 250)) (.cells #[.int .i64 lo, .int .i64 hi, .int .i64 mode, .pointer (some ⟨w.heap.size + 1 + 1, 0, none⟩), .slice none 0 0, .slice none 0 0, .int .i64 0] 186) (w.heap.size + 1 + 1) (by simp)
      simp only [World.size_alloc] at h1
      exact h2.trans h1
end Go.Proofs.YthfpipieboophaaGreatDoor

/- row.Pair lays memory at most. -/
namespace Go.Proofs.YthfpipieboophaaGreatDoor
open Go.RowKit Go.Sort
set_option maxRecDepth 100000
theorem rpair_below (k1 t1 v1 k2 t2 v2 : Int) (w : World) :
    Calls Tryz.prog 168 #[.agg #[.int .i64 k1, .int .i64 t1, .int .i64 v1], .agg #[.int .i64 k2, .int .i64 t2, .int .i64 v2]] w fun e w' => e = .returned (.agg #[.int .i64 k1, .int .i64 k1, .int .i64 t1, .int .i64 v1, .int .i64 k2, .int .i64 t2, .int .i64 v2, .bool true, .bool true]) ∧ Below w.heap.size w w' := by
  refine (rpair_any k1 t1 v1 k2 t2 v2 w).mono ?_
  rintro e w' ⟨rfl, rfl⟩
  exact ⟨rfl, (Go.Joins.below_alloc2 _ _ _).trans ((Go.Joins.below_alloc1 _ _).mono (by simp; omega))⟩
end Go.Proofs.YthfpipieboophaaGreatDoor
