/- sort.SliceStable over ref's Outs, by ref's order. -/
import Derived.Test.YtfldfnphidehlaaDoorStb
import Derived.Test.YtfldfnphidehlaaDoorRefo
import Derived.Test.YtfldfnphidehlaaDoorBagq
import Derived.Shelf.GgSortFunc.SmallK
import Derived.Lib.ReflectliteSlice
namespace Go.Proofs.YtfldfnphidehlaaDoor
open Go.Shelf Go.RowKit Go.Lib Go.Sort
set_option maxRecDepth 100000

/-- The row of n Outs at block blk, and the box in which the closure finds it. -/
structure SHd (blk off n cap lbx : Nat) (d : Array O) (W : World) : Prop where
  size : d.size = n
  row : HoldsK encO 9 W blk off d
  box : W.cell? ⟨lbx, 0, none⟩ = some (.slice (some ⟨blk, off, none⟩) n cap)
  lt : blk < W.heap.size
  blt : lbx < W.heap.size
  ne : lbx ≠ blk
  shape : ∃ cur, W.heap[blk]? = some (.cells cur 37 (0, 0)) ∧ cur.size = cap * 9

theorem SHd.kept {blk off n cap lbx : Nat} {d : Array O} {W W' : World} (h : SHd blk off n cap lbx d W) (hb : Go.RowKit.Below W.heap.size W W') : SHd blk off n cap lbx d W' :=
  ⟨h.size, fun j hj => ⟨(hb.cell (p := ⟨blk, off + j, none⟩) h.lt).trans (h.row j hj).1, (hb.frozen (p := ⟨blk, off + j, none⟩) h.lt).trans (h.row j hj).2⟩, (hb.cell (p := ⟨lbx, 0, none⟩) h.blt).trans h.box,
    Nat.lt_of_lt_of_le h.lt hb.size, Nat.lt_of_lt_of_le h.blt hb.size, h.ne, h.shape.imp fun _ ⟨h1, h2⟩ => ⟨(hb.block _ h.lt).trans h1, h2⟩⟩

/-- The nine cells of an Out. -/
structure Cells9 (W : World) (blk o : Nat) (x : O) : Prop where
  c0 : W.cell? ⟨blk, o, none⟩ = some (.int .i64 x.k)
  c1 : W.cell? ⟨blk, o + 1, none⟩ = some (.int .i64 x.lk)
  c2 : W.cell? ⟨blk, o + 2, none⟩ = some (.int .i64 x.lt)
  c3 : W.cell? ⟨blk, o + 3, none⟩ = some (.int .i64 x.lv)
  c4 : W.cell? ⟨blk, o + 4, none⟩ = some (.int .i64 x.rk)
  c5 : W.cell? ⟨blk, o + 5, none⟩ = some (.int .i64 x.rt)
  c6 : W.cell? ⟨blk, o + 6, none⟩ = some (.int .i64 x.rv)
  c7 : W.cell? ⟨blk, o + 7, none⟩ = some (.bool x.hl)
  c8 : W.cell? ⟨blk, o + 8, none⟩ = some (.bool x.hr)

theorem SHd.cells {blk off n cap lbx : Nat} {d : Array O} {W : World} (h : SHd blk off n cap lbx d W) (i : Nat) (hi : i < n) : Cells9 W blk (off + i * 9) d[i]! := by
  have c := fun (u : Nat) (hu : u < 9) => (HoldsK.cell h.row (i := i) (c := u) (by rw [h.size]; exact hi) hu).1
  exact ⟨c 0 (by omega), c 1 (by omega), c 2 (by omega), c 3 (by omega), c 4 (by omega), c 5 (by omega), c 6 (by omega), c 7 (by omega), c 8 (by omega)⟩

theorem Cells9.below {W W' : World} {blk o : Nat} {x : O} (h : Cells9 W blk o x) (hb : Go.RowKit.Below W.heap.size W W') (hl : blk < W.heap.size) : Cells9 W' blk o x :=
  ⟨(hb.cell (p := ⟨blk, o, none⟩) hl).trans h.c0, (hb.cell (p := ⟨blk, o + 1, none⟩) hl).trans h.c1, (hb.cell (p := ⟨blk, o + 2, none⟩) hl).trans h.c2, (hb.cell (p := ⟨blk, o + 3, none⟩) hl).trans h.c3, (hb.cell (p := ⟨blk, o + 4, none⟩) hl).trans h.c4, (hb.cell (p := ⟨blk, o + 5, none⟩) hl).trans h.c5, (hb.cell (p := ⟨blk, o + 6, none⟩) hl).trans h.c6, (hb.cell (p := ⟨blk, o + 7, none⟩) hl).trans h.c7, (hb.cell (p := ⟨blk, o + 8, none⟩) hl).trans h.c8⟩

theorem Cells9.all {W : World} {blk o : Nat} {x : O} (h : Cells9 W blk o x) : W.cell? ⟨blk, o, none⟩ = some (.int .i64 x.k) ∧ W.cell? ⟨blk, o + 1, none⟩ = some (.int .i64 x.lk) ∧ W.cell? ⟨blk, o + 2, none⟩ = some (.int .i64 x.lt) ∧ W.cell? ⟨blk, o + 3, none⟩ = some (.int .i64 x.lv) ∧ W.cell? ⟨blk, o + 4, none⟩ = some (.int .i64 x.rk) ∧ W.cell? ⟨blk, o + 5, none⟩ = some (.int .i64 x.rt) ∧ W.cell? ⟨blk, o + 6, none⟩ = some (.int .i64 x.rv) ∧ W.cell? ⟨blk, o + 7, none⟩ = some (.bool x.hl) ∧ W.cell? ⟨blk, o + 8, none⟩ = some (.bool x.hr) :=
  ⟨h.c0, h.c1, h.c2, h.c3, h.c4, h.c5, h.c6, h.c7, h.c8⟩

set_option maxHeartbeats 2000000 in
theorem less_any {blk off n cap lbx : Nat} {d : Array O} {W : World} (h : SHd blk off n cap lbx d W) (i j : Nat) (hi : i < n) (hj : j < n) :
    Calls Tryd.prog 26 #[.int .i64 i, .int .i64 j, .pointer (some ⟨lbx, 0, none⟩)] W fun e w' => e = .returned (.bool (decide (cO d[i]! d[j]! < 0))) ∧ Go.RowKit.Below W.heap.size W w' := by
  have h1 : (0 : Int) ≤ (i : Int) := by omega
  have h2 : (i : Int) < (n : Int) := by omega
  have h3 : (0 : Int) ≤ (j : Int) := by omega
  have h4 : (j : Int) < (n : Int) := by omega
  have hk := fun p os => ((h.kept (below_regrown W p os)).box)
  have hx := fun p os => ((h.kept (below_regrown W p os)).cells i hi).all
  have hy := fun p os => ((h.kept (below_regrown W p os)).cells j hj).all
  clear h hi hj
  generalize d[i]! = x at hx ⊢
  generalize d[j]! = y at hy ⊢
  go_enter Tryd.func26, Tryd.ntmps26
  go_wp2
  refine wp_region_quiet_below (by kernel_rfl) (by kernel_rfl) ?_
  repeat (quiet_step (first | (go_at_call 27; exact Calls.regrown_of (refOuts_any x y _)) | fail))
  refine wpQuiet_nil ?_
  intro _ hw'
  obtain ⟨⟨dq, osq⟩, hw''⟩ := hw'
  subst hw''
  go_wp2
  go_ret
  exact ⟨rfl, below_regrown _ _ _⟩

theorem infoS : ∃ i, Tryd.prog.info? 27 = some i ∧ i.desc = .slice 37 := by
  have h : (Tryd.prog.info? 27).map (fun i => i.desc) = some (.slice 37) := by kernel_rfl
  obtain ⟨i, h1, h2⟩ := Option.map_eq_some_iff.1 h
  exact ⟨i, h1, h2⟩
theorem infoE : ∃ i, Tryd.prog.info? 37 = some i ∧ i.size = 9 ∧ i.hasPointers = false ∧ i.bytes = 64 := by
  have h : (Tryd.prog.info? 37).map (fun i => (i.size, i.hasPointers, i.bytes)) = some (9, false, 64) := by kernel_rfl
  obtain ⟨i, h1, h2⟩ := Option.map_eq_some_iff.1 h
  injection h2 with a b
  injection b with b c
  exact ⟨i, h1, a, b, c⟩
theorem kindE (w : World) : (Extern.Rtype.kind 37).run Tryd.prog w = .ok 25 w := by kernel_rfl

theorem swap58 (args : Array Value) (W : World) : (callFunc 58 args).run Tryd.prog W = ((Extern.ReflectliteSwapper.swap false args).run Tryd.prog W).andThen fun v w' => .ok (.value v) w' :=
  run_callFunc_extern Tryd.func58 (by kernel_rfl) (by kernel_rfl) (by kernel_rfl) (e := Extern.ReflectliteSwapper.swap false) (by kernel_rfl) args W

theorem swap_any {blk off n cap lbx : Nat} {d : Array O} {W : World} (h : SHd blk off n cap lbx d W) (i j : Nat) (hi : i < n) (hj : j < n) :
    ∃ W', (callFunc 58 (#[.int .i64 i, .int .i64 j] ++ #[.slice (some ⟨blk, off, none⟩) n cap, typeHandle Tryd.prog 37])).run Tryd.prog W = .ok (.value (.tuple #[])) W' ∧ SHd blk off n cap lbx (swp d i j) W' ∧ W.grownBy W' (some blk) := by
  obtain ⟨ie, hie, hs, _, _⟩ := infoE
  have hS := swapSwapsK_of_literal (P := Tryd.prog) false 58 swap58 37 ie hie encO 9 (fun _ => rfl) hs isAgg27 enc_one blk off n cap W d h.row h.size i j hi hj
  have e0 : putRowK encO 9 W blk off d = W := putRowK_self encO 9 W blk off d h.row
  have e1 := swap_worldK encO 9 (fun _ => rfl) W 0 0 blk off d i j (by rw [h.size]; exact hi) (by rw [h.size]; exact hj)
  rw [show (putRowK encO 9 (Sort.ahead W 0) blk off d).drewN 0 = W from e0] at e1
  rw [e1] at hS
  refine ⟨_, hS, ⟨by rw [swp_size]; exact h.size, holdsK_putRowK encO 9 W blk off d (swp d i j) h.row (swp_size _ _ _), ?_, ?_, ?_, h.ne, ?_⟩, ?_⟩
  · rw [cell?_putRowK_other encO 9 _ blk off _ _ h.ne]; exact h.box
  · show blk < (putRowK encO 9 W blk off (swp d i j)).heap.size
    simp [putRowK, putRow, mapBlock]; exact h.lt
  · show lbx < (putRowK encO 9 W blk off (swp d i j)).heap.size
    simp [putRowK, putRow, mapBlock]; exact h.blt
  · obtain ⟨cur, h1, h2⟩ := h.shape
    refine ⟨putCells id off (flatK encO 9 (swp d i j)) cur, ?_, by simp [putCells, h2]⟩
    show (putRowK encO 9 W blk off (swp d i j)).heap[blk]? = _
    simp [putRowK, putRow, mapBlock, Array.getElem?_modify, h1, onCells]
  · show W.grownBy (putRowK encO 9 W blk off (swp d i j)) (some blk)
    refine ⟨rfl, rfl, rfl, by simp [putRowK, putRow, mapBlock], fun k hk hne => ?_⟩
    have : blk ≠ k := fun e => hne (by rw [e])
    simp [putRowK, putRow, mapBlock, Array.getElem?_modify, this]

/-- Swapper's literal by the length. -/
def litF (n : Nat) : Nat := if n = 0 then 50 else if n = 1 then 51 else 58
/-- .. and what it is bound to. -/
structure LitB (blk off n cap : Nat) (sb : Array Value) : Prop where
  few : n ≤ 1 → sb = #[]
  more : 1 < n → sb = #[.slice (some ⟨blk, off, none⟩) n cap, typeHandle Tryd.prog 37]

theorem swap51 (W : World) : (callFunc 51 #[.int .i64 0, .int .i64 0]).run Tryd.prog W = .ok (.value (.tuple #[])) W := by
  rw [run_callFunc_extern Tryd.func51 (by kernel_rfl) (by kernel_rfl) (by kernel_rfl) (e := fun | #[.int .i64 0, .int .i64 0] => pure (.tuple #[]) | _ => Extern.ReflectliteSwapper.outOfRange) (by kernel_rfl)]
  rfl

theorem swp_self1 (d : Array O) (h : d.size = 1) : swp d 0 0 = d := by
  apply Array.ext
  · rw [swp_size]
  · intro k h1 h2
    have e := swp_get d (i := 0) (j := 0) (by omega) (by omega) k
    have hk : k = 0 := by omega
    subst hk
    rw [if_pos rfl] at e
    rw [getElem!_pos _ 0 h1, getElem!_pos _ 0 h2] at e
    exact e

theorem sorter {blk off n cap lbx : Nat} {sb : Array Value} (hb : LitB blk off n cap sb) : Sorter blk n 26 #[.pointer (some ⟨lbx, 0, none⟩)] (litF n) sb (SHd blk off n cap lbx) where
  size _ _ h := h.size
  lt _ _ h := h.lt
  kept _ _ _ h hb := h.kept hb
  enters := enters_of Tryd.func26 (by kernel_rfl) rfl
  less _ _ i j h hi hj := less_any h i j hi hj
  swap d W i j h hi hj := by
    by_cases h0 : n = 0
    · omega
    · by_cases h1 : n = 1
      · obtain rfl : i = 0 := by omega
        obtain rfl : j = 0 := by omega
        refine ⟨W, ?_, ?_, ⟨rfl, rfl, rfl, Nat.le_refl _, fun _ _ _ => rfl⟩⟩
        · rw [show litF n = 51 by simp [litF, h1], hb.few (by omega)]
          exact swap51 W
        · rw [swp_self1 d (by rw [h.size]; exact h1)]; exact h
      · rw [show litF n = 58 by simp [litF, h0, h1], hb.more (by omega)]
        exact swap_any h i j hi hj

theorem swoC : SWO ltC := swoO

set_option maxHeartbeats 1000000 in
theorem stable_says {blk n cap lbx : Nat} {d : Array O} (w : World) (h : SHd blk 0 n cap lbx d w) (hn : n ≤ 1000000) :
    Calls Tryd.prog 25 #[.iface 27 (.slice (some ⟨blk, 0, none⟩) n cap), .func (.func 26) #[] #[.pointer (some ⟨lbx, 0, none⟩)]] w fun e w' => e = .returned (.tuple #[]) ∧ ∃ d', SHd blk 0 n cap lbx d' w' ∧ PermIn 0 n d d' ∧ SortedIn ltC 0 n d' ∧ w.grownBy w' (some blk) := by
  obtain ⟨i, hi, hd⟩ := infoS
  obtain ⟨ie, hie, hsz, hpt, hby⟩ := infoE
  have hK : swapperK n ie 25 = if n = 0 then 1 else if n = 1 then 2 else 9 := by
    unfold swapperK
    by_cases h0 : n = 0
    · simp [h0]
    · by_cases h1 : n = 1
      · simp [h1]
      · simp [h0, h1, hpt, hby]
  have hf : Tryd.prog.funcs.findIdx? (·.name == "internal/reflectlite" ++ ".Swapper$" ++ toString (swapperK n ie 25)) = some (litF n) := by
    rw [hK]
    by_cases h0 : n = 0
    · simp only [h0, if_true, litF]; kernel_rfl
    · by_cases h1 : n = 1
      · rw [if_neg h0, if_pos h1]; simp only [litF, h1]; kernel_rfl
      · rw [if_neg h0, if_neg h1]; simp only [litF, h0, h1, if_false]; kernel_rfl
  obtain ⟨sb, hsb⟩ : ∃ sb, sb = (if swapperK n ie 25 ≤ 2 then (#[] : Array Value) else #[.slice (some ⟨blk, 0, none⟩) n cap, typeHandle Tryd.prog 37]) := ⟨_, rfl⟩
  have hB : LitB blk 0 n cap sb := by
    rw [hK] at hsb
    refine ⟨fun hn1 => ?_, fun hn1 => ?_⟩
    · rw [hsb, if_pos]
      by_cases h0 : n = 0
      · simp [h0]
      · simp [show n = 1 by omega]
    · rw [hsb, if_neg]
      simp [show ¬ n = 0 by omega, show ¬ n = 1 by omega]
  have hv := run_valueOf_slice (P := Tryd.prog) 27 37 i hi hd (some ⟨blk, 0, none⟩) n cap w
  have hs := fun w => run_swapper_slice (P := Tryd.prog) 27 37 i ie hi hd hie 25 kindE (some ⟨blk, 0, none⟩) n cap (litF n) hf w
  have hl := fun a w ha => run_valueLen_slice (P := Tryd.prog) 27 37 i hi hd (by kernel_rfl) a (some ⟨blk, 0, none⟩) n cap w ha
  have hgs : Tryd.prog.globals.size = 1 := by kernel_rfl
  rw [← hsb] at hs
  simp only [typeHandle, hgs] at hv hl
  have HH : Hid (SHd blk 0 n cap lbx d w) := h
  have HB : Hid (LitB blk 0 n cap sb) := hB
  clear h hf hK hsb hB hgs
  have hlt := HH.out.lt
  go_enter Tryd.func25, Tryd.ntmps25
  go_wp2
  rw [run_callFunc_extern Tryd.func37 (by kernel_rfl) (by kernel_rfl) (by kernel_rfl) (e := fun args => Extern.ReflectliteValue.unpack (args.getD 0 (.tuple #[]))) (by kernel_rfl),
    show Sem.run Tryd.prog ((fun args : Array Value => Extern.ReflectliteValue.unpack (args.getD 0 (.tuple #[]))) #[.iface 27 (.slice (some ⟨blk, 0, none⟩) n cap)]) w = _ from hv]
  simp only [Result.andThen]
  rw [Oper.upon_value]
  go_wp2
  rw [run_callFunc_extern Tryd.func38 (by kernel_rfl) (by kernel_rfl) (by kernel_rfl) (e := Extern.ReflectliteSwapper.swapper "internal/reflectlite" (Extern.ReflectliteValue.valueError "Swapper")) (by kernel_rfl), hs]
  simp only [Result.andThen]
  rw [Oper.upon_value]
  go_wp2
  rw [run_callFunc_extern Tryd.func40 (by kernel_rfl) (by kernel_rfl) (by kernel_rfl) (e := Extern.ReflectliteValue.method (Extern.ReflectliteValue.valueError "reflectlite.Value.Len" 0) Extern.ReflectliteValue.len) (by kernel_rfl),
    hl _ _ (by simp)]
  simp only [Result.andThen]
  rw [Oper.upon_value]
  have hst := fun W hW => stable_any (sorter (lbx := lbx) HB.out) swoC d W hW hn
  go_wp2_with fail
  refine (hst _ ?_).mono ?_
  · exact HH.out.kept (Go.Joins.below_alloc2 _ _ _)
  · rintro e w' ⟨rfl, d', h1, h2, h3, h4⟩
    go_wp2
    go_end0
    exact ⟨rfl, d', h1, h2, h3, World.grownBy.trans ((World.grownBy_alloc _ _ _).trans (World.grownBy_alloc _ _ _)) h4⟩

end Go.Proofs.YtfldfnphidehlaaDoor
