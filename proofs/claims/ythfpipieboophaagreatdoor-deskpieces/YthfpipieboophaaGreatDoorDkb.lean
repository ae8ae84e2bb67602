/- What a desk tells: numbers, rows, Outs, changes, groups, errors. -/
import Derived.Test.YthfpipieboophaaGreatDoorShl
import Derived.Test.YthfpipieboophaaGreatDoorEvy
import Derived.Test.YthfpipieboophaaGreatDoorBagz
import Derived.Deep.AppendLies
import Derived.Lib.ItoaLen
namespace Go.Proofs.YthfpipieboophaaGreatDoor
open Go.RowKit Go.Sort Go.Shelf
set_option maxRecDepth 100000
abbrev TabW (w : World) : Prop := Lib.TabIs Tryz.prog w "internal/strconv.uint64pow10" .u64 Lib.pow10Tab
abbrev sV (b : List UInt8) : Value := .string ⟨b.toArray⟩
theorem infoS : (Tryz.prog.info? 9).map (fun i => (i.zero, i.size, i.bytes)) = some (some (.string ⟨#[]⟩), 1, 16) := by kernel_rfl
theorem one_str {b : ByteArray} : ∀ u ∈ [(.string b : Value)], u.oneCell' = true := by
  intro u hu
  simp at hu
  subst hu
  rfl
theorem dk_grow (w : World) (k : Nat) (os : Array Obj) : Below w.heap.size w (grow (w.drewN k) os) :=
  ⟨rfl, rfl, rfl, by simp [grow, World.drewN], fun j hj => by show (w.heap ++ os)[j]? = w.heap[j]?; rw [Array.getElem?_append_left hj]⟩
theorem dk_itoa (n : Int) (h0 : -9223372036854775808 ≤ n) (h1 : n ≤ 9223372036854775807) (w : World) (ht : TabW w) : Calls Tryz.prog 113 #[.int .i64 n] w fun e w' => e = .returned (.string ⟨(Lib.itoa n).toArray⟩) ∧ Below w.heap.size w w' := by
  refine (Tryz.strconv_Itoa n h0 h1 w ht).mono ?_
  rintro e w' ⟨rfl, k, os, rfl⟩
  exact ⟨rfl, dk_grow w k os⟩
def spacedB (ns : List Int) : List UInt8 := Lib.join (ns.map Lib.itoa) [32]
theorem tail_len (ns : List Int) (h : ∀ n ∈ ns, -9223372036854775808 ≤ n ∧ n ≤ 9223372036854775807) : (Lib.joinTail [32] (ns.map Lib.itoa)).length ≤ ns.length * 22 := by
  unfold Lib.joinTail
  induction ns with
  | nil => simp
  | cons a r ih =>
    have h1 := Lib.itoa_length_le a (h a (by simp)).1 (h a (by simp)).2
    have h2 := ih (fun n hn => h n (by simp [hn]))
    simp only [List.map_cons, List.flatten_cons, List.length_append, List.length_cons, List.length_nil] at h2 ⊢
    omega
theorem spacedB_len (ns : List Int) (h : ∀ n ∈ ns, -9223372036854775808 ≤ n ∧ n ≤ 9223372036854775807) : (spacedB ns).length ≤ ns.length * 22 := by
  unfold spacedB
  cases ns with
  | nil => simp [Lib.join_nil]
  | cons a r =>
    have h1 := Lib.itoa_length_le a (h a (by simp)).1 (h a (by simp)).2
    have h2 := tail_len r (fun n hn => h n (by simp [hn]))
    rw [List.map_cons, Lib.join_cons, List.length_append, List.length_cons]
    omega
structure Tw (w1 : World) (X : List (List UInt8)) (v9 : Value) (wr : World) : Prop where
  low : Below w1.heap.size w1 wr
  row : wr.ownsRow w1.heap.size 9 1 v9 X.length (X.map sV)
theorem Tw.start (w1 : World) : Tw w1 [] (.slice none 0 0) w1 := ⟨Below.refl _ _, World.ownsRow_nil _ _ _ _⟩
theorem Tw.go {w1 wr W : World} {X : List (List UInt8)} {v9 : Value} (h : Tw w1 X v9 wr) (hb : Below wr.heap.size wr W) : Tw w1 X v9 W :=
  ⟨h.low.trans (hb.mono h.low.size), kept_below h.row hb⟩
theorem Tw.step {w1 W w3 : World} {X : List (List UInt8)} {v9 : Value} {b : List UInt8} {g cap : Nat} (h : Tw w1 X v9 W) (hown : w3.ownsRow w1.heap.size 9 1 (.slice (some ⟨g, 0, none⟩) (X.length + 1) cap) (X.length + 1) (X.map sV ++ [sV b])) (hg : W.grownBy w3 v9.ownBlock) :
    Tw w1 (X ++ [b]) (.slice (some ⟨g, 0, none⟩) (X.length + 1) cap) w3 :=
  ⟨h.low.grown hg h.low.size (fun k e => (h.row.lt k e).1), by rw [List.length_append, List.map_append]; simpa using hown⟩
theorem join_own {base : Nat} (X : List (List UInt8)) (v : Value) (sep : ByteArray) (wr : World) (h : wr.ownsRow base 9 1 v X.length (X.map sV)) (hN : X.length ≤ 140737488355328) (hlen : (Lib.join X sep.data.toList).length ≤ 140737488355328) :
    Calls Tryz.prog 114 #[v, .string sep] wr fun e w' => e = .returned (.string ⟨(Lib.join X sep.data.toList).toArray⟩) ∧ Below wr.heap.size wr w' := by
  have hX : (X.map fun b => (⟨b.toArray⟩ : ByteArray)).map (·.data.toList) = X := by
    rw [List.map_map]
    conv => rhs; rw [← List.map_id X]
    rfl
  have h0 := h.2
  rcases h0 with ⟨rfl, e0⟩ | ⟨g, cap, cur, rfl, h1, h2, h3, h4, h5, h6⟩
  · have e1 := List.length_eq_zero_iff.1 e0
    subst e1
    refine (Tryz.strings_Join_none none 0 sep wr).mono ?_
    rintro e w' ⟨rfl, rfl⟩
    exact ⟨rfl, Below.refl _ _⟩
  · have H := Tryz.strings_Join g 0 cap (X.map fun b => (⟨b.toArray⟩ : ByteArray)) sep wr (fun j x hx => ?_) (Array.getElem?_eq_some_iff.1 h2).1 (by rw [List.length_map]; exact hN) (by rw [List.length_map]; exact h3) (by rw [hX]; exact hlen)
    · rw [List.length_map, hX] at H
      exact H
    · have := h.cells (g := g) rfl j (.string x) (by rw [List.getElem?_map] at hx ⊢; cases hq : X[j]? with | none => rw [hq] at hx; simp at hx | some y => rw [hq] at hx; simp at hx; subst hx; rfl)
      rw [add_at] at this
      rw [Nat.zero_add]
      exact this
set_option maxHeartbeats 2000000 in
theorem spaced_any (ns : List Int) (g off c : Nat) (w : World) (ht : TabW w) (hr : ∀ n ∈ ns, -9223372036854775808 ≤ n ∧ n ≤ 9223372036854775807) (hg : g < w.heap.size) (hc : ∀ k n, ns[k]? = some n → w.cell? ⟨g, off + k, none⟩ = some (.int .i64 n)) (hl : ns.length ≤ 1000) :
    Calls Tryz.prog 277 #[.slice (some ⟨g, off, none⟩) ns.length c] w fun e w' => e = .returned (.string ⟨(spacedB ns).toArray⟩) ∧ Below w.heap.size w w' := by
  obtain ⟨i0, hi, hz0, hz1, hz2⟩ := info_parts infoS
  have HI : Hid (∀ n ∈ ns, ∀ W, Below w.heap.size w W → Calls Tryz.prog 113 #[.int .i64 n] W fun e w' => e = .returned (.string ⟨(Lib.itoa n).toArray⟩) ∧ Below W.heap.size W w') := fun n hn W hW => dk_itoa n (hr n hn).1 (hr n hn).2 W (tab_below ht hW)
  have HJ : Hid (∀ v wr, Tw w (ns.map Lib.itoa) v wr → Calls Tryz.prog 114 #[v, .string ⟨#[32]⟩] wr fun e w' => e = .returned (.string ⟨(spacedB ns).toArray⟩) ∧ Below wr.heap.size wr w') := fun v wr h => by
    have hn := join_own (ns.map Lib.itoa) v ⟨#[32]⟩ wr h.row (by rw [List.length_map]; omega) (Nat.le_trans (spacedB_len ns hr) (by omega))
    exact hn
  have HC : Hid (∀ k n, ns[k]? = some n → w.cell? ⟨g, off + k, none⟩ = some (.int .i64 n)) := hc
  have i1 : (ns.length : Int) ≤ 1000 := by omega
  clear hc hr ht
  go_enter Tryz.func277, Tryz.ntmps277
  go_wp2
  have C0 : Hid (Tw w [] (.slice none 0 0) w) := Tw.start w
  go_loopg [3, 8] ns.length (fun gg v3 v8 wr => ∃ (i : Nat), i ≤ ns.length ∧ gg = ns.length - i ∧ v8 = .int .i64 i ∧ Hid (Tw w ((ns.take i).map Lib.itoa) v3 wr))
  case atStart => exact ⟨0, Nat.zero_le _, rfl, rfl, C0⟩
  case round =>
    obtain ⟨i, hi2, hgk, rfl, I⟩ := hrel
    have HG : Hid (gk = ns.length - i) := hgk
    clear hgk C0
    by_cases hlt : i < ns.length
    · obtain ⟨n, hn⟩ : ∃ n, ns[i]? = some n := ⟨_, List.getElem?_eq_getElem hlt⟩
      have hcx : wr.cell? ⟨g, off + i, none⟩ = some (.int .i64 n) := (I.out.low.cell (p := ⟨g, off + i, none⟩) hg).trans (HC.out i n hn)
      have htk : Hid ((ns.take (i + 1)).map Lib.itoa = (ns.take i).map Lib.itoa ++ [Lib.itoa n]) := by
        show (ns.take (i + 1)).map Lib.itoa = (ns.take i).map Lib.itoa ++ [Lib.itoa n]
        rw [List.take_add_one, hn]; simp
      have hXl : ((ns.take i).map Lib.itoa).length ≤ 1000 := by rw [List.length_map, List.length_take]; omega
      have HN := HI.out n (List.mem_of_getElem? hn) wr I.out.low
      have HN : Hid (Calls Tryz.prog 113 #[.int .i64 n] wr fun e w' => e = .returned (.string ⟨(Lib.itoa n).toArray⟩) ∧ Below wr.heap.size wr w') := HN
      generalize (ns.take i).map Lib.itoa = X at *
      have j1 : (0 : Int) ≤ (i : Int) := by omega
      have j2 : (i : Int) < (ns.length : Int) := by omega
      have hgw : g < wr.heap.size := Nat.lt_of_lt_of_le hg I.out.low.size
      clear hn
      go_wp2_with (first
        | (go_at_call 113; refine HN.out.mono ?_; rintro e w4 ⟨rfl, hb4⟩; have C4 : Hid (Tw w X u3 (w4.alloc (.cells #[.string ⟨(Lib.itoa n).toArray⟩] 9))) := I.out.go (hb4.trans ((Go.Joins.below_alloc1 w4 _).mono hb4.size)); have hl4 : w.heap.size ≤ w4.heap.size := Nat.le_trans I.out.low.size hb4.size; have N4 : Hid (∀ j u, ([(.string ⟨(Lib.itoa n).toArray⟩ : Value)])[j]? = some u → (w4.alloc (.cells #[.string ⟨(Lib.itoa n).toArray⟩] 9)).cell? ((⟨w4.heap.size, 0, none⟩ : Addr).add j) = some u) := World.news_of_block (heap_alloc_new w4 (.cells #[.string ⟨(Lib.itoa n).toArray⟩] 9)); clear hb4)
        | (at_builtin; refine wpList_append_lies _ rfl _ _ _ rfl w.heap.size 9 i0 (.string ⟨#[]⟩) 1 16 Tryz.underlying81 hi hz0 hz1 hz2 rfl (by omega) u3 X.length (X.map sV) rfl C4.out.row ⟨w4.heap.size, 0, none⟩ 1 1 [.string ⟨(Lib.itoa n).toArray⟩] rfl rfl N4.out one_str (by omega) (by unfold maxLen; omega) (by omega) (by simp; omega) _ rfl ?_; intro g5 cap5 w5 hown5 hgrow5 hat5 hlt5; have C5 : Hid (Tw w (X ++ [Lib.itoa n]) (.slice (some ⟨g5, 0, none⟩) (X.length + 1) cap5) w5) := C4.out.step hown5 hgrow5; clear hown5 hgrow5 hat5 hlt5)
        | fail)
      go_roundg (ns.length - (i + 1))
      case measure => have := HG.out; omega
      case rel => exact ⟨i + 1, by omega, rfl, by first | rfl | (congr 1; omega) | go_num, by rw [htk.out]; exact C5.out⟩
    · have j2 : ¬ ((i : Int) < (ns.length : Int)) := by omega
      have e1 : ns.take i = ns := List.take_of_length_le (by omega)
      have hI := I.out
      rw [e1] at hI
      have HJ2 : Hid (Calls Tryz.prog 114 #[u3, .string ⟨#[32]⟩] wr fun e w' => e = .returned (.string ⟨(spacedB ns).toArray⟩) ∧ Below wr.heap.size wr w') := HJ.out u3 wr hI
      have HL : Hid (Below w.heap.size w wr) := hI.low
      clear hI e1 I HJ HI HC
      go_wp2_with (first
        | (go_at_call 114; refine HJ2.out.mono ?_; rintro e w4 ⟨rfl, hb4⟩; have HB4 : Hid (Below w.heap.size w w4) := HL.out.trans (hb4.mono HL.out.size); clear hb4)
        | fail)
      go_ret
      exact ⟨rfl, HB4.out⟩
end Go.Proofs.YthfpipieboophaaGreatDoor
