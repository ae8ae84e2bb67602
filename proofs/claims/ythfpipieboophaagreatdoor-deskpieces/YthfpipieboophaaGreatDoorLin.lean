/- A line that is written. -/
import Derived.Test.YthfpipieboophaaGreatDoorBld
import Derived.Test.YthfpipieboophaaGreatDoorEne
import Derived.Lib.ItoaLen
namespace Go.Proofs.YthfpipieboophaaGreatDoor
open Go.RowKit Go.Sort Go.Shelf
set_option maxRecDepth 100000
theorem var_below {P : Program} {n : String} {g : Nat} {cs : Array Value} {w w' : World} (hg : P.globalNamed n = some g) (h : w.var? P n = some cs) (hb : Below w.heap.size w w') : w'.var? P n = some cs := by
  unfold World.var? at h ⊢
  rw [hg] at h ⊢
  simp only [Option.bind_some] at h ⊢
  have hlt : g < w.heap.size := by
    rcases Nat.lt_or_ge g w.heap.size with h' | h'
    · exact h'
    · rw [Array.getElem?_eq_none h'] at h; cases h
  rw [hb.block g hlt]
  exact h
theorem below_grow (w : World) (k : Nat) (os : Array Obj) : Below w.heap.size w (grow (w.drewN k) os) :=
  ⟨rfl, rfl, rfl, by simp [grow, World.drewN], fun j hj => by show (w.heap ++ os)[j]? = w.heap[j]?; rw [Array.getElem?_append_left hj]⟩
theorem kept_low {e : TypeId} {b : Option Nat} {w w' : World} (h : Below w.heap.size w w') : Lib.OthersKept e b w w' := fun k _ hk _ _ => (h.block k (Array.getElem?_eq_some_iff.1 hk).1).trans hk
def numsB (ns : List Int) : List UInt8 := ns.flatMap fun n => 32 :: Lib.itoa n
def lineB (head : List UInt8) (ns : List Int) : List UInt8 := head ++ (numsB ns ++ [10])
theorem numsB_take (ns : List Int) (i : Nat) (n : Int) (h : ns[i]? = some n) : numsB (ns.take (i + 1)) = numsB (ns.take i) ++ (32 :: Lib.itoa n) := by
  unfold numsB
  rw [List.take_add_one, h]
  simp
theorem numsB_len (ns : List Int) (h : ∀ n ∈ ns, -9223372036854775808 ≤ n ∧ n ≤ 9223372036854775807) : (numsB ns).length ≤ ns.length * 22 := by
  unfold numsB
  induction ns with
  | nil => simp
  | cons a r ih =>
    have h1 := Lib.itoa_length_le a (h a (by simp)).1 (h a (by simp)).2
    have h2 := ih (fun n hn => h n (by simp [hn]))
    simp only [List.flatMap_cons, List.length_append, List.length_cons] at h2 ⊢
    omega
structure Wr (w0 : World) (bb bw : Nat) (txt : List UInt8) (W : World) : Prop where
  bld : Lib.IsBuilderF 126 5 w0.heap.size bb (Lib.byteCells txt) W
  box : W.heap[bw]? = some (.cells #[.pointer (some ⟨bb, 0, none⟩)] 123)
  low : Below w0.heap.size w0 W
theorem Wr.blk {w0 W : World} {bb bw : Nat} {txt : List UInt8} (h : Wr w0 bb bw txt W) : ∃ p v, W.heap[bb]? = some (.cells #[p, v] 126 (0, 0)) := by
  rcases h.bld with ⟨_, v, h1, _⟩ | ⟨_, v, h1, _⟩
  · exact ⟨_, v, h1⟩
  · exact ⟨_, v, h1⟩
theorem Wr.ne {w0 W : World} {bb bw : Nat} {txt : List UInt8} (h : Wr w0 bb bw txt W) : bw ≠ bb := by
  intro e
  obtain ⟨p, v, h1⟩ := h.blk
  have h2 := h.box
  rw [e, h1] at h2
  simp at h2
theorem Wr.cell {w0 W : World} {bb bw : Nat} {txt : List UInt8} (h : Wr w0 bb bw txt W) : W.cell? ⟨bw, 0, none⟩ = some (.pointer (some ⟨bb, 0, none⟩)) := by
  rw [Lib.cell_of_heap h.box]; rfl
theorem builder_below {T e : TypeId} {B b : Nat} {bs : List Value} {w w' : World} (h : Lib.IsBuilderF T e B b bs w) (hb : Below w.heap.size w w') : Lib.IsBuilderF T e B b bs w' := by
  have hg : w.grownBy w' none := ⟨hb.os, hb.tape, hb.output, hb.size, fun i hi _ => hb.block i hi⟩
  have key : ∀ p, Lib.BuilderAtF T e B b p bs w → Lib.BuilderAtF T e B b p bs w' := by
    rintro p ⟨h1, v, h2, h3, h4⟩
    refine ⟨h1, v, (hb.block b (Array.getElem?_eq_some_iff.1 h2).1).trans h2, h3.kept hg ?_, h4⟩
    cases hv : v.ownBlock with
    | none => exact .inl rfl
    | some k => exact .inr (by simp)
  exact h.imp (key _) (key _)
theorem Wr.below {w0 W W' : World} {bb bw : Nat} {txt : List UInt8} (h : Wr w0 bb bw txt W) (hb : Below W.heap.size W W') : Wr w0 bb bw txt W' :=
  ⟨builder_below h.bld hb, (hb.block _ (Array.getElem?_eq_some_iff.1 h.box).1).trans h.box, h.low.trans (hb.mono h.low.size)⟩
theorem Wr.write {w0 W : World} {bb bw : Nat} {txt : List UInt8} (h : Wr w0 bb bw txt W) (s : ByteArray) (hl : txt.length + s.size ≤ 140737488355328) :
    Calls Tryz.prog 78 #[.pointer (some ⟨bb, 0, none⟩), .string s] W fun e w' => (∃ r, e = .returned r) ∧ Wr w0 bb bw (txt ++ s.data.toList) w' ∧ Lib.OthersKept 5 (some bb) W w' := by
  refine (writeString_any w0.heap.size bb (Lib.byteCells txt) s W h.bld (by rw [Lib.byteCells_length]; exact hl) h.low.size).mono ?_
  rintro e w' ⟨rfl, h1, h2, h3⟩
  refine ⟨⟨_, rfl⟩, ⟨?_, ?_, h.low.trans h2⟩, h3⟩
  · rw [Lib.strCells_eq, ← Lib.byteCells_append] at h1
    exact .inr h1
  · refine h3 bw _ h.box (fun e => h.ne (by injection e)) ?_
    intro c fz e
    injection e with _ e2 _
    exact absurd e2 (by decide)
theorem Wr.tell {w0 W : World} {bb bw : Nat} {txt : List UInt8} (h : Wr w0 bb bw txt W) (tab : Lib.TabIs Tryz.prog w0 "internal/strconv.uint64pow10" .u64 Lib.pow10Tab) (n : Int) (h0 : -9223372036854775808 ≤ n) (h1 : n ≤ 9223372036854775807) :
    Calls Tryz.prog 113 #[.int .i64 n] W fun e w' => e = .returned (.string ⟨(Lib.itoa n).toArray⟩) ∧ Wr w0 bb bw txt w' ∧ Lib.OthersKept 5 (some bb) W w' := by
  have ht : Lib.TabIs Tryz.prog W "internal/strconv.uint64pow10" .u64 Lib.pow10Tab := var_below (show Tryz.prog.globalNamed "internal/strconv.uint64pow10" = some 6 by kernel_rfl) tab h.low
  refine (Tryz.strconv_Itoa n h0 h1 W ht).mono ?_
  rintro e w' ⟨rfl, k, os, rfl⟩
  exact ⟨rfl, h.below (below_grow W k os), kept_low (below_grow W k os)⟩
def Nums (W : World) (bb : Nat) (v : Value) (ns : List Int) : Prop :=
  ∃ oa c, v = .slice oa ns.length c ∧ (0 < ns.length → ∃ g off cs T fz, oa = some ⟨g, off, none⟩ ∧ W.heap[g]? = some (.cells cs T fz) ∧ T ≠ 5 ∧ g ≠ bb ∧ ∀ k n, ns[k]? = some n → cs[off + k]? = some (.int .i64 n))
theorem Nums.at {W W' : World} {bb : Nat} {oa : Option Addr} {c : Nat} {ns : List Int} (h : Nums W bb (.slice oa ns.length c) ns) (hk : Lib.OthersKept 5 (some bb) W W') (k : Nat) (n : Int) (hn : ns[k]? = some n) : ∃ g off, oa = some ⟨g, off, none⟩ ∧ g < W'.heap.size ∧ W'.cell? ⟨g, off + k, none⟩ = some (.int .i64 n) := by
  obtain ⟨oa', c', e, h1⟩ := h
  cases e
  obtain ⟨g, off, cs, T, fz, rfl, h2, h3, h4, h5⟩ := h1 (by have := (List.getElem?_eq_some_iff.1 hn).1; omega)
  have h6 := hk g _ h2 (fun e => h4 (by injection e)) (by intro c fz' e; injection e with _ e2 _; exact h3 e2)
  refine ⟨g, off, rfl, (Array.getElem?_eq_some_iff.1 h6).1, ?_⟩
  rw [Lib.cell_of_heap h6]
  exact h5 k n hn
set_option maxHeartbeats 4000000 in
theorem line_any (w0 : World) (bb bw : Nat) (txt : List UInt8) (head : ByteArray) (ns : List Int) (v : Value) (w : World) (h : Wr w0 bb bw txt w) (tab : Lib.TabIs Tryz.prog w0 "internal/strconv.uint64pow10" .u64 Lib.pow10Tab) (hn : Nums w bb v ns)
    (hr : ∀ n ∈ ns, -9223372036854775808 ≤ n ∧ n ≤ 9223372036854775807) (hl : txt.length + head.size + ns.length * 22 ≤ 1000000000000) (hl2 : ns.length ≤ 1000) :
    Calls Tryz.prog 115 #[.string head, v, .pointer (some ⟨bw, 0, none⟩)] w fun e w' => e = .returned (.tuple #[]) ∧ Wr w0 bb bw (txt ++ lineB head.data.toList ns) w' ∧ Lib.OthersKept 5 (some bb) w w' := by
  obtain ⟨oa, c, rfl⟩ : ∃ oa c, v = .slice oa ns.length c := by
    obtain ⟨oa, c, e, _⟩ := hn
    exact ⟨oa, c, e⟩
  have hlen : ∀ i, (numsB (ns.take i)).length ≤ ns.length * 22 := fun i => by
    have h1 := numsB_len (ns.take i) (fun n hn => hr n (List.mem_of_mem_take hn))
    have h2 : (ns.take i).length ≤ ns.length := by rw [List.length_take]; omega
    have := Nat.mul_le_mul_right 22 h2
    omega
  have hsz : head.data.toList.length = head.size := by rw [Array.length_toList]; rfl
  have HW0 : Hid (Calls Tryz.prog 78 #[.pointer (some ⟨bb, 0, none⟩), .string head] w fun e w' => (∃ r, e = .returned r) ∧ Hid (Wr w0 bb bw (txt ++ head.data.toList ++ numsB (ns.take 0)) w' ∧ Lib.OthersKept 5 (some bb) w w')) :=
    (h.write head (by omega)).mono fun e w' ⟨h1, h2, h3⟩ => ⟨h1, by simpa [numsB] using h2, h3⟩
  have HB : Hid (∀ (i : Nat) (wr : World), i ≤ ns.length → Hid (Wr w0 bb bw (txt ++ head.data.toList ++ numsB (ns.take i)) wr ∧ Lib.OthersKept 5 (some bb) w wr) → Calls Tryz.prog 78 #[.pointer (some ⟨bb, 0, none⟩), .string ⟨#[32]⟩] wr fun e w' => (∃ r, e = .returned r) ∧ w'.cell? ⟨bw, 0, none⟩ = some (.pointer (some ⟨bb, 0, none⟩)) ∧ Hid (Wr w0 bb bw (txt ++ head.data.toList ++ numsB (ns.take i) ++ [32]) w' ∧ Lib.OthersKept 5 (some bb) w w')) := by
    intro i wr _ hi
    have hli := hlen i
    refine (hi.out.1.write ⟨#[32]⟩ (by simp only [List.length_append]; show _ + 1 ≤ _; omega)).mono ?_
    rintro e w' ⟨h1, h2, h3⟩
    exact ⟨h1, h2.cell, h2, hi.out.2.trans h3⟩
  have HI : Hid (∀ (i : Nat) (n : Int) (T : List UInt8) (wr : World), ns[i]? = some n → Hid (Wr w0 bb bw T wr ∧ Lib.OthersKept 5 (some bb) w wr) → Calls Tryz.prog 113 #[.int .i64 n] wr fun e w' => e = .returned (.string ⟨(Lib.itoa n).toArray⟩) ∧ w'.cell? ⟨bw, 0, none⟩ = some (.pointer (some ⟨bb, 0, none⟩)) ∧ Hid (Wr w0 bb bw T w' ∧ Lib.OthersKept 5 (some bb) w w')) := by
    intro i n T wr hin hi
    have hrn := hr n (List.mem_of_getElem? hin)
    refine (hi.out.1.tell tab n hrn.1 hrn.2).mono ?_
    rintro e w' ⟨h1, h2, h3⟩
    exact ⟨h1, h2.cell, h2, hi.out.2.trans h3⟩
  have HC : Hid (∀ (i : Nat) (n : Int) (wr : World), ns[i]? = some n → Hid (Wr w0 bb bw (txt ++ head.data.toList ++ numsB (ns.take i) ++ [32]) wr ∧ Lib.OthersKept 5 (some bb) w wr) → Calls Tryz.prog 78 #[.pointer (some ⟨bb, 0, none⟩), .string ⟨(Lib.itoa n).toArray⟩] wr fun e w' => (∃ r, e = .returned r) ∧ w'.cell? ⟨bw, 0, none⟩ = some (.pointer (some ⟨bb, 0, none⟩)) ∧ Hid (Wr w0 bb bw (txt ++ head.data.toList ++ numsB (ns.take (i + 1))) w' ∧ Lib.OthersKept 5 (some bb) w w')) := by
    intro i n wr hin hi
    have hli := hlen i
    have hrn := hr n (List.mem_of_getElem? hin)
    have hil := Lib.itoa_length_le n hrn.1 hrn.2
    have hsi : ((⟨(Lib.itoa n).toArray⟩ : ByteArray)).size = (Lib.itoa n).length := by show (Lib.itoa n).toArray.size = _; simp
    refine (hi.out.1.write ⟨(Lib.itoa n).toArray⟩ (by simp only [List.length_append, List.length_cons, List.length_nil]; omega)).mono ?_
    rintro e w' ⟨h1, h2, h3⟩
    refine ⟨h1, h2.cell, ?_, hi.out.2.trans h3⟩
    rw [numsB_take ns i n hin]
    simpa [List.append_assoc] using h2
  have HE : Hid (∀ wr, Hid (Wr w0 bb bw (txt ++ head.data.toList ++ numsB ns) wr ∧ Lib.OthersKept 5 (some bb) w wr) → Calls Tryz.prog 78 #[.pointer (some ⟨bb, 0, none⟩), .string ⟨#[10]⟩] wr fun e w' => (∃ r, e = .returned r) ∧ Hid (Wr w0 bb bw (txt ++ lineB head.data.toList ns) w' ∧ Lib.OthersKept 5 (some bb) w w')) := by
    intro wr hi
    have hli := hlen ns.length
    rw [List.take_length] at hli
    refine (hi.out.1.write ⟨#[10]⟩ (by simp only [List.length_append]; show _ + 1 ≤ _; omega)).mono ?_
    rintro e w' ⟨h1, h2, h3⟩
    refine ⟨h1, ?_, hi.out.2.trans h3⟩
    unfold lineB
    simpa [List.append_assoc] using h2
  have HN : Hid (Nums w bb (.slice oa ns.length c) ns) := hn
  have hc0 := h.cell
  clear h hn tab hr hlen hsz hl
  go_enter Tryz.func115, Tryz.ntmps115
  go_wp2_with (first
    | (go_at_call 78; refine HW0.out.mono ?_; rintro e w1 ⟨⟨r1, rfl⟩, h1⟩)
    | fail)
  clear HW0 hc0
  go_loopg [12] ns.length (fun gg s12 wr => ∃ i : Nat, i ≤ ns.length ∧ gg = ns.length - i ∧ s12 = .int .i64 i ∧ Hid (Wr w0 bb bw (txt ++ head.data.toList ++ numsB (ns.take i)) wr ∧ Lib.OthersKept 5 (some bb) w wr))
  case atStart => exact ⟨0, Nat.zero_le _, rfl, rfl, h1⟩
  case round =>
    obtain ⟨i, hile, hgk, rfl, I⟩ := hrel
    have HG : Hid (gk = ns.length - i) := hgk
    clear hgk h1
    by_cases hlt2 : i < ns.length
    · obtain ⟨n, hin⟩ : ∃ n, ns[i]? = some n := ⟨_, List.getElem?_eq_getElem hlt2⟩
      obtain ⟨g, off, eo, hgl, hcn⟩ := HN.out.at I.out.2 i n hin
      cases eo
      have hcb := I.out.1.cell
      have j1 : (0 : Int) ≤ (i : Int) := by omega
      have j2 : (i : Int) < (ns.length : Int) := by omega
      have j3 : (ns.length : Int) ≤ 1000 := by omega
      have H1 := HB.out i wr hile I
      have H1' : Hid (Calls Tryz.prog 78 #[.pointer (some ⟨bb, 0, none⟩), .string ⟨#[32]⟩] wr fun e w' => (∃ r, e = .returned r) ∧ w'.cell? ⟨bw, 0, none⟩ = some (.pointer (some ⟨bb, 0, none⟩)) ∧ Hid (Wr w0 bb bw (txt ++ head.data.toList ++ numsB (ns.take i) ++ [32]) w' ∧ Lib.OthersKept 5 (some bb) w w')) := H1
      have HIn := HI.out i n (txt ++ head.data.toList ++ numsB (ns.take i) ++ [32])
      have HI' : Hid (∀ wr, Hid (Wr w0 bb bw (txt ++ head.data.toList ++ numsB (ns.take i) ++ [32]) wr ∧ Lib.OthersKept 5 (some bb) w wr) → Calls Tryz.prog 113 #[.int .i64 n] wr fun e w' => e = .returned (.string ⟨(Lib.itoa n).toArray⟩) ∧ w'.cell? ⟨bw, 0, none⟩ = some (.pointer (some ⟨bb, 0, none⟩)) ∧ Hid (Wr w0 bb bw (txt ++ head.data.toList ++ numsB (ns.take i) ++ [32]) w' ∧ Lib.OthersKept 5 (some bb) w w')) := fun wr => HIn wr hin
      have HC' : Hid (∀ wr, Hid (Wr w0 bb bw (txt ++ head.data.toList ++ numsB (ns.take i) ++ [32]) wr ∧ Lib.OthersKept 5 (some bb) w wr) → Calls Tryz.prog 78 #[.pointer (some ⟨bb, 0, none⟩), .string ⟨(Lib.itoa n).toArray⟩] wr fun e w' => (∃ r, e = .returned r) ∧ w'.cell? ⟨bw, 0, none⟩ = some (.pointer (some ⟨bb, 0, none⟩)) ∧ Hid (Wr w0 bb bw (txt ++ head.data.toList ++ numsB (ns.take (i + 1))) w' ∧ Lib.OthersKept 5 (some bb) w w')) := fun wr => HC.out i n wr hin
      clear H1 HIn hin I
      go_wp2_with (first
        | (go_at_call 78; refine H1'.out.mono ?_; rintro e w2 ⟨⟨r2, rfl⟩, hc2, h2⟩)
        | fail)
      have D2 : Hid (Hid (Wr w0 bb bw (txt ++ head.data.toList ++ numsB (ns.take i) ++ [32]) w2.drew ∧ Lib.OthersKept 5 (some bb) w w2.drew)) := ⟨h2.out.1.below ((Below.refl _ _).drew), h2.out.2.drew⟩
      go_region_held3 (fun W => W.cell? ⟨bw, 0, none⟩ = some (.pointer (some ⟨bb, 0, none⟩))) (first | exact hc2 | exact hc3 | exact hc4 | fail) (first
        | (go_at_call 78; refine (HC'.out _ h3).mono ?_; rintro e w4 ⟨⟨r4, rfl⟩, hc4, h4⟩)
        | (go_at_call 113; refine (HI'.out _ D2.out).mono ?_; rintro e w3 ⟨rfl, hc3, h3⟩)
        | fail)
      go_wp2
      go_roundg (ns.length - (i + 1))
      all_goals first
        | (have := HG.out; omega)
        | exact ⟨i + 1, by omega, rfl, by first | rfl | (congr 1; omega) | go_num, h4⟩
    · have j2 : ¬ ((i : Int) < (ns.length : Int)) := by omega
      have hie : i = ns.length := by omega
      have I2 : Hid (Wr w0 bb bw (txt ++ head.data.toList ++ numsB ns) wr ∧ Lib.OthersKept 5 (some bb) w wr) := by
        have := I.out
        rw [hie, List.take_length] at this
        exact this
      have hcb := I2.out.1.cell
      clear I
      go_wp2_with (first
        | (go_at_call 78; refine (HE.out _ I2).mono ?_; rintro e w2 ⟨⟨r2, rfl⟩, h2⟩)
        | fail)
      go_end0
      exact ⟨rfl, h2.out⟩
end Go.Proofs.YthfpipieboophaaGreatDoor
