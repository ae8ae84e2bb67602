/- Sidz: several texts in one. -/
import Derived.Test.YthfpipieboophaaGreatDoorBagz
import Derived.WalkKit
import Derived.WalkSpells
import Derived.WalkLawsBesides
import Derived.Below
import Derived.BigQuiet
import Derived.Lib.SmallJoins
import Derived.Lib.QuietBelow
import Derived.Deep.LoopGhost
import Derived.Deep.RegionHeld3
import Derived.Deep.RegionLaw
import Derived.Deep.AppendLies
import Derived.Deep.QuietTactic
import Derived.Laws.AppendOwnNone
import Derived.Shelf.Abstract
import Derived.Lib.SliceRun
import Derived.Shelf.Spec.SlicesInsert
import Derived.Lib.AppendZerosOnto
import Derived.Laws.NewBlocks
import Derived.Deep.DeepAppendWide
import Derived.Laws.BitsLemmas
/- Package side: rows in memory, how many, all, where a key and time begin. -/
namespace Go.Proofs.YthfpipieboophaaGreatDoor
open Go.RowKit
set_option maxRecDepth 100000
structure D where
  k : Int
  t : Int
  v : Int
  n : Int
  deriving DecidableEq, Inhabited
def encD (x : D) : List Value := [.int .i64 x.k, .int .i64 x.t, .int .i64 x.v, .int .i64 x.n]
def vD (x : D) : Value := .agg #[.int .i64 x.k, .int .i64 x.t, .int .i64 x.v, .int .i64 x.n]
def zD : Value := .agg #[.int .i64 0, .int .i64 0, .int .i64 0, .int .i64 0]
theorem encD_len (x : D) : (encD x).length = 4 := rfl
theorem info100 : (Tryz.prog.info? 130).map (fun i => (i.zero, i.size, i.bytes)) = some (some zD, 4, 32) := by kernel_rfl
theorem flatD_len (xs : List D) : (xs.flatMap encD).length = xs.length * 4 := by
  induction xs with
  | nil => rfl
  | cons a r ih => rw [List.flatMap_cons, List.length_append, ih, encD_len, List.length_cons]; omega
theorem encD_one (x : D) : ∀ u ∈ encD x, u.oneCell' = true := by
  intro u hu; simp [encD] at hu; rcases hu with rfl | rfl | rfl | rfl <;> rfl
theorem flatD_one (R : List D) : ∀ u ∈ R.flatMap encD, u.oneCell' = true := by
  intro u hu
  obtain ⟨x, _, h⟩ := List.mem_flatMap.1 hu
  exact encD_one x u h
theorem flatD_get (xs : List D) (k j : Nat) (x : D) (hx : xs[k]? = some x) (hj : j < 4) : (xs.flatMap encD)[k * 4 + j]? = (encD x)[j]? := by
  induction xs generalizing k with
  | nil => simp at hx
  | cons a r ih =>
    rw [List.flatMap_cons]
    cases k with
    | zero =>
      simp at hx
      subst hx
      rw [List.getElem?_append_left (by rw [encD_len]; omega)]
      congr 1; omega
    | succ k =>
      rw [List.getElem?_append_right (by rw [encD_len]; omega), encD_len, show (k + 1) * 4 + j - 4 = k * 4 + j by omega]
      exact ih k (by simpa using hx)
theorem rows_cells {W : World} {base gs n ck : Nat} {xs : List D} (h : W.ownsRow base 130 4 (.slice (some ⟨gs, 0, none⟩) n ck) n (xs.flatMap encD)) (k : Nat) (x : D) (hx : xs[k]? = some x) :
    W.cell? ⟨gs, k * 4, none⟩ = some (.int .i64 x.k) ∧ W.cell? ⟨gs, k * 4 + 1, none⟩ = some (.int .i64 x.t) ∧ W.cell? ⟨gs, k * 4 + 2, none⟩ = some (.int .i64 x.v) ∧ W.cell? ⟨gs, k * 4 + 3, none⟩ = some (.int .i64 x.n) := by
  have key := fun (j : Nat) (v : Value) (hj : j < 4) (hv : (encD x)[j]? = some v) => h.cells (g := gs) rfl (k * 4 + j) v ((flatD_get xs k j x hx hj).trans hv)
  simp only [add_at] at key
  exact ⟨key 0 _ (by omega) rfl, key 1 _ (by omega) rfl, key 2 _ (by omega) rfl, key 3 _ (by omega) rfl⟩
structure SideAt (w : World) (base b o : Nat) (v : Value) (R : List D) : Prop where
  blk : ∃ cs T, w.heap[b]? = some (.cells cs T) ∧ cs[o]? = some v
  row : w.ownsRow base 130 4 v R.length (R.flatMap encD)
  own : v.ownBlock ≠ some b
theorem SideAt.lt {w : World} {base b o : Nat} {v : Value} {R : List D} (h : SideAt w base b o v R) : b < w.heap.size := by
  obtain ⟨cs, T, h1, _⟩ := h.blk
  exact (Array.getElem?_eq_some_iff.1 h1).1
theorem SideAt.cell {w : World} {base b o : Nat} {v : Value} {R : List D} (h : SideAt w base b o v R) : w.cell? ⟨b, o, none⟩ = some v ∧ w.frozen? ⟨b, o, none⟩ = false := by
  obtain ⟨cs, T, h1, h2⟩ := h.blk
  exact ⟨by rw [Go.Joins.cell_of_block h1]; exact h2, Go.Joins.unfrozen_of_block h1 o⟩
theorem SideAt.below {w w' : World} {base b o : Nat} {v : Value} {R : List D} (h : SideAt w base b o v R) (hb : Below w.heap.size w w') : SideAt w' base b o v R := by
  have hl := h.lt
  obtain ⟨cs, T, h1, h2⟩ := h.blk
  exact ⟨⟨cs, T, (hb.block _ hl).trans h1, h2⟩, kept_below h.row hb, h.own⟩
theorem SideAt.form {w : World} {base b o : Nat} {v : Value} {R : List D} (h : SideAt w base b o v R) : ∃ oa c, v = .slice oa R.length c := by
  rcases h.row.2 with ⟨rfl, h0⟩ | ⟨g, cap, cur, rfl, _⟩
  · exact ⟨none, 0, by rw [h0]⟩
  · exact ⟨_, _, rfl⟩
theorem side_many (base b o : Nat) (v : Value) (R : List D) (w : World) (h : SideAt w base b o v R) :
    Calls Tryz.prog 102 #[.pointer (some ⟨b, o, none⟩)] w fun e w' => e = .returned (.int .i64 R.length) ∧ w' = w := by
  have hc := h.cell
  obtain ⟨oa, c, rfl⟩ := h.form
  clear h
  go_enter Tryz.func102, Tryz.ntmps102
  go_wp2
  go_ret
  exact ⟨rfl, rfl⟩
def moreI (n : Int) : Int := if n = 9223372036854775807 then n else n + 1
theorem oneMore_any (n : Int) (w : World) (h1 : -9223372036854775808 ≤ n) (h2 : n ≤ 9223372036854775807) : Calls Tryz.prog 172 #[.int .i64 n] w fun e w' => e = .returned (.int .i64 (moreI n)) ∧ w' = w := by
  by_cases e : n = 9223372036854775807
  · subst e
    go_enter Tryz.func172, Tryz.ntmps172
    go_wp2
    go_ret
    exact ⟨rfl, rfl⟩
  · have hm : moreI n = n + 1 := by simp [moreI, e]
    have he : (n == 9223372036854775807) = false := by simp [e]
    have h3 : n < 9223372036854775807 := by omega
    rw [hm]
    clear hm
    go_enter Tryz.func172, Tryz.ntmps172
    go_wp2
    go_ret
    exact ⟨rfl, rfl⟩
theorem own_empty0 {W : World} {base : Nat} (hb : base ≤ W.heap.size) : (W.alloc (.cells #[] 130)).ownsRow base 130 4 (.slice (some ⟨W.heap.size, 0, none⟩) 0 0) 0 [] :=
  ⟨rfl, .inr ⟨W.heap.size, 0, #[], rfl, hb, heap_alloc_new _ _, Nat.le_refl _, Nat.zero_le _, rfl, rfl⟩⟩
theorem wpList_append_some {P : Program} (w : World) {ops : Array Oper} {rest : List Oper} {o : Oper} {a : Act} {Q : Exit → Act → World → Prop} (hgd : o.guard = none) (s x : Operand) (t : TypeId)
    (ho : o.op = .call { callee := .builtin .append, args := #[s, x], argTypes := #[t, t] })
    (base : Nat) (e : TypeId) (i : TypeInfo) (z : Value) (size bytes : Nat) (ht : P.underlying t = some (.slice e)) (hi : P.info? e = some i) (hz : i.zero = some z)
    (hsize : i.size = size) (hby : i.bytes = bytes) (hzs : z.cells.size = size) (hsz : 0 < size)
    (g0 c0 n : Nat) (xs : List Value) (hs : a.eval s = .slice (some ⟨g0, 0, none⟩) n c0) (hown : w.ownsRow base e size (.slice (some ⟨g0, 0, none⟩) n c0) n xs)
    (ad : Addr) (m c : Nat) (news : List Value) (hx : a.eval x = .slice (some ad) m c) (hl : news.length = m * size) (hnews : ∀ j u, news[j]? = some u → w.cell? (ad.add j) = some u) (h1 : ∀ u ∈ news, u.oneCell' = true)
    (h63 : n + m ≤ maxLen) (hbytes : (n + m) * bytes ≤ 140737488355328) (hbase : base ≤ w.heap.size)
    (h : ∀ g cap w', w'.ownsRow base e size (.slice (some ⟨g, 0, none⟩) (n + m) cap) (n + m) (xs ++ news) → w.grownBy w' (some g0) → (g = g0 ∨ g = w.heap.size) → wpList P ops Q rest (a.put o.dst (.slice (some ⟨g, 0, none⟩) (n + m) cap)) w') : wpList P ops Q (o :: rest) a w := by
  refine wpList_plain hgd fun _ hK => ?_
  obtain ⟨v', w', hr, h2, h3, h4, h5⟩ := run_append_own_at (P := P) w base t o.type e i z size bytes ht hi hz hsize hby hzs hsz _ n xs hown ad m c news hl hnews h1 h63 hbytes hbase
  rcases h2.2 with ⟨rfl, _⟩ | ⟨g, cap, cur, rfl, _⟩
  · have := (h4.1 rfl).1; cases this
  · unfold Oper.wp execOp
    simp only [ho, resolve, invoke, builtin, Sem.run_bind, Sem.run_pure, Result.andThen_ok, List.map_toArray, List.map_cons, List.map_nil, hs, hx, hr]
    refine hK _ _ (h g cap w' h2 h3 ?_)
    simpa [Value.ownBlock] using h5
theorem eq_nil58 (w : World) : (binOp .eql 67 (.slice none 0 0) (.slice none 0 0)).run Tryz.prog w = .ok (.bool true) w := by kernel_rfl
theorem eq_some58 (a : Addr) (n c : Nat) (w : World) : (binOp .eql 67 (.slice (some a) n c) (.slice none 0 0)).run Tryz.prog w = .ok (.bool false) w := by kernel_rfl
theorem clone_any (base : Nat) (v : Value) (R : List D) (w : World) (h : w.ownsRow base 130 4 v R.length (R.flatMap encD)) (hR : R.length ≤ 100000) :
    Calls Tryz.prog 189 #[v] w fun e w' => ∃ v', e = .returned v' ∧ w'.ownsRow w.heap.size 130 4 v' R.length (R.flatMap encD) ∧ Below w.heap.size w w' := by
  obtain ⟨i0, hi, hz0, hz1, hz2⟩ := info_parts info100
  rcases Go.Joins.ownsRow_forms h with ⟨rfl, h0⟩ | ⟨gs, ck, rfl⟩
  · obtain rfl : R = [] := List.eq_nil_of_length_eq_zero h0
    clear h h0
    have hq := eq_nil58
    go_enter Tryz.func189, Tryz.ntmps189
    go_wp2
    go_ret
    exact ⟨_, rfl, World.ownsRow_nil _ _ _ _, Below.refl _ _⟩
  · have HE : Hid ((w.alloc (.cells #[] 130)).ownsRow w.heap.size 130 4 (.slice (some ⟨w.heap.size, 0, none⟩) 0 0) 0 []) := own_empty0 (Nat.le_refl _)
    have HN : Hid (∀ j u, (R.flatMap encD)[j]? = some u → (w.alloc (.cells #[] 130)).cell? ((⟨gs, 0, none⟩ : Addr).add j) = some u) := fun j u hu =>
      (kept_below h (Go.Joins.below_alloc1 w (.cells #[] 130))).cells (g := gs) rfl j u hu
    clear h
    have hq := eq_some58 ⟨gs, 0, none⟩ R.length ck
    go_enter Tryz.func189, Tryz.ntmps189
    go_wp2_with (first
      | (refine wpList_append_some _ rfl _ _ _ rfl w.heap.size 130 i0 zD 4 32 Tryz.underlying67 hi hz0 hz1 hz2 rfl (by omega) w.heap.size 0 0 [] rfl HE.out ⟨gs, 0, none⟩ R.length ck (R.flatMap encD) rfl (flatD_len R) HN.out (flatD_one R) (by unfold maxLen; omega) (by omega) (by simp) ?_; intro g1 cap1 w1 hown1 hgrow1 hat1)
      | fail)
    go_ret
    rw [Nat.zero_add, List.nil_append] at hown1
    refine ⟨_, rfl, ?_, (Go.Joins.below_alloc1 w _).grown hgrow1 (by simp) (fun k e => by cases e; exact Nat.le_refl _)⟩
    first | exact hown1 | simpa using hown1
theorem side_all (base b o : Nat) (v : Value) (R : List D) (w : World) (h : SideAt w base b o v R) (hR : R.length ≤ 100000) :
    Calls Tryz.prog 116 #[.pointer (some ⟨b, o, none⟩)] w fun e w' => ∃ v', e = .returned v' ∧ w'.ownsRow w.heap.size 130 4 v' R.length (R.flatMap encD) ∧ Below w.heap.size w w' := by
  have hc := h.cell
  have hcl := clone_any base v R w h.row hR
  clear h
  go_enter Tryz.func116, Tryz.ntmps116
  go_wp2_with (go_at_call 189; refine hcl.mono ?_; rintro e w' ⟨v', rfl, h1, h2⟩)
  go_ret
  exact ⟨v', rfl, h1, h2⟩
end Go.Proofs.YthfpipieboophaaGreatDoor

/- Package side: where a key and time begin (sort.Search over the rows). -/
namespace Go.Proofs.YthfpipieboophaaGreatDoor
open Go.Shelf Go.RowKit
set_option maxRecDepth 100000
set_option maxHeartbeats 1000000 in
theorem search_any (g : Nat) (cb : Array Value) (n : Nat) (p : Nat → Bool) (w : World) (eg : ∀ args w, (callFunc g args).run Tryz.prog w = .ok (.enter g args) w) (hn : n ≤ 1000000)
    (hf : ∀ (W : World) (i : Nat), Below w.heap.size w W → i < n → Calls Tryz.prog g (#[.int .i64 i] ++ cb) W fun e w' => e = .returned (.bool (p i)) ∧ Below W.heap.size W w')
    (hmono : ∀ a b, a ≤ b → b < n → p a = true → p b = true) :
    Calls Tryz.prog 243 #[.int .i64 n, .func (.func g) #[] cb] w fun e w' => ∃ r : Nat, e = .returned (.int .i64 r) ∧ r ≤ n ∧ (∀ t, t < r → p t = false) ∧ (∀ t, r ≤ t → t < n → p t = true) ∧ Below w.heap.size w w' := by
  have HF : Hid (∀ (W : World) (i : Nat), Below w.heap.size w W → i < n → Calls Tryz.prog g (#[.int .i64 i] ++ cb) W fun e w' => e = .returned (.bool (p i)) ∧ Below W.heap.size W w') := hf
  have HM : Hid (∀ a b, a ≤ b → b < n → p a = true → p b = true) := hmono
  have i1 : (n : Int) ≤ 1000000 := by omega
  clear hf hmono
  go_enter Tryz.func243, Tryz.ntmps243
  go_wp2
  go_loopg [5, 6] n (fun kx s5 s6 wr => ∃ (lo hi : Nat), s5 = .int .i64 lo ∧ s6 = .int .i64 hi ∧ lo ≤ hi ∧ hi ≤ n ∧ hi - lo ≤ kx ∧ Hid ((∀ t, t < lo → p t = false) ∧ (∀ t, hi ≤ t → t < n → p t = true) ∧ Below w.heap.size w wr))
  case atStart => exact ⟨0, n, rfl, rfl, Nat.zero_le _, Nat.le_refl _, by omega, ⟨fun t ht => absurd ht (Nat.not_lt_zero _), fun t h1 h2 => by omega, Below.refl _ _⟩⟩
  case round =>
    obtain ⟨lo, hi, rfl, rfl, hlh, hin, hg, I⟩ := hrel
    have HG : Hid (hi - lo ≤ gk) := hg
    clear hg
    by_cases hlt : lo < hi
    · have k1 : (lo : Int) < (hi : Int) := by omega
      have k2 : (hi : Int) ≤ 1000000 := by omega
      have hl := HF.out wr ((lo + hi) / 2) I.out.2.2 (by omega)
      rw [show (((lo + hi) / 2 : Nat) : Int) = ((lo : Int) + (hi : Int)) / 2 by omega] at hl
      go_wp2_with fail
      refine hl.mono ?_
      rintro e w3 ⟨rfl, hb3⟩
      have B3 : Hid (Below w.heap.size w w3) := I.out.2.2.trans (hb3.mono I.out.2.2.size)
      clear hl hb3
      cases hp : p ((lo + hi) / 2)
      · have I2 : Hid ((∀ t, t < (lo + hi) / 2 + 1 → p t = false) ∧ (∀ t, hi ≤ t → t < n → p t = true) ∧ Below w.heap.size w w3) := ⟨fun t ht => (by
          cases h : p t with
          | false => rfl
          | true => have := HM.out t ((lo + hi) / 2) (by omega) (by omega) h; rw [hp] at this; cases this), I.out.2.1, B3.out⟩
        clear hp
        go_wp2
        go_roundg (hi - ((lo + hi) / 2 + 1))
        case measure => have := HG.out; omega
        case rel => exact ⟨(lo + hi) / 2 + 1, hi, by first | rfl | (congr 1; omega) | go_num, rfl, by omega, hin, Nat.le_refl _, I2⟩
      · have I2 : Hid ((∀ t, t < lo → p t = false) ∧ (∀ t, (lo + hi) / 2 ≤ t → t < n → p t = true) ∧ Below w.heap.size w w3) := ⟨I.out.1, fun t ht htn => HM.out ((lo + hi) / 2) t ht htn hp, B3.out⟩
        clear hp
        go_wp2
        go_roundg ((lo + hi) / 2 - lo)
        case measure => have := HG.out; omega
        case rel => exact ⟨lo, (lo + hi) / 2, rfl, by first | rfl | (congr 1; omega) | go_num, by omega, by omega, Nat.le_refl _, I2⟩
    · have k1 : ¬ ((lo : Int) < (hi : Int)) := by omega
      go_wp2
      go_ret
      refine ⟨lo, rfl, by omega, I.out.1, fun t h1 h2 => I.out.2.1 t (by omega) h2, I.out.2.2⟩
def aheadOf (key time : Int) (x : D) : Bool := decide (x.k < key ∨ (x.k = key ∧ x.t < time))
def SortedR (R : List D) : Prop := R.Pairwise fun a b => a.k < b.k ∨ (a.k = b.k ∧ a.t ≤ b.t)
theorem aheadOf_false {key time : Int} {x : D} : aheadOf key time x = false ↔ (key < x.k ∨ (x.k = key ∧ time ≤ x.t)) := by
  simp only [aheadOf, decide_eq_false_iff_not]; omega
set_option maxHeartbeats 1000000 in
theorem first1_any (base b o bs bk bt : Nat) (v : Value) (R : List D) (key time : Int) (i : Nat) (x : D) (w : World) (h : SideAt w base b o v R) (hx : R[i]? = some x)
    (h1 : w.cell? ⟨bs, 0, none⟩ = some (.pointer (some ⟨b, o, none⟩))) (h2 : w.cell? ⟨bk, 0, none⟩ = some (.int .i64 key)) (h3 : w.cell? ⟨bt, 0, none⟩ = some (.int .i64 time)) (hbk : bk < w.heap.size) (hbt : bt < w.heap.size) :
    Calls Tryz.prog 244 #[.int .i64 i, .pointer (some ⟨bs, 0, none⟩), .pointer (some ⟨bk, 0, none⟩), .pointer (some ⟨bt, 0, none⟩)] w fun e w' => e = .returned (.bool (!aheadOf key time x)) ∧ Below w.heap.size w w' := by
  have hc := h.cell
  have hi : i < R.length := (List.getElem?_eq_some_iff.1 hx).1
  obtain ⟨gs, ck, rfl⟩ := Go.Joins.ownsRow_form h.row (by omega)
  have hr := rows_cells h.row i x hx
  have hgs : gs < w.heap.size := (h.row.lt gs rfl).2
  have i1 : (0 : Int) ≤ (i : Int) := by omega
  have i2 : (i : Int) < (R.length : Int) := by omega
  have hlt := h.lt
  clear h hx
  by_cases c1 : key < x.k
  · have hv : aheadOf key time x = false := aheadOf_false.2 (Or.inl c1)
    rw [hv]
    clear hv
    go_enter Tryz.func244, Tryz.ntmps244
    go_wp2
    go_ret
    exact ⟨rfl, Go.Joins.below_alloc1 _ _⟩
  · have c1' : ¬ key < x.k := c1
    by_cases c2 : x.k = key
    · subst c2
      by_cases c3 : time ≤ x.t
      · have hv : aheadOf x.k time x = false := aheadOf_false.2 (Or.inr ⟨rfl, c3⟩)
        rw [hv]
        clear hv
        go_enter Tryz.func244, Tryz.ntmps244
        go_wp2
        go_ret
        exact ⟨rfl, Go.Joins.below_alloc1 _ _⟩
      · have hv : aheadOf x.k time x = true := by
          cases h : aheadOf x.k time x with
          | true => rfl
          | false => rcases aheadOf_false.1 h with h | h <;> omega
        have c3' : ¬ time ≤ x.t := c3
        rw [hv]
        clear hv
        go_enter Tryz.func244, Tryz.ntmps244
        go_wp2
        go_ret
        exact ⟨rfl, Go.Joins.below_alloc1 _ _⟩
    · have hv : aheadOf key time x = true := by
        cases h : aheadOf key time x with
        | true => rfl
        | false => rcases aheadOf_false.1 h with h | h <;> omega
      have c2' : (x.k == key) = false := by simp [c2]
      rw [hv]
      clear hv
      go_enter Tryz.func244, Tryz.ntmps244
      go_wp2
      go_ret
      exact ⟨rfl, Go.Joins.below_alloc1 _ _⟩
def posR (key time : Int) (R : List D) : Nat := R.countP (aheadOf key time)
theorem ahead_mono {R : List D} (h : SortedR R) (key time : Int) {i j : Nat} {x y : D} (hij : i ≤ j) (hx : R[i]? = some x) (hy : R[j]? = some y) (hp : aheadOf key time x = false) : aheadOf key time y = false := by
  by_cases e : i = j
  · subst e; rw [hx] at hy; cases hy; exact hp
  · obtain ⟨h1, e1⟩ := List.getElem?_eq_some_iff.1 hx
    obtain ⟨h2, e2⟩ := List.getElem?_eq_some_iff.1 hy
    have := List.pairwise_iff_getElem.1 h i j h1 h2 (by omega)
    rw [e1, e2] at this
    rw [aheadOf_false] at *
    omega
theorem pos_of {R : List D} (key time : Int) (r : Nat) (hr : r ≤ R.length) (h1 : ∀ t x, t < r → R[t]? = some x → aheadOf key time x = true) (h2 : ∀ t x, r ≤ t → R[t]? = some x → aheadOf key time x = false) : posR key time R = r := by
  unfold posR
  rw [← List.take_append_drop r R, List.countP_append]
  have a1 : (R.take r).countP (aheadOf key time) = r := by
    rw [List.countP_eq_length.2]
    · rw [List.length_take]; omega
    · intro x hx
      obtain ⟨t, ht, e⟩ := List.mem_iff_getElem.1 hx
      rw [List.length_take] at ht
      rw [List.getElem_take] at e
      exact h1 t x (by omega) (by rw [List.getElem?_eq_getElem (by omega), e])
  have a2 : (R.drop r).countP (aheadOf key time) = 0 := by
    rw [List.countP_eq_zero]
    intro x hx
    obtain ⟨t, ht, e⟩ := List.mem_iff_getElem.1 hx
    rw [List.length_drop] at ht
    rw [List.getElem_drop] at e
    rw [h2 (r + t) x (by omega) (by rw [List.getElem?_eq_getElem (by omega), e])]
    simp
  omega
theorem pos_le (key time : Int) (R : List D) : posR key time R ≤ R.length := List.countP_le_length
theorem three_boxes (w : World) (p : Value) (key time : Int) :
    (((w.alloc (.cells #[p] 251)).alloc (.cells #[.int .i64 key] 3)).alloc (.cells #[.int .i64 time] 3)).cell? ⟨w.heap.size, 0, none⟩ = some p ∧
    (((w.alloc (.cells #[p] 251)).alloc (.cells #[.int .i64 key] 3)).alloc (.cells #[.int .i64 time] 3)).cell? ⟨w.heap.size + 1, 0, none⟩ = some (.int .i64 key) ∧
    (((w.alloc (.cells #[p] 251)).alloc (.cells #[.int .i64 key] 3)).alloc (.cells #[.int .i64 time] 3)).cell? ⟨w.heap.size + 1 + 1, 0, none⟩ = some (.int .i64 time) := by
  have h2 := heap_alloc_new (w.alloc (.cells #[p] 251)) (.cells #[.int .i64 key] 3)
  have h3 := heap_alloc_new ((w.alloc (.cells #[p] 251)).alloc (.cells #[.int .i64 key] 3)) (.cells #[.int .i64 time] 3)
  simp only [World.size_alloc] at h2 h3
  refine ⟨?_, ?_, ?_⟩
  · rw [Go.Joins.cell_of_block (((Below.heap_alloc _ _ _ (by simp; omega)).trans (Below.heap_alloc _ _ _ (by simp))).trans (heap_alloc_new _ _))]; rfl
  · rw [Go.Joins.cell_of_block ((Below.heap_alloc _ _ _ (by simp)).trans h2)]; rfl
  · rw [Go.Joins.cell_of_block h3]; rfl
set_option maxHeartbeats 1000000 in
theorem first_any (base b o : Nat) (v : Value) (R : List D) (key time : Int) (w : World) (h : SideAt w base b o v R) (hs : SortedR R) (hR : R.length ≤ 100000) :
    Calls Tryz.prog 171 #[.pointer (some ⟨b, o, none⟩), .int .i64 key, .int .i64 time] w fun e w' => e = .returned (.int .i64 (posR key time R)) ∧ Below w.heap.size w w' := by
  have hc := h.cell
  have hlt := h.lt
  obtain ⟨oa, cv, rfl⟩ := h.form
  have eg : ∀ args w, (callFunc 244 args).run Tryz.prog w = .ok (.enter 244 args) w := enters_of Tryz.func244 (by kernel_rfl) rfl
  have hs3 := search_any 244 #[.pointer (some ⟨w.heap.size, 0, none⟩), .pointer (some ⟨w.heap.size + 1, 0, none⟩), .pointer (some ⟨w.heap.size + 1 + 1, 0, none⟩)] R.length (fun i => match R[i]? with | some x => !aheadOf key time x | none => true)
    (((w.alloc (.cells #[.pointer (some ⟨b, o, none⟩)] 251)).alloc (.cells #[.int .i64 key] 3)).alloc (.cells #[.int .i64 time] 3)) eg (by omega) (by
      intro W i hW hi
      obtain ⟨x, hx⟩ : ∃ x, R[i]? = some x := ⟨_, List.getElem?_eq_getElem hi⟩
      have hB : Below w.heap.size w (((w.alloc (.cells #[.pointer (some ⟨b, o, none⟩)] 251)).alloc (.cells #[.int .i64 key] 3)).alloc (.cells #[.int .i64 time] 3)) := (((Below.refl _ _).alloc (by simp) _).alloc (by simp) _).alloc (by simp; omega) _
      have hsz := hW.size
      simp only [World.size_alloc] at hsz
      have hS : SideAt W base b o (.slice oa R.length cv) R := (h.below hB).below hW
      simp only [hx]
      refine first1_any base b o w.heap.size (w.heap.size + 1) (w.heap.size + 1 + 1) _ R key time i x W hS hx ?_ ?_ ?_ (by omega) (by omega)
      · exact (hW.cell (p := ⟨w.heap.size, 0, none⟩) (by simp; omega)).trans (three_boxes w _ _ _).1
      · exact (hW.cell (p := ⟨w.heap.size + 1, 0, none⟩) (by simp)).trans (three_boxes w _ _ _).2.1
      · exact (hW.cell (p := ⟨w.heap.size + 1 + 1, 0, none⟩) (by simp)).trans (three_boxes w _ _ _).2.2) (by
      intro i j hij hj hp
      obtain ⟨x, hx⟩ : ∃ x, R[i]? = some x := ⟨_, List.getElem?_eq_getElem (by omega)⟩
      obtain ⟨y, hy⟩ : ∃ y, R[j]? = some y := ⟨_, List.getElem?_eq_getElem hj⟩
      simp only [hx, Bool.not_eq_true'] at hp
      simp only [hy, Bool.not_eq_true']
      exact ahead_mono hs key time hij hx hy hp)
  have hs4 : Calls Tryz.prog 243 #[.int .i64 R.length, .func (.func 244) #[] #[.pointer (some ⟨w.heap.size, 0, none⟩), .pointer (some ⟨w.heap.size + 1, 0, none⟩), .pointer (some ⟨w.heap.size + 1 + 1, 0, none⟩)]] (((w.alloc (.cells #[.pointer (some ⟨b, o, none⟩)] 251)).alloc (.cells #[.int .i64 key] 3)).alloc (.cells #[.int .i64 time] 3)) fun e w' => e = .returned (.int .i64 (posR key time R)) ∧ Below w.heap.size w w' := by
    refine hs3.mono ?_
    rintro e w' ⟨r, rfl, hr, h1, h2, hB⟩
    have e1 : posR key time R = r := pos_of key time r hr (fun t x ht hx => by have := h1 t ht; simp only [hx] at this; simpa using this) (fun t x ht hx => by
      have := h2 t ht (List.getElem?_eq_some_iff.1 hx).1; simp only [hx] at this; simpa using this)
    have hB0 : Below w.heap.size w (((w.alloc (.cells #[.pointer (some ⟨b, o, none⟩)] 251)).alloc (.cells #[.int .i64 key] 3)).alloc (.cells #[.int .i64 time] 3)) := (((Below.refl _ _).alloc (by simp) _).alloc (by simp) _).alloc (by simp; omega) _
    exact ⟨by rw [e1], hB0.trans (hB.mono (by simp; omega))⟩
  have hc3 := (h.below (show Below w.heap.size w (((w.alloc (.cells #[.pointer (some ⟨b, o, none⟩)] 251)).alloc (.cells #[.int .i64 key] 3)).alloc (.cells #[.int .i64 time] 3)) from (((Below.refl _ _).alloc (by simp) _).alloc (by simp) _).alloc (by simp; omega) _)).cell
  clear h hs3
  go_enter Tryz.func171, Tryz.ntmps171
  go_wp2_with (go_at_call 243; refine hs4.mono ?_; rintro e w' ⟨rfl, hb⟩)
  go_ret
  exact ⟨rfl, hb⟩
end Go.Proofs.YthfpipieboophaaGreatDoor

/- Package side: rows are dropped (slices.DeleteFunc by a closure). -/
namespace Go.Proofs.YthfpipieboophaaGreatDoor
open Go.Shelf Go.RowKit
set_option maxRecDepth 100000
def setL (xs : List Value) : Nat → List Value → List Value
  | _, [] => xs
  | o, v :: r => setL (xs.set o v) (o + 1) r
theorem setL_take (vs : List Value) : ∀ (xs : List Value) (o k : Nat), k ≤ o → (setL xs o vs).take k = xs.take k := by
  induction vs with
  | nil => intro xs o k _; rfl
  | cons v r ih =>
    intro xs o k hk
    rw [setL, ih _ _ _ (by omega), List.take_set_of_le hk]
theorem own_setCell {W : World} {base g n cap size : Nat} {e : TypeId} {xs : List Value} (h : W.ownsRow base e size (.slice (some ⟨g, 0, none⟩) n cap) n xs) (j : Nat) (u : Value) :
    (W.setCell ⟨g, j, none⟩ u).ownsRow base e size (.slice (some ⟨g, 0, none⟩) n cap) n (xs.set j u) := by
  rcases h.2 with ⟨h1, _⟩ | ⟨g', cap', cur, h1, hb, hg, h2, h3, h4, h5⟩
  · cases h1
  · cases h1
    refine ⟨by rw [List.length_set]; exact h.1, .inr ⟨g, cap, cur.setIfInBounds j u, rfl, hb, Go.Joins.block_setCell hg u, h2, h3, by simp [h4], ?_⟩⟩
    rw [Array.toList_setIfInBounds, ← h5, List.take_set]
theorem own_setCells {base g n cap size : Nat} {e : TypeId} (vs : List Value) : ∀ {W : World} {xs : List Value} (o : Nat), W.ownsRow base e size (.slice (some ⟨g, 0, none⟩) n cap) n xs →
    (W.setCells g o vs).ownsRow base e size (.slice (some ⟨g, 0, none⟩) n cap) n (setL xs o vs) := by
  induction vs with
  | nil => intro W xs o h; exact h
  | cons v r ih => intro W xs o h; exact ih (o + 1) (own_setCell h o v)
theorem own_prefix {W : World} {base g n cap size : Nat} {e : TypeId} {xs : List Value} (h : W.ownsRow base e size (.slice (some ⟨g, 0, none⟩) n cap) n xs) (i : Nat) (hi : i ≤ n) :
    W.ownsRow base e size (.slice (some ⟨g, 0, none⟩) i cap) i (xs.take (i * size)) := by
  rcases h.2 with ⟨h1, _⟩ | ⟨g', cap', cur, h1, hb, hg, h2, h3, h4, h5⟩
  · cases h1
  · cases h1
    have hm : i * size ≤ n * size := Nat.mul_le_mul_right _ hi
    refine ⟨by rw [List.length_take, h.1]; omega, .inr ⟨g, cap, cur, rfl, hb, hg, by omega, h3, h4, ?_⟩⟩
    rw [← h5, List.take_take, Nat.min_eq_left hm]
theorem flatD_take (M : List D) (i : Nat) : (M.take i).flatMap encD = (M.flatMap encD).take (i * 4) := by
  induction M generalizing i with
  | nil => simp
  | cons a r ih =>
    cases i with
    | zero => simp
    | succ i =>
      rw [List.take_succ_cons, List.flatMap_cons, List.flatMap_cons, ih, List.take_append, encD_len, List.take_of_length_le (l := encD a) (by rw [encD_len]; omega), show (i + 1) * 4 - 4 = i * 4 by omega]
theorem flatD_set (R : List D) (i : Nat) (x : D) : (R.set i x).flatMap encD = setL (R.flatMap encD) (i * 4) (encD x) ∨ R.length ≤ i := by
  by_cases h : R.length ≤ i
  · exact Or.inr h
  · left
    induction R generalizing i with
    | nil => simp at h
    | cons a r ih =>
      cases i with
      | zero => simp [setL, encD]
      | succ i =>
        have hh := ih i (by simpa using h)
        rw [List.set_cons_succ, List.flatMap_cons, List.flatMap_cons, hh]
        simp [setL, encD, show (i + 1) * 4 = i * 4 + 1 + 1 + 1 + 1 by omega]
theorem own_store {W : World} {base g n cap : Nat} {R : List D} (h : W.ownsRow base 130 4 (.slice (some ⟨g, 0, none⟩) n cap) n (R.flatMap encD)) (i : Nat) (x : D) (hi : i < R.length) :
    ((((W.setCell ⟨g, i * 4, none⟩ (.int .i64 x.k)).setCell ⟨g, i * 4 + 1, none⟩ (.int .i64 x.t)).setCell ⟨g, i * 4 + 2, none⟩ (.int .i64 x.v)).setCell ⟨g, i * 4 + 3, none⟩ (.int .i64 x.n)).ownsRow base 130 4 (.slice (some ⟨g, 0, none⟩) n cap) n ((R.set i x).flatMap encD) := by
  rcases flatD_set R i x with e | e
  · rw [e]
    exact own_setCells (encD x) (i * 4) h
  · omega
theorem run_clear_cells {P : Program} (w : World) (t e ty : TypeId) (z : Value) (ht : P.underlying t = some (.slice e)) (hv : ∀ w, (zeroValue e).run P w = .ok z w) (b o n c : Nat) (hn : 0 < n) (h1 : ∀ v ∈ (Builtin.zeroCells z.cells n).toList, v.oneCell' = true)
    (hc : ∀ j, j < (Builtin.zeroCells z.cells n).toList.length → (w.cell? ⟨b, o + j, none⟩).isSome = true) (hf : ∀ j, j < (Builtin.zeroCells z.cells n).toList.length → w.frozen? ⟨b, o + j, none⟩ = false) :
    (Builtin.clear_ #[t] ty #[.slice (some ⟨b, o, none⟩) n c]).run P w = .ok (.tuple #[]) (w.setCells b o (Builtin.zeroCells z.cells n).toList) := by
  have hst := run_storeCells_cells (P := P) b o (Builtin.zeroCells z.cells n).toList 0 w (by simpa using hc) (by simpa using hf) h1
  simp only [Nat.add_zero] at hst
  obtain ⟨m, rfl⟩ : ∃ m, n = m + 1 := ⟨n - 1, by omega⟩
  simp [Builtin.clear_, run_underlying ht, hv, hst]
theorem drop1_any (bt : Nat) (til : Int) (x : D) (w : World) (h : w.cell? ⟨bt, 0, none⟩ = some (.int .i64 til)) (hb : bt < w.heap.size) :
    Calls Tryz.prog 186 #[vD x, .pointer (some ⟨bt, 0, none⟩)] w fun e w' => e = .returned (.bool (decide (x.t ≤ til))) ∧ Below w.heap.size w w' := by
  simp only [vD]
  go_enter Tryz.func186, Tryz.ntmps186
  go_wp2
  go_ret
  exact ⟨rfl, Go.Joins.below_alloc1 _ _⟩
set_option maxHeartbeats 1000000 in
theorem indexFunc_any (base : Nat) (v : Value) (R : List D) (g : Nat) (cb : Array Value) (q : D → Bool) (w : World) (eg : ∀ args w, (callFunc g args).run Tryz.prog w = .ok (.enter g args) w) (h : w.ownsRow base 130 4 v R.length (R.flatMap encD)) (hR : R.length ≤ 100000)
    (hf : ∀ (W : World) (x : D), Below w.heap.size w W → Calls Tryz.prog g (#[vD x] ++ cb) W fun e w' => e = .returned (.bool (q x)) ∧ Below W.heap.size W w') :
    Calls Tryz.prog 251 #[v, .func (.func g) #[] cb] w fun e w' => Below w.heap.size w w' ∧ ((e = .returned (.int .i64 (-1)) ∧ ∀ x ∈ R, q x = false) ∨ ∃ k : Nat, k < R.length ∧ e = .returned (.int .i64 k) ∧ (∀ x, R[k]? = some x → q x = true) ∧ ∀ j x, j < k → R[j]? = some x → q x = false) := by
  rcases Go.Joins.ownsRow_forms h with ⟨rfl, h0⟩ | ⟨gs, ck, rfl⟩
  · obtain rfl : R = [] := List.eq_nil_of_length_eq_zero h0
    clear h h0 hf
    go_enter Tryz.func251, Tryz.ntmps251
    go_wp2
    refine wp_loop_rounds 1 ?_
    rw [rounds_succ]
    go_wp2
    go_ret
    exact ⟨Below.refl _ _, Or.inl ⟨rfl, by simp⟩⟩
  · have HR : Hid (w.ownsRow base 130 4 (.slice (some ⟨gs, 0, none⟩) R.length ck) R.length (R.flatMap encD)) := h
    have HF : Hid (∀ (W : World) (x : D), Below w.heap.size w W → Calls Tryz.prog g (#[vD x] ++ cb) W fun e w' => e = .returned (.bool (q x)) ∧ Below W.heap.size W w') := hf
    clear h hf
    go_enter Tryz.func251, Tryz.ntmps251
    go_wp2
    go_loopg [8] R.length (fun g v8 wr => ∃ k : Nat, k ≤ R.length ∧ g = R.length - k ∧ v8 = .int .i64 k ∧ Hid (Below w.heap.size w wr ∧ ∀ j x, j < k → R[j]? = some x → q x = false))
    case atStart => exact ⟨0, Nat.zero_le _, rfl, rfl, ⟨Below.refl _ _, fun j x hj => absurd hj (Nat.not_lt_zero _)⟩⟩
    case round =>
      obtain ⟨k, hk, hg, rfl, I⟩ := hrel
      have HG : Hid (gk = R.length - k) := hg
      clear hg
      by_cases hlt : k < R.length
      · obtain ⟨x, hx⟩ : ∃ x, R[k]? = some x := ⟨_, List.getElem?_eq_getElem hlt⟩
        have hcx := rows_cells (kept_below HR.out I.out.1) k x hx
        have HX : Hid (R[k]? = some x) := hx
        have hl := HF.out wr x I.out.1
        have i1 : (0 : Int) ≤ (k : Int) := by omega
        have i2 : (k : Int) < (R.length : Int) := by omega
        have i3 : (R.length : Int) ≤ 100000 := by omega
        simp only [vD] at hl
        clear hx
        go_wp2_with fail
        refine hl.mono ?_
        rintro e w3 ⟨rfl, hb3⟩
        have B3 : Hid (Below w.heap.size w w3) := I.out.1.trans (hb3.mono I.out.1.size)
        clear hl hb3 hcx
        cases hq : q x
        · have I2 : Hid (Below w.heap.size w w3 ∧ ∀ j x, j < k + 1 → R[j]? = some x → q x = false) := ⟨B3.out, fun j y hj hy => by
            by_cases e : j = k
            · subst e; rw [HX.out] at hy; cases hy; exact hq
            · exact I.out.2 j y (by omega) hy⟩
          clear hq
          go_wp2
          go_roundg (R.length - (k + 1))
          case measure => have := HG.out; omega
          case rel => exact ⟨k + 1, by omega, rfl, by first | rfl | (congr 1; omega) | go_num, I2⟩
        · have Q2 : Hid (q x = true) := hq
          clear hq
          go_wp2
          go_ret
          exact ⟨B3.out, Or.inr ⟨k, hlt, rfl, fun y hy => by rw [HX.out] at hy; cases hy; exact Q2.out, I.out.2⟩⟩
      · have i2 : ¬ ((k : Int) < (R.length : Int)) := by omega
        go_wp2
        go_ret
        refine ⟨I.out.1, Or.inl ⟨rfl, fun y hy => ?_⟩⟩
        obtain ⟨j, hj, e⟩ := List.mem_iff_getElem.1 hy
        exact I.out.2 j y (by omega) (by rw [List.getElem?_eq_getElem hj, e])
end Go.Proofs.YthfpipieboophaaGreatDoor

/- Package side: slices.DeleteFunc over rows; Drop. -/
namespace Go.Proofs.YthfpipieboophaaGreatDoor
open Go.Shelf Go.RowKit
set_option maxRecDepth 100000
def keepR (q : D → Bool) (R : List D) : List D := R.filter fun x => !q x
structure Kept (q : D → Bool) (R L : List D) (i j : Nat) : Prop where
  len : L.length = R.length
  front : L.take i = keepR q (R.take j)
  rest : ∀ k, j ≤ k → L[k]? = R[k]?
theorem keep_take (q : D → Bool) (R : List D) (j : Nat) (x : D) (h : R[j]? = some x) : keepR q (R.take (j + 1)) = keepR q (R.take j) ++ if q x = true then [] else [x] := by
  unfold keepR
  rw [List.take_add_one, h, List.filter_append]
  cases hq : q x <;> simp [hq]
theorem Kept.start {q : D → Bool} {R : List D} {k : Nat} (hk : k < R.length) (h1 : ∀ x, R[k]? = some x → q x = true) (h2 : ∀ j x, j < k → R[j]? = some x → q x = false) : Kept q R R k (k + 1) := by
  refine ⟨rfl, ?_, fun _ _ => rfl⟩
  obtain ⟨x, hx⟩ : ∃ x, R[k]? = some x := ⟨_, List.getElem?_eq_getElem hk⟩
  rw [keep_take q R k x hx, if_pos (h1 x hx), List.append_nil]
  unfold keepR
  rw [List.filter_eq_self.2]
  intro y hy
  obtain ⟨j, hj, e⟩ := List.mem_iff_getElem.1 hy
  rw [List.length_take] at hj
  rw [List.getElem_take] at e
  rw [h2 j y (by omega) (by rw [List.getElem?_eq_getElem (by omega), e])]
  rfl
theorem Kept.skip {q : D → Bool} {R L : List D} {i j : Nat} {x : D} (h : Kept q R L i j) (hx : R[j]? = some x) (hq : q x = true) : Kept q R L i (j + 1) :=
  ⟨h.len, by rw [keep_take q R j x hx, if_pos hq, List.append_nil]; exact h.front, fun k hk => h.rest k (by omega)⟩
theorem Kept.put {q : D → Bool} {R L : List D} {i j : Nat} {x : D} (h : Kept q R L i j) (hij : i < j) (hj : j < R.length) (hx : R[j]? = some x) (hq : q x = false) : Kept q R (L.set i x) (i + 1) (j + 1) := by
  have hl := h.len
  refine ⟨by rw [List.length_set]; exact h.len, ?_, fun k hk => ?_⟩
  · rw [keep_take q R j x hx, if_neg (by rw [hq]; simp), ← h.front, List.take_add_one, List.take_set_of_le (Nat.le_refl _), List.getElem?_set_self (by omega)]
    rfl
  · rw [List.getElem?_set_ne (by omega)]; exact h.rest k (by omega)
theorem Kept.all {q : D → Bool} {R L : List D} {i : Nat} (h : Kept q R L i R.length) : L.take i = keepR q R := by
  rw [h.front, List.take_length]
theorem grown_below {w W W' : World} {r : Option Nat} (h : w.grownBy W r) (hb : Below W.heap.size W W') : w.grownBy W' r :=
  h.trans ⟨hb.os, hb.tape, hb.output, hb.size, fun k hk _ => hb.block k hk⟩
theorem grown_set {w W : World} {g j : Nat} {u : Value} (h : w.grownBy W (some g)) : w.grownBy (W.setCell ⟨g, j, none⟩ u) (some g) :=
  h.trans ⟨rfl, rfl, rfl, by simp, fun k _ hne => Below.heap_setCell _ _ _ _ (fun e => hne (by rw [e]))⟩
theorem grown_sets {w : World} {g : Nat} (vs : List Value) : ∀ {W : World} (o : Nat), w.grownBy W (some g) → w.grownBy (W.setCells g o vs) (some g) := by
  induction vs with
  | nil => intro W o h; exact h
  | cons v r ih => intro W o h; exact ih (o + 1) (grown_set h)
theorem zero100 (w : World) : (zeroValue 130).run Tryz.prog w = .ok zD w := by kernel_rfl
theorem zc_len (n : Nat) : (Builtin.zeroCells zD.cells n).toList.length = n * 4 := by
  simp [Builtin.zeroCells, zD, Value.cells]
theorem zc_one (n : Nat) : ∀ v ∈ (Builtin.zeroCells zD.cells n).toList, v.oneCell' = true := by
  intro v hv
  simp [Builtin.zeroCells, zD, Value.cells] at hv
  obtain ⟨a, _, rfl⟩ := hv
  have : a % 4 < 4 := Nat.mod_lt _ (by omega)
  rcases (show a % 4 = 0 ∨ a % 4 = 1 ∨ a % 4 = 2 ∨ a % 4 = 3 by omega) with h | h | h | h <;> (simp only [h]; rfl)
theorem row_there {W : World} {base g n cap : Nat} {R : List D} (h : W.ownsRow base 130 4 (.slice (some ⟨g, 0, none⟩) n cap) n (R.flatMap encD)) (hn : R.length = n) (j : Nat) (hj : j < n * 4) : (W.cell? ⟨g, j, none⟩).isSome = true ∧ W.frozen? ⟨g, j, none⟩ = false := by
  rcases h.2 with ⟨h1, _⟩ | ⟨g', cap', cur, h1, hb, hg, h2, h3, h4, h5⟩
  · cases h1
  · cases h1
    have hl : j < (R.flatMap encD).length := by rw [flatD_len]; omega
    have hc := h.cells (g := g) rfl j _ (List.getElem?_eq_getElem hl)
    rw [add_at] at hc
    exact ⟨by rw [hc]; rfl, Go.Joins.unfrozen_of_block hg j⟩
set_option maxHeartbeats 2000000 in
theorem deleteFunc_any (base : Nat) (v : Value) (R : List D) (g : Nat) (cb : Array Value) (q : D → Bool) (w : World) (eg : ∀ args w, (callFunc g args).run Tryz.prog w = .ok (.enter g args) w) (h : w.ownsRow base 130 4 v R.length (R.flatMap encD)) (hR : R.length ≤ 100000)
    (hf : ∀ (W : World) (x : D), w.grownBy W v.ownBlock → Calls Tryz.prog g (#[vD x] ++ cb) W fun e w' => e = .returned (.bool (q x)) ∧ Below W.heap.size W w') :
    Calls Tryz.prog 185 #[v, .func (.func g) #[] cb] w fun e w' => ∃ v', e = .returned v' ∧ w'.ownsRow base 130 4 v' (keepR q R).length ((keepR q R).flatMap encD) ∧ w.grownBy w' v.ownBlock ∧ v'.ownBlock = v.ownBlock := by
  have hif := indexFunc_any base v R g cb q w eg h hR (fun W x hb => hf W x ⟨hb.os, hb.tape, hb.output, hb.size, fun k hk _ => hb.block k hk⟩)
  have HR : Hid (w.ownsRow base 130 4 v R.length (R.flatMap encD)) := h
  have HF : Hid (∀ (W : World) (x : D), w.grownBy W v.ownBlock → Calls Tryz.prog g (#[vD x] ++ cb) W fun e w' => e = .returned (.bool (q x)) ∧ Below W.heap.size W w') := hf
  clear h hf
  have hmono := hif
  clear hif
  go_enter Tryz.func185, Tryz.ntmps185
  go_wp2_with fail
  refine hmono.mono ?_
  rintro e w1 ⟨hb1, hor⟩
  have G1 : Hid (w.grownBy w1 v.ownBlock) := ⟨hb1.os, hb1.tape, hb1.output, hb1.size, fun k hk _ => hb1.block k hk⟩
  have R1 : Hid (w1.ownsRow base 130 4 v R.length (R.flatMap encD)) := kept_below HR.out hb1
  clear hb1 hmono
  rcases hor with ⟨rfl, hno⟩ | ⟨k, hk, rfl, hk1, hk2⟩
  · have e1 : Hid (keepR q R = R) := by
      show keepR q R = R
      unfold keepR
      rw [List.filter_eq_self.2]
      intro x hx; rw [hno x hx]; rfl
    clear hno
    go_wp2
    go_ret
    exact ⟨v, rfl, by rw [e1.out]; exact R1.out, G1.out, rfl⟩
  · have K0 : Hid (Kept q R R k (k + 1)) := Kept.start hk hk1 hk2
    clear hk1 hk2
    obtain ⟨gs, ck, rfl⟩ := Go.Joins.ownsRow_form HR.out (by omega)
    have hck : R.length ≤ ck := by
      rcases HR.out.2 with ⟨h1, _⟩ | ⟨g', cap', cur, h1, _, _, h2, _⟩
      · cases h1
      · cases h1; exact h2
    have hgs : gs < w.heap.size := (HR.out.lt gs rfl).2
    have i0 : (k : Int) ≤ 100000 := by omega
    have i3 : (R.length : Int) ≤ 100000 := by omega
    have k1 : ((k : Int) == -1) = false := by rw [beq_eq_false_iff_ne]; omega
    have k1' : (k : Int) ≠ -1 := by omega
    go_wp2
    go_loopg [5, 6] (R.length - (k + 1)) (fun gg v5 v6 wr => ∃ (i j : Nat) (L : List D), i < j ∧ j ≤ R.length ∧ gg = R.length - j ∧ v5 = .int .i64 i ∧ v6 = .int .i64 j ∧ Hid (Kept q R L i j ∧ wr.ownsRow base 130 4 (.slice (some ⟨gs, 0, none⟩) R.length ck) R.length (L.flatMap encD) ∧ w.grownBy wr (some gs)))
    case atStart => exact ⟨k, k + 1, R, by omega, by omega, rfl, rfl, by first | rfl | (congr 1; omega) | go_num, ⟨K0.out, R1.out, G1.out⟩⟩
    case round =>
      obtain ⟨i, j, L, hij, hjn, hg, rfl, rfl, I⟩ := hrel
      have HG : Hid (gk = R.length - j) := hg
      clear hg
      have hgw : gs < wr.heap.size := Nat.lt_of_lt_of_le hgs I.out.2.2.size
      by_cases hlt : j < R.length
      · obtain ⟨x, hx⟩ : ∃ x, R[j]? = some x := ⟨_, List.getElem?_eq_getElem hlt⟩
        have hLx : L[j]? = some x := (I.out.1.rest j (Nat.le_refl _)).trans hx
        have hcx := rows_cells I.out.2.1 j x hLx
        have HX : Hid (R[j]? = some x) := hx
        have HL : Hid (L.length = R.length) := I.out.1.len
        have hl := HF.out (wr.alloc (.cells #[.int .i64 x.k, .int .i64 x.t, .int .i64 x.v, .int .i64 x.n] 130)) x (grown_below I.out.2.2 (Go.Joins.below_alloc1 _ _))
        have i1 : (0 : Int) ≤ (j : Int) := by omega
        have i2 : (j : Int) < (R.length : Int) := by omega
        have i4 : (0 : Int) ≤ (i : Int) := by omega
        have i5 : (i : Int) < (R.length : Int) := by omega
        simp only [vD] at hl
        clear hx hLx
        go_wp2_with fail
        refine hl.mono ?_
        rintro e w3 ⟨rfl, hb3⟩
        have hbox : w3.heap[wr.heap.size]? = some (.cells #[.int .i64 x.k, .int .i64 x.t, .int .i64 x.v, .int .i64 x.n] 130) := (hb3.block _ (by simp)).trans (heap_alloc_new _ _)
        have hc3 : w3.cell? ⟨wr.heap.size, 0, none⟩ = some (.int .i64 x.k) ∧ w3.cell? ⟨wr.heap.size, 1, none⟩ = some (.int .i64 x.t) ∧ w3.cell? ⟨wr.heap.size, 2, none⟩ = some (.int .i64 x.v) ∧ w3.cell? ⟨wr.heap.size, 3, none⟩ = some (.int .i64 x.n) := by
          refine ⟨?_, ?_, ?_, ?_⟩ <;> (rw [Go.Joins.cell_of_block hbox]; rfl)
        have I3 : Hid (Kept q R L i j ∧ w3.ownsRow base 130 4 (.slice (some ⟨gs, 0, none⟩) R.length ck) R.length (L.flatMap encD) ∧ w.grownBy w3 (some gs)) :=
          ⟨I.out.1, kept_below (kept_below I.out.2.1 (Go.Joins.below_alloc1 _ _)) hb3, grown_below (grown_below I.out.2.2 (Go.Joins.below_alloc1 _ _)) hb3⟩
        clear hl hb3 hcx hbox
        cases hq : q x
        · have hth := fun u hu => row_there I3.out.2.1 HL.out (i * 4 + u) hu
          have f0 := hth 0 (by omega)
          have f1 := hth 1 (by omega)
          have f2 := hth 2 (by omega)
          have f3 := hth 3 (by omega)
          rw [Nat.add_zero] at f0
          obtain ⟨u0, e0⟩ := Option.isSome_iff_exists.1 f0.1
          obtain ⟨u1, e1⟩ := Option.isSome_iff_exists.1 f1.1
          obtain ⟨u2, e2⟩ := Option.isSome_iff_exists.1 f2.1
          obtain ⟨u3, e3⟩ := Option.isSome_iff_exists.1 f3.1
          have z0 := f0.2
          have z1 := f1.2
          have z2 := f2.2
          have z3 := f3.2
          have I4 : Hid (Kept q R (L.set i x) (i + 1) (j + 1) ∧ ((((w3.setCell ⟨gs, i * 4, none⟩ (.int .i64 x.k)).setCell ⟨gs, i * 4 + 1, none⟩ (.int .i64 x.t)).setCell ⟨gs, i * 4 + 2, none⟩ (.int .i64 x.v)).setCell ⟨gs, i * 4 + 3, none⟩ (.int .i64 x.n)).ownsRow base 130 4 (.slice (some ⟨gs, 0, none⟩) R.length ck) R.length ((L.set i x).flatMap encD) ∧
              w.grownBy ((((w3.setCell ⟨gs, i * 4, none⟩ (.int .i64 x.k)).setCell ⟨gs, i * 4 + 1, none⟩ (.int .i64 x.t)).setCell ⟨gs, i * 4 + 2, none⟩ (.int .i64 x.v)).setCell ⟨gs, i * 4 + 3, none⟩ (.int .i64 x.n)) (some gs)) :=
            ⟨I3.out.1.put hij hlt HX.out hq, own_store I3.out.2.1 i x (by have := HL.out; omega), grown_set (grown_set (grown_set (grown_set I3.out.2.2)))⟩
          clear hq hth f0 f1 f2 f3
          go_wp2
          go_roundg (R.length - (j + 1))
          case measure => have := HG.out; omega
          case rel => exact ⟨i + 1, j + 1, L.set i x, by omega, by omega, rfl, by first | rfl | (congr 1; omega) | go_num, by first | rfl | (congr 1; omega) | go_num, I4⟩
        · have I4 : Hid (Kept q R L i (j + 1) ∧ w3.ownsRow base 130 4 (.slice (some ⟨gs, 0, none⟩) R.length ck) R.length (L.flatMap encD) ∧ w.grownBy w3 (some gs)) := ⟨I3.out.1.skip HX.out hq, I3.out.2.1, I3.out.2.2⟩
          clear hq
          go_wp2
          go_roundg (R.length - (j + 1))
          case measure => have := HG.out; omega
          case rel => exact ⟨i, j + 1, L, by omega, by omega, rfl, rfl, by first | rfl | (congr 1; omega) | go_num, I4⟩
      · have HJ : Hid (Kept q R L i R.length) := by
          have e : j = R.length := by omega
          show Kept q R L i R.length
          rw [← e]; exact I.out.1
        have i2 : ¬ ((j : Int) < (R.length : Int)) := by omega
        have i4 : (0 : Int) ≤ (i : Int) := by omega
        have i5 : (i : Int) ≤ (R.length : Int) := by omega
        have i6 : i ≤ ck := by omega
        have i7 : ¬ ck = i := by omega
        have hcl : ∀ ty, (Builtin.clear_ #[67] ty #[.slice (some ⟨gs, i * 4, none⟩) (R.length - i) (ck - i)]).run Tryz.prog wr = .ok (.tuple #[]) (wr.setCells gs (i * 4) (Builtin.zeroCells zD.cells (R.length - i)).toList) := fun ty =>
          run_clear_cells wr 67 130 ty zD Tryz.underlying67 zero100 gs (i * 4) (R.length - i) (ck - i) (by omega) (zc_one _)
            (fun t ht => by rw [zc_len] at ht; exact (row_there I.out.2.1 HJ.out.len (i * 4 + t) (by omega)).1) (fun t ht => by rw [zc_len] at ht; exact (row_there I.out.2.1 HJ.out.len (i * 4 + t) (by omega)).2)
        have HW : Hid ((wr.setCells gs (i * 4) (Builtin.zeroCells zD.cells (R.length - i)).toList).ownsRow base 130 4 (.slice (some ⟨gs, 0, none⟩) i ck) (keepR q R).length ((keepR q R).flatMap encD) ∧ w.grownBy (wr.setCells gs (i * 4) (Builtin.zeroCells zD.cells (R.length - i)).toList) (some gs)) := by
          have ha := own_prefix (own_setCells (Builtin.zeroCells zD.cells (R.length - i)).toList (i * 4) I.out.2.1) i (by omega)
          rw [setL_take _ _ _ _ (Nat.le_refl _), ← flatD_take, HJ.out.all] at ha
          have hlen : (keepR q R).length = i := by
            rw [← HJ.out.all, List.length_take, HJ.out.len]; omega
          refine ⟨?_, grown_sets _ _ I.out.2.2⟩
          rw [hlen]; exact ha
        revert hcl HW
        generalize wr.setCells gs (i * 4) (Builtin.zeroCells zD.cells (R.length - i)).toList = wz
        intro hcl HW
        go_wp2
        go_ret
        exact ⟨_, rfl, HW.out.1, HW.out.2, rfl⟩
end Go.Proofs.YthfpipieboophaaGreatDoor

/- Package side: Drop. -/
namespace Go.Proofs.YthfpipieboophaaGreatDoor
open Go.Shelf Go.RowKit
set_option maxRecDepth 100000
structure KeepS (b o : Nat) (u : Value) (om : Option Nat) (w w' : World) : Prop where
  os : w'.os = w.os
  tape : w'.tape = w.tape
  output : w'.output = w.output
  size : w.heap.size ≤ w'.heap.size
  block : ∀ k, k < w.heap.size → k ≠ b → om ≠ some k → w'.heap[k]? = w.heap[k]?
  this : w'.heap[b]? = (w.setCell ⟨b, o, none⟩ u).heap[b]?
theorem KeepS.below {b o B : Nat} {u : Value} {om : Option Nat} {w w' : World} (h : KeepS b o u om w w') (hB : B ≤ w.heap.size) (hb : B ≤ b) (ho : ∀ k, om = some k → B ≤ k) : Below B w w' :=
  ⟨h.os, h.tape, h.output, h.size, fun k hk => h.block k (by omega) (by omega) (fun e => by have := ho k e; omega)⟩
theorem setCell_block {w w' : World} {b o : Nat} {u : Value} (h : w'.heap[b]? = w.heap[b]?) : (w'.setCell ⟨b, o, none⟩ u).heap[b]? = (w.setCell ⟨b, o, none⟩ u).heap[b]? := by
  simp only [World.setCell, Array.getElem?_modify, h]
theorem side_stored {w w1 : World} {base b o : Nat} {v v' : Value} {R R' : List D} (hS : SideAt w base b o v R) (hrow : w1.ownsRow base 130 4 v' R'.length (R'.flatMap encD)) (hne : v'.ownBlock ≠ some b) (hk : w.grownBy w1 v.ownBlock) :
    SideAt (w1.setCell ⟨b, o, none⟩ v') base b o v' R' ∧ KeepS b o v' v.ownBlock w (w1.setCell ⟨b, o, none⟩ v') := by
  have hlt := hS.lt
  obtain ⟨cs, T, h1, h2⟩ := hS.blk
  have ho := hS.own
  have hcell : w1.heap[b]? = w.heap[b]? := hk.block b hlt (fun e => ho e.symm)
  refine ⟨⟨⟨_, _, Go.Joins.block_setCell (hcell.trans h1) v', ?_⟩, ?_, hne⟩, ?_⟩
  · have := (Array.getElem?_eq_some_iff.1 h2).1
    simp [this]
  · refine hrow.kept (row := some b) ⟨rfl, rfl, rfl, by simp, fun k hk2 hne2 => ?_⟩ (Or.inr hne)
    exact Below.heap_setCell _ _ _ _ (fun e => hne2 (by rw [e]))
  · refine ⟨hk.os, hk.tape, hk.output, by simpa using hk.size, fun k hk2 h1 h2 => ?_, setCell_block hcell⟩
    rw [Below.heap_setCell _ _ _ _ h1]
    exact hk.block k hk2 (fun e => h2 e.symm)
theorem grown_of {w W w1 : World} {om : Option Nat} (hB : Below w.heap.size w W) (hg : W.grownBy w1 om) : w.grownBy w1 om :=
  ⟨hg.os.trans hB.os, hg.tape.trans hB.tape, hg.output.trans hB.output, Nat.le_trans hB.size hg.size, fun k hk h2 => (hg.block k (Nat.lt_of_lt_of_le hk hB.size) h2).trans (hB.block k hk)⟩
theorem rowv_form {w : World} {base n : Nat} {v : Value} {xs : List Value} (h : w.ownsRow base 130 4 v n xs) : ∃ oa c, v = .slice oa n c := by
  rcases h.2 with ⟨rfl, h0⟩ | ⟨g, cap, cur, rfl, _⟩
  · exact ⟨none, 0, by rw [h0]⟩
  · exact ⟨_, _, rfl⟩
set_option maxHeartbeats 1000000 in
theorem side_drop (base b o : Nat) (v : Value) (R : List D) (til : Int) (w : World) (h : SideAt w base b o v R) (hR : R.length ≤ 100000) :
    Calls Tryz.prog 112 #[.pointer (some ⟨b, o, none⟩), .int .i64 til] w fun e w' => e = .returned (.int .i64 ((R.length : Int) - ((keepR (fun x => decide (x.t ≤ til)) R).length : Int))) ∧ ∃ v', SideAt w' base b o v' (keepR (fun x => decide (x.t ≤ til)) R) ∧ KeepS b o v' v.ownBlock w w' ∧ v'.ownBlock = v.ownBlock := by
  have hc := h.cell
  have hlt := h.lt
  have eg : ∀ args w, (callFunc 186 args).run Tryz.prog w = .ok (.enter 186 args) w := enters_of Tryz.func186 (by kernel_rfl) rfl
  have hB : Below w.heap.size w (w.alloc (.cells #[.int .i64 til] 3)) := Go.Joins.below_alloc1 _ _
  have hown : v.ownBlock ≠ some w.heap.size := fun e => by have := (h.row.lt _ e).2; omega
  have hd := deleteFunc_any base v R 186 #[.pointer (some ⟨w.heap.size, 0, none⟩)] (fun x => decide (x.t ≤ til)) (w.alloc (.cells #[.int .i64 til] 3)) eg (h.below hB).row hR (fun W x hW => by
    have hbx : W.heap[w.heap.size]? = some (.cells #[.int .i64 til] 3) := (hW.block w.heap.size (by simp) (fun e => hown e.symm)).trans (heap_alloc_new _ _)
    exact drop1_any w.heap.size til x W (by rw [Go.Joins.cell_of_block hbx]; rfl) (Array.getElem?_eq_some_iff.1 hbx).1)
  have HK : Hid (∀ v' w2, w2.ownsRow base 130 4 v' (keepR (fun x => decide (x.t ≤ til)) R).length ((keepR (fun x => decide (x.t ≤ til)) R).flatMap encD) → v'.ownBlock = v.ownBlock → (w.alloc (.cells #[.int .i64 til] 3)).grownBy w2 v.ownBlock → (w2.cell? ⟨b, o, none⟩ = some v ∧ w2.frozen? ⟨b, o, none⟩ = false) ∧ SideAt (w2.setCell ⟨b, o, none⟩ v') base b o v' (keepR (fun x => decide (x.t ≤ til)) R) ∧ KeepS b o v' v.ownBlock w (w2.setCell ⟨b, o, none⟩ v')) := by
    intro v' w2 h1 h3 h2
    have hcell : w2.heap[b]? = w.heap[b]? := (grown_of hB h2).block b hlt (fun e => h.own e.symm)
    exact ⟨⟨(World.cell?_of_block (w := w) (a := ⟨b, o, none⟩) hcell).trans hc.1, (World.frozen?_of_block (w := w) (a := ⟨b, o, none⟩) hcell).trans hc.2⟩, side_stored h h1 (by rw [h3]; exact h.own) (grown_of hB h2)⟩
  have hkl : (keepR (fun x => decide (x.t ≤ til)) R).length ≤ R.length := List.length_filter_le _ _
  obtain ⟨oa, cv, rfl⟩ := h.form
  generalize keepR (fun x => decide (x.t ≤ til)) R = K at *
  have i1 : (K.length : Int) ≤ (R.length : Int) := by omega
  have i2 : (R.length : Int) ≤ 100000 := by omega
  clear h hown
  go_enter Tryz.func112, Tryz.ntmps112
  go_wp2_with fail
  refine hd.mono ?_
  rintro e w2 ⟨v', rfl, h1, h2, h3⟩
  obtain ⟨hcell, hS, hKp⟩ := HK.out v' w2 h1 h3 h2
  have c2 := hcell.1
  have f2 := hcell.2
  have HS : Hid (SideAt (w2.setCell ⟨b, o, none⟩ v') base b o v' K ∧ KeepS b o v' (Value.slice oa R.length cv).ownBlock w (w2.setCell ⟨b, o, none⟩ v') ∧ v'.ownBlock = (Value.slice oa R.length cv).ownBlock) := ⟨hS, hKp, h3⟩
  obtain ⟨oa', c', rfl⟩ := rowv_form h1
  clear hS hKp h3 h1 h2 hd HK hcell
  go_wp2
  go_ret
  exact ⟨rfl, _, HS.out.1, HS.out.2.1, HS.out.2.2⟩
end Go.Proofs.YthfpipieboophaaGreatDoor

/- Package side: Meet. -/
namespace Go.Proofs.YthfpipieboophaaGreatDoor
open Go.Shelf Go.RowKit
set_option maxRecDepth 100000
def meets (key til : Int) (x : D) : Bool := decide (x.k = key ∧ x.t ≤ til)
def moreD (x : D) : D := { x with n := moreI x.n }
def metR (key frm til : Int) (R : List D) : List D := (R.drop (posR key frm R)).takeWhile (meets key til)
def incR (R : List D) (p i : Nat) : List D := R.take p ++ (((R.drop p).take i).map moreD ++ R.drop (p + i))
theorem incR_zero (R : List D) (p : Nat) : incR R p 0 = R := by simp [incR]
theorem incR_len (R : List D) (p i : Nat) (h : p + i ≤ R.length) : (incR R p i).length = R.length := by
  simp [incR]; omega
theorem incR_at (R : List D) (p i k : Nat) (h : p + i ≤ R.length) : (incR R p i)[k]? = if p ≤ k ∧ k < p + i then (R[k]?).map moreD else R[k]? := by
  have hl : (R.take p).length = p := by rw [List.length_take]; omega
  have hm : (((R.drop p).take i).map moreD).length = i := by rw [List.length_map, List.length_take, List.length_drop]; omega
  unfold incR
  by_cases k1 : k < p
  · rw [if_neg (by omega), List.getElem?_append_left (by rw [hl]; exact k1), List.getElem?_take_of_lt k1]
  · rw [List.getElem?_append_right (by rw [hl]; omega), hl]
    by_cases k2 : k < p + i
    · rw [if_pos (by omega), List.getElem?_append_left (by rw [hm]; omega), List.getElem?_map, List.getElem?_take_of_lt (by omega), List.getElem?_drop, show p + (k - p) = k by omega]
    · rw [if_neg (by omega), List.getElem?_append_right (by rw [hm]; omega), hm, List.getElem?_drop, show p + i + (k - p - i) = k by omega]
theorem incR_get (R : List D) (p i : Nat) (h : p + i < R.length) : (incR R p i)[p + i]? = R[p + i]? := by
  rw [incR_at R p i _ (by omega), if_neg (by omega)]
theorem incR_succ (R : List D) (p i : Nat) (x : D) (hx : R[p + i]? = some x) : incR R p (i + 1) = (incR R p i).set (p + i) (moreD x) := by
  have h : p + i < R.length := (List.getElem?_eq_some_iff.1 hx).1
  apply List.ext_getElem?
  intro k
  rw [incR_at R p (i + 1) k (by omega)]
  by_cases e : k = p + i
  · subst e
    rw [List.getElem?_set_self (by rw [incR_len R p i (by omega)]; exact h), if_pos (by omega), hx]; rfl
  · rw [List.getElem?_set_ne (by omega), incR_at R p i k (by omega)]
    by_cases k1 : p ≤ k ∧ k < p + i
    · rw [if_pos k1, if_pos (by omega)]
    · rw [if_neg k1, if_neg (by omega)]
theorem takeWhile_of (q : D → Bool) (T : List D) (i : Nat) (hi : i ≤ T.length) (h1 : ∀ j x, j < i → T[j]? = some x → q x = true) (h2 : ∀ x, T[i]? = some x → q x = false) : T.takeWhile q = T.take i := by
  induction T generalizing i with
  | nil => simp
  | cons a r ih =>
    cases i with
    | zero =>
      have := h2 a rfl
      simp [this]
    | succ i =>
      have ha := h1 0 a (by omega) rfl
      rw [List.takeWhile_cons, if_pos ha, List.take_succ_cons, ih i (by simpa using hi) (fun j x hj hx => h1 (j + 1) x (by omega) (by simpa using hx)) (fun x hx => h2 x (by simpa using hx))]
theorem flatD_setn (R : List D) (i : Nat) (x : D) (m : Int) (hx : R[i]? = some x) : (R.set i { x with n := m }).flatMap encD = (R.flatMap encD).set (i * 4 + 3) (.int .i64 m) := by
  induction R generalizing i with
  | nil => simp at hx
  | cons a r ih =>
    cases i with
    | zero => simp at hx; subst hx; simp [encD]
    | succ i =>
      rw [List.set_cons_succ, List.flatMap_cons, List.flatMap_cons, ih i (by simpa using hx)]
      simp [encD, show (i + 1) * 4 + 3 = i * 4 + 3 + 1 + 1 + 1 + 1 by omega]
structure Mt (w2 : World) (base gs ck p : Nat) (R : List D) (key til : Int) (i : Nat) (vm : Value) (wr : World) : Prop where
  grown : w2.grownBy wr (some gs)
  row : wr.ownsRow base 130 4 (.slice (some ⟨gs, 0, none⟩) R.length ck) R.length ((incR R p i).flatMap encD)
  met : wr.ownsRow w2.heap.size 130 4 vm ((R.drop p).take i).length (((R.drop p).take i).flatMap encD)
  all : ∀ j x, j < i → R[p + j]? = some x → meets key til x = true
theorem Mt.start {w2 : World} {base gs ck p : Nat} {R : List D} {key til : Int} (h : w2.ownsRow base 130 4 (.slice (some ⟨gs, 0, none⟩) R.length ck) R.length (R.flatMap encD)) : Mt w2 base gs ck p R key til 0 (.slice none 0 0) w2 :=
  ⟨⟨rfl, rfl, rfl, Nat.le_refl _, fun _ _ _ => rfl⟩, by rw [incR_zero]; exact h, World.ownsRow_nil _ _ _ _, fun j x hj => absurd hj (Nat.not_lt_zero _)⟩
theorem Mt.step {w2 W w3 wr : World} {base gs ck p i g1 cap1 : Nat} {R : List D} {key til : Int} {vm : Value} {x : D} (h : Mt w2 base gs ck p R key til i vm wr) (hgs : gs < w2.heap.size) (hx : R[p + i]? = some x) (hm : meets key til x = true)
    (hW : Below wr.heap.size wr W) (hown : w3.ownsRow w2.heap.size 130 4 (.slice (some ⟨g1, 0, none⟩) (((R.drop p).take i).length + 1) cap1) (((R.drop p).take i).length + 1) (((R.drop p).take i).flatMap encD ++ encD x)) (hg : W.grownBy w3 vm.ownBlock) :
    Mt w2 base gs ck p R key til (i + 1) (.slice (some ⟨g1, 0, none⟩) (((R.drop p).take i).length + 1) cap1) (w3.setCell ⟨gs, (p + i) * 4 + 3, none⟩ (.int .i64 (moreI x.n))) ∧
      (∀ j, j < R.length * 4 → (w3.cell? ⟨gs, j, none⟩).isSome = true ∧ w3.frozen? ⟨gs, j, none⟩ = false) := by
  have hpi : p + i < R.length := (List.getElem?_eq_some_iff.1 hx).1
  have hgw : gs < W.heap.size := Nat.lt_of_lt_of_le hgs (Nat.le_trans h.grown.size hW.size)
  have hvm : vm.ownBlock ≠ some gs := fun e => by have := (h.met.lt gs e).1; omega
  have hrow3 : w3.ownsRow base 130 4 (.slice (some ⟨gs, 0, none⟩) R.length ck) R.length ((incR R p i).flatMap encD) := by
    refine (kept_below h.row hW).kept hg (Or.inr ?_)
    simp only [Value.ownBlock]
    exact fun e => hvm e.symm
  have hgrow3 : w2.grownBy w3 (some gs) := by
    refine ⟨hg.os.trans (hW.os.trans h.grown.os), hg.tape.trans (hW.tape.trans h.grown.tape), hg.output.trans (hW.output.trans h.grown.output), Nat.le_trans h.grown.size (Nat.le_trans hW.size hg.size), fun k hk hne => ?_⟩
    have hk1 : k < wr.heap.size := Nat.lt_of_lt_of_le hk h.grown.size
    have hk2 : k < W.heap.size := Nat.lt_of_lt_of_le hk1 hW.size
    exact ((hg.block k hk2 (fun e => by have := (h.met.lt k e.symm).1; omega)).trans (hW.block k hk1)).trans (h.grown.block k hk hne)
  have htk : (R.drop p).take (i + 1) = (R.drop p).take i ++ [x] := by
    rw [List.take_add_one, List.getElem?_drop, hx]; rfl
  have hg1 : g1 ≠ gs := fun e => by have := (hown.lt g1 rfl).1; omega
  refine ⟨⟨grown_set hgrow3, ?_, ?_, fun j y hj hy => ?_⟩, fun j hj => row_there hrow3 (incR_len R p i (by omega)) j hj⟩
  · rw [incR_succ R p i x hx]
    have := own_setCell hrow3 ((p + i) * 4 + 3) (.int .i64 (moreI x.n))
    rw [← flatD_setn (incR R p i) (p + i) x (moreI x.n) ((incR_get R p i hpi).trans hx)] at this
    exact this
  · have h2 : w3.ownsRow w2.heap.size 130 4 (.slice (some ⟨g1, 0, none⟩) (((R.drop p).take i).length + 1) cap1) ((R.drop p).take (i + 1)).length (((R.drop p).take (i + 1)).flatMap encD) := by
      rw [htk, List.length_append, List.flatMap_append]
      simpa using hown
    refine h2.kept (row := some gs) ⟨rfl, rfl, rfl, by simp, fun k _ hne => Below.heap_setCell _ _ _ _ (fun e => hne (by rw [e]))⟩ (Or.inr (by simp [Value.ownBlock]; exact hg1))
  · by_cases e : j = i
    · subst e; rw [hx] at hy; cases hy; exact hm
    · exact h.all j y (by omega) hy
theorem Mt.met_is {w2 wr : World} {base gs ck i : Nat} {R : List D} {key frm til : Int} {vm : Value} (h : Mt w2 base gs ck (posR key frm R) R key til i vm wr) (hi : posR key frm R + i ≤ R.length) (h2 : ∀ x, R[posR key frm R + i]? = some x → meets key til x = false) : metR key frm til R = (R.drop (posR key frm R)).take i := by
  unfold metR
  refine takeWhile_of _ _ i (by simp; omega) (fun j x hj hx => h.all j x hj (by rwa [List.getElem?_drop] at hx)) (fun x hx => h2 x (by rwa [List.getElem?_drop] at hx))
end Go.Proofs.YthfpipieboophaaGreatDoor

/- Package side: Meet's walk. -/
namespace Go.Proofs.YthfpipieboophaaGreatDoor
open Go.Shelf Go.RowKit
set_option maxRecDepth 100000
theorem Mt.go {w2 wr W : World} {base gs ck p i : Nat} {R : List D} {key til : Int} {vm : Value} (h : Mt w2 base gs ck p R key til i vm wr) (hb : Below wr.heap.size wr W) : Mt w2 base gs ck p R key til i vm W :=
  ⟨grown_below h.grown hb, kept_below h.row hb, kept_below h.met hb, h.all⟩
theorem Mt.ends {w w2 wr : World} {base b o gs ck i : Nat} {R : List D} {key frm til : Int} {vm : Value} (hA : SideAt w base b o (.slice (some ⟨gs, 0, none⟩) R.length ck) R) (hB : Below w.heap.size w w2) (h : Mt w2 base gs ck (posR key frm R) R key til i vm wr) (hi : posR key frm R + i ≤ R.length)
    (h2 : ∀ x, R[posR key frm R + i]? = some x → meets key til x = false) :
    wr.ownsRow w.heap.size 130 4 vm (metR key frm til R).length ((metR key frm til R).flatMap encD) ∧ SideAt wr base b o (.slice (some ⟨gs, 0, none⟩) R.length ck) (incR R (posR key frm R) (metR key frm til R).length) ∧ w.grownBy wr (some gs) := by
  have hm := h.met_is hi h2
  have hl : (metR key frm til R).length = i := by rw [hm, List.length_take, List.length_drop]; omega
  have hne : gs ≠ b := fun e => hA.own (by rw [← e]; rfl)
  have hb2 : b < w2.heap.size := Nat.lt_of_lt_of_le hA.lt hB.size
  refine ⟨?_, ⟨?_, ?_, hA.own⟩, ?_⟩
  · rw [hm]; exact Go.Joins.ownsRow_le h.met hB.size
  · have hl := hA.lt
    obtain ⟨cs, T, h1, h2⟩ := hA.blk
    exact ⟨cs, T, (h.grown.block b hb2 (fun e => hne (by cases e; rfl))).trans ((hB.block b hl).trans h1), h2⟩
  · rw [hl, incR_len R _ i hi]; exact h.row
  · exact ⟨h.grown.os.trans hB.os, h.grown.tape.trans hB.tape, h.grown.output.trans hB.output, Nat.le_trans hB.size h.grown.size, fun k hk hn => (h.grown.block k (Nat.lt_of_lt_of_le hk hB.size) hn).trans (hB.block k hk)⟩
set_option maxHeartbeats 4000000 in
theorem side_meet (base b o : Nat) (v : Value) (R : List D) (key frm til : Int) (w : World) (h : SideAt w base b o v R) (hs : SortedR R) (hR : R.length ≤ 100000) (hn : ∀ x ∈ R, -9223372036854775808 ≤ x.n ∧ x.n ≤ 9223372036854775807) :
    Calls Tryz.prog 103 #[.pointer (some ⟨b, o, none⟩), .int .i64 key, .int .i64 frm, .int .i64 til] w fun e w' => ∃ vm, e = .returned vm ∧ w'.ownsRow w.heap.size 130 4 vm (metR key frm til R).length ((metR key frm til R).flatMap encD) ∧
      SideAt w' base b o v (incR R (posR key frm R) (metR key frm til R).length) ∧ w.grownBy w' v.ownBlock := by
  obtain ⟨i0, hi, hz0, hz1, hz2⟩ := info_parts info100
  have hk := fun p os => (h.below (below_regrown w p os)).cell
  have HS : Hid (∀ p os, Calls Tryz.prog 171 #[.pointer (some ⟨b, o, none⟩), .int .i64 key, .int .i64 frm] (Go.Sort.grow (redrawn w p) os) fun e w' => e = .returned (.int .i64 (posR key frm R)) ∧ Below (Go.Sort.grow (redrawn w p) os).heap.size (Go.Sort.grow (redrawn w p) os) w') :=
    fun p os => first_any base b o v R key frm _ (h.below (below_regrown w p os)) hs hR
  have HA : Hid (SideAt w base b o v R) := h
  have HN : Hid (∀ x ∈ R, -9223372036854775808 ≤ x.n ∧ x.n ≤ 9223372036854775807) := hn
  have hp := pos_le key frm R
  have hlt := h.lt
  have hpos : ∃ p, p = posR key frm R := ⟨_, rfl⟩
  obtain ⟨p, hpp⟩ := hpos
  have HP : Hid (p = posR key frm R) := hpp
  rw [← hpp] at HS hp
  clear h hs hn hpp
  rcases Go.Joins.ownsRow_forms HA.out.row with ⟨rfl, h0⟩ | ⟨gs, ck, rfl⟩
  · have hR0 : Hid (R = []) := List.eq_nil_of_length_eq_zero h0
    have p0 : p = 0 := by omega
    subst p0
    have e0 : R.length = 0 := h0
    go_enter Tryz.func103, Tryz.ntmps103
    go_wp2
    refine wp_region_quiet_below (by kernel_rfl) (by kernel_rfl) ?_
    repeat (quiet_step (first | (go_at_call 171; exact Calls.regrown_of (HS.out _ _)) | fail))
    refine wpQuiet_nil ?_
    intro _ hw'
    obtain ⟨⟨dq, osq⟩, hw''⟩ := hw'
    subst hw''
    go_wp2
    refine wp_loop_rounds 1 ?_
    rw [rounds_succ]
    go_wp2
    go_ret
    have hb := below_regrown w dq osq
    have hm : metR key frm til R = [] := by rw [hR0.out]; rfl
    refine ⟨_, rfl, ?_, ?_, ⟨hb.os, hb.tape, hb.output, hb.size, fun k hk _ => hb.block k hk⟩⟩
    · rw [hm]; exact World.ownsRow_nil _ _ _ _
    · rw [hm, List.length_nil, incR_zero]; exact HA.out.below hb
  · have hgs : gs < w.heap.size := (HA.out.row.lt gs rfl).2
    have hck : R.length ≤ ck := by
      rcases HA.out.row.2 with ⟨h1, _⟩ | ⟨g', cap', cur, h1, _, _, h2, _⟩
      · cases h1
      · cases h1; exact h2
    have i1 : (0 : Int) ≤ (p : Int) := by omega
    have i2 : (p : Int) ≤ (R.length : Int) := by omega
    have i3 : (R.length : Int) ≤ 100000 := by omega
    have i4 : p ≤ ck := by omega
    obtain ⟨A, hA, hA2⟩ : ∃ A : Addr, (if ck = p then some (⟨gs, 0, none⟩ : Addr) else some ⟨gs, p * 4, none⟩) = some A ∧ (p < R.length → A = ⟨gs, p * 4, none⟩) := by
      by_cases e : ck = p
      · exact ⟨⟨gs, 0, none⟩, by simp [e], fun h => by omega⟩
      · exact ⟨⟨gs, p * 4, none⟩, by simp [e], fun _ => rfl⟩
    have HA2 : Hid (p < R.length → A = ⟨gs, p * 4, none⟩) := hA2
    clear hA2
    go_enter Tryz.func103, Tryz.ntmps103
    go_wp2
    refine wp_region_quiet_below (by kernel_rfl) (by kernel_rfl) ?_
    repeat (quiet_step (first | (go_at_call 171; exact Calls.regrown_of (HS.out _ _)) | fail))
    refine wpQuiet_nil ?_
    intro _ hw'
    obtain ⟨⟨dq, osq⟩, hw''⟩ := hw'
    subst hw''
    have G2 : Hid (Below w.heap.size w (Go.Sort.grow (redrawn w dq) osq)) := below_regrown w dq osq
    clear hk HS
    dsimp only
    revert G2
    generalize Go.Sort.grow (redrawn w dq) osq = w2
    intro G2
    have M0 : Hid (Mt w2 base gs ck p R key til 0 (.slice none 0 0) w2) := Mt.start (kept_below HA.out.row G2.out)
    have hgs2 : gs < w2.heap.size := Nat.lt_of_lt_of_le hgs G2.out.size
    have i5 : ((R.length - p : Nat) : Int) ≤ 100000 := by omega
    go_wp2
    go_loopg [9, 24] (R.length - p) (fun gg v9 v24 wr => ∃ (i : Nat), i ≤ R.length - p ∧ gg = R.length - p - i ∧ v24 = .int .i64 i ∧ Hid (Mt w2 base gs ck p R key til i v9 wr))
    case atStart => exact ⟨0, Nat.zero_le _, rfl, rfl, M0⟩
    case round =>
      obtain ⟨i, hi2, hg, rfl, I⟩ := hrel
      have HG : Hid (gk = R.length - p - i) := hg
      clear hg
      have hgw : gs < wr.heap.size := Nat.lt_of_lt_of_le hgs2 I.out.grown.size
      by_cases hlt2 : i < R.length - p
      · have hAe := HA2.out (by omega)
        subst hAe
        obtain ⟨x, hx⟩ : ∃ x, R[p + i]? = some x := ⟨_, List.getElem?_eq_getElem (show p + i < R.length by omega)⟩
        have hcx := rows_cells I.out.row (p + i) x ((incR_get R p i (by omega)).trans hx)
        rw [Nat.add_mul] at hcx
        have HX : Hid (R[p + i]? = some x) := hx
        have hxn := HN.out x (List.mem_of_getElem? hx)
        have j1 : (0 : Int) ≤ (i : Int) := by omega
        have j2 : (i : Int) < ((R.length - p : Nat) : Int) := by omega
        have j3 : i < R.length - p := hlt2
        have hti : ((R.drop p).take i).length = i := by rw [List.length_take, List.length_drop]; omega
        clear hx
        by_cases hk1 : x.k = key
        · by_cases ht : x.t ≤ til
          · have HM : Hid (meets key til x = true) := by show meets key til x = true; simp [meets, hk1, ht]
            have HO : Hid (((wr.alloc (.cells #[.int .i64 x.k, .int .i64 x.t, .int .i64 x.v, .int .i64 x.n] 130)).alloc (.cells #[.int .i64 x.k, .int .i64 x.t, .int .i64 x.v, .int .i64 x.n] 130)).ownsRow w2.heap.size 130 4 u9 ((R.drop p).take i).length (((R.drop p).take i).flatMap encD)) := (I.out.met.alloc _).alloc _
            have HW : Hid (∀ j u, (encD x)[j]? = some u → ((wr.alloc (.cells #[.int .i64 x.k, .int .i64 x.t, .int .i64 x.v, .int .i64 x.n] 130)).alloc (.cells #[.int .i64 x.k, .int .i64 x.t, .int .i64 x.v, .int .i64 x.n] 130)).cell? ((⟨wr.heap.size + 1, 0, none⟩ : Addr).add j) = some u) := by
              have h2 := heap_alloc_new (wr.alloc (.cells #[.int .i64 x.k, .int .i64 x.t, .int .i64 x.v, .int .i64 x.n] 130)) (.cells #[.int .i64 x.k, .int .i64 x.t, .int .i64 x.v, .int .i64 x.n] 130)
              simp only [World.size_alloc] at h2
              exact World.news_of_block h2
            have hB3 : Below wr.heap.size wr ((wr.alloc (.cells #[.int .i64 x.k, .int .i64 x.t, .int .i64 x.v, .int .i64 x.n] 130)).alloc (.cells #[.int .i64 x.k, .int .i64 x.t, .int .i64 x.v, .int .i64 x.n] 130)) := Go.Joins.below_alloc2 _ _ _
            have HB3 : Hid (Below wr.heap.size wr ((wr.alloc (.cells #[.int .i64 x.k, .int .i64 x.t, .int .i64 x.v, .int .i64 x.n] 130)).alloc (.cells #[.int .i64 x.k, .int .i64 x.t, .int .i64 x.v, .int .i64 x.n] 130))) := hB3
            have HV : Hid (u9.ownBlock ≠ some wr.heap.size) := fun e => by have := (I.out.met.lt _ e).2; omega
            have hw2 : w2.heap.size ≤ wr.heap.size := I.out.grown.size
            have hne : (x.k != key) = false := by simp [hk1]
            have hgt : ¬ (til < x.t) := by omega
            clear hB3 hk1 ht
            go_wp2_with (first
              | (refine wpList_append_lies _ rfl _ _ _ rfl w2.heap.size 130 i0 zD 4 32 Tryz.underlying67 hi hz0 hz1 hz2 rfl (by omega) u9 ((R.drop p).take i).length (((R.drop p).take i).flatMap encD) rfl HO.out ⟨wr.heap.size + 1, 0, none⟩ 1 1 (encD x) rfl rfl HW.out (encD_one x) (by omega) (by unfold maxLen; omega) (by omega) (by simp; omega) _ rfl ?_; intro g1 cap1 w3 hown3 hgrow3 hat3 hlt3; have M3 := I.out.step hgs2 HX.out HM.out HB3.out hown3 hgrow3; have hbx : w3.heap[wr.heap.size]? = some (.cells #[.int .i64 x.k, .int .i64 x.t, .int .i64 x.v, .int .i64 x.n] 130) := (hgrow3.block wr.heap.size (by simp; omega) (fun e => HV.out e.symm)).trans (Eq.trans (Below.heap_alloc _ _ _ (by simp)) (heap_alloc_new _ _)); have hcb : w3.cell? ⟨wr.heap.size, 3, none⟩ = some (.int .i64 x.n) := (by rw [Go.Joins.cell_of_block hbx]; rfl); have M4 : Hid (Mt w2 base gs ck p R key til (i + 1) (.slice (some ⟨g1, 0, none⟩) (((R.drop p).take i).length + 1) cap1) (w3.setCell ⟨gs, (p + i) * 4 + 3, none⟩ (.int .i64 (moreI x.n)))) := M3.1; have hth := M3.2 ((p + i) * 4 + 3) (by omega); rw [Nat.add_mul] at hth; obtain ⟨uo, huo⟩ := Option.isSome_iff_exists.1 hth.1; have hfz := hth.2; clear M3 hown3 hgrow3 hat3 hlt3 hbx hth)
              | (go_at_call 172; refine (oneMore_any x.n _ hxn.1 hxn.2).mono ?_; rintro e w' ⟨rfl, rfl⟩)
              | fail)
            go_roundg (R.length - p - (i + 1))
            case measure => have := HG.out; omega
            case rel =>
              have := M4.out
              rw [Nat.add_mul, hti] at this
              exact ⟨i + 1, by omega, rfl, by first | rfl | (congr 1; omega) | go_num, this⟩
          · have HM : Hid (meets key til x = false) := by show meets key til x = false; simp [meets]; intro _; omega
            have hne : (x.k != key) = false := by simp [hk1]
            have hgt : til < x.t := by omega
            clear hk1 ht
            go_wp2
            go_ret
            have hend := Mt.ends (frm := frm) HA.out G2.out (HP.out ▸ I.out.go (Go.Joins.below_alloc1 wr (.cells #[.int .i64 x.k, .int .i64 x.t, .int .i64 x.v, .int .i64 x.n] 130))) (by rw [← HP.out]; omega) (fun y hy => by rw [← HP.out, HX.out] at hy; cases hy; exact HM.out)
            exact ⟨u9, rfl, hend⟩
        · have HM : Hid (meets key til x = false) := by show meets key til x = false; simp [meets, hk1]
          have hne : (x.k != key) = true := by simp [hk1]
          clear hk1
          go_wp2
          go_ret
          have hend := Mt.ends (frm := frm) HA.out G2.out (HP.out ▸ I.out.go (Go.Joins.below_alloc1 wr (.cells #[.int .i64 x.k, .int .i64 x.t, .int .i64 x.v, .int .i64 x.n] 130))) (by rw [← HP.out]; omega) (fun y hy => by rw [← HP.out, HX.out] at hy; cases hy; exact HM.out)
          exact ⟨u9, rfl, hend⟩
      · have j2 : ¬ ((i : Int) < ((R.length - p : Nat) : Int)) := by omega
        go_wp2
        go_ret
        have hend := Mt.ends (frm := frm) HA.out G2.out (HP.out ▸ I.out) (by rw [← HP.out]; omega) (fun y hy => by
          have h3 := (List.getElem?_eq_some_iff.1 hy).1
          rw [← HP.out] at h3; omega)
        exact ⟨u9, rfl, hend⟩
end Go.Proofs.YthfpipieboophaaGreatDoor

/- Package side: slices.Insert of one row, at the end and where there is room. -/
namespace Go.Proofs.YthfpipieboophaaGreatDoor
open Go.Shelf Go.RowKit
set_option maxRecDepth 100000
theorem run_copy_k {P : Program} (w : World) (dT sT ty elem : TypeId) (k : Nat) (b o dLen dCap : Nat) (a : Addr) (sLen sCap : Nat) (cs : List Value)
    (hu : P.underlying dT = some (.slice elem)) (hs : (P.info? elem).map (·.size) = some k) (hn : cs.length = Nat.min sLen dLen * k)
    (hsrc : ∀ j v, cs[j]? = some v → w.cell? (a.add j) = some v) (hc : ∀ j, j < cs.length → (w.cell? ⟨b, o + j, none⟩).isSome = true) (hf : ∀ j, j < cs.length → w.frozen? ⟨b, o + j, none⟩ = false) (h1 : ∀ v ∈ cs, v.oneCell' = true) :
    (Builtin.copy_ #[dT, sT] ty #[.slice (some ⟨b, o, none⟩) dLen dCap, .slice (some a) sLen sCap]).run P w = .ok (goInt (Nat.min sLen dLen)) (w.setCells b o cs) := by
  have hl := run_loadCells_list (P := P) w a cs hsrc
  have hst := run_storeCells_cells (P := P) b o cs 0 w (by simpa using hc) (by simpa using hf) h1
  cases hq : P.info? elem with
  | none => simp [hq] at hs
  | some i =>
    have hi : i.size = k := by simpa [hq] using hs
    rw [hn] at hl
    simp only [Nat.add_zero] at hst
    simp [Builtin.copy_, run_underlying hu, Builtin.lenOf, Builtin.firstCells, sizeOf, typeInfo, hq, hi, hl, hst]
theorem size100 : (Tryz.prog.info? 130).map (·.size) = some 4 := by kernel_rfl
theorem setL_is (vs : List Value) : ∀ (xs : List Value) (o : Nat), o + vs.length ≤ xs.length → setL xs o vs = xs.take o ++ vs ++ xs.drop (o + vs.length) := by
  induction vs with
  | nil => intro xs o h; simp [setL]
  | cons v r ih =>
    intro xs o h
    have h' : o + 1 + r.length ≤ (xs.set o v).length := by simp at h ⊢; omega
    rw [setL, ih (xs.set o v) (o + 1) h']
    have e1 : (xs.set o v).take (o + 1) = xs.take o ++ [v] := by
      rw [List.take_add_one, List.take_set_of_le (Nat.le_refl _), List.getElem?_set_self (by simp at h; omega)]; rfl
    have e2 : (xs.set o v).drop (o + 1 + r.length) = xs.drop (o + (v :: r).length) := by
      rw [List.drop_set_of_lt (by omega)]
      congr 1
      simp; omega
    rw [e1, e2]
    simp
def insR (R : List D) (i : Nat) (x : D) : List D := R.take i ++ x :: R.drop i
theorem insR_len (R : List D) (i : Nat) (x : D) : (insR R i x).length = R.length + 1 := by simp [insR]; omega
theorem flatD_drop (M : List D) (i : Nat) : (M.drop i).flatMap encD = (M.flatMap encD).drop (i * 4) := by
  induction M generalizing i with
  | nil => simp
  | cons a r ih =>
    cases i with
    | zero => simp
    | succ i =>
      rw [List.drop_succ_cons, List.flatMap_cons, ih, List.drop_append, encD_len, List.drop_eq_nil_of_le (show (encD a).length ≤ (i + 1) * 4 by rw [encD_len]; omega), List.nil_append, show (i + 1) * 4 - 4 = i * 4 by omega]
theorem ins_cells (R : List D) (i : Nat) (x : D) (hi : i ≤ R.length) (xs : List Value) (hl : xs.length = (R.length + 1) * 4) (ht : xs.take (R.length * 4) = R.flatMap encD) :
    setL (setL xs ((i + 1) * 4) ((R.drop i).flatMap encD)) (i * 4) (encD x) = (insR R i x).flatMap encD := by
  have hd : ((R.drop i).flatMap encD).length = (R.length - i) * 4 := by rw [flatD_len, List.length_drop]
  have h1 : setL xs ((i + 1) * 4) ((R.drop i).flatMap encD) = xs.take ((i + 1) * 4) ++ (R.drop i).flatMap encD := by
    rw [setL_is _ _ _ (by rw [hd, hl]; omega), hd, List.drop_eq_nil_of_le (show xs.length ≤ (i + 1) * 4 + (R.length - i) * 4 by rw [hl]; omega), List.append_nil]
  have hlt : (xs.take ((i + 1) * 4)).length = (i + 1) * 4 := by rw [List.length_take, hl]; omega
  rw [h1, setL_is _ _ _ (by rw [encD_len, List.length_append, hlt]; omega), encD_len]
  have e1 : (xs.take ((i + 1) * 4) ++ (R.drop i).flatMap encD).take (i * 4) = (R.take i).flatMap encD := by
    rw [List.take_append_of_le_length (by rw [hlt]; omega), List.take_take, Nat.min_eq_left (by omega), flatD_take, ← ht, List.take_take, Nat.min_eq_left (by omega)]
  have e2 : (xs.take ((i + 1) * 4) ++ (R.drop i).flatMap encD).drop (i * 4 + 4) = (R.drop i).flatMap encD := by
    rw [show i * 4 + 4 = (i + 1) * 4 by omega, List.drop_append_of_le_length (by rw [hlt]; omega), List.drop_eq_nil_of_le (by rw [hlt]; omega), List.nil_append]
  rw [e1, e2]
  simp [insR]
theorem own_longer {W : World} {base g n cap size : Nat} {e : TypeId} {xs : List Value} (h : W.ownsRow base e size (.slice (some ⟨g, 0, none⟩) n cap) n xs) (m : Nat) (hm : m ≤ cap) (hnm : n ≤ m) :
    ∃ ys, W.ownsRow base e size (.slice (some ⟨g, 0, none⟩) m cap) m ys ∧ ys.take (n * size) = xs := by
  rcases h.2 with ⟨h1, _⟩ | ⟨g', cap', cur, h1, hb, hg, h2, h3, h4, h5⟩
  · cases h1
  · cases h1
    have hx : m * size ≤ cap * size := Nat.mul_le_mul_right _ hm
    have hy : n * size ≤ m * size := Nat.mul_le_mul_right _ hnm
    exact ⟨cur.toList.take (m * size), ⟨by rw [List.length_take, Array.length_toList, h4]; omega, .inr ⟨g, cap, cur, rfl, hb, hg, hm, h3, h4, rfl⟩⟩, by rw [List.take_take, Nat.min_eq_left hy, h5]⟩
theorem own_block {W : World} {base g n cap size : Nat} {e : TypeId} {xs : List Value} (h : W.ownsRow base e size (.slice (some ⟨g, 0, none⟩) n cap) n xs) : ∃ cur, W.heap[g]? = some (.cells cur e (0, 0)) ∧ cur.size = cap * size := by
  rcases h.2 with ⟨h1, _⟩ | ⟨g', cap', cur, h1, hb, hg, h2, h3, h4, h5⟩
  · cases h1
  · cases h1; exact ⟨cur, hg, h4⟩
set_option maxHeartbeats 1000000 in
theorem insert_end (base bv : Nat) (vs : Value) (R : List D) (x : D) (w : World) (h : w.ownsRow base 130 4 vs R.length (R.flatMap encD)) (hR : R.length ≤ 100000) (hb : base ≤ w.heap.size)
    (hbv : w.heap[bv]? = some (.cells #[.int .i64 x.k, .int .i64 x.t, .int .i64 x.v, .int .i64 x.n] 130)) :
    Calls Tryz.prog 173 #[vs, .int .i64 R.length, .slice (some ⟨bv, 0, none⟩) 1 1] w fun e w' => ∃ v', e = .returned v' ∧ w'.ownsRow base 130 4 v' (R.length + 1) ((insR R R.length x).flatMap encD) ∧ w.grownBy w' vs.ownBlock ∧ (v'.ownBlock = vs.ownBlock ∨ v'.ownBlock = some w.heap.size) := by
  obtain ⟨i0, hi, hz0, hz1, hz2⟩ := info_parts info100
  have HO : Hid (w.ownsRow base 130 4 vs R.length (R.flatMap encD)) := h
  have HW : Hid (∀ j u, (encD x)[j]? = some u → w.cell? ((⟨bv, 0, none⟩ : Addr).add j) = some u) := World.news_of_block hbv
  have i1 : (R.length : Int) ≤ 100000 := by omega
  have i2 : (0 : Int) ≤ (R.length : Int) := by omega
  rcases Go.Joins.ownsRow_forms h with ⟨rfl, h0⟩ | ⟨gs, ck, rfl⟩
  · obtain rfl : R = [] := List.eq_nil_of_length_eq_zero h0
    clear h
    go_enter Tryz.func173, Tryz.ntmps173
    go_wp2_with (first
      | (refine wpList_append_lies _ rfl _ _ _ rfl base 130 i0 zD 4 32 Tryz.underlying67 hi hz0 hz1 hz2 rfl (by omega) (.slice none 0 0) 0 [] rfl HO.out ⟨bv, 0, none⟩ 1 1 (encD x) rfl rfl HW.out (encD_one x) (by omega) (by unfold maxLen; omega) (by omega) hb _ rfl ?_; intro g1 cap1 w1 hown1 hgrow1 hat1 hlt1)
      | fail)
    go_ret
    exact ⟨_, rfl, by simpa [insR] using hown1, hgrow1, hat1.elim (fun e => Or.inl e.symm) (fun e => Or.inr (by rw [e]; rfl))⟩
  · have hck : R.length ≤ ck := by
      rcases h.2 with ⟨h1, _⟩ | ⟨g', cap', cur, h1, _, _, h2, _⟩
      · cases h1
      · cases h1; exact h2
    obtain ⟨A, hA⟩ : ∃ A : Addr, (if ck = R.length then some (⟨gs, 0, none⟩ : Addr) else some ⟨gs, R.length * 4, none⟩) = some A := by
      by_cases e : ck = R.length
      · exact ⟨⟨gs, 0, none⟩, by simp [e]⟩
      · exact ⟨⟨gs, R.length * 4, none⟩, by simp [e]⟩
    clear h
    go_enter Tryz.func173, Tryz.ntmps173
    go_wp2_with (first
      | (refine wpList_append_lies _ rfl _ _ _ rfl base 130 i0 zD 4 32 Tryz.underlying67 hi hz0 hz1 hz2 rfl (by omega) (.slice (some ⟨gs, 0, none⟩) R.length ck) R.length (R.flatMap encD) rfl HO.out ⟨bv, 0, none⟩ 1 1 (encD x) rfl rfl HW.out (encD_one x) (by omega) (by unfold maxLen; omega) (by omega) hb _ rfl ?_; intro g1 cap1 w1 hown1 hgrow1 hat1 hlt1)
      | fail)
    go_ret
    exact ⟨_, rfl, by simpa [insR, List.flatMap_append] using hown1, hgrow1, hat1.elim (fun e => Or.inl e.symm) (fun e => Or.inr (by rw [e]; rfl))⟩
end Go.Proofs.YthfpipieboophaaGreatDoor

/- Package side: slices.Insert of one row where there is room. -/
namespace Go.Proofs.YthfpipieboophaaGreatDoor
open Go.Shelf Go.RowKit
set_option maxRecDepth 100000
theorem sizeOf100 (w : World) : (Go.sizeOf 130).run Tryz.prog w = .ok 4 w := by kernel_rfl
set_option maxHeartbeats 4000000 in
theorem insert_room (base bv gs ck i : Nat) (R : List D) (x : D) (w : World) (h : w.ownsRow base 130 4 (.slice (some ⟨gs, 0, none⟩) R.length ck) R.length (R.flatMap encD)) (hR : R.length ≤ 100000) (hi : i < R.length) (hroom : R.length + 1 ≤ ck)
    (hbv : w.heap[bv]? = some (.cells #[.int .i64 x.k, .int .i64 x.t, .int .i64 x.v, .int .i64 x.n] 130)) (hne : bv ≠ gs) :
    Calls Tryz.prog 173 #[.slice (some ⟨gs, 0, none⟩) R.length ck, .int .i64 i, .slice (some ⟨bv, 0, none⟩) 1 1] w fun e w' => e = .returned (.slice (some ⟨gs, 0, none⟩) (R.length + 1) ck) ∧ w'.ownsRow base 130 4 (.slice (some ⟨gs, 0, none⟩) (R.length + 1) ck) (R.length + 1) ((insR R i x).flatMap encD) ∧ w.grownBy w' (some gs) := by
  obtain ⟨cur, hcur, hcs⟩ := own_block h
  have hck : ck ≤ maxLen := by
    rcases h.2 with ⟨h1, _⟩ | ⟨g', cap', cur', h1, _, _, _, h3, _⟩
    · cases h1
    · cases h1; exact h3
  have hck2 : (ck : Int) ≤ 9223372036854775807 := by unfold maxLen at hck; omega
  obtain ⟨ys, hys, hyt⟩ := own_longer h (R.length + 1) hroom (by omega)
  have hcell : ∀ j u, (R.flatMap encD)[j]? = some u → w.cell? ⟨gs, j, none⟩ = some u := fun j u hu => by
    have := h.cells (g := gs) rfl j u hu
    rwa [add_at] at this
  have hsp : ∀ j, j < (R.length + 1) * 4 → (w.cell? ⟨gs, j, none⟩).isSome = true ∧ w.frozen? ⟨gs, j, none⟩ = false := fun j hj => by
    have hl : j < ys.length := by rw [hys.1]; exact hj
    have hc := hys.cells (g := gs) rfl j _ (List.getElem?_eq_getElem hl)
    rw [add_at] at hc
    exact ⟨by rw [hc]; rfl, Go.Joins.unfrozen_of_block hcur j⟩
  have hov : ∀ lb cb, (callFunc 245 #[.slice (some ⟨bv, 0, none⟩) 1 1, .slice (some ⟨gs, (i + 1) * 4, none⟩) lb cb]).run Tryz.prog w = .ok (.value (.bool false)) w := fun lb cb => by
    rw [run_callFunc_extern Tryz.func245 (by kernel_rfl) (by kernel_rfl) (by kernel_rfl) (e := Extern.SlicesOverlaps.overlaps #[67, 67] #[4]) (by kernel_rfl),
      Lib.run_overlaps_apart w 67 4 130 Tryz.underlying67 4 sizeOf100 ⟨bv, 0, none⟩ ⟨gs, (i + 1) * 4, none⟩ 1 1 lb cb hne 130 130 4 (ck * 4) (by simp [World.shape?, hbv]) (by simp [World.shape?, hcur, hcs]) (by omega) (Go.Joins.unfrozen_of_block hbv 0) (Go.Joins.unfrozen_of_block hbv 4)]
    rfl
  have hdl : ((R.drop i).flatMap encD).length = (R.length - i) * 4 := by rw [flatD_len, List.length_drop]
  have hcp1 : ∀ ty dc sc, (Builtin.copy_ #[67, 67] ty #[.slice (some ⟨gs, (i + 1) * 4, none⟩) (R.length - i) dc, .slice (some ⟨gs, i * 4, none⟩) (R.length + 1 - i) sc]).run Tryz.prog w.drew = .ok (goInt (Nat.min (R.length + 1 - i) (R.length - i))) (w.drew.setCells gs ((i + 1) * 4) ((R.drop i).flatMap encD)) := fun ty dc sc =>
    run_copy_k w.drew _ _ ty 130 4 gs ((i + 1) * 4) (R.length - i) dc ⟨gs, i * 4, none⟩ (R.length + 1 - i) sc ((R.drop i).flatMap encD) Tryz.underlying67 size100 (by rw [hdl]; simp only [Nat.min_def]; split <;> omega)
      (fun j v hj => by rw [Addr.add_lit]; exact hcell (i * 4 + j) v (by rwa [flatD_drop, List.getElem?_drop] at hj))
      (fun j hj => (hsp _ (by rw [hdl] at hj; omega)).1) (fun j hj => (hsp _ (by rw [hdl] at hj; omega)).2) (flatD_one _)
  obtain ⟨W1, hW1⟩ : ∃ W1, W1 = w.drew.setCells gs ((i + 1) * 4) ((R.drop i).flatMap encD) := ⟨_, rfl⟩
  have hO1 : W1.ownsRow base 130 4 (.slice (some ⟨gs, 0, none⟩) (R.length + 1) ck) (R.length + 1) (setL ys ((i + 1) * 4) ((R.drop i).flatMap encD)) := by rw [hW1]; exact own_setCells _ _ hys.drew
  have hG1 : w.grownBy W1 (some gs) := by rw [hW1]; exact grown_sets _ _ ⟨rfl, rfl, rfl, Nat.le_refl _, fun _ _ _ => rfl⟩
  have hsp1 : ∀ j, j < (R.length + 1) * 4 → (W1.cell? ⟨gs, j, none⟩).isSome = true ∧ W1.frozen? ⟨gs, j, none⟩ = false := fun j hj => by
    obtain ⟨c1, hc1, _⟩ := own_block hO1
    have hl : j < (setL ys ((i + 1) * 4) ((R.drop i).flatMap encD)).length := by rw [hO1.1]; exact hj
    have hc := hO1.cells (g := gs) rfl j _ (List.getElem?_eq_getElem hl)
    rw [add_at] at hc
    exact ⟨by rw [hc]; rfl, Go.Joins.unfrozen_of_block hc1 j⟩
  have hbv1 : W1.heap[bv]? = some (.cells #[.int .i64 x.k, .int .i64 x.t, .int .i64 x.v, .int .i64 x.n] 130) := (hG1.block bv (Array.getElem?_eq_some_iff.1 hbv).1 (fun e => hne (by cases e; rfl))).trans hbv
  have hcp2 : ∀ ty dc, (Builtin.copy_ #[67, 67] ty #[.slice (some ⟨gs, i * 4, none⟩) (R.length + 1 - i) dc, .slice (some ⟨bv, 0, none⟩) 1 1]).run Tryz.prog W1 = .ok (goInt (Nat.min 1 (R.length + 1 - i))) (W1.setCells gs (i * 4) (encD x)) := fun ty dc =>
    run_copy_k W1 _ _ ty 130 4 gs (i * 4) (R.length + 1 - i) dc ⟨bv, 0, none⟩ 1 1 (encD x) Tryz.underlying67 size100 (by rw [encD_len]; simp only [Nat.min_def]; split <;> omega)
      (World.news_of_block hbv1) (fun j hj => (hsp1 _ (by rw [encD_len] at hj; omega)).1) (fun j hj => (hsp1 _ (by rw [encD_len] at hj; omega)).2) (encD_one x)
  have HE : Hid ((W1.setCells gs (i * 4) (encD x)).ownsRow base 130 4 (.slice (some ⟨gs, 0, none⟩) (R.length + 1) ck) (R.length + 1) ((insR R i x).flatMap encD) ∧ w.grownBy (W1.setCells gs (i * 4) (encD x)) (some gs)) := by
    refine ⟨?_, grown_sets _ _ hG1⟩
    have := own_setCells (encD x) (i * 4) hO1
    rw [ins_cells R i x (by omega) ys hys.1 hyt] at this
    exact this
  rw [← hW1] at hcp1
  have i1 : (0 : Int) ≤ (i : Int) := by omega
  have i2 : (i : Int) ≤ (R.length : Int) := by omega
  have i3 : (R.length : Int) ≤ 100000 := by omega
  have i4 : ((i : Int) == (R.length : Int)) = false := by rw [beq_eq_false_iff_ne]; omega
  have i4' : ¬ ((i : Int) = (R.length : Int)) := by omega
  have i5 : ¬ ((ck : Int) < (R.length : Int) + 1) := by omega
  have i6 : (R.length : Int) + 1 ≤ (ck : Int) := by omega
  have hw1 : IntKind.i64.wrap ((i : Int) + 1) = (i : Int) + 1 := by rw [IntKind.wrap_i64]; omega
  have htn : ((i : Int) + 1).toNat = i + 1 := by omega
  have htl : ((R.length : Int) + 1).toNat = R.length + 1 := by omega
  have hb1 : (0 : Int) ≤ (i : Int) + 1 := by omega
  have hb2 : (i : Int) + 1 ≤ (R.length : Int) + 1 := by omega
  have hb3 : (i : Int) ≤ (R.length : Int) + 1 := by omega
  have c1 : ¬ (ck = i + 1) := by omega
  have c2 : ¬ (ck = i) := by omega
  have c3 : i ≤ R.length := by omega
  clear hsp hsp1 hcell hO1 hG1 hbv1 hys hyt hcur hW1 h hbv
  go_enter Tryz.func173, Tryz.ntmps173
  go_wp2_with (simp only [hov])
  go_region_law (refine step_copy_runI rfl _ _ 67 67 rfl _ _ (by simp [Act.eval, Act.put]) (by simp [Act.eval, Act.put]) (hcp1 _ _ _) ?_)
  all_goals go_wp2_with (first | (refine wpList_copy_runI _ rfl _ _ 67 67 rfl _ _ rfl rfl (hcp2 _ _) ?_) | fail)
  all_goals go_ret
  all_goals exact ⟨rfl, HE.out.1, HE.out.2⟩
end Go.Proofs.YthfpipieboophaaGreatDoor

/- Package side: slices.Insert of one row where there is no room: a new row. -/
namespace Go.Proofs.YthfpipieboophaaGreatDoor
open Go.Shelf Go.RowKit Go.Lib
set_option maxRecDepth 100000
theorem grow_cells (R : List D) (i : Nat) (x : D) (hi : i ≤ R.length) (zs : List Value) (hl : zs.length = (R.length + 1 - i) * 4) :
    setL (setL ((R.take i).flatMap encD ++ zs) (i * 4) (encD x)) ((i + 1) * 4) ((R.drop i).flatMap encD) = (insR R i x).flatMap encD := by
  have hd : ((R.drop i).flatMap encD).length = (R.length - i) * 4 := by rw [flatD_len, List.length_drop]
  have ht : ((R.take i).flatMap encD).length = i * 4 := by rw [flatD_len, List.length_take, Nat.min_eq_left hi]
  have h1 : setL ((R.take i).flatMap encD ++ zs) (i * 4) (encD x) = (R.take i).flatMap encD ++ encD x ++ zs.drop 4 := by
    rw [setL_is _ _ _ (by rw [encD_len, List.length_append, ht, hl]; omega), encD_len, List.take_append_of_le_length (by rw [ht]; exact Nat.le_refl _), List.take_of_length_le (by rw [ht]; exact Nat.le_refl _), List.drop_append, ht, List.drop_eq_nil_of_le (show ((R.take i).flatMap encD).length ≤ i * 4 + 4 by rw [ht]; omega), List.nil_append, show i * 4 + 4 - i * 4 = 4 by omega]
  have ha : ((R.take i).flatMap encD ++ encD x).length = (i + 1) * 4 := by rw [List.length_append, ht, encD_len]; omega
  rw [h1, setL_is _ _ _ (by rw [hd, List.length_append, ha, List.length_drop, hl]; omega), List.take_append_of_le_length (by rw [ha]; exact Nat.le_refl _), List.take_of_length_le (by rw [ha]; exact Nat.le_refl _), List.drop_eq_nil_of_le (show ((R.take i).flatMap encD ++ encD x ++ zs.drop 4).length ≤ (i + 1) * 4 + ((R.drop i).flatMap encD).length by rw [List.length_append, ha, List.length_drop, hl, hd]; omega), List.append_nil]
  simp [insR, List.append_assoc]
set_option maxHeartbeats 4000000 in
theorem insert_grow (base bv gs ck i : Nat) (R : List D) (x : D) (w : World) (h : w.ownsRow base 130 4 (.slice (some ⟨gs, 0, none⟩) R.length ck) R.length (R.flatMap encD)) (hR : R.length ≤ 100000) (hi : i < R.length) (hroom : ck < R.length + 1) (hbase : base ≤ w.heap.size)
    (hbv : w.heap[bv]? = some (.cells #[.int .i64 x.k, .int .i64 x.t, .int .i64 x.v, .int .i64 x.n] 130)) :
    Calls Tryz.prog 173 #[.slice (some ⟨gs, 0, none⟩) R.length ck, .int .i64 i, .slice (some ⟨bv, 0, none⟩) 1 1] w fun e w' => ∃ G, e = .returned (.slice (some ⟨w.heap.size, 0, none⟩) (R.length + 1) G) ∧ w'.ownsRow base 130 4 (.slice (some ⟨w.heap.size, 0, none⟩) (R.length + 1) G) (R.length + 1) ((insR R i x).flatMap encD) ∧ w.grownBy w' none := by
  obtain ⟨i0, hi0, hz0, hzs, hzb⟩ := info_parts info100
  have hck : R.length ≤ ck := by
    rcases h.2 with ⟨h1, _⟩ | ⟨g', cap', cur', h1, _, _, h2, _⟩
    · cases h1
    · cases h1; exact h2
  have hgs : gs < w.heap.size := (h.lt gs rfl).2
  have hcell : ∀ j u, (R.flatMap encD)[j]? = some u → w.cell? ⟨gs, j, none⟩ = some u := fun j u hu => by
    have := h.cells (g := gs) rfl j u hu
    rwa [add_at] at this
  have hkk : (R.length : Int) + 1 - (i : Int) = ((R.length + 1 - i : Nat) : Int) := by omega
  have hik : i + (R.length + 1 - i) = R.length + 1 := by omega
  have hold : (Builtin.firstCells i0.size i (.slice (some ⟨gs, 0, none⟩) i ck)).run Tryz.prog w.drew = .ok ((R.take i).flatMap encD).toArray w.drew := by
    rw [hzs]
    exact run_firstCells_some w.drew 4 i ⟨gs, 0, none⟩ i ck ((R.take i).flatMap encD) (by rw [flatD_len, List.length_take]; congr 1; omega) (fun j v hj => by
      rw [add_at]
      rw [flatD_take] at hj
      have hj2 := (List.getElem?_eq_some_iff.1 hj).1
      rw [List.length_take] at hj2
      rw [List.getElem?_take_of_lt (by omega)] at hj
      exact hcell j v hj)
  obtain ⟨G, hG⟩ : ∃ G, G = grownCap w (R.length + 1) ck 130 := ⟨_, rfl⟩
  obtain ⟨W1, hW1⟩ : ∃ W1, W1 = w.drew.alloc (.cells (((R.take i).flatMap encD).toArray ++ Builtin.zeroCells zD.cells (R.length + 1 - i) ++ Builtin.zeroCells zD.cells (G - (R.length + 1))) 130) := ⟨_, rfl⟩
  have hrz : ∀ ty, (Builtin.append_ #[67, 3] ty #[.slice (some ⟨gs, 0, none⟩) i ck, .int .i64 ((R.length : Int) + 1 - (i : Int))]).run Tryz.prog w = .ok (.slice (some ⟨w.heap.size, 0, none⟩) (R.length + 1) G) W1 := fun ty => by
    have h := Lib.run_append_grow_zeros w 67 3 ty 130 i0 zD .i64 .i64 Tryz.underlying67 Tryz.underlying3 hi0 hz0 (some ⟨gs, 0, none⟩) i ck ((R.take i).flatMap encD) hold (R.length + 1 - i) (by omega) (by rw [hzs]; omega) (by omega) (by omega) (by rw [hzb]; omega) (by rw [hzb, hik]; exact growslice_fits_wide hroom (by omega))
    rw [hik] at h
    rw [hkk, hW1, hG]
    exact h
  have hGn : R.length + 1 ≤ G := by rw [hG]; exact grownCap_ge w _ _ _
  have hGm : G ≤ maxLen := by rw [hG]; exact grownCap_le_maxLen w (R.length + 1) ck 130 (by unfold maxLen; omega)
  have hzl := zc_len (R.length + 1 - i)
  have hO1 : W1.ownsRow base 130 4 (.slice (some ⟨w.heap.size, 0, none⟩) (R.length + 1) G) (R.length + 1) ((R.take i).flatMap encD ++ (Builtin.zeroCells zD.cells (R.length + 1 - i)).toList) := by
    have ht : ((R.take i).flatMap encD).length = i * 4 := by rw [flatD_len, List.length_take, Nat.min_eq_left (by omega)]
    refine ⟨by rw [List.length_append, ht, hzl]; omega, .inr ⟨w.heap.size, G, _, rfl, hbase, by rw [hW1]; exact heap_alloc_new w.drew _, hGn, hGm, ?_, ?_⟩⟩
    · have z1 : (Builtin.zeroCells zD.cells (R.length + 1 - i)).size = (R.length + 1 - i) * 4 := by rw [← Array.length_toList]; exact hzl
      have z2 : (Builtin.zeroCells zD.cells (G - (R.length + 1))).size = (G - (R.length + 1)) * 4 := by rw [← Array.length_toList]; exact zc_len _
      rw [Array.size_append, Array.size_append, List.size_toArray, ht, z1, z2]; omega
    · have hA : ((R.take i).flatMap encD ++ (Builtin.zeroCells zD.cells (R.length + 1 - i)).toList).length = (R.length + 1) * 4 := by rw [List.length_append, ht, hzl]; omega
      rw [Array.toList_append, Array.toList_append, List.toList_toArray, List.take_append_of_le_length (by rw [hA]; exact Nat.le_refl _), List.take_of_length_le (by rw [hA]; exact Nat.le_refl _)]
  have hG1 : w.grownBy W1 none := by rw [hW1]; exact ⟨rfl, rfl, rfl, by simp, fun k hk _ => Below.heap_alloc _ _ _ hk⟩
  have there : ∀ {W : World} {xs : List Value}, W.ownsRow base 130 4 (.slice (some ⟨w.heap.size, 0, none⟩) (R.length + 1) G) (R.length + 1) xs → ∀ j, j < (R.length + 1) * 4 → (W.cell? ⟨w.heap.size, j, none⟩).isSome = true ∧ W.frozen? ⟨w.heap.size, j, none⟩ = false := fun {W xs} hO j hj => by
    obtain ⟨c1, hc1, _⟩ := own_block hO
    have hl : j < xs.length := by rw [hO.1]; exact hj
    have hc := hO.cells (g := w.heap.size) rfl j _ (List.getElem?_eq_getElem hl)
    rw [add_at] at hc
    exact ⟨by rw [hc]; rfl, Go.Joins.unfrozen_of_block hc1 j⟩
  have hbw : bv < w.heap.size := (Array.getElem?_eq_some_iff.1 hbv).1
  have hbv1 : W1.heap[bv]? = some (.cells #[.int .i64 x.k, .int .i64 x.t, .int .i64 x.v, .int .i64 x.n] 130) := (hG1.block bv hbw (by simp)).trans hbv
  obtain ⟨W2, hW2⟩ : ∃ W2, W2 = W1.setCells w.heap.size (i * 4) (encD x) := ⟨_, rfl⟩
  have hcpA : ∀ ty dc, (Builtin.copy_ #[67, 67] ty #[.slice (some ⟨w.heap.size, i * 4, none⟩) (R.length + 1 - i) dc, .slice (some ⟨bv, 0, none⟩) 1 1]).run Tryz.prog W1 = .ok (goInt (Nat.min 1 (R.length + 1 - i))) W2 := fun ty dc => by
    rw [hW2]
    exact run_copy_k W1 _ _ ty 130 4 w.heap.size (i * 4) (R.length + 1 - i) dc ⟨bv, 0, none⟩ 1 1 (encD x) Tryz.underlying67 size100 (by rw [encD_len]; simp only [Nat.min_def]; split <;> omega)
      (World.news_of_block hbv1) (fun j hj => (there hO1 _ (by rw [encD_len] at hj; omega)).1) (fun j hj => (there hO1 _ (by rw [encD_len] at hj; omega)).2) (encD_one x)
  have hO2 : W2.ownsRow base 130 4 (.slice (some ⟨w.heap.size, 0, none⟩) (R.length + 1) G) (R.length + 1) (setL ((R.take i).flatMap encD ++ (Builtin.zeroCells zD.cells (R.length + 1 - i)).toList) (i * 4) (encD x)) := by rw [hW2]; exact own_setCells _ _ hO1
  have hG2 : W1.grownBy W2 (some w.heap.size) := by rw [hW2]; exact grown_sets _ _ ⟨rfl, rfl, rfl, Nat.le_refl _, fun _ _ _ => rfl⟩
  have hdl : ((R.drop i).flatMap encD).length = (R.length - i) * 4 := by rw [flatD_len, List.length_drop]
  have hgs2 : W2.heap[gs]? = w.heap[gs]? := (hG2.block gs (Nat.lt_of_lt_of_le hgs hG1.size) (by simp; omega)).trans (hG1.block gs hgs (by simp))
  obtain ⟨W3, hW3⟩ : ∃ W3, W3 = W2.drew.setCells w.heap.size ((i + 1) * 4) ((R.drop i).flatMap encD) := ⟨_, rfl⟩
  have hcpB : ∀ ty dc sc, (Builtin.copy_ #[67, 67] ty #[.slice (some ⟨w.heap.size, (i + 1) * 4, none⟩) (R.length - i) dc, .slice (some ⟨gs, i * 4, none⟩) (R.length - i) sc]).run Tryz.prog W2.drew = .ok (goInt (Nat.min (R.length - i) (R.length - i))) W3 := fun ty dc sc => by
    rw [hW3]
    exact run_copy_k W2.drew _ _ ty 130 4 w.heap.size ((i + 1) * 4) (R.length - i) dc ⟨gs, i * 4, none⟩ (R.length - i) sc ((R.drop i).flatMap encD) Tryz.underlying67 size100 (by rw [hdl]; simp only [Nat.min_def]; split <;> omega)
      (fun j v hj => by
        rw [Addr.add_lit]
        have := hcell (i * 4 + j) v (by rwa [flatD_drop, List.getElem?_drop] at hj)
        rw [← this]
        exact World.cell?_of_block hgs2)
      (fun j hj => (there hO2 _ (by rw [hdl] at hj; omega)).1) (fun j hj => (there hO2 _ (by rw [hdl] at hj; omega)).2) (flatD_one _)
  have HE : Hid (W3.ownsRow base 130 4 (.slice (some ⟨w.heap.size, 0, none⟩) (R.length + 1) G) (R.length + 1) ((insR R i x).flatMap encD) ∧ w.grownBy W3 none) := by
    have h3 := own_setCells ((R.drop i).flatMap encD) ((i + 1) * 4) hO2.drew
    rw [grow_cells R i x (by omega) _ hzl] at h3
    have hg3 : W1.grownBy W3 (some w.heap.size) := by rw [hW3]; exact grown_sets _ _ (hG2.trans ⟨rfl, rfl, rfl, Nat.le_refl _, fun _ _ _ => rfl⟩)
    refine ⟨by rw [hW3]; exact h3, ⟨hg3.os.trans hG1.os, hg3.tape.trans hG1.tape, hg3.output.trans hG1.output, Nat.le_trans hG1.size hg3.size, fun k hk hn => (hg3.block k (Nat.lt_of_lt_of_le hk hG1.size) (by simp; omega)).trans (hG1.block k hk hn)⟩⟩
  have hG63 : (G : Int) ≤ 9223372036854775807 := by unfold maxLen at hGm; omega
  have i1 : (0 : Int) ≤ (i : Int) := by omega
  have i2 : (i : Int) ≤ (R.length : Int) := by omega
  have i3 : (R.length : Int) ≤ 100000 := by omega
  have i4 : ((i : Int) == (R.length : Int)) = false := by rw [beq_eq_false_iff_ne]; omega
  have i4' : ¬ ((i : Int) = (R.length : Int)) := by omega
  have i5 : (ck : Int) < (R.length : Int) + 1 := by omega
  have i6 : (i : Int) ≤ (R.length : Int) + 1 := by omega
  have hw1 : IntKind.i64.wrap ((i : Int) + 1) = (i : Int) + 1 := by rw [IntKind.wrap_i64]; omega
  have htn : ((i : Int) + 1).toNat = i + 1 := by omega
  have hb1 : (0 : Int) ≤ (i : Int) + 1 := by omega
  have hb2 : (i : Int) + 1 ≤ (R.length : Int) + 1 := by omega
  have c1 : ¬ (G = i + 1) := by omega
  have c2 : ¬ (G = i) := by omega
  have c3 : i ≤ R.length := by omega
  have c4 : ¬ (ck = i) := by omega
  have c5 : i ≤ ck := by omega
  clear hcell hO1 hG1 hbv1 hO2 hG2 hW1 hW2 hW3 h hbv there hold hgs2 hG hik hkk
  go_enter Tryz.func173, Tryz.ntmps173
  go_wp2_with (first
    | (refine Lib.wpList_append_run _ rfl _ _ _ _ rfl _ _ rfl rfl _ _ (hrz _) ?_)
    | (refine wpList_copy_runI _ rfl _ _ 67 67 rfl _ _ rfl rfl (hcpA _ _) ?_)
    | fail)
  go_region_law (refine step_copy_runI rfl _ _ 67 67 rfl _ _ (by simp [Act.eval, Act.put]) (by simp [Act.eval, Act.put]) (hcpB _ _ _) ?_)
  all_goals go_wp2
  all_goals go_ret
  all_goals exact ⟨G, rfl, HE.out.1, HE.out.2⟩
end Go.Proofs.YthfpipieboophaaGreatDoor

/- Package side: slices.Insert of one row; row.Good; Add. -/
namespace Go.Proofs.YthfpipieboophaaGreatDoor
open Go.Shelf Go.RowKit
set_option maxRecDepth 100000
theorem near_any (n low high : Int) (b1 b2 : Addr) (w : World) (c1 : w.cell? b1 = some (.int .i64 low)) (c2 : w.cell? b2 = some (.int .i64 high)) :
    Calls Tryz.prog 242 #[.int .i64 n, .pointer (some b1), .pointer (some b2)] w fun e w' => e = .returned (.bool (inI low high n)) ∧ w' = w := by
  by_cases h1 : low ≤ n
  · go_enter Tryz.func242, Tryz.ntmps242
    go_wp2
    go_ret
    exact ⟨ret_bool (by simp [inI, h1]), rfl⟩
  · go_enter Tryz.func242, Tryz.ntmps242
    go_wp2
    go_ret
    exact ⟨ret_bool (by simp [inI]; omega), rfl⟩
set_option maxHeartbeats 400000 in
theorem within_any (low high : Int) (w : World) :
    Calls Tryz.prog 169 #[.int .i64 low, .int .i64 high] w fun e w' => e = .returned (.func (.func 242) #[] #[.pointer (some ⟨w.heap.size, 0, none⟩), .pointer (some ⟨w.heap.size + 1, 0, none⟩)]) ∧ w' = (w.alloc (.cells #[.int .i64 low] 3)).alloc (.cells #[.int .i64 high] 3) := by
  go_enter Tryz.func169, Tryz.ntmps169
  go_wp2
  go_ret
  exact ⟨rfl, rfl⟩
set_option maxHeartbeats 400000 in
theorem good_any (k t v : Int) (w : World) :
    Calls Tryz.prog 96 #[.agg #[.int .i64 k, .int .i64 t, .int .i64 v]] w fun e w' => e = .returned (.bool (goodI k t v)) ∧ Below w.heap.size w w' := by
  cases h1 : inI (-1099511627776) 1099511627776 k
  · go_enter Tryz.func96, Tryz.ntmps96
    go_wp2_with (first | (go_at_call 242; go_must (refine (near_any _ (-1099511627776) 1099511627776 _ _ _ ?_ ?_).mono ?_; (go_simp); (go_simp); rintro e w' ⟨rfl, rfl⟩)) | (go_at_call 169; refine (within_any _ _ _).mono ?_; rintro e w' ⟨rfl, rfl⟩))
    go_ret
    exact ⟨ret_bool (by simp [goodI, h1]), (Go.Joins.below_alloc3 _ _ _ _)⟩
  · cases h2 : inI (-1099511627776) 1099511627776 t
    · go_enter Tryz.func96, Tryz.ntmps96
      go_wp2_with (first | (go_at_call 242; go_must (refine (near_any _ (-1099511627776) 1099511627776 _ _ _ ?_ ?_).mono ?_; (go_simp); (go_simp); rintro e w' ⟨rfl, rfl⟩)) | (go_at_call 169; refine (within_any _ _ _).mono ?_; rintro e w' ⟨rfl, rfl⟩))
      go_ret
      exact ⟨ret_bool (by simp [goodI, h1, h2]), (Go.Joins.below_alloc3 _ _ _ _)⟩
    · go_enter Tryz.func96, Tryz.ntmps96
      go_wp2_with (first | (go_at_call 242; go_must (refine (near_any _ (-1099511627776) 1099511627776 _ _ _ ?_ ?_).mono ?_; (go_simp); (go_simp); rintro e w' ⟨rfl, rfl⟩)) | (go_at_call 169; refine (within_any _ _ _).mono ?_; rintro e w' ⟨rfl, rfl⟩))
      go_ret
      exact ⟨ret_bool (by simp [goodI, h1, h2]), (Go.Joins.below_alloc3 _ _ _ _)⟩
theorem insert_any (base bv i : Nat) (vs : Value) (R : List D) (x : D) (w : World) (h : w.ownsRow base 130 4 vs R.length (R.flatMap encD)) (hR : R.length ≤ 100000) (hi : i ≤ R.length) (hbase : base ≤ w.heap.size)
    (hbv : w.heap[bv]? = some (.cells #[.int .i64 x.k, .int .i64 x.t, .int .i64 x.v, .int .i64 x.n] 130)) (hne : vs.ownBlock ≠ some bv) :
    Calls Tryz.prog 173 #[vs, .int .i64 i, .slice (some ⟨bv, 0, none⟩) 1 1] w fun e w' => ∃ v', e = .returned v' ∧ w'.ownsRow base 130 4 v' (R.length + 1) ((insR R i x).flatMap encD) ∧ w.grownBy w' vs.ownBlock ∧ (v'.ownBlock = vs.ownBlock ∨ v'.ownBlock = some w.heap.size) := by
  by_cases e : i = R.length
  · subst e; exact insert_end base bv vs R x w h hR hbase hbv
  · obtain ⟨gs, ck, rfl⟩ := Go.Joins.ownsRow_form h (by omega)
    by_cases hroom : R.length + 1 ≤ ck
    · refine (insert_room base bv gs ck i R x w h hR (by omega) hroom hbv (fun e => hne (by rw [e]; rfl))).mono ?_
      rintro e w' ⟨rfl, h1, h2⟩
      exact ⟨_, rfl, h1, h2, Or.inl rfl⟩
    · refine (insert_grow base bv gs ck i R x w h hR (by omega) (by omega) hbase hbv).mono ?_
      rintro e w' ⟨G, rfl, h1, h2⟩
      exact ⟨_, rfl, h1, ⟨h2.os, h2.tape, h2.output, h2.size, fun k hk _ => h2.block k hk (by simp)⟩, Or.inr rfl⟩
end Go.Proofs.YthfpipieboophaaGreatDoor

/- Package side: Add, where it refuses. -/
namespace Go.Proofs.YthfpipieboophaaGreatDoor
open Go.Shelf Go.RowKit
set_option maxRecDepth 100000
theorem rbox_cells {W : World} {B : Nat} {k t v : Int} (h : W.heap[B]? = some (.cells #[.int .i64 k, .int .i64 t, .int .i64 v] 37)) : W.cell? ⟨B, 0, none⟩ = some (.int .i64 k) ∧ W.cell? ⟨B, 1, none⟩ = some (.int .i64 t) ∧ W.cell? ⟨B, 2, none⟩ = some (.int .i64 v) := by
  refine ⟨?_, ?_, ?_⟩ <;> (rw [Go.Joins.cell_of_block h]; rfl)
end Go.Proofs.YthfpipieboophaaGreatDoor

/- Package side: Add, where it takes. -/
namespace Go.Proofs.YthfpipieboophaaGreatDoor
open Go.Shelf Go.RowKit
set_option maxRecDepth 100000
theorem wr64 {n : Int} (h0 : -9223372036854775808 ≤ n) (h1 : n ≤ 9223372036854775807) : IntKind.i64.wrap n = n := by rw [IntKind.wrap_i64]; omega
def loadRows : Op := .load 67 (.tmp 27)
abbrev rowB (k t v met : Int) : Obj := .cells #[.int .i64 k, .int .i64 t, .int .i64 v, .int .i64 met] 130
theorem below_drew {B : Nat} {w w1 : World} (h : Below B w w1) : Below B w w1.drew := ⟨h.os, h.tape, h.output, h.size, h.block⟩
structure Amid (w : World) (k t v : Int) (W : World) : Prop where
  low : Below w.heap.size w W
  box : W.heap[w.heap.size]? = some (.cells #[.int .i64 k, .int .i64 t, .int .i64 v] 37)
theorem Amid.go {w : World} {k t v : Int} {W W' : World} (h : Amid w k t v W) (hb : Below W.heap.size W W') : Amid w k t v W' :=
  ⟨h.low.trans (hb.mono h.low.size), (hb.block _ (Array.getElem?_eq_some_iff.1 h.box).1).trans h.box⟩
theorem Amid.cells {w : World} {k t v : Int} {W : World} (h : Amid w k t v W) : W.cell? ⟨w.heap.size, 0, none⟩ = some (.int .i64 k) ∧ W.cell? ⟨w.heap.size, 1, none⟩ = some (.int .i64 t) ∧ W.cell? ⟨w.heap.size, 2, none⟩ = some (.int .i64 v) := rbox_cells h.box
theorem Amid.rows {w : World} {k t v : Int} {W : World} (h : Amid w k t v W) {base b o : Nat} {v0 : Value} {R : List D} (hS : SideAt w base b o v0 R) : W.cell? ⟨b, o, none⟩ = some v0 := (hS.below h.low).cell.1
set_option maxHeartbeats 4000000 in
theorem side_add_ok (base b o : Nat) (v0 : Value) (R : List D) (k t v met : Int) (w : World) (h : SideAt w base b o v0 R) (hs : SortedR R) (hR : R.length < 300) (hbase : base ≤ w.heap.size) (hg : goodI k t v = true) (hm : 0 ≤ met) :
    Calls Tryz.prog 104 #[.pointer (some ⟨b, o, none⟩), .agg #[.int .i64 k, .int .i64 t, .int .i64 v], .int .i64 met] w fun e w' => e = .returned .nilIface ∧ ∃ v', SideAt w' base b o v' (insR R (posR k (t + 1) R) ⟨k, t, v, met⟩) ∧ KeepS b o v' v0.ownBlock w w' ∧ (v'.ownBlock = v0.ownBlock ∨ ∃ g, v'.ownBlock = some g ∧ w.heap.size ≤ g) := by
  have hgo := good_any k t v (w.alloc (.cells #[.int .i64 k, .int .i64 t, .int .i64 v] 37))
  rw [hg] at hgo
  have HA : Hid (SideAt w base b o v0 R) := h
  have hlt := h.lt
  have hwr : IntKind.i64.wrap (t + 1) = t + 1 := by
    simp [goodI, inI] at hg
    exact wr64 (by omega) (by omega)
  have HF : Hid (∀ W, Amid w k t v W → Calls Tryz.prog 171 #[.pointer (some ⟨b, o, none⟩), .int .i64 k, .int .i64 (IntKind.i64.wrap (t + 1))] W fun e w' => e = .returned (.int .i64 (posR k (t + 1) R)) ∧ Amid w k t v w' ∧ Below W.heap.size W w') := by
    intro W hW
    rw [hwr]
    refine (first_any base b o v0 R k (t + 1) W (h.below hW.low) hs (by omega)).mono ?_
    rintro e w' ⟨rfl, hb⟩
    exact ⟨rfl, hW.go hb, hb⟩
  have HI : Hid (∀ W bv, Amid w k t v W → W.heap[bv]? = some (rowB k t v met) → w.heap.size ≤ bv → Calls Tryz.prog 173 #[v0, .int .i64 (posR k (t + 1) R), .slice (some ⟨bv, 0, none⟩) 1 1] W fun e w' => ∃ v', e = .returned v' ∧ (w'.cell? ⟨b, o, none⟩ = some v0 ∧ w'.frozen? ⟨b, o, none⟩ = false) ∧ (w'.cell? ⟨w.heap.size, 0, none⟩ = some (.int .i64 k) ∧ w'.cell? ⟨w.heap.size, 1, none⟩ = some (.int .i64 t) ∧ w'.cell? ⟨w.heap.size, 2, none⟩ = some (.int .i64 v)) ∧ (∃ oa n c, v' = .slice oa n c) ∧
      Hid (SideAt (w'.setCell ⟨b, o, none⟩ v') base b o v' (insR R (posR k (t + 1) R) ⟨k, t, v, met⟩) ∧ KeepS b o v' v0.ownBlock w (w'.setCell ⟨b, o, none⟩ v') ∧ (v'.ownBlock = v0.ownBlock ∨ ∃ g, v'.ownBlock = some g ∧ w.heap.size ≤ g))) := by
    intro W bv hW hbv hle
    refine (insert_any base bv (posR k (t + 1) R) v0 R ⟨k, t, v, met⟩ W (h.below hW.low).row (by omega) (pos_le _ _ _) (Nat.le_trans hbase hW.low.size) hbv (fun e => by have := (h.row.lt _ e).2; omega)).mono ?_
    rintro e w' ⟨v', rfl, h1, h2, h3⟩
    have hcell : w'.heap[b]? = w.heap[b]? := (grown_of hW.low h2).block b hlt (fun e => h.own e.symm)
    have hne : v'.ownBlock ≠ some b := by
      rcases h3 with h3 | h3
      · rw [h3]; exact h.own
      · rw [h3]; intro e; cases e; have := hW.low.size; omega
    have hbx := rbox_cells ((h2.block w.heap.size (Array.getElem?_eq_some_iff.1 hW.box).1 (fun e => by have := (h.row.lt _ e.symm).2; omega)).trans hW.box)
    obtain ⟨oa, c, e⟩ := rowv_form h1
    refine ⟨v', rfl, ⟨(World.cell?_of_block (w := w) (a := ⟨b, o, none⟩) hcell).trans h.cell.1, (World.frozen?_of_block (w := w) (a := ⟨b, o, none⟩) hcell).trans h.cell.2⟩, hbx, ⟨oa, _, c, e⟩, ?_⟩
    have hst := side_stored h (R' := insR R (posR k (t + 1) R) ⟨k, t, v, met⟩) (by rw [insR_len]; exact h1) hne (grown_of hW.low h2)
    exact ⟨hst.1, hst.2, h3.imp id (fun e => ⟨_, e, hW.low.size⟩)⟩
  obtain ⟨oa, cv, rfl⟩ := h.form
  have i1 : ¬ (300 : Int) ≤ (R.length : Int) := by omega
  have i2 : ¬ (met < 0) := by omega
  clear h hs hwr
  generalize hp : posR k (t + 1) R = p at *
  clear hp
  go_enter Tryz.func104, Tryz.ntmps104
  go_wp2_with (go_at_call 96; refine hgo.mono ?_; rintro e w1 ⟨rfl, hb1⟩; have A1 : Hid (Amid w k t v w1) := (show Amid w k t v w1 from ⟨(Go.Joins.below_alloc1 w _).trans (hb1.mono (by simp)), (hb1.block _ (by simp)).trans (heap_alloc_new _ _)⟩); have hc1 := A1.out.rows HA.out; clear hb1)
  clear hgo
  have A2 : Hid (Amid w k t v w1.drew) := (show Amid w k t v w1.drew from ⟨below_drew A1.out.low, A1.out.box⟩)
  have A3 : Hid (Amid w k t v (w1.drew.alloc (rowB k t v met)) ∧ (w1.drew.alloc (rowB k t v met)).heap[w1.heap.size]? = some (rowB k t v met)) := ⟨A2.out.go (Go.Joins.below_alloc1 _ _), heap_alloc_new _ _⟩
  have hc3 : (w1.drew.alloc (rowB k t v met)).cell? ⟨b, o, none⟩ = some (.slice oa R.length cv) := A3.out.1.rows HA.out
  have hc2 := A2.out.rows HA.out
  have hx1 := A1.out.cells
  have hl1 : w.heap.size ≤ w1.heap.size := A1.out.low.size
  have hq1 : b < w1.heap.size := by omega
  have hq2 : ¬ (b = w1.heap.size) := by omega
  have hne1 : ¬ (b = w.heap.size) := by omega
  have hne2 : ¬ (w.heap.size = b) := by omega
  have hml : loadRows = Op.load 67 (.tmp 27) := rfl
  rw [← hml]
  go_region_held3 (fun W => W.cell? ⟨w.heap.size, 0, none⟩ = some (.int .i64 k) ∧ W.cell? ⟨w.heap.size, 1, none⟩ = some (.int .i64 t) ∧ W.cell? ⟨w.heap.size, 2, none⟩ = some (.int .i64 v)) (first | (go_keep; done) | fail) (first
    | (go_at_call 171; refine (HF.out _ A2.out).mono ?_; rintro e w2 ⟨rfl, h2, h3⟩; have A4 : Hid (Amid w k t v w2 ∧ Amid w k t v (w2.alloc (rowB k t v met)) ∧ (w2.alloc (rowB k t v met)).heap[w2.heap.size]? = some (rowB k t v met)) := ⟨h2, h2.go (Go.Joins.below_alloc1 _ _), heap_alloc_new _ _⟩; have hx4 := h2.cells; have hc4 := h2.rows HA.out; have hc5 := A4.out.2.1.rows HA.out; have hl4 := h2.low.size; have hq3 : b < w2.heap.size := Nat.lt_of_lt_of_le hlt hl4; have hq4 : ¬ (b = w2.heap.size) := Nat.ne_of_lt hq3; clear h2 h3)
    | (go_at_call 171; refine (HF.out _ A3.out.1).mono ?_; rintro e w2 ⟨rfl, h2, h3⟩; have A4 : Hid (Amid w k t v w2 ∧ w2.heap[w1.heap.size]? = some (rowB k t v met)) := ⟨h2, (h3.block _ (by simp)).trans A3.out.2⟩; have hx4 := h2.cells; have hc4 := h2.rows HA.out; clear h2 h3)
    | (go_at_call 173; refine (HI.out _ _ A4.out.2.1 A4.out.2.2 hl4).mono ?_; rintro e w5 ⟨v5, rfl, hc6, hx6, ⟨o5, n5, c5, rfl⟩, H5⟩)
    | (go_at_call 173; refine (HI.out _ _ A4.out.1 A4.out.2 hl1).mono ?_; rintro e w5 ⟨v5, rfl, hc6, hx6, ⟨o5, n5, c5, rfl⟩, H5⟩)
    | fail)
  all_goals (go_wp2; go_ret; exact ⟨rfl, _, H5.out⟩)
end Go.Proofs.YthfpipieboophaaGreatDoor
