/- estuarylaw.drop: one that is there goes out of the document's list; of one that is not there nothing changes. -/
import Derived.Test.YtgffodmipbefpaaDoorGpc
import Derived.Laws.AppendOwnNone
import Derived.Deep.AppendLies
import Derived.Deep.RegionLaw
namespace Go.Proofs.YtgffodmipbefpaaDoor
open Go.RowKit
set_option maxRecDepth 100000

theorem eq_out (x y : O) (w : World) : (binOp .eql 37 (vO x) (vO y)).run Tryd.prog w = .ok (.bool (decide (x = y))) w := by
  have e : decide (x = y) = (x.k == y.k && (x.lk == y.lk && (x.lt == y.lt && (x.lv == y.lv && (x.rk == y.rk && (x.rt == y.rt && (x.rv == y.rv && (x.hl == y.hl && (x.hr == y.hr))))))))) := by
    cases x; cases y
    rw [Bool.eq_iff_iff]; simp
  rw [e]
  unfold vO
  by_cases hk : x.k = y.k
  · by_cases hlk : x.lk = y.lk
    · by_cases hlt : x.lt = y.lt
      · by_cases hlv : x.lv = y.lv
        · by_cases hrk : x.rk = y.rk
          · by_cases hrt : x.rt = y.rt
            · by_cases hrv : x.rv = y.rv
              · by_cases hhl : x.hl = y.hl
                · by_cases hhr : x.hr = y.hr
                  · go_simp
                  · go_simp
                · go_simp
              · go_simp
            · go_simp
          · go_simp
        · go_simp
      · go_simp
    · go_simp
  · go_simp

def zO : Value := .agg #[.int .i64 0, .int .i64 0, .int .i64 0, .int .i64 0, .int .i64 0, .int .i64 0, .int .i64 0, .bool false, .bool false]
theorem infoO : (Tryd.prog.info? 37).map (fun i => (i.zero, i.size, i.bytes)) = some (some zO, 9, 64) := by kernel_rfl
theorem enc_one (x : O) : ∀ u ∈ encO x, u.oneCell' = true := by
  intro u hu; simp [encO] at hu; rcases hu with rfl | rfl | rfl | rfl | rfl | rfl | rfl | rfl | rfl <;> rfl
theorem flat_len (xs : List O) : (xs.flatMap encO).length = xs.length * 9 := by
  induction xs with
  | nil => rfl
  | cons a r ih => rw [List.flatMap_cons, List.length_append, ih, gencO_len, List.length_cons]; omega

/-- append onto a slice of the call's own that is there, of any number. -/
theorem step_append_some {P : Program} (w : World) {ops : Array Oper} {o : Oper} {a : Act} {K : Act → World → Prop} {Q : Exit → Act → World → Prop} {E : Prop} (hgd : o.guard = none) (s x : Operand) (t : TypeId)
    (ho : o.op = .call { callee := .builtin .append, args := #[s, x], argTypes := #[t, t] })
    (base : Nat) (e : TypeId) (i : TypeInfo) (z : Value) (size bytes : Nat) (ht : P.underlying t = some (.slice e)) (hi : P.info? e = some i) (hz : i.zero = some z)
    (hsize : i.size = size) (hby : i.bytes = bytes) (hzs : z.cells.size = size) (hsz : 0 < size)
    (g0 c0 n : Nat) (xs : List Value) (hs : a.eval s = .slice (some ⟨g0, 0, none⟩) n c0) (hown : w.ownsRow base e size (.slice (some ⟨g0, 0, none⟩) n c0) n xs)
    (ad : Addr) (m c : Nat) (news : List Value) (hx : a.eval x = .slice (some ad) m c) (hl : news.length = m * size) (hnews : ∀ j u, news[j]? = some u → w.cell? (ad.add j) = some u) (h1 : ∀ u ∈ news, u.oneCell' = true)
    (h63 : n + m ≤ maxLen) (hbytes : (n + m) * bytes ≤ 140737488355328) (hbase : base ≤ w.heap.size)
    (h : ∀ g cap w', w'.ownsRow base e size (.slice (some ⟨g, 0, none⟩) (n + m) cap) (n + m) (xs ++ news) → w.grownBy w' (some g0) → (g = g0 ∨ g = w.heap.size) → K (a.put o.dst (.slice (some ⟨g, 0, none⟩) (n + m) cap)) w') :
    if Region.wanted o (yielded ops a.tmps) = true then Oper.wp P o a w K Q else E := by
  have hw : Region.wanted o (yielded ops a.tmps) = true := by simp [Region.wanted, hgd]
  rw [if_pos hw]
  obtain ⟨v', w', hr, h2, h3, h4, h5⟩ := run_append_own_at (P := P) w base t o.type e i z size bytes ht hi hz hsize hby hzs hsz _ n xs hown ad m c news hl hnews h1 h63 hbytes hbase
  rcases h2.2 with ⟨rfl, _⟩ | ⟨g, cap, cur, rfl, _⟩
  · have := (h4.1 rfl).1; cases this
  · unfold Oper.wp execOp
    simp only [ho, resolve, invoke, builtin, Sem.run_bind, Sem.run_pure, Result.andThen_ok, List.map_toArray, List.map_cons, List.map_nil, hs, hx, hr]
    refine h g cap w' h2 h3 ?_
    simpa [Value.ownBlock] using h5

theorem flat_take (M : List O) (i : Nat) : (M.take i).flatMap encO = (M.flatMap encO).take (i * 9) := by
  induction M generalizing i with
  | nil => simp
  | cons a r ih =>
    cases i with
    | zero => simp
    | succ i =>
      rw [List.take_succ_cons, List.flatMap_cons, List.flatMap_cons, ih, List.take_append, gencO_len, List.take_of_length_le (l := encO a) (by rw [gencO_len]; omega), show (i + 1) * 9 - 9 = i * 9 by omega]
theorem flat_drop (M : List O) (i : Nat) : (M.drop i).flatMap encO = (M.flatMap encO).drop (i * 9) := by
  induction M generalizing i with
  | nil => simp
  | cons a r ih =>
    cases i with
    | zero => simp
    | succ i =>
      rw [List.drop_succ_cons, List.flatMap_cons, ih, List.drop_append, gencO_len, List.drop_eq_nil_of_le (show (encO a).length ≤ (i + 1) * 9 by rw [gencO_len]; omega), List.nil_append, show (i + 1) * 9 - 9 = i * 9 by omega]

theorem flat_one (M : List O) : ∀ u ∈ M.flatMap encO, u.oneCell' = true := by
  intro u hu
  obtain ⟨x, _, h⟩ := List.mem_flatMap.1 hu
  exact enc_one x u h

/-- The document's list: the variable's block, and the row. -/
structure AllAt (w : World) (base b : Nat) (v : Value) (M : List O) : Prop where
  blk : w.heap[b]? = some (.cells #[v] 27)
  row : w.ownsRow base 37 9 v M.length (M.flatMap encO)
theorem AllAt.lt {w : World} {base b : Nat} {v : Value} {M : List O} (h : AllAt w base b v M) : b < w.heap.size := (Array.getElem?_eq_some_iff.1 h.blk).1
theorem AllAt.cell {w : World} {base b : Nat} {v : Value} {M : List O} (h : AllAt w base b v M) : w.cell? ⟨b, 0, none⟩ = some v ∧ w.frozen? ⟨b, 0, none⟩ = false :=
  ⟨by rw [Go.Joins.cell_of_block h.blk]; rfl, Go.Joins.unfrozen_of_block h.blk 0⟩
theorem AllAt.below {w w' : World} {base b : Nat} {v : Value} {M : List O} (h : AllAt w base b v M) (hb : Below w.heap.size w w') : AllAt w' base b v M :=
  ⟨(hb.block _ h.lt).trans h.blk, gkept_below h.row hb⟩

/-- What the round in which it goes finds. -/
structure Goes (w : World) (base b gs ck : Nat) (M : List O) (W : World) : Prop where
  below : Below w.heap.size w W
  blk : W.heap[b]? = some (.cells #[.slice (some ⟨gs, 0, none⟩) M.length ck] 27)
  row : W.ownsRow base 37 9 (.slice (some ⟨gs, 0, none⟩) M.length ck) M.length (M.flatMap encO)

theorem Goes.go {w : World} {base b gs ck : Nat} {M : List O} {W W' : World} (h : Goes w base b gs ck M W) (hb : Below W.heap.size W W') : Goes w base b gs ck M W' := by
  have hl : b < W.heap.size := (Array.getElem?_eq_some_iff.1 h.blk).1
  exact ⟨h.below.trans (hb.mono h.below.size), (hb.block _ hl).trans h.blk, gkept_below h.row hb⟩
theorem Goes.cell {w : World} {base b gs ck : Nat} {M : List O} {W : World} (h : Goes w base b gs ck M W) : W.cell? ⟨b, 0, none⟩ = some (.slice (some ⟨gs, 0, none⟩) M.length ck) ∧ W.frozen? ⟨b, 0, none⟩ = false :=
  ⟨by rw [Go.Joins.cell_of_block h.blk]; rfl, Go.Joins.unfrozen_of_block h.blk 0⟩
theorem Goes.get {w : World} {base b gs ck : Nat} {M : List O} {W : World} (h : Goes w base b gs ck M W) (j : Nat) (u : Value) (hu : (M.flatMap encO)[j]? = some u) : W.cell? ⟨gs, j, none⟩ = some u := by
  have := h.row.cells (g := gs) rfl j u hu
  rwa [gadd_at] at this
theorem Goes.grown {w : World} {base b gs ck : Nat} {M : List O} {W W' : World} {g : Nat} (h : Goes w base b gs ck M W) (hg : W.grownBy W' (some g)) (h1 : w.heap.size ≤ g) (h2 : g ≠ b) (h3 : g ≠ gs) : Goes w base b gs ck M W' := by
  have hl : b < W.heap.size := (Array.getElem?_eq_some_iff.1 h.blk).1
  refine ⟨h.below.grown hg h.below.size (fun k e => by cases e; exact h1), (hg.block _ hl (fun e => h2 (by cases e; rfl))).trans h.blk, h.row.kept hg (Or.inr (by simp [Value.ownBlock]; exact fun e => h3 e.symm))⟩

theorem own_empty {W : World} {base : Nat} (hb : base ≤ W.heap.size) : (W.alloc (.cells #[] 37)).drew.ownsRow base 37 9 (.slice (some ⟨W.heap.size, 0, none⟩) 0 0) 0 [] :=
  ⟨rfl, .inr ⟨W.heap.size, 0, #[], rfl, hb, World.alloc_heap_new _ _, Nat.le_refl _, Nat.zero_le _, rfl, rfl⟩⟩

theorem Goes.head {w : World} {base b gs ck : Nat} {M : List O} {W : World} (h : Goes w base b gs ck M W) (k j : Nat) (u : Value) (hu : ((M.take k).flatMap encO)[j]? = some u) : W.cell? ((⟨gs, 0, none⟩ : Addr).add j) = some u := by
  rw [gadd_at]
  refine h.get j u ?_
  rw [flat_take] at hu
  have hj := (List.getElem?_eq_some_iff.1 hu).1
  rw [List.length_take] at hj
  rw [List.getElem?_take_of_lt (by omega)] at hu
  exact hu

theorem Goes.tail {w : World} {base b gs ck : Nat} {M : List O} {W : World} (h : Goes w base b gs ck M W) (k j : Nat) (u : Value) (hu : ((M.drop k).flatMap encO)[j]? = some u) : W.cell? ((⟨gs, k * 9, none⟩ : Addr).add j) = some u := by
  rw [Addr.add_lit]
  refine h.get (k * 9 + j) u ?_
  rw [flat_drop, List.getElem?_drop] at hu
  exact hu

theorem flat_sum (M : List O) (k : Nat) (hk : k < M.length) (cap g : Nat) (w : World) (base : Nat) (h : w.ownsRow base 37 9 (.slice (some ⟨g, 0, none⟩) (0 + k + (M.length - (k + 1))) cap) (0 + k + (M.length - (k + 1))) ([] ++ (M.take k).flatMap encO ++ (M.drop (k + 1)).flatMap encO)) :
    w.ownsRow base 37 9 (.slice (some ⟨g, 0, none⟩) (k + (M.length - (k + 1))) cap) (M.take k ++ M.drop (k + 1)).length ((M.take k ++ M.drop (k + 1)).flatMap encO) := by
  rw [List.flatMap_append, show (M.take k ++ M.drop (k + 1)).length = k + (M.length - (k + 1)) by simp; omega]
  rw [Nat.zero_add] at h
  exact h

/-- The new slice lies in the variable; only its block and new ones are written. -/
theorem all_stored {w w1 : World} {base b : Nat} {v v' : Value} {M' : List O} (hrow : w1.ownsRow base 37 9 v' M'.length (M'.flatMap encO)) (hk : Below w.heap.size w w1) (hcell : w1.heap[b]? = some (.cells #[v] 27)) :
    AllAt (w1.setCell ⟨b, 0, none⟩ v') base b v' M' ∧ (∀ j, j < w.heap.size → j ≠ b → (w1.setCell ⟨b, 0, none⟩ v').heap[j]? = w.heap[j]?) ∧ w.heap.size ≤ (w1.setCell ⟨b, 0, none⟩ v').heap.size ∧ (w1.setCell ⟨b, 0, none⟩ v').os = w.os ∧ (w1.setCell ⟨b, 0, none⟩ v').tape = w.tape ∧ (w1.setCell ⟨b, 0, none⟩ v').output = w.output := by
  have hne : v'.ownBlock ≠ some b := by
    rcases hrow.2 with ⟨rfl, _⟩ | ⟨g, cap, cur, rfl, hb, hg, _⟩
    · simp [Value.ownBlock]
    · intro e
      simp [Value.ownBlock] at e
      subst e
      rw [hcell] at hg
      cases hg
  refine ⟨⟨Go.Joins.block_setCell hcell v', ?_⟩, fun j hj hne => (Below.heap_setCell _ _ _ _ hne).trans (hk.block j hj), by simpa using hk.size, hk.os, hk.tape, hk.output⟩
  refine hrow.kept (row := some b) ⟨rfl, rfl, rfl, by simp, fun k hk2 hne2 => ?_⟩ (Or.inr hne)
  exact Below.heap_setCell _ _ _ _ (fun e => hne2 (by rw [e]))

theorem box9 {W : World} {B : Nat} {x : O} (hb : W.heap[B]? = some (.cells (encO x).toArray 37)) :
    W.cell? ⟨B, 0, none⟩ = some (.int .i64 x.k) ∧ W.cell? ⟨B, 1, none⟩ = some (.int .i64 x.lk) ∧ W.cell? ⟨B, 2, none⟩ = some (.int .i64 x.lt) ∧ W.cell? ⟨B, 3, none⟩ = some (.int .i64 x.lv) ∧ W.cell? ⟨B, 4, none⟩ = some (.int .i64 x.rk) ∧ W.cell? ⟨B, 5, none⟩ = some (.int .i64 x.rt) ∧ W.cell? ⟨B, 6, none⟩ = some (.int .i64 x.rv) ∧ W.cell? ⟨B, 7, none⟩ = some (.bool x.hl) ∧ W.cell? ⟨B, 8, none⟩ = some (.bool x.hr) := by
  refine ⟨?_, ?_, ?_, ?_, ?_, ?_, ?_, ?_, ?_⟩ <;> (rw [Go.Joins.cell_of_block hb]; rfl)

set_option maxHeartbeats 1000000 in
theorem drop_none (base b : Nat) (v : Value) (M : List O) (w : World) (h : AllAt w base b v M) (x : O) (hM : M.length ≤ 1000) (hno : x ∉ M) :
    Calls Tryd.prog 31 #[.pointer (some ⟨b, 0, none⟩), vO x] w fun e w' => e = .returned (.bool false) ∧ Below w.heap.size w w' := by
  have hc := h.cell
  have hlt := h.lt
  rcases Go.Joins.ownsRow_forms h.row with ⟨rfl, h0⟩ | ⟨gs, ck, rfl⟩
  · clear h
    have HB : Hid (Below w.heap.size w (w.alloc (.cells (encO x).toArray 37))) := Go.Joins.below_alloc1 _ _
    simp only [vO, encO] at HB ⊢
    go_enter Tryd.func31, Tryd.ntmps31
    go_wp2
    refine wp_loop_rounds 1 ?_
    rw [rounds_succ]
    go_wp2
    go_ret
    exact ⟨rfl, HB.out⟩
  · have HR : Hid (w.ownsRow base 37 9 (.slice (some ⟨gs, 0, none⟩) M.length ck) M.length (M.flatMap encO)) := h.row
    have HN : Hid (x ∉ M) := hno
    have HI0 : Hid (Below w.heap.size w (w.alloc (.cells (encO x).toArray 37)) ∧ (w.alloc (.cells (encO x).toArray 37)).heap[w.heap.size]? = some (.cells (encO x).toArray 37)) := ⟨Go.Joins.below_alloc1 _ _, World.alloc_heap_new _ _⟩
    clear h hno
    simp only [vO, encO] at HI0 ⊢
    go_enter Tryd.func31, Tryd.ntmps31
    go_wp2
    go_loopg [6] M.length (fun g v6 wr => ∃ k : Nat, k ≤ M.length ∧ g = M.length - k ∧ v6 = .int .i64 k ∧ Hid (Below w.heap.size w wr ∧ wr.heap[w.heap.size]? = some (.cells (encO x).toArray 37)))
    case atStart => exact ⟨0, Nat.zero_le _, rfl, rfl, HI0.out⟩
    case round =>
      obtain ⟨k, hk, hg, rfl, I⟩ := hrel
      have HG : Hid (gk = M.length - k) := hg
      clear hg
      by_cases hlt2 : k < M.length
      · obtain ⟨y, hy⟩ : ∃ y, M[k]? = some y := ⟨_, List.getElem?_eq_getElem hlt2⟩
        have hcy := gos_cells (gkept_below HR.out I.out.1) k y hy
        have hcx := box9 I.out.2
        have i1 : (0 : Int) ≤ (k : Int) := by omega
        have i2 : (k : Int) < (M.length : Int) := by omega
        have i3 : (M.length : Int) ≤ 1000 := by omega
        have hne : y ≠ x := fun e => HN.out (by rw [← e]; exact List.mem_of_getElem? hy)
        have heq : ∀ w', (binOp .eql 37 (vO y) (vO x)).run Tryd.prog w' = .ok (.bool false) w' := fun w' => by rw [eq_out, decide_eq_false hne]
        have I2 : Hid (Below w.heap.size w wr.drew ∧ wr.drew.heap[w.heap.size]? = some (.cells (encO x).toArray 37)) := ⟨I.out.1.drew, I.out.2⟩
        simp only [vO] at heq
        clear hy hne
        go_wp2
        go_region
        all_goals (try go_wp2)
        all_goals go_roundg (M.length - (k + 1))
        all_goals first
          | exact ⟨k + 1, by omega, rfl, by go_num, I2.out⟩
          | (have := HG.out; omega)
      · have i2 : ¬ ((k : Int) < (M.length : Int)) := by omega
        go_wp2
        go_ret
        exact ⟨rfl, I.out.1⟩

set_option maxHeartbeats 2000000 in
theorem drop_some (base b : Nat) (v : Value) (M : List O) (w : World) (h : AllAt w base b v M) (x : O) (hM : M.length ≤ 1000) (hb : base ≤ w.heap.size) (hmem : x ∈ M) :
    Calls Tryd.prog 31 #[.pointer (some ⟨b, 0, none⟩), vO x] w fun e w' => e = .returned (.bool true) ∧ ∃ v', AllAt w' base b v' (M.erase x) ∧ (∀ j, j < w.heap.size → j ≠ b → w'.heap[j]? = w.heap[j]?) ∧ w.heap.size ≤ w'.heap.size ∧ w'.os = w.os ∧ w'.tape = w.tape ∧ w'.output = w.output ∧ ∃ g, v'.ownBlock = some g ∧ w.heap.size ≤ g := by
  obtain ⟨i0, hi, hz0, hz1, hz2⟩ := info_parts infoO
  have hc := h.cell
  have hlt := h.lt
  obtain ⟨gs, ck, rfl⟩ := Go.Joins.ownsRow_form h.row (List.length_pos_of_mem hmem)
  have hck : M.length ≤ ck := by
    rcases h.row.2 with ⟨h1, _⟩ | ⟨g, cap, cur, h1, _, _, h2, _⟩
    · cases h1
    · cases h1; exact h2
  have hck2 : ck ≤ maxLen := by
    rcases h.row.2 with ⟨h1, _⟩ | ⟨g, cap, cur, h1, _, _, _, h2, _⟩
    · cases h1
    · cases h1; exact h2
  have hgl : gs < w.heap.size := (h.row.lt gs rfl).2
  have HG0 : Hid (Goes w base b gs ck M w) := ⟨Below.refl _ _, h.blk, h.row⟩
  have HI : Hid (M.idxOf x < M.length ∧ M[M.idxOf x]? = some x ∧ (∀ j y, j < M.idxOf x → M[j]? = some y → y ≠ x) ∧ M.erase x = M.take (M.idxOf x) ++ M.drop (M.idxOf x + 1)) := by
    have h1 : M.idxOf x < M.length := List.idxOf_lt_length_of_mem hmem
    refine ⟨h1, ?_, ?_, ?_⟩
    · rw [List.getElem?_eq_getElem h1, List.getElem_idxOf]
    · intro j y hj hy e
      subst e
      obtain ⟨hjl, hye⟩ := List.getElem?_eq_some_iff.1 hy
      have := List.not_of_lt_findIdx (p := (· == y)) hj
      rw [hye] at this
      simp at this
    · rw [List.erase_eq_eraseIdx_of_idxOf rfl, List.eraseIdx_eq_take_drop_succ]
  have hi1 := HI.out.1
  generalize hI : M.idxOf x = i at *
  clear h hI hmem
  have HI0 : Hid (Goes w base b gs ck M (w.alloc (.cells (encO x).toArray 37)) ∧ (w.alloc (.cells (encO x).toArray 37)).heap[w.heap.size]? = some (.cells (encO x).toArray 37)) := ⟨HG0.out.go (Go.Joins.below_alloc1 _ _), World.alloc_heap_new _ _⟩
  simp only [vO, encO] at HI0 ⊢
  go_enter Tryd.func31, Tryd.ntmps31
  go_wp2
  go_loopg [6] M.length (fun g v6 wr => ∃ k : Nat, k ≤ i ∧ g = M.length - k ∧ v6 = .int .i64 k ∧ Hid (Goes w base b gs ck M wr ∧ wr.heap[w.heap.size]? = some (.cells (encO x).toArray 37)))
  case atStart => exact ⟨0, Nat.zero_le _, rfl, rfl, HI0.out⟩
  case round =>
    obtain ⟨k, hk, hg, rfl, I⟩ := hrel
    have HG : Hid (gk = M.length - k) := hg
    clear hg
    obtain ⟨y, hy⟩ : ∃ y, M[k]? = some y := ⟨_, List.getElem?_eq_getElem (show k < M.length by omega)⟩
    have hcy := gos_cells I.out.1.row k y hy
    have hcx := box9 I.out.2
    have hz : w.heap.size < wr.heap.size := (Array.getElem?_eq_some_iff.1 I.out.2).1
    have i1 : (0 : Int) ≤ (k : Int) := by omega
    have i2 : (k : Int) < (M.length : Int) := by omega
    have i3 : (M.length : Int) ≤ 1000 := by omega
    have I2 : Hid (Goes w base b gs ck M wr.drew ∧ wr.drew.heap[w.heap.size]? = some (.cells (encO x).toArray 37)) := ⟨I.out.1.go (Below.refl _ _).drew, I.out.2⟩
    by_cases hki : k < i
    · have hne : y ≠ x := HI.out.2.2.1 k y hki hy
      have heq : ∀ w', (binOp .eql 37 (vO y) (vO x)).run Tryd.prog w' = .ok (.bool false) w' := fun w' => by rw [eq_out, decide_eq_false hne]
      simp only [vO] at heq
      clear hy hne
      go_wp2
      go_region
      all_goals (try go_wp2)
      all_goals go_roundg (M.length - (k + 1))
      all_goals first
        | exact ⟨k + 1, by omega, rfl, by go_num, I2.out⟩
        | (have := HG.out; omega)
    · have hki2 : k = i := by omega
      have hyx : y = x := by
        have h2 := HI.out.2.1
        rw [← hki2, hy] at h2
        exact Option.some.inj h2
      have heq : ∀ w', (binOp .eql 37 (vO y) (vO x)).run Tryd.prog w' = .ok (.bool true) w' := fun w' => by rw [eq_out, decide_eq_true hyx]
      have HE : Hid (M.erase x = M.take k ++ M.drop (k + 1)) := by
        show M.erase x = M.take k ++ M.drop (k + 1)
        rw [hki2]; exact HI.out.2.2.2
      simp only [vO] at heq
      clear hy hyx hki2 hki
      have HN : Hid (∃ A : Addr, (if ck = k + 1 then some (⟨gs, 0, none⟩ : Addr) else some ⟨gs, (k + 1) * 9, none⟩) = some A ∧ ∀ W', Goes w base b gs ck M W' → ∀ j u, ((M.drop (k + 1)).flatMap encO)[j]? = some u → W'.cell? (A.add j) = some u) := by
        by_cases h1 : ck = k + 1
        · refine ⟨⟨gs, 0, none⟩, by simp [h1], fun W' _ j u hu => ?_⟩
          rw [List.drop_eq_nil_of_le (by omega)] at hu
          simp at hu
        · exact ⟨⟨gs, (k + 1) * 9, none⟩, by simp [h1], fun W' hW j u hu => hW.tail (k + 1) j u hu⟩
      obtain ⟨A, hA, hN⟩ := HN.out
      have HN2 : Hid (∀ W', Goes w base b gs ck M W' → ∀ j u, ((M.drop (k + 1)).flatMap encO)[j]? = some u → W'.cell? (A.add j) = some u) := hN
      clear hN HN
      have hwr : IntKind.i64.wrap ((k : Int) + 1) = (k : Int) + 1 := by rw [IntKind.wrap_i64]; omega
      have hp0 : (0 : Int) ≤ (k : Int) + 1 := by omega
      have hp1 : (k : Int) + 1 ≤ (M.length : Int) := by omega
      have hp2 : ((k : Int) + 1).toNat = k + 1 := by omega
      have hkc : k ≤ ck := by omega
      have hl1 : Hid (((M.take k).flatMap encO).length = k * 9) := by
        show ((M.take k).flatMap encO).length = k * 9
        rw [flat_len, List.length_take]; congr 1; omega
      have hl2 : Hid (((M.drop (k + 1)).flatMap encO).length = (M.length - (k + 1)) * 9) := by
        show ((M.drop (k + 1)).flatMap encO).length = (M.length - (k + 1)) * 9
        rw [flat_len, List.length_drop]
      go_wp2
      go_region
      all_goals (try (go_wp2_with fail))
      all_goals
        have HW : Hid (Goes w base b gs ck M wr.drew) := I2.out.1
        have hz4 : w.heap.size < wr.drew.heap.size := hz
        clear I2 hcx hcy heq I hc
        revert HW hz4
        generalize wr.drew = W
        intro HW hz4
        have hcb := HW.out.cell
        have hcb2 := (HW.out.go (Go.Joins.below_alloc1 W (.cells #[] 37))).cell
        have hgb : W.heap.size ≠ b := by omega
        have hgg : W.heap.size ≠ gs := by omega
        go_region_law
          (first
            | (refine step_append_some _ (by rfl) _ _ _ (by rfl) base 37 i0 zO 9 64 Tryd.underlying27 hi hz0 hz1 hz2 rfl (by omega) W.heap.size 0 0 [] (by rfl) (own_empty (by omega)) ⟨gs, 0, none⟩ k ck ((M.take k).flatMap encO) (by first | rfl | simp [Act.eval, Act.put]) hl1.out ?_ (flat_one _) (by unfold maxLen; omega) (by omega) ?_ ?_; (exact (HW.out.go ((Go.Joins.below_alloc1 _ _).drew)).head k); (simp; omega); intro g1 cap1 w1 hown1 hgrow1 hat1; have G1 : Hid (Goes w base b gs ck M w1) := (HW.out.go ((Go.Joins.below_alloc1 _ _).drew)).grown hgrow1 (by omega) hgb hgg; have hg1 : W.heap.size ≤ g1 := (by have := hat1; simp at this; omega); have hcb3 := G1.out.cell)
            | (refine step_append_some _ (by rfl) _ _ _ (by rfl) base 37 i0 zO 9 64 Tryd.underlying27 hi hz0 hz1 hz2 rfl (by omega) g1 cap1 (0 + k) ([] ++ (M.take k).flatMap encO) (by first | rfl | simp [Act.eval]) hown1 A (M.length - (k + 1)) (ck - (k + 1)) ((M.drop (k + 1)).flatMap encO) (by first | rfl | simp [Act.eval, Act.put]) hl2.out (HN2.out _ G1.out) (flat_one _) (by unfold maxLen; omega) (by omega) ?_ ?_; (have := G1.out.below.size; omega); intro g2 cap2 w2 hown2 hgrow2 hat2; have G2 : Hid (Goes w base b gs ck M w2) := G1.out.grown hgrow2 (by omega) (by omega) (by omega); have hcb4 := G2.out.cell)
            | fail)
      all_goals (try go_wp2)
      all_goals go_ret
      all_goals
        have hs := all_stored (v := .slice (some ⟨gs, 0, none⟩) M.length ck) (flat_sum M k (by omega) cap2 g2 w2 base hown2) G2.out.below G2.out.blk
        rw [HE.out]
        refine ⟨rfl, .slice (some ⟨g2, 0, none⟩) (k + (M.length - (k + 1))) cap2, hs.1, hs.2.1, hs.2.2.1, hs.2.2.2.1, hs.2.2.2.2.1, hs.2.2.2.2.2, g2, rfl, ?_⟩
        have := G1.out.below.size
        rcases hat2 with h | h <;> omega

end Go.Proofs.YtgffodmipbefpaaDoor
