/- EngineOrder's walk, for every engine that says what an engine says. -/
import Derived.Test.YtmmbjbgimpgcfaaGreatDoorEvx
import Derived.Deep.Onto
namespace Go.Proofs.YtmmbjbgimpgcfaaGreatDoor
open Go.RowKit Go.Sort
set_option maxRecDepth 100000

theorem add_off (g o j : Nat) : (⟨g, o, none⟩ : Addr).add j = ⟨g, o + j, none⟩ := by
  unfold Addr.add; split
  · simp_all
  · simp_all
/-- Six cells of a step. -/
def CellsS (W : World) (g o : Nat) (q : St) : Prop := W.cell? ⟨g, o, none⟩ = some (.int .i64 q.wh) ∧ W.cell? ⟨g, o + 1, none⟩ = some (.int .i64 q.s) ∧ W.cell? ⟨g, o + 2, none⟩ = some (.int .i64 q.n) ∧ W.cell? ⟨g, o + 3, none⟩ = some (.int .i64 q.k) ∧ W.cell? ⟨g, o + 4, none⟩ = some (.int .i64 q.t) ∧ W.cell? ⟨g, o + 5, none⟩ = some (.int .i64 q.v)
theorem steps_news {W : World} {g off : Nat} (Ls : List St) (h : ∀ k q, Ls[k]? = some q → CellsS W g (off + k * 6) q) : ∀ j u, (Ls.flatMap encS)[j]? = some u → W.cell? ((⟨g, off, none⟩ : Addr).add j) = some u := by
  intro j u hu
  have hj : j < (Ls.flatMap encS).length := (List.getElem?_eq_some_iff.1 hu).1
  rw [flatS_len] at hj
  obtain ⟨q, hq⟩ : ∃ q, Ls[j / 6]? = some q := ⟨_, List.getElem?_eq_getElem (show j / 6 < Ls.length by omega)⟩
  have h1 := flatS_get Ls (j / 6) (j % 6) q hq (by omega)
  rw [show j / 6 * 6 + j % 6 = j by omega, hu] at h1
  obtain ⟨c0, c1, c2, c3, c4, c5⟩ := h _ q hq
  rw [add_off]
  have hm : j % 6 < 6 := by omega
  have hjj : off + j = off + j / 6 * 6 + j % 6 := by omega
  rw [hjj]
  generalize j % 6 = m at *
  match m, hm with
  | 0, _ => simp [encS] at h1; rw [h1]; exact c0
  | 1, _ => simp [encS] at h1; rw [h1]; exact c1
  | 2, _ => simp [encS] at h1; rw [h1]; exact c2
  | 3, _ => simp [encS] at h1; rw [h1]; exact c3
  | 4, _ => simp [encS] at h1; rw [h1]; exact c4
  | 5, _ => simp [encS] at h1; rw [h1]; exact c5

theorem Two.zero' {EngAt : Nat → J → List O → (Nat → Prop) → World → Prop} (E : EngFeeds EngAt) {w0 : World} {ba bb : Nat} {lo hi mode : Int} {Ta Tb : List St} {gs ck n : Nat} {Q : List St} {w : World} {i : Nat} {q : St} (h : Two EngAt w0 ba bb lo hi mode Ta Tb (.slice (some ⟨gs, 0, none⟩) n ck) Q w) (hn : Q.length = n) (hq : Q[i]? = some q) :
    Two EngAt w0 ba bb lo hi mode Ta Tb (.slice (some ⟨gs, 0, none⟩) n ck) (Q.set i (z0 q)) (w.setCell ⟨gs, i * 6, none⟩ (.int .i64 0)) := by
  subst hn; exact h.zero E hq
theorem Two.cells {EngAt : Nat → J → List O → (Nat → Prop) → World → Prop} {w0 : World} {ba bb : Nat} {lo hi mode : Int} {Ta Tb : List St} {gs ck n : Nat} {Q : List St} {w : World} {i : Nat} {q : St} (h : Two EngAt w0 ba bb lo hi mode Ta Tb (.slice (some ⟨gs, 0, none⟩) n ck) Q w) (hn : Q.length = n) (hq : Q[i]? = some q) :
    (w.cell? ⟨gs, i * 6, none⟩ = some (.int .i64 q.wh) ∧ w.cell? ⟨gs, i * 6 + 1, none⟩ = some (.int .i64 q.s) ∧ w.cell? ⟨gs, i * 6 + 2, none⟩ = some (.int .i64 q.n) ∧ w.cell? ⟨gs, i * 6 + 3, none⟩ = some (.int .i64 q.k) ∧ w.cell? ⟨gs, i * 6 + 4, none⟩ = some (.int .i64 q.t) ∧ w.cell? ⟨gs, i * 6 + 5, none⟩ = some (.int .i64 q.v)) ∧ w.frozen? ⟨gs, i * 6, none⟩ = false ∧ gs < w.heap.size := by
  subst hn
  refine ⟨st_cells h.row i q hq, ?_, (h.row.lt gs rfl).2⟩
  rcases h.row.2 with ⟨h1, _⟩ | ⟨g, cap, cur, h1, _, hg, _⟩
  · cases h1
  · cases h1
    exact Go.Joins.unfrozen_of_block hg _

theorem step_append_any {P : Program} (w : World) {ops : Array Oper} {o : Oper} {a : Act} {K : Act → World → Prop} {Q : Exit → Act → World → Prop} {E : Prop} (hgd : o.guard = none) (s x : Operand) (t : TypeId)
    (ho : o.op = .call { callee := .builtin .append, args := #[s, x], argTypes := #[t, t] })
    (base : Nat) (e : TypeId) (i : TypeInfo) (z : Value) (size bytes : Nat) (ht : P.underlying t = some (.slice e)) (hi : P.info? e = some i) (hz : i.zero = some z)
    (hsize : i.size = size) (hby : i.bytes = bytes) (hzs : z.cells.size = size) (hsz : 0 < size)
    (g0 c0 n : Nat) (xs : List Value) (hs : a.eval s = .slice (some ⟨g0, 0, none⟩) n c0) (hown : w.ownsRow base e size (.slice (some ⟨g0, 0, none⟩) n c0) n xs)
    (ad : Addr) (m c : Nat) (news : List Value) (hx : a.eval x = .slice (some ad) m c) (hl : news.length = m * size) (hnews : ∀ j u, news[j]? = some u → w.cell? (ad.add j) = some u) (h1 : ∀ u ∈ news, u.oneCell' = true)
    (h63 : n + m ≤ maxLen) (hbytes : (n + m) * bytes ≤ 140737488355328) (hbase : base ≤ w.heap.size)
    (h : ∀ g cap w', w'.ownsRow base e size (.slice (some ⟨g, 0, none⟩) (n + m) cap) (n + m) (xs ++ news) → w.grownBy w' (some g0) → (g = g0 ∨ g = w.heap.size) → K (a.put o.dst (.slice (some ⟨g, 0, none⟩) (n + m) cap)) w') :
    if Region.wanted o (yielded ops a.tmps) = true then Oper.wp P o a w K Q else E := by
  have hw : Region.wanted o (yielded ops a.tmps) = true := by simp [Region.wanted, hgd]
  rw [if_pos hw]
  obtain ⟨v', w', hr, h2, h3, h4, h5⟩ := run_append_own_at (P := P) w base t o.type e i z size bytes ht hi hz hsize hby hzs hsz _ n xs hown ad m c news hl hnews h1 h63 hbytes hbase
  rcases h2.2 with ⟨rfl, _⟩ | ⟨g, cap, cur, rfl, _⟩
  · have := (h4.1 rfl).1; cases this
  · unfold Oper.wp execOp
    simp only [ho, resolve, invoke, builtin, Sem.run_bind, Sem.run_pure, Result.andThen_ok, List.map_toArray, List.map_cons, List.map_nil, hs, hx, hr]
    refine h g cap w' h2 h3 ?_
    simpa [Value.ownBlock] using h5

theorem flatS_take (Q : List St) (k j : Nat) (u : Value) (h : ((Q.take k).flatMap encS)[j]? = some u) : (Q.flatMap encS)[j]? = some u := by
  have h1 : Q.flatMap encS = (Q.take k).flatMap encS ++ (Q.drop k).flatMap encS := by rw [← List.flatMap_append, List.take_append_drop]
  rw [h1, List.getElem?_append_left (List.getElem?_eq_some_iff.1 h).1]
  exact h
theorem flatS_drop (Q : List St) (p : Nat) (hp : p ≤ Q.length) (j : Nat) (u : Value) (h : ((Q.drop p).flatMap encS)[j]? = some u) : (Q.flatMap encS)[p * 6 + j]? = some u := by
  have h1 : Q.flatMap encS = (Q.take p).flatMap encS ++ (Q.drop p).flatMap encS := by rw [← List.flatMap_append, List.take_append_drop]
  have h2 : ((Q.take p).flatMap encS).length = p * 6 := by rw [flatS_len, List.length_take]; omega
  rw [h1, List.getElem?_append_right (by rw [h2]; omega), h2, Nat.add_sub_cancel_left]
  exact h

/-- The first i steps tell rows. -/
def zerod (Ls : List St) (i : Nat) : List St := (Ls.take i).map z0 ++ Ls.drop i
theorem zerod_zero (Ls : List St) : zerod Ls 0 = Ls := by simp [zerod]
theorem zerod_len (Ls : List St) (i : Nat) : (zerod Ls i).length = Ls.length := by
  unfold zerod; rw [List.length_append, List.length_map, List.length_take, List.length_drop]; omega
theorem zerod_get (Ls : List St) (i : Nat) (q : St) (h : Ls[i]? = some q) : (zerod Ls i)[i]? = some q := by
  have hi := (List.getElem?_eq_some_iff.1 h).1
  unfold zerod
  have hl : ((Ls.take i).map z0).length = i := by rw [List.length_map, List.length_take]; omega
  rw [List.getElem?_append_right (by rw [hl]; exact Nat.le_refl _), hl, Nat.sub_self, List.getElem?_drop]
  exact h
theorem zerod_succ (Ls : List St) (i : Nat) (q : St) (h : Ls[i]? = some q) : (zerod Ls i).set i (z0 q) = zerod Ls (i + 1) := by
  have hi := (List.getElem?_eq_some_iff.1 h).1
  have hl : ((Ls.take i).map z0).length = i := by rw [List.length_map, List.length_take]; omega
  have hd : Ls.drop i = q :: Ls.drop (i + 1) := by
    rw [← (List.getElem?_eq_some_iff.1 h).2, List.getElem_cons_drop hi]
  unfold zerod
  rw [List.set_append_right _ _ (by rw [hl]; exact Nat.le_refl _), hl, Nat.sub_self, hd, List.set_cons_zero, List.take_add_one, h]
  simp
theorem zerod_all (Ls : List St) : zerod Ls Ls.length = Ls.map z0 := by simp [zerod]
theorem take_z0 (Ls : List St) (i : Nat) (q : St) (h : Ls[i]? = some q) : (Ls.take (i + 1)).map z0 = (Ls.take i).map z0 ++ [z0 q] := by
  rw [List.take_add_one, h]; simp

theorem next_rows {wr w5 w6 : World} {e1 s1 n1 e2 s2 n2 : Nat} {v1 v2 : Value} {xs ys : List Value} (h1 : Below wr.heap.size wr w5) (h2 : w5.ownsRow wr.heap.size e1 s1 v1 n1 xs) (hr : w6.ownsRow w5.heap.size e2 s2 v2 n2 ys) (hb : Below w5.heap.size w5 w6) :
   Below wr.heap.size wr w6 ∧ w6.ownsRow wr.heap.size e1 s1 v1 n1 xs ∧ w6.ownsRow wr.heap.size e2 s2 v2 n2 ys := ⟨h1.trans (hb.mono h1.size), kept_below h2 hb, hr.mono h1.size⟩

/-- A group. -/
structure GrQ where
  key : Int
  count : Int
  sum : Int
  least : Int
  most : Int
  some : Bool
  deriving DecidableEq, Inhabited
def encGQ (q : GrQ) : List Value := [.int .i64 q.key, .int .i64 q.count, .int .i64 q.sum, .int .i64 q.least, .int .i64 q.most, .bool q.some]
theorem encG_len (q : GrQ) : (encGQ q).length = 6 := rfl
theorem flatG_get (xs : List GrQ) (k j : Nat) (x : GrQ) (hx : xs[k]? = some x) (hj : j < 6) : (xs.flatMap encGQ)[k * 6 + j]? = (encGQ x)[j]? := by
  induction xs generalizing k with
  | nil => simp at hx
  | cons a r ih =>
    rw [List.flatMap_cons]
    cases k with
    | zero =>
      simp at hx
      subst hx
      rw [List.getElem?_append_left (by rw [encG_len]; omega)]
      congr 1; omega
    | succ k =>
      rw [List.getElem?_append_right (by rw [encG_len]; omega), encG_len, show (k + 1) * 6 + j - 6 = k * 6 + j by omega]
      exact ih k (by simpa using hx)
theorem gr_cells {W : World} {base gs n ck : Nat} {xs : List GrQ} (h : W.ownsRow base 52 6 (.slice (some ⟨gs, 0, none⟩) n ck) n (xs.flatMap encGQ)) (k : Nat) (q : GrQ) (hx : xs[k]? = some q) :
    W.cell? ⟨gs, k * 6, none⟩ = some (.int .i64 q.key) ∧ W.cell? ⟨gs, k * 6 + 1, none⟩ = some (.int .i64 q.count) ∧ W.cell? ⟨gs, k * 6 + 2, none⟩ = some (.int .i64 q.sum) ∧ W.cell? ⟨gs, k * 6 + 3, none⟩ = some (.int .i64 q.least) ∧ W.cell? ⟨gs, k * 6 + 4, none⟩ = some (.int .i64 q.most) ∧ W.cell? ⟨gs, k * 6 + 5, none⟩ = some (.bool q.some) := by
  have key := fun (j : Nat) (v : Value) (hj : j < 6) (hv : (encGQ q)[j]? = some v) => h.cells (g := gs) rfl (k * 6 + j) v ((flatG_get xs k j q hx hj).trans hv)
  simp only [add_at] at key
  exact ⟨key 0 _ (by omega) rfl, key 1 _ (by omega) rfl, key 2 _ (by omega) rfl, key 3 _ (by omega) rfl, key 4 _ (by omega) rfl, key 5 _ (by omega) rfl⟩
theorem neq_out50 (x : O) (w : World) : (binOp .neq 50 (vO x) (vO x)).run Tryz.prog w = .ok (.bool false) w := by
  unfold vO; go_simp
theorem neq_grp (q : GrQ) (w : World) : (binOp .neq 52 (.agg #[.int .i64 q.key, .int .i64 q.count, .int .i64 q.sum, .int .i64 q.least, .int .i64 q.most, .bool q.some]) (.agg #[.int .i64 q.key, .int .i64 q.count, .int .i64 q.sum, .int .i64 q.least, .int .i64 q.most, .bool q.some])).run Tryz.prog w = .ok (.bool false) w := by
  go_simp
/-- What an engine shows: its view in order, its groups. -/
structure EngShows (EngAt : Nat → J → List O → (Nat → Prop) → World → Prop) (vOf : List O → List O) (gOf : List O → List GrQ) : Prop where
  vperm : ∀ {L L' : List O}, L.Perm L' → vOf L = vOf L'
  gperm : ∀ {L L' : List O}, L.Perm L' → gOf L = gOf L'
  vlen : ∀ L : List O, (vOf L).length ≤ L.length
  glen : ∀ L : List O, (gOf L).length ≤ L.length
  vsub : ∀ L : List O, ∀ o ∈ vOf L, o ∈ L
  view : ∀ be x L S W, EngAt be x L S W → L.length ≤ 1000000 → Calls Tryz.prog 10 #[.pointer (some ⟨be, 0, none⟩)] W fun e w' => ∃ oa c, e = .returned (.slice oa (vOf L).length c) ∧ w'.ownsRow W.heap.size 50 9 (.slice oa (vOf L).length c) (vOf L).length ((vOf L).flatMap encO) ∧ Below W.heap.size W w'
  groups : ∀ be x L S W, EngAt be x L S W → L.length ≤ 1000000 → Calls Tryz.prog 14 #[.pointer (some ⟨be, 0, none⟩)] W fun e w' => ∃ oa c, e = .returned (.slice oa (gOf L).length c) ∧ w'.ownsRow W.heap.size 52 6 (.slice oa (gOf L).length c) (gOf L).length ((gOf L).flatMap encGQ) ∧ Below W.heap.size W w'

set_option maxHeartbeats 8000000 in
theorem engineOrder_some {EngAt : Nat → J → List O → (Nat → Prop) → World → Prop} (E : EngFeeds EngAt) {vOf : List O → List O} {gOf : List O → List GrQ} (Sh : EngShows EngAt vOf gOf) (hM : ∀ W, Calls Tryz.prog 7 #[] W fun e w' => e = .returned (.bool true) ∧ Below W.heap.size W w')
    (low high md : Int) (ad : Addr) (c : Nat) (Ls : List St) (oo : Option Addr) (m co : Nat) (w : World) (hT : ∀ j u, (Ls.flatMap encS)[j]? = some u → w.cell? (ad.add j) = some u)
    (hO : 0 < m → ∃ g2 o2, oo = some ⟨g2, o2, none⟩ ∧ g2 < w.heap.size ∧ ∀ k, k < m → ∃ a, w.cell? ⟨g2, o2 + k, none⟩ = some (.int .i64 a)) :
    Calls Tryz.prog 4 #[.int .i64 low, .int .i64 high, .int .i64 md, .slice (some ad) Ls.length c, .slice oo m co] w fun e w' => e = .returned (.bool true) ∧ Below w.heap.size w w' := by
  by_cases h60 : 60 < Ls.length
  · have i1 : (60 : Int) < (Ls.length : Int) := by omega
    clear hT hO
    go_enter Tryz.func4, Tryz.ntmps4
    go_wp2
    go_ret
    exact ⟨rfl, Below.refl _ _⟩
  · by_cases h100 : 100 < m
    · have i1 : ¬ (60 : Int) < (Ls.length : Int) := by omega
      have i2 : (100 : Int) < (m : Int) := by omega
      clear hT hO
      go_enter Tryz.func4, Tryz.ntmps4
      go_wp2
      go_ret
      exact ⟨rfl, Below.refl _ _⟩
    · have i1 : ¬ (60 : Int) < (Ls.length : Int) := by omega
      have i2 : ¬ (100 : Int) < (m : Int) := by omega
      have i3 : (Ls.length : Int) ≤ 60 := by omega
      have i4 : (m : Int) ≤ 100 := by omega
      obtain ⟨i0, hi0, hz0, hz1, hz2⟩ := info_parts infoSt
      have HT : Hid (∀ j u, (Ls.flatMap encS)[j]? = some u → w.cell? (ad.add j) = some u) := hT
      have HO : Hid (0 < m → ∃ g2 o2, oo = some ⟨g2, o2, none⟩ ∧ g2 < w.heap.size ∧ ∀ k, k < m → ∃ a, w.cell? ⟨g2, o2 + k, none⟩ = some (.int .i64 a)) := hO
      have hBg := fun base W (hb : base ≤ W.heap.size) => otale_begins E low high md base W hb
      generalize loOf low = lo at *
      generalize hiOf low high = hi at *
      generalize modeOf md = mode at *
      clear hT hO
      go_enter Tryz.func4, Tryz.ntmps4
      go_wp2_with fail
      refine (hM _).mono ?_
      rintro e w1 ⟨rfl, hb1⟩
      have HB1 : Hid (Below w.heap.size w w1) := hb1
      clear hb1
      go_wp2_with fail
      refine (hBg w1.heap.size w1 (Nat.le_refl _)).mono ?_
      rintro e w2 ⟨ba, Pa, rfl, h1, h2, h3⟩
      have A2 : Hid (After EngAt w1.heap.size ba lo hi mode [] Pa w2 ∧ (∀ k, Pa k → w1.heap.size ≤ k) ∧ Below w1.heap.size w1 w2) := ⟨h1, h2, h3⟩
      clear h1 h2 h3
      go_wp2_with fail
      refine (hBg w1.heap.size w2 A2.out.2.2.size).mono ?_
      rintro e w3 ⟨bb, Pb, rfl, h1, h2, h3⟩
      have hw3 : Below w1.heap.size w1 w3 := A2.out.2.2.trans (h3.mono A2.out.2.2.size)
      have A3 : Hid ((∃ Pa Pb : Nat → Prop, After EngAt w1.heap.size ba lo hi mode [] Pa w3 ∧ After EngAt w1.heap.size bb lo hi mode [] Pb w3 ∧ (∀ k, Pa k → ¬ Pb k) ∧ (∀ k, Pa k ∨ Pb k → w1.heap.size ≤ k ∧ k < w3.heap.size)) ∧ Below w1.heap.size w1 w3) := by
        have hla := OTale.lt A2.out.1
        refine ⟨⟨Pa, Pb, OTale.steady E A2.out.1 h3.size (fun k hk => h3.block k (hla k hk)), h1, fun k hk hb => ?_, fun k hk => ?_⟩, hw3⟩
        · have := hla k hk; have := h2 k hb; omega
        · rcases hk with hk | hk
          · have := hla k hk; have := h3.size; exact ⟨A2.out.2.1 k hk, by omega⟩
          · have := h2 k hk; have := A2.out.2.2.size; exact ⟨by omega, OTale.lt h1 k hk⟩
      have HN : Hid (∀ j u, (Ls.flatMap encS)[j]? = some u → (w3.alloc (.cells #[] 28)).cell? (ad.add j) = some u) := by
        have hb : Below w.heap.size w (w3.alloc (.cells #[] 28)) := (HB1.out.trans (hw3.mono HB1.out.size)).alloc (by have := HB1.out.size; have := hw3.size; omega) _
        intro j u hu
        have h0 := HT.out j u hu
        exact (hb.cell (p := ad.add j) (World.block_lt_of_cell? _ _ h0)).trans h0
      have hE0 : Hid ((w3.alloc (.cells #[] 28)).ownsRow w1.heap.size 28 6 (.slice (some ⟨w3.heap.size, 0, none⟩) 0 0) 0 []) := ⟨rfl, .inr ⟨w3.heap.size, 0, #[], rfl, hw3.size, heap_alloc_new _ _, Nat.le_refl _, Nat.zero_le _, rfl, rfl⟩⟩
      have hl3 := hw3.size
      clear h1 h2 h3 hw3 A2 hBg hM
      go_wp2_with (first
        | (refine wpList_append_some _ rfl _ _ _ rfl w1.heap.size 28 i0 zSt 6 48 Tryz.underlying22 hi0 hz0 hz1 hz2 rfl (by omega) w3.heap.size 0 0 [] rfl hE0.out ad Ls.length c (Ls.flatMap encS) rfl (flatS_len Ls) HN.out (flatS_one Ls) (by unfold maxLen; omega) (by omega) (by simp; omega) ?_; intro gl cl w4 hown4 hgrow4 hat4)
        | fail)
      have T4 : Hid (Two EngAt w1 ba bb lo hi mode [] [] (.slice (some ⟨gl, 0, none⟩) Ls.length cl) Ls w4) := by
        obtain ⟨⟨Pa, Pb, g1, g2, g3, g4⟩, g5⟩ := A3.out
        have hb4 : Below w3.heap.size w3 w4 := (Go.Joins.below_alloc1 w3 (.cells #[] 28)).grown hgrow4 (by simp) (fun k e => by cases e; exact Nat.le_refl _)
        rw [Nat.zero_add, List.nil_append] at hown4
        have hgl : w3.heap.size ≤ gl := by rcases hat4 with h | h <;> (rw [h]; simp)
        refine ⟨⟨Pa, Pb, OTale.steady E g1 hb4.size (fun k hk => hb4.block k (g4 k (Or.inl hk)).2), OTale.steady E g2 hb4.size (fun k hk => hb4.block k (g4 k (Or.inr hk)).2), g3, fun k hk => ⟨(g4 k hk).1, fun e => ?_⟩⟩, hown4, g5.trans (hb4.mono g5.size)⟩
        have := (g4 k hk).2
        simp [Value.ownBlock] at e
        omega
      clear hown4 hgrow4 hat4 HN hE0 A3
      go_loopg [14] Ls.length (fun gg s14 wr => ∃ i : Nat, i ≤ Ls.length ∧ gg = Ls.length - i ∧ s14 = .int .i64 i ∧ Hid (Two EngAt w1 ba bb lo hi mode ((Ls.take i).map z0) [] (.slice (some ⟨gl, 0, none⟩) Ls.length cl) (zerod Ls i) wr))
      case atStart => exact ⟨0, Nat.zero_le _, rfl, rfl, by rw [zerod_zero]; exact T4⟩
      case round =>
        obtain ⟨i, hile, hgk, rfl, I⟩ := hrel
        have HG : Hid (gk = Ls.length - i) := hgk
        clear hgk T4
        by_cases hlt : i < Ls.length
        · obtain ⟨q, hq⟩ : ∃ q, Ls[i]? = some q := ⟨_, List.getElem?_eq_getElem hlt⟩
          have hzg := zerod_get Ls i q hq
          have hcq := I.out.cells (zerod_len Ls i) hzg
          have I2 := I.out.zero' E (zerod_len Ls i) hzg
          rw [zerod_succ Ls i q hq] at I2
          have hst := I2.a E (by rw [List.length_map, List.length_take]; omega) (z0 q) rfl
          rw [← take_z0 Ls i q hq] at hst
          simp only [z0] at hst
          have j1 : (0 : Int) ≤ (i : Int) := by omega
          have j2 : (i : Int) < (Ls.length : Int) := by omega
          obtain ⟨⟨c0, c1, c2, c3, c4, c5⟩, cf, cg⟩ := hcq
          clear hzg I2 hq I
          go_wp2_with fail
          refine hst.mono ?_
          rintro e w5 ⟨rfl, h5⟩
          have T5 : Hid (Two EngAt w1 ba bb lo hi mode ((Ls.take (i + 1)).map z0) [] (.slice (some ⟨gl, 0, none⟩) Ls.length cl) (zerod Ls (i + 1)) w5) := h5
          clear hst h5 c0 c1 c2 c3 c4 c5 cf cg
          go_wp2
          go_roundg (Ls.length - (i + 1))
          case measure => have := HG.out; omega
          case rel => exact ⟨i + 1, by omega, rfl, by first | rfl | (congr 1; omega) | go_num, T5⟩
        · have j2 : ¬ ((i : Int) < (Ls.length : Int)) := by omega
          have hie : i = Ls.length := by omega
          have T6 : Hid (Two EngAt w1 ba bb lo hi mode (Ls.map z0) [] (.slice (some ⟨gl, 0, none⟩) Ls.length cl) (Ls.map z0) wr) := by
            have := I.out
            rw [hie, zerod_all, List.take_length] at this
            exact this
          clear I hie HG
          go_wp2
          have P6 : Hid (Two EngAt w1 ba bb lo hi mode (Ls.map z0) [] (.slice (some ⟨gl, 0, none⟩) (Ls.map z0).length cl) (Ls.map z0) wr ∧ (([] : List St) ++ Ls.map z0).Perm (Ls.map z0) ∧ 0 + (Ls.map z0).length = Ls.length ∧ ∀ q ∈ Ls.map z0, q.wh = 0) := ⟨by rw [List.length_map]; exact T6.out, by simp, by simp, by simp [z0]⟩
          have hml : (Ls.map z0).length = Ls.length := List.length_map _
          go_loopg [13, 15] Ls.length (fun gg s13 s15 wz => ∃ (Q Rm : List St) (gs ck i : Nat), gg = Q.length ∧ s13 = .slice (some ⟨gs, 0, none⟩) Q.length ck ∧ s15 = .int .i64 i ∧ i ≤ 60 ∧ Hid (Two EngAt w1 ba bb lo hi mode (Ls.map z0) Rm (.slice (some ⟨gs, 0, none⟩) Q.length ck) Q wz ∧ (Rm ++ Q).Perm (Ls.map z0) ∧ i + Q.length = Ls.length ∧ ∀ q ∈ Q, q.wh = 0))
          case atStart => exact ⟨Ls.map z0, [], gl, cl, 0, hml.symm, by rw [hml], rfl, Nat.zero_le _, P6⟩
          case round =>
            clear P6 T6 hml
            obtain ⟨Q, Rm, gs, ck, i, hgk, rfl, rfl, hi60, I⟩ := hrel
            have HG : Hid (gk = Q.length) := hgk
            clear hgk
            have hiq := I.out.2.2.1
            have hRl : Rm.length + Q.length = Ls.length := by have := I.out.2.1.length_eq; rw [List.length_append, List.length_map] at this; exact this
            by_cases hne : 0 < Q.length
            · have j1 : (0 : Int) < (Q.length : Int) := by omega
              have j2 : (Q.length : Int) ≤ 60 := by omega
              have j3 : (i : Int) ≤ 60 := by omega
              have HK : Hid (∀ k, k < Q.length → ∃ q, Q[k]? = some q ∧ ((wr.cell? ⟨gs, k * 6, none⟩ = some (.int .i64 q.wh) ∧ wr.cell? ⟨gs, k * 6 + 1, none⟩ = some (.int .i64 q.s) ∧ wr.cell? ⟨gs, k * 6 + 2, none⟩ = some (.int .i64 q.n) ∧ wr.cell? ⟨gs, k * 6 + 3, none⟩ = some (.int .i64 q.k) ∧ wr.cell? ⟨gs, k * 6 + 4, none⟩ = some (.int .i64 q.t) ∧ wr.cell? ⟨gs, k * 6 + 5, none⟩ = some (.int .i64 q.v)) ∧ wr.frozen? ⟨gs, k * 6, none⟩ = false ∧ gs < wr.heap.size) ∧
                  Calls Tryz.prog 9 #[.pointer (some ⟨bb, 0, none⟩), .agg #[.int .i64 q.wh, .int .i64 q.s, .int .i64 q.n, .int .i64 q.k, .int .i64 q.t, .int .i64 q.v]] wr fun e w' => e = .returned (.bool true) ∧ Two EngAt w1 ba bb lo hi mode (Ls.map z0) (Rm ++ [q]) (.slice (some ⟨gs, 0, none⟩) Q.length ck) Q w') := by
                intro k hk
                obtain ⟨q, hq⟩ : ∃ q, Q[k]? = some q := ⟨_, List.getElem?_eq_getElem hk⟩
                exact ⟨q, hq, I.out.1.cells rfl hq, I.out.1.b E (by omega) q (I.out.2.2.2 q (List.mem_of_getElem? hq))⟩
              by_cases hm0 : m = 0
              · obtain ⟨k, hk, hkk⟩ : ∃ k, k < Q.length ∧ k = Q.length - 1 := ⟨Q.length - 1, by omega, rfl⟩
                have e0 : ¬ (0 : Int) < (m : Int) := by omega
                clear hm0
                have e1 : (Q.length : Int) - 1 = (k : Int) := by omega
                have e2 : IntKind.i64.wrap (k : Int) = (k : Int) := wr64 (by omega) (by omega)
                obtain ⟨q, hq, ⟨⟨c0, c1, c2, c3, c4, c5⟩, cf, cg⟩, hst⟩ := HK.out k hk
                have k0 : (0 : Int) ≤ (k : Int) := by omega
                have k1 : (k : Int) < (Q.length : Int) := by omega
                clear hkk
                go_wp2_with fail
                refine hst.mono ?_
                rintro e w5 ⟨rfl, h5⟩
                have T5 : Hid (Two EngAt w1 ba bb lo hi mode (Ls.map z0) (Rm ++ [q]) (.slice (some ⟨gs, 0, none⟩) Q.length ck) Q w5) := h5
                have HQ : Hid (Q[k]? = some q) := hq
                clear hst h5 c0 c1 c2 c3 c4 c5 cf cg hq HK
                obtain ⟨p, hp⟩ : ∃ p, p = k + 1 := ⟨_, rfl⟩
                have e5 : (k : Int) + 1 = (p : Int) := by omega
                have e6 : IntKind.i64.wrap (p : Int) = (p : Int) := wr64 (by omega) (by omega)
                have hck : Q.length ≤ ck := by
                  rcases T5.out.row.2 with ⟨h1, _⟩ | ⟨g', cap', cur, h1, _, _, h2, _⟩
                  · cases h1
                  · cases h1; exact h2
                have HP : Hid (p = k + 1) := hp
                have p1 : p ≤ Q.length := by omega
                have p2 : p ≤ ck := by omega
                have p3 : k ≤ ck := by omega
                have p4 : (0 : Int) ≤ (p : Int) := by omega
                have p5 : (p : Int) ≤ (Q.length : Int) := by omega
                have p6 : k ≤ Q.length := by omega
                clear hp
                obtain ⟨A, hA, hA2⟩ : ∃ A : Addr, (if ck = p then some (⟨gs, 0, none⟩ : Addr) else some ⟨gs, p * 6, none⟩) = some A ∧ (p < Q.length → A = ⟨gs, p * 6, none⟩) := by
                  by_cases e : ck = p
                  · exact ⟨⟨gs, 0, none⟩, by simp [e], fun h => by omega⟩
                  · exact ⟨⟨gs, p * 6, none⟩, by simp [e], fun _ => rfl⟩
                have hbA : Below w5.heap.size w5 (w5.drew.alloc (.cells #[] 28)) := (Below.refl _ _).drew.alloc (Nat.le_refl _) _
                have hrA := kept_below T5.out.row hbA
                have hlw : w1.heap.size ≤ w5.heap.size := T5.out.low.size
                have E1 : Hid ((w5.drew.alloc (.cells #[] 28)).ownsRow w1.heap.size 28 6 (.slice (some ⟨w5.heap.size, 0, none⟩) 0 0) 0 []) := ⟨rfl, .inr ⟨w5.heap.size, 0, #[], rfl, hlw, heap_alloc_new _ _, Nat.le_refl _, Nat.zero_le _, rfl, rfl⟩⟩
                have N1 : Hid (∀ j u, ((Q.take k).flatMap encS)[j]? = some u → (w5.drew.alloc (.cells #[] 28)).cell? ((⟨gs, 0, none⟩ : Addr).add j) = some u) := fun j u hu => hrA.cells (g := gs) rfl j u (flatS_take Q k j u hu)
                have hgs5 : gs < w5.heap.size := (T5.out.row.lt gs rfl).2
                have N2 : Hid (∀ w6, (w5.drew.alloc (.cells #[] 28)).grownBy w6 (some w5.heap.size) → ∀ j u, ((Q.drop p).flatMap encS)[j]? = some u → w6.cell? (A.add j) = some u) := by
                  intro w6 hg6 j u hu
                  have hpl : p < Q.length := by
                    have := (List.getElem?_eq_some_iff.1 hu).1
                    rw [flatS_len, List.length_drop] at this
                    omega
                  rw [hA2 hpl]
                  have h1 := hrA.cells (g := gs) rfl (p * 6 + j) u (flatS_drop Q p p1 j u hu)
                  rw [add_at] at h1
                  rw [add_off, World.cell?_of_block (w := w5.drew.alloc (.cells #[] 28)) (a := ⟨gs, p * 6 + j, none⟩) (hg6.block gs (Nat.lt_of_lt_of_le hgs5 hbA.size) (by simp; omega))]
                  exact h1
                have HD : Hid (∀ g6 g7 c7 w6 w7, (w5.drew.alloc (.cells #[] 28)).grownBy w6 (some w5.heap.size) → (g6 = w5.heap.size ∨ g6 = (w5.drew.alloc (.cells #[] 28)).heap.size) → w6.grownBy w7 (some g6) → (g7 = g6 ∨ g7 = w6.heap.size) → w7.ownsRow w1.heap.size 28 6 (.slice (some ⟨g7, 0, none⟩) (k + (Q.length - p)) c7) (k + (Q.length - p)) ((Q.take k).flatMap encS ++ (Q.drop p).flatMap encS) →
                    Two EngAt w1 ba bb lo hi mode (Ls.map z0) (Rm ++ [q]) (.slice (some ⟨g7, 0, none⟩) (outQ Q k).length c7) (outQ Q k) w7 ∧ k + (Q.length - p) = (outQ Q k).length) := by
                  intro g6 g7 c7 w6 w7 h1 h2 h3 h4 h5
                  have hol : k + (Q.length - p) = (outQ Q k).length := by have := outQ_len Q k hk; have := HP.out; omega
                  rw [hol, ← List.flatMap_append, HP.out] at h5
                  have hs1 := hbA.size
                  have hs2 := h1.size
                  have hs3 : (w5.drew.alloc (.cells #[] 28)).heap.size = w5.heap.size + 1 := by
                    have := World.size_alloc w5.drew (.cells #[] 28); exact this
                  refine ⟨Two.other E T5.out h5 ⟨h3.os.trans (h1.os.trans hbA.os), h3.tape.trans (h1.tape.trans hbA.tape), h3.output.trans (h1.output.trans hbA.output), by have := h3.size; omega, fun kk hkk _ => ?_⟩ (Or.inr ⟨g7, rfl, by omega⟩), hol⟩
                  exact ((h3.block kk (by omega) (by simp; omega)).trans (h1.block kk (by omega) (by simp; omega))).trans (hbA.block kk hkk)
                have p7 : (k : Int) ≤ (Q.length : Int) := by omega
                clear hbA hrA
                go_wp2
                go_region_law (first
                  | (refine step_append_any _ (by rfl) _ _ _ (by rfl) w1.heap.size 28 i0 zSt 6 48 Tryz.underlying22 hi0 hz0 hz1 hz2 rfl (by omega) w5.heap.size 0 0 [] (by rfl) ?_ ⟨gs, 0, none⟩ k ck ((Q.take k).flatMap encS) (by rfl) ?_ ?_ (flatS_one _) (by unfold maxLen; omega) (by omega) ?_ ?_; (exact E1.out); (rw [flatS_len, List.length_take]; omega); (exact N1.out); (simp; omega); intro g6 c6 w6 hown6 hgrow6 hat6; rw [Nat.zero_add, List.nil_append] at hown6)
                  | (refine step_append_any _ (by rfl) _ _ _ (by rfl) w1.heap.size 28 i0 zSt 6 48 Tryz.underlying22 hi0 hz0 hz1 hz2 rfl (by omega) g6 c6 k ((Q.take k).flatMap encS) ?_ ?_ A (Q.length - p) (ck - p) ((Q.drop p).flatMap encS) ?_ ?_ ?_ (flatS_one _) (by unfold maxLen; omega) (by omega) ?_ ?_; (first | rfl | simp); (exact hown6); (first | rfl | simp); (rw [flatS_len, List.length_drop]); (exact N2.out w6 hgrow6); (have := hgrow6.size; simp at this; omega); intro g7 c7 w7 hown7 hgrow7 hat7; have h7 := HD.out g6 g7 c7 w6 w7 hgrow6 hat6 hgrow7 hat7 hown7; have T7 : Hid (Two EngAt w1 ba bb lo hi mode (Ls.map z0) (Rm ++ [q]) (.slice (some ⟨g7, 0, none⟩) (outQ Q k).length c7) (outQ Q k) w7 ∧ k + (Q.length - p) = (outQ Q k).length) := h7; clear h7 hown7 hgrow7 hat7 hown6 hgrow6 hat6)
                  | fail)
                have HR : Hid ((Rm ++ [q] ++ outQ Q k).Perm (Ls.map z0) ∧ i + 1 + (outQ Q k).length = Ls.length ∧ (∀ r ∈ outQ Q k, r.wh = 0) ∧ (outQ Q k).length < Q.length) := by
                  have hpm := outQ_perm Q k q HQ.out
                  have hl := outQ_len Q k hk
                  refine ⟨?_, by omega, fun r hr => I.out.2.2.2 r (hpm.mem_iff.1 (List.mem_cons_of_mem _ hr)), by omega⟩
                  rw [List.append_assoc]
                  exact (List.Perm.append_left Rm hpm).trans I.out.2.1
                have j6 : i + 1 ≤ 60 := by omega
                have e9 := T7.out.2
                clear HD N1 N2 E1
                go_wp2
                go_roundg (outQ Q k).length
                case measure => have := HG.out; have := HR.out.2.2.2; omega
                case rel => exact ⟨outQ Q k, Rm ++ [q], g7, c7, i + 1, rfl, by first | rfl | rw [e9], by first | rfl | (congr 1; omega) | go_num, j6, T7.out.1, HR.out.1, HR.out.2.1, HR.out.2.2.1⟩
              · have e0 : (0 : Int) < (m : Int) := by omega
                have e00 : ¬ ((m : Int) = 0) := by omega
                clear hm0
                obtain ⟨g2, o2, rfl, hg2, hcs⟩ := HO.out (by omega)
                obtain ⟨r, hr⟩ : ∃ r, r = i % m := ⟨_, rfl⟩
                have e1 : (i : Int).tmod (m : Int) = (r : Int) := by rw [hr]; rfl
                have hrm : r < m := by rw [hr]; exact Nat.mod_lt _ (by omega)
                have r0 : (0 : Int) ≤ (r : Int) := by omega
                have r1 : (r : Int) < (m : Int) := by omega
                have e2 : IntKind.i64.wrap (r : Int) = (r : Int) := wr64 (by omega) (by omega)
                obtain ⟨aa, haa⟩ := hcs r hrm
                have hca : wr.cell? ⟨g2, o2 + r, none⟩ = some (.int .i64 aa) := ((HB1.out.trans (I.out.1.low.mono HB1.out.size)).cell (p := ⟨g2, _, none⟩) hg2).trans haa
                have HPK := pick_any aa Q.length wr hne (by omega)
                have hk2 := (pickN_lt aa Q.length hne).1
                generalize pickN aa Q.length = k at *
                have hk := hk2
                clear hcs haa hr HT hk2
                go_wp2_with fail
                refine HPK.mono ?_
                rintro e w8 ⟨rfl, rfl⟩
                clear HPK
                obtain ⟨q, hq, ⟨⟨c0, c1, c2, c3, c4, c5⟩, cf, cg⟩, hst⟩ := HK.out k hk
                have k0 : (0 : Int) ≤ (k : Int) := by omega
                have k1 : (k : Int) < (Q.length : Int) := by omega
                go_wp2_with fail
                refine hst.mono ?_
                rintro e w5 ⟨rfl, h5⟩
                have T5 : Hid (Two EngAt w1 ba bb lo hi mode (Ls.map z0) (Rm ++ [q]) (.slice (some ⟨gs, 0, none⟩) Q.length ck) Q w5) := h5
                have HQ : Hid (Q[k]? = some q) := hq
                clear hst h5 c0 c1 c2 c3 c4 c5 cf cg hq HK
                obtain ⟨p, hp⟩ : ∃ p, p = k + 1 := ⟨_, rfl⟩
                have e5 : (k : Int) + 1 = (p : Int) := by omega
                have e6 : IntKind.i64.wrap (p : Int) = (p : Int) := wr64 (by omega) (by omega)
                have hck : Q.length ≤ ck := by
                  rcases T5.out.row.2 with ⟨h1, _⟩ | ⟨g', cap', cur, h1, _, _, h2, _⟩
                  · cases h1
                  · cases h1; exact h2
                have HP : Hid (p = k + 1) := hp
                have p1 : p ≤ Q.length := by omega
                have p2 : p ≤ ck := by omega
                have p3 : k ≤ ck := by omega
                have p4 : (0 : Int) ≤ (p : Int) := by omega
                have p5 : (p : Int) ≤ (Q.length : Int) := by omega
                have p6 : k ≤ Q.length := by omega
                clear hp
                obtain ⟨A, hA, hA2⟩ : ∃ A : Addr, (if ck = p then some (⟨gs, 0, none⟩ : Addr) else some ⟨gs, p * 6, none⟩) = some A ∧ (p < Q.length → A = ⟨gs, p * 6, none⟩) := by
                  by_cases e : ck = p
                  · exact ⟨⟨gs, 0, none⟩, by simp [e], fun h => by omega⟩
                  · exact ⟨⟨gs, p * 6, none⟩, by simp [e], fun _ => rfl⟩
                have hbA : Below w5.heap.size w5 (w5.drew.alloc (.cells #[] 28)) := (Below.refl _ _).drew.alloc (Nat.le_refl _) _
                have hrA := kept_below T5.out.row hbA
                have hlw : w1.heap.size ≤ w5.heap.size := T5.out.low.size
                have E1 : Hid ((w5.drew.alloc (.cells #[] 28)).ownsRow w1.heap.size 28 6 (.slice (some ⟨w5.heap.size, 0, none⟩) 0 0) 0 []) := ⟨rfl, .inr ⟨w5.heap.size, 0, #[], rfl, hlw, heap_alloc_new _ _, Nat.le_refl _, Nat.zero_le _, rfl, rfl⟩⟩
                have N1 : Hid (∀ j u, ((Q.take k).flatMap encS)[j]? = some u → (w5.drew.alloc (.cells #[] 28)).cell? ((⟨gs, 0, none⟩ : Addr).add j) = some u) := fun j u hu => hrA.cells (g := gs) rfl j u (flatS_take Q k j u hu)
                have hgs5 : gs < w5.heap.size := (T5.out.row.lt gs rfl).2
                have N2 : Hid (∀ w6, (w5.drew.alloc (.cells #[] 28)).grownBy w6 (some w5.heap.size) → ∀ j u, ((Q.drop p).flatMap encS)[j]? = some u → w6.cell? (A.add j) = some u) := by
                  intro w6 hg6 j u hu
                  have hpl : p < Q.length := by
                    have := (List.getElem?_eq_some_iff.1 hu).1
                    rw [flatS_len, List.length_drop] at this
                    omega
                  rw [hA2 hpl]
                  have h1 := hrA.cells (g := gs) rfl (p * 6 + j) u (flatS_drop Q p p1 j u hu)
                  rw [add_at] at h1
                  rw [add_off, World.cell?_of_block (w := w5.drew.alloc (.cells #[] 28)) (a := ⟨gs, p * 6 + j, none⟩) (hg6.block gs (Nat.lt_of_lt_of_le hgs5 hbA.size) (by simp; omega))]
                  exact h1
                have HD : Hid (∀ g6 g7 c7 w6 w7, (w5.drew.alloc (.cells #[] 28)).grownBy w6 (some w5.heap.size) → (g6 = w5.heap.size ∨ g6 = (w5.drew.alloc (.cells #[] 28)).heap.size) → w6.grownBy w7 (some g6) → (g7 = g6 ∨ g7 = w6.heap.size) → w7.ownsRow w1.heap.size 28 6 (.slice (some ⟨g7, 0, none⟩) (k + (Q.length - p)) c7) (k + (Q.length - p)) ((Q.take k).flatMap encS ++ (Q.drop p).flatMap encS) →
                    Two EngAt w1 ba bb lo hi mode (Ls.map z0) (Rm ++ [q]) (.slice (some ⟨g7, 0, none⟩) (outQ Q k).length c7) (outQ Q k) w7 ∧ k + (Q.length - p) = (outQ Q k).length) := by
                  intro g6 g7 c7 w6 w7 h1 h2 h3 h4 h5
                  have hol : k + (Q.length - p) = (outQ Q k).length := by have := outQ_len Q k hk; have := HP.out; omega
                  rw [hol, ← List.flatMap_append, HP.out] at h5
                  have hs1 := hbA.size
                  have hs2 := h1.size
                  have hs3 : (w5.drew.alloc (.cells #[] 28)).heap.size = w5.heap.size + 1 := by
                    have := World.size_alloc w5.drew (.cells #[] 28); exact this
                  refine ⟨Two.other E T5.out h5 ⟨h3.os.trans (h1.os.trans hbA.os), h3.tape.trans (h1.tape.trans hbA.tape), h3.output.trans (h1.output.trans hbA.output), by have := h3.size; omega, fun kk hkk _ => ?_⟩ (Or.inr ⟨g7, rfl, by omega⟩), hol⟩
                  exact ((h3.block kk (by omega) (by simp; omega)).trans (h1.block kk (by omega) (by simp; omega))).trans (hbA.block kk hkk)
                have p7 : (k : Int) ≤ (Q.length : Int) := by omega
                clear hbA hrA
                go_wp2
                go_region_law (first
                  | (refine step_append_any _ (by rfl) _ _ _ (by rfl) w1.heap.size 28 i0 zSt 6 48 Tryz.underlying22 hi0 hz0 hz1 hz2 rfl (by omega) w5.heap.size 0 0 [] (by rfl) ?_ ⟨gs, 0, none⟩ k ck ((Q.take k).flatMap encS) (by rfl) ?_ ?_ (flatS_one _) (by unfold maxLen; omega) (by omega) ?_ ?_; (exact E1.out); (rw [flatS_len, List.length_take]; omega); (exact N1.out); (simp; omega); intro g6 c6 w6 hown6 hgrow6 hat6; rw [Nat.zero_add, List.nil_append] at hown6)
                  | (refine step_append_any _ (by rfl) _ _ _ (by rfl) w1.heap.size 28 i0 zSt 6 48 Tryz.underlying22 hi0 hz0 hz1 hz2 rfl (by omega) g6 c6 k ((Q.take k).flatMap encS) ?_ ?_ A (Q.length - p) (ck - p) ((Q.drop p).flatMap encS) ?_ ?_ ?_ (flatS_one _) (by unfold maxLen; omega) (by omega) ?_ ?_; (first | rfl | simp); (exact hown6); (first | rfl | simp); (rw [flatS_len, List.length_drop]); (exact N2.out w6 hgrow6); (have := hgrow6.size; simp at this; omega); intro g7 c7 w7 hown7 hgrow7 hat7; have h7 := HD.out g6 g7 c7 w6 w7 hgrow6 hat6 hgrow7 hat7 hown7; have T7 : Hid (Two EngAt w1 ba bb lo hi mode (Ls.map z0) (Rm ++ [q]) (.slice (some ⟨g7, 0, none⟩) (outQ Q k).length c7) (outQ Q k) w7 ∧ k + (Q.length - p) = (outQ Q k).length) := h7; clear h7 hown7 hgrow7 hat7 hown6 hgrow6 hat6)
                  | fail)
                have HR : Hid ((Rm ++ [q] ++ outQ Q k).Perm (Ls.map z0) ∧ i + 1 + (outQ Q k).length = Ls.length ∧ (∀ r ∈ outQ Q k, r.wh = 0) ∧ (outQ Q k).length < Q.length) := by
                  have hpm := outQ_perm Q k q HQ.out
                  have hl := outQ_len Q k hk
                  refine ⟨?_, by omega, fun r hr => I.out.2.2.2 r (hpm.mem_iff.1 (List.mem_cons_of_mem _ hr)), by omega⟩
                  rw [List.append_assoc]
                  exact (List.Perm.append_left Rm hpm).trans I.out.2.1
                have j6 : i + 1 ≤ 60 := by omega
                have e9 := T7.out.2
                clear HD N1 N2 E1
                go_wp2
                go_roundg (outQ Q k).length
                case measure => have := HG.out; have := HR.out.2.2.2; omega
                case rel => exact ⟨outQ Q k, Rm ++ [q], g7, c7, i + 1, rfl, by first | rfl | rw [e9], by first | rfl | (congr 1; omega) | go_num, j6, T7.out.1, HR.out.1, HR.out.2.1, HR.out.2.2.1⟩
            · have hq0 : Q = [] := List.eq_nil_of_length_eq_zero (by omega)
              have j1 : ¬ (0 : Int) < (Q.length : Int) := by omega
              obtain ⟨⟨Pa, Pb, ⟨be1, bf1, nF1, va1, vb1, F1, L1, x1, S1, h1⟩, ⟨be2, bf2, nF2, va2, vb2, F2, L2, x2, S2, h2⟩, h3, h4⟩, h5, h6⟩ := I.out.1
              have hc1 := h1.tale.cells
              have hc2 := h2.tale.cells
              have hl1 := h1.tale.lt
              have hl2 := h2.tale.lt
              have hRp : Rm.Perm (Ls.map z0) := by have := I.out.2.1; rw [hq0, List.append_nil] at this; exact this
              have hLL : L2.Perm L1 := h2.lv.trans ((view_perm (rowsOf_perm hRp) (rowsOf_perm hRp)).trans h1.lv.symm)
              have hlen : L1.length ≤ 20000 := by
                rw [h1.lv.length_eq]
                exact view_small _ _ _ _ _ 60 (by omega) (by have := rowsOf_len (Ls.map z0); rw [List.length_map] at this; omega)
              have hlow := h6
              obtain ⟨Z, hZ⟩ : ∃ Z, Z = vOf L1 := ⟨_, rfl⟩
              obtain ⟨G, hG⟩ : ∃ G, G = gOf L1 := ⟨_, rfl⟩
              have hZl : (Z.length : Int) ≤ 20000 := by have := Sh.vlen L1; rw [← hZ] at this; omega
              have hGl : (G.length : Int) ≤ 20000 := by have := Sh.glen L1; rw [← hG] at this; omega
              have V1 : Hid (∀ W, Below wr.heap.size wr W → Calls Tryz.prog 10 #[.pointer (some ⟨be1, 0, none⟩)] W fun e w' => ∃ oa c, e = .returned (.slice oa Z.length c) ∧ w'.ownsRow W.heap.size 50 9 (.slice oa Z.length c) Z.length (Z.flatMap encO) ∧ Below W.heap.size W w') := fun W hW => by
                rw [hZ]; exact Sh.view be1 x1 L1 S1 W (E.steady _ _ _ S1 wr W h1.eng hW.size (fun k hk => hW.block k (h1.foot k hk).1)) (by omega)
              have V2 : Hid (∀ W, Below wr.heap.size wr W → Calls Tryz.prog 10 #[.pointer (some ⟨be2, 0, none⟩)] W fun e w' => ∃ oa c, e = .returned (.slice oa Z.length c) ∧ w'.ownsRow W.heap.size 50 9 (.slice oa Z.length c) Z.length (Z.flatMap encO) ∧ Below W.heap.size W w') := fun W hW => by
                rw [hZ, ← Sh.vperm hLL]; exact Sh.view be2 x2 L2 S2 W (E.steady _ _ _ S2 wr W h2.eng hW.size (fun k hk => hW.block k (h2.foot k hk).1)) (by rw [hLL.length_eq]; omega)
              have U1 : Hid (∀ W, Below wr.heap.size wr W → Calls Tryz.prog 14 #[.pointer (some ⟨be1, 0, none⟩)] W fun e w' => ∃ oa c, e = .returned (.slice oa G.length c) ∧ w'.ownsRow W.heap.size 52 6 (.slice oa G.length c) G.length (G.flatMap encGQ) ∧ Below W.heap.size W w') := fun W hW => by
                rw [hG]; exact Sh.groups be1 x1 L1 S1 W (E.steady _ _ _ S1 wr W h1.eng hW.size (fun k hk => hW.block k (h1.foot k hk).1)) (by omega)
              have U2 : Hid (∀ W, Below wr.heap.size wr W → Calls Tryz.prog 14 #[.pointer (some ⟨be2, 0, none⟩)] W fun e w' => ∃ oa c, e = .returned (.slice oa G.length c) ∧ w'.ownsRow W.heap.size 52 6 (.slice oa G.length c) G.length (G.flatMap encGQ) ∧ Below W.heap.size W w') := fun W hW => by
                rw [hG, ← Sh.gperm hLL]; exact Sh.groups be2 x2 L2 S2 W (E.steady _ _ _ S2 wr W h2.eng hW.size (fun k hk => hW.block k (h2.foot k hk).1)) (by rw [hLL.length_eq]; omega)
              have HLow : Hid (Below w.heap.size w wr) := HB1.out.trans (hlow.mono HB1.out.size)
              have HZw : Hid (∀ o ∈ Z, o.wf) := fun o ho => view_wf h1.sa h1.sb o (h1.lv.subset (Sh.vsub L1 o (by rw [← hZ]; exact ho)))
              clear h1 h2 h3 h4 h5 h6 hq0 hZ hG hLL hRp hlow hlen
              obtain ⟨hc1, _⟩ := hc1
              obtain ⟨hc2, _⟩ := hc2
              go_wp2
              go_region_held3 (fun W => W.cell? ⟨ba, 0, none⟩ = some (.pointer (some ⟨be1, 0, none⟩)) ∧ W.cell? ⟨bb, 0, none⟩ = some (.pointer (some ⟨be2, 0, none⟩))) (first | (go_keep; done) | fail) (first
                | (go_at_call 10; refine (V2.out _ B5.out.1).mono ?_; rintro e w6 ⟨oa6, ck6, rfl, hr6, hb6⟩; have B6 : Hid (Below wr.heap.size wr w6 ∧ w6.ownsRow wr.heap.size 50 9 (.slice oa5 Z.length ck5) Z.length (Z.flatMap encO) ∧ w6.ownsRow wr.heap.size 50 9 (.slice oa6 Z.length ck6) Z.length (Z.flatMap encO)) := next_rows B5.out.1 B5.out.2 hr6 hb6; have d3 := (B6.out.1.cell (p := ⟨ba, 0, none⟩) hl1).trans hc1; have d4 := (B6.out.1.cell (p := ⟨bb, 0, none⟩) hl2).trans hc2; clear hr6 hb6)
                | (go_at_call 10; refine (V1.out _ (Below.refl _ _).drew).mono ?_; rintro e w5 ⟨oa5, ck5, rfl, hr5, hb5⟩; have B5 : Hid (Below wr.heap.size wr w5 ∧ w5.ownsRow wr.heap.size 50 9 (.slice oa5 Z.length ck5) Z.length (Z.flatMap encO)) := ⟨(Below.refl _ _).drew.trans hb5, hr5⟩; have d1 := (B5.out.1.cell (p := ⟨ba, 0, none⟩) hl1).trans hc1; have d2 := (B5.out.1.cell (p := ⟨bb, 0, none⟩) hl2).trans hc2; clear hr5 hb5)
                | fail)
              clear V1 V2 B5 d1 d2
              go_wp2
              go_region_held3 (fun W => W.cell? ⟨ba, 0, none⟩ = some (.pointer (some ⟨be1, 0, none⟩)) ∧ W.cell? ⟨bb, 0, none⟩ = some (.pointer (some ⟨be2, 0, none⟩))) (first | (go_keep; done) | fail) (first
                | (go_at_call 14; refine (U2.out _ B7.out.1).mono ?_; rintro e w8 ⟨oa8, ck8, rfl, hr8, hb8⟩; have B8 : Hid (Below wr.heap.size wr w8 ∧ (w8.ownsRow wr.heap.size 50 9 (.slice oa5 Z.length ck5) Z.length (Z.flatMap encO) ∧ w8.ownsRow wr.heap.size 50 9 (.slice oa6 Z.length ck6) Z.length (Z.flatMap encO)) ∧ w8.ownsRow wr.heap.size 52 6 (.slice oa7 G.length ck7) G.length (G.flatMap encGQ) ∧ w8.ownsRow wr.heap.size 52 6 (.slice oa8 G.length ck8) G.length (G.flatMap encGQ)) := ⟨(next_rows B7.out.1 B7.out.2.2 hr8 hb8).1, ⟨kept_below B7.out.2.1.1 hb8, kept_below B7.out.2.1.2 hb8⟩, (next_rows B7.out.1 B7.out.2.2 hr8 hb8).2⟩; have d7 := (B8.out.1.cell (p := ⟨ba, 0, none⟩) hl1).trans hc1; have d8 := (B8.out.1.cell (p := ⟨bb, 0, none⟩) hl2).trans hc2; clear hr8 hb8)
                | (go_at_call 14; refine (U1.out _ B6.out.1.drew).mono ?_; rintro e w7 ⟨oa7, ck7, rfl, hr7, hb7⟩; have hbd : Below w6.heap.size w6 w7 := (Below.refl _ _).drew.trans hb7; have B7 : Hid (Below wr.heap.size wr w7 ∧ (w7.ownsRow wr.heap.size 50 9 (.slice oa5 Z.length ck5) Z.length (Z.flatMap encO) ∧ w7.ownsRow wr.heap.size 50 9 (.slice oa6 Z.length ck6) Z.length (Z.flatMap encO)) ∧ w7.ownsRow wr.heap.size 52 6 (.slice oa7 G.length ck7) G.length (G.flatMap encGQ)) := ⟨B6.out.1.trans (hbd.mono B6.out.1.size), ⟨kept_below B6.out.2.1 hbd, kept_below B6.out.2.2 hbd⟩, hr7.mono B6.out.1.size⟩; have d5 := (B7.out.1.cell (p := ⟨ba, 0, none⟩) hl1).trans hc1; have d6 := (B7.out.1.cell (p := ⟨bb, 0, none⟩) hl2).trans hc2; clear hr7 hb7 hbd)
                | fail)
              clear U1 U2 B6 B7 d3 d4 d5 d6 d7 d8 hc1 hc2
              go_wp2
              go_loopg [21] Z.length (fun gg s21 wz => ∃ j : Nat, j ≤ Z.length ∧ gg = Z.length - j ∧ s21 = .int .i64 j ∧ Hid (Below w8.heap.size w8 wz))
              case atStart => exact ⟨0, Nat.zero_le _, rfl, rfl, Below.refl _ _⟩
              case round =>
                obtain ⟨j, hjle, hgk, rfl, I8⟩ := hrel
                have HG8 : Hid (gk = Z.length - j) := hgk
                clear hgk
                by_cases hltz : j < Z.length
                · obtain ⟨z, hz⟩ : ∃ z, Z[j]? = some z := ⟨_, List.getElem?_eq_getElem hltz⟩
                  obtain ⟨ga, ca, eqa⟩ := Go.Joins.ownsRow_form B8.out.2.1.1 (by omega)
                  obtain ⟨gb, cb, eqb⟩ := Go.Joins.ownsRow_form B8.out.2.1.2 (by omega)
                  cases eqa
                  cases eqb
                  have hca := ks_cells (kept_below B8.out.2.1.1 I8.out) j z hz
                  have hcb := ks_cells (kept_below B8.out.2.1.2 I8.out) j z hz
                  have hnq := neq_out50 z
                  simp only [vO] at hnq
                  have l1 : (0 : Int) ≤ (j : Int) := by omega
                  have l2 : (j : Int) < (Z.length : Int) := by omega
                  clear hz
                  go_wp2
                  go_region
                  all_goals (try go_wp2)
                  all_goals go_roundg (Z.length - (j + 1))
                  all_goals first
                    | exact ⟨j + 1, by omega, rfl, by first | rfl | (congr 1; omega) | go_num, I8.out.drew⟩
                    | (have := HG8.out; omega)
                · have l2 : ¬ ((j : Int) < (Z.length : Int)) := by omega
                  have HX : Hid (∀ W, Below w8.heap.size w8 W → Below w.heap.size w W) := fun W hW => by
                    have h1 := HLow.out
                    have h2 := B8.out.1
                    exact h1.trans ((h2.trans (hW.mono h2.size)).mono h1.size)
                  clear HG8
                  go_wp2
                  go_loopg [22] G.length (fun gg s22 wz => ∃ k : Nat, k ≤ G.length ∧ gg = G.length - k ∧ s22 = .int .i64 k ∧ Hid (Below w8.heap.size w8 wz))
                  case atStart => exact ⟨0, Nat.zero_le _, rfl, rfl, I8⟩
                  case round =>
                    clear I8
                    obtain ⟨k, hkle, hgk, rfl, I9⟩ := hrel
                    have HG9 : Hid (gk = G.length - k) := hgk
                    clear hgk
                    by_cases hltg : k < G.length
                    · obtain ⟨q, hq⟩ : ∃ q, G[k]? = some q := ⟨_, List.getElem?_eq_getElem hltg⟩
                      obtain ⟨ga, ca, eqa⟩ := Go.Joins.ownsRow_form B8.out.2.2.1 (by omega)
                      obtain ⟨gb, cb, eqb⟩ := Go.Joins.ownsRow_form B8.out.2.2.2 (by omega)
                      cases eqa
                      cases eqb
                      have hca := gr_cells (kept_below B8.out.2.2.1 I9.out) k q hq
                      have hcb := gr_cells (kept_below B8.out.2.2.2 I9.out) k q hq
                      have hnq := neq_grp q
                      have l3 : (0 : Int) ≤ (k : Int) := by omega
                      have l4 : (k : Int) < (G.length : Int) := by omega
                      clear hq
                      go_wp2
                      go_region
                      all_goals (try go_wp2)
                      all_goals go_roundg (G.length - (k + 1))
                      all_goals first
                        | exact ⟨k + 1, by omega, rfl, by first | rfl | (congr 1; omega) | go_num, I9.out.drew⟩
                        | (have := HG9.out; omega)
                    · have l4 : ¬ ((k : Int) < (G.length : Int)) := by omega
                      clear HG9
                      go_wp2
                      go_ret
                      exact ⟨rfl, HX.out _ I9.out⟩

end Go.Proofs.YtmmbjbgimpgcfaaGreatDoor
