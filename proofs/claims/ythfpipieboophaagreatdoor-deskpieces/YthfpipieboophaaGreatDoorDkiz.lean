/- Dkiz: several texts in one. -/
import Derived.Test.YthfpipieboophaaGreatDoorDkh
/- A session: a row comes. -/
namespace Go.Proofs.YthfpipieboophaaGreatDoor
open Go.RowKit Go.Sort Go.Shelf
set_option maxRecDepth 100000
theorem in_wf {n : Int} (h : (Lit.int .i64 n).wf = true) : In64a n := by
  have h1 : (decide (IntKind.i64.min ≤ n) && decide (n ≤ IntKind.i64.max)) = true := h
  have e1 : IntKind.i64.min = -9223372036854775808 := by decide
  have e2 : IntKind.i64.max = 9223372036854775807 := by decide
  rw [e1, e2] at h1
  simpa using h1
theorem fits_wf {o : O} (h : o.wf) : Fits o := by
  obtain ⟨a, b, c, d, e, f, g⟩ := h
  exact ⟨in_wf a, in_wf c, in_wf d, in_wf f, in_wf g⟩
theorem below_of_low {w1 wr : World} (h : Below w1.heap.size w1 wr) : Below w1.heap.size w1 wr := h
theorem join_len (X : List (List UInt8)) (m : Nat) (h : ∀ y ∈ X, y.length ≤ m) : (Lib.join X [44, 32]).length ≤ X.length * (m + 2) := by
  have key : ∀ r : List (List UInt8), (∀ y ∈ r, y.length ≤ m) → (Lib.joinTail [44, 32] r).length ≤ r.length * (m + 2) := by
    intro r hr
    unfold Lib.joinTail
    induction r with
    | nil => simp
    | cons a r ih =>
      have h1 := hr a (by simp)
      have h2 := ih (fun y hy => hr y (by simp [hy]))
      simp only [List.map_cons, List.flatten_cons, List.length_append, List.length_cons, List.length_nil, Nat.add_mul] at h2 ⊢
      omega
  cases X with
  | nil => simp [Lib.join_nil]
  | cons a r =>
    have h1 := h a (by simp)
    have h2 := key r (fun y hy => h y (by simp [hy]))
    rw [Lib.join_cons, List.length_append, List.length_cons, Nat.add_mul]
    omega
def ChAt (W : World) (oa : Option Addr) (C : List Ch) : Prop := ∀ k c, C[k]? = some c → ∃ g, oa = some ⟨g, 0, none⟩ ∧ g < W.heap.size ∧ ∀ j u, (encC c)[j]? = some u → W.cell? ⟨g, k * 10 + j, none⟩ = some u
theorem ChAt.below {W W' : World} {oa : Option Addr} {C : List Ch} (h : ChAt W oa C) (hb : Below W.heap.size W W') : ChAt W' oa C := fun k c hc => by
  obtain ⟨g, e, hl, h1⟩ := h k c hc
  exact ⟨g, e, Nat.lt_of_lt_of_le hl hb.size, fun j u hu => (hb.cell (p := ⟨g, k * 10 + j, none⟩) hl).trans (h1 j u hu)⟩
theorem flat_at {α : Type} (f : α → List Value) (n : Nat) (hf : ∀ x, (f x).length = n) : ∀ (L : List α) (k : Nat) (x : α) (j : Nat), L[k]? = some x → j < n → (L.flatMap f)[k * n + j]? = (f x)[j]?
  | [], k, x, j, h, _ => by simp at h
  | a :: r, 0, x, j, h, hj => by
    simp at h
    subst h
    rw [List.flatMap_cons, Nat.zero_mul, Nat.zero_add, List.getElem?_append_left (by rw [hf]; exact hj)]
  | a :: r, k + 1, x, j, h, hj => by
    rw [List.flatMap_cons, List.getElem?_append_right (by rw [hf, Nat.add_mul]; omega), hf]
    rw [show (k + 1) * n + j - n = k * n + j by rw [Nat.add_mul]; omega]
    exact flat_at f n hf r k x j (by simpa using h) hj
theorem changes_at {W : World} {B : Nat} {v : Value} {C : List Ch} (h : W.ownsRow B 95 10 v C.length (C.flatMap encC)) : ∃ oa ck, v = .slice oa C.length ck ∧ ChAt W oa C := by
  have h0 := h.2
  rcases h0 with ⟨rfl, e0⟩ | ⟨g, cap, cur, rfl, h1, h2, h3, h4, h5, h6⟩
  · have e1 := List.length_eq_zero_iff.1 e0
    subst e1
    exact ⟨none, 0, rfl, fun k c hc => by simp at hc⟩
  · refine ⟨_, _, rfl, fun k c hc => ⟨g, rfl, (Array.getElem?_eq_some_iff.1 h2).1, fun j u hu => ?_⟩⟩
    have hj : j < 10 := by have := (List.getElem?_eq_some_iff.1 hu).1; rwa [encC_len] at this
    have := h.cells (g := g) rfl (k * 10 + j) u (by rw [flat_at encC 10 encC_len C k c j hc hj]; exact hu)
    rw [add_at] at this
    exact this
abbrev CellsC (g o : Nat) (c : Ch) (W : World) : Prop := W.cell? ⟨g, o, none⟩ = some (.int .i64 c.x.k) ∧ W.cell? ⟨g, o + 1, none⟩ = some (.int .i64 c.x.lk) ∧ W.cell? ⟨g, o + 2, none⟩ = some (.int .i64 c.x.lt) ∧ W.cell? ⟨g, o + 3, none⟩ = some (.int .i64 c.x.lv) ∧ W.cell? ⟨g, o + 4, none⟩ = some (.int .i64 c.x.rk) ∧ W.cell? ⟨g, o + 5, none⟩ = some (.int .i64 c.x.rt) ∧ W.cell? ⟨g, o + 6, none⟩ = some (.int .i64 c.x.rv) ∧ W.cell? ⟨g, o + 7, none⟩ = some (.bool c.x.hl) ∧ W.cell? ⟨g, o + 8, none⟩ = some (.bool c.x.hr) ∧ W.cell? ⟨g, o + 9, none⟩ = some (.bool c.g)
theorem chc_cells {W : World} {g k : Nat} {c : Ch} (h : ∀ j u, (encC c)[j]? = some u → W.cell? ⟨g, k * 10 + j, none⟩ = some u) : CellsC g (k * 10) c W :=
  ⟨h 0 _ rfl, h 1 _ rfl, h 2 _ rfl, h 3 _ rfl, h 4 _ rfl, h 5 _ rfl, h 6 _ rfl, h 7 _ rfl, h 8 _ rfl, h 9 _ rfl⟩
theorem tw_one (w : World) (b : List UInt8) : Tw w [b] (.slice (some ⟨w.heap.size, 0, none⟩) 1 1) (w.alloc (.cells #[sV b] 9)) :=
  ⟨Go.Joins.below_alloc1 _ _, rfl, .inr ⟨w.heap.size, 1, #[sV b], rfl, Nat.le_refl _, heap_alloc_new _ _, Nat.le_refl _, by unfold maxLen; omega, rfl, rfl⟩⟩
theorem feed0_cF {n : Nat} {st : Sx} (hO : OkS n st) (k t v : Int) (h0 : (st.feed0 k t v).1 = 0) : (∀ c ∈ cF0 st.x ⟨k, t, v⟩, Fits c.x) ∧ (cF0 st.x ⟨k, t, v⟩).length ≤ 1000 := by
  have hg : goodI k t v = true := by
    unfold Sx.feed0 at h0
    by_cases hg : goodI k t v = false
    · rw [if_pos hg] at h0; exact absurd (show (1 : Int) = 0 from h0) (by decide)
    · simpa using hg
  obtain ⟨A, B, hH, hL, hlen, ha, hb⟩ := hO.ex
  have hls : (⟨k, t, v⟩ : Rw).small := good_small (r := ⟨k, t, v⟩) hg
  refine ⟨fun c hc => fits_wf (chgs_wf st.x.mode 0 ⟨k, t, v⟩ _ hls (fun y hy => hb _ (hH.yet1 y (met_mem hy)).2.2.2) c hc), ?_⟩
  have h1 := chgsA_len st.x.mode 0 k t v (metR k (t + st.x.lo) (t + st.x.hi) st.x.R1)
  have h2 := met_len k (t + st.x.lo) (t + st.x.hi) st.x.R1
  have h3 := hO.l1
  show (chgs st.x.mode 0 k t v (metR k (t + st.x.lo) (t + st.x.hi) st.x.R1)).length ≤ _
  omega
def semF0 (st : Sx) (k t v : Int) : List UInt8 := Lib.join ([102, 101, 100] :: (cF0 st.x ⟨k, t, v⟩).map chTx) [44, 32]
set_option maxHeartbeats 8000000 in
theorem v_feed0 {n : Nat} {w0 : World} {bs be : Nat} {mv : Option Nat} {st : Sx} {S P : Nat → Prop} {W : World} (h : Dk w0 bs mv st be S P W) (hO : OkS n st) (hn : n ≤ 1600) (hG : GlobE w0) (k t v : Int) (g : Nat) (hg : W.heap[g]? = some (.cells ([k, t, v].map (Value.int .i64)).toArray 3)) (hgP : ¬ P g) :
    Calls Tryz.prog 214 #[.pointer (some ⟨bs, 0, none⟩), .int .i64 0, .slice (some ⟨g, 0, none⟩) 3 3] W fun e w' => e = outc (st.feed0 k t v).1 (semF0 st k t v) ∧ DNext w0 bs mv (st.feed0 k t v).2 P W w' := by
  have hgl := (Array.getElem?_eq_some_iff.1 hg).1
  have c1 : W.cell? ⟨bs, 0, none⟩ = some (.pointer (some ⟨be, 0, none⟩)) ∧ W.cell? ⟨g, 0, none⟩ = some (.int .i64 k) ∧ W.cell? ⟨g, 1, none⟩ = some (.int .i64 t) ∧ W.cell? ⟨g, 2, none⟩ = some (.int .i64 v) := ⟨h.cell.1, three_nums hg⟩
  have hlt := h.lt
  have hgw := hG.below h.low
  have HF : Hid (∀ V, Below W.heap.size W V → Calls Tryz.prog 11 #[.pointer (some ⟨be, 0, none⟩), .int .i64 0, .agg #[.int .i64 k, .int .i64 t, .int .i64 v]] V fun e w' => ∃ v9, e = .returned (.tuple #[v9, errC (st.feed0 k t v).1]) ∧ (w'.cell? ⟨bs, 0, none⟩ = some (.pointer (some ⟨be, 0, none⟩)) ∧ w'.cell? ⟨g, 0, none⟩ = some (.int .i64 k) ∧ w'.cell? ⟨g, 1, none⟩ = some (.int .i64 t) ∧ w'.cell? ⟨g, 2, none⟩ = some (.int .i64 v)) ∧ Hid (((st.feed0 k t v).1 = 0 → w'.ownsRow 0 95 10 v9 (cF0 st.x ⟨k, t, v⟩).length ((cF0 st.x ⟨k, t, v⟩).flatMap encC)) ∧ (∀ W', Below w'.heap.size w' W' → DNext w0 bs mv (st.feed0 k t v).2 P W W') ∧ GlobE w')) := by
    intro V hV
    have hk := h.below hV
    refine (d_feed0 hk.eng hO hn ((hgw.below hV).g.err) k t v).mono ?_
    rintro e w' ⟨v9, S', rfl, h1, h2, h3⟩
    obtain ⟨a1, a2, a3⟩ := hk.goes h2 h3
    have hb2 : Turned P W w' := (Turned.of_below (S := P) hV).trans a2 (fun _ _ e => e)
    refine ⟨v9, rfl, ⟨a1.cell.1, three_nums ((a2.block g (Nat.lt_of_lt_of_le hgl hV.size) hgP).trans ((hV.block g hgl).trans hg))⟩, fun e => Go.Joins.ownsRow_le (h1 e) (Nat.zero_le _), fun W' hW' => DNext.go a1 hb2 (fun k e => (a3 k e).imp id (fun g => Nat.le_trans hV.size g)) hW', hG.below a1.low⟩
  have HZ : Hid ((st.feed0 k t v).1 = 0 → (∀ c ∈ cF0 st.x ⟨k, t, v⟩, Fits c.x) ∧ (cF0 st.x ⟨k, t, v⟩).length ≤ 1000) := fun e => feed0_cF hO k t v e
  have HT : Hid (semF0 st k t v = Lib.join ([102, 101, 100] :: (cF0 st.x ⟨k, t, v⟩).map chTx) [44, 32]) := rfl
  have B1 : Hid (Below W.heap.size W W.drew) := (Below.refl _ _).drew
  clear h hO hn hG hg hgP hgw
  generalize (st.feed0 k t v).2 = st' at *
  generalize (st.feed0 k t v).1 = c at *
  generalize semF0 st k t v = txt at *
  generalize cF0 st.x ⟨k, t, v⟩ = C at *
  by_cases hc : c = 0
  · subst hc
    obtain ⟨i0, hi, hz0, hz1, hz2⟩ := info_parts infoS
    have HZ2 := HZ.out rfl
    have hCl := HZ2.2
    have HZ3 : Hid (∀ c ∈ C, Fits c.x) := HZ2.1
    clear HZ HZ2
    simp only [errC, if_true] at HF
    unfold outc
    rw [if_pos rfl]
    go_enter Tryz.func214, Tryz.ntmps214
    go_wp2
    go_region_held3 (fun V => V.cell? ⟨bs, 0, none⟩ = some (.pointer (some ⟨be, 0, none⟩)) ∧ V.cell? ⟨g, 0, none⟩ = some (.int .i64 k) ∧ V.cell? ⟨g, 1, none⟩ = some (.int .i64 t) ∧ V.cell? ⟨g, 2, none⟩ = some (.int .i64 v)) (first | exact c1 | exact c2 | fail) (first
      | (go_at_call 11; refine (HF.out _ B1.out).mono ?_; rintro e w2 ⟨v9, rfl, c2, h2⟩)
      | fail)
    clear HF c1 c2 B1
    have h2r := h2.out.1 trivial
    obtain ⟨oa, ck, rfl, hrow⟩ := changes_at h2r
    have HR : Hid (ChAt w2 oa C) := hrow
    have HD : Hid (∀ W', Below w2.heap.size w2 W' → DNext w0 bs mv st' P W W') := h2.out.2.1
    have HGl : Hid (GlobE w2) := h2.out.2.2
    clear h2 h2r hrow hlt hgl
    have i1 : (C.length : Int) ≤ 1000 := by omega
    go_wp2_with (first
      | (go_at_call 213; refine (check_nil _).mono ?_; rintro e w3 ⟨rfl, hw⟩; have hw := hw.symm; subst hw)
      | fail)
    have C0 : Hid (Tw w2 ([102, 101, 100] :: (C.take 0).map chTx) (.slice (some ⟨w2.heap.size, 0, none⟩) 1 1) (w2.alloc (.cells #[.string ⟨#[102, 101, 100]⟩] 9))) := tw_one w2 [102, 101, 100]
    go_loopg [9, 36] C.length (fun gg v9 v36 wr => ∃ (i : Nat), i ≤ C.length ∧ gg = C.length - i ∧ v36 = .int .i64 i ∧ Hid (Tw w2 ([102, 101, 100] :: (C.take i).map chTx) v9 wr))
    case atStart => exact ⟨0, Nat.zero_le _, rfl, rfl, C0⟩
    case round =>
      obtain ⟨i, hi2, hgk, rfl, I⟩ := hrel
      have HG : Hid (gk = C.length - i) := hgk
      clear hgk C0
      by_cases hlt : i < C.length
      · obtain ⟨x, hx⟩ : ∃ x, C[i]? = some x := ⟨_, List.getElem?_eq_getElem hlt⟩
        obtain ⟨gc, rfl, hgc, hcx⟩ := HR.out.below I.out.low i x hx
        have hcx := chc_cells hcx
        have htk : Hid ([102, 101, 100] :: (C.take (i + 1)).map chTx = ([102, 101, 100] :: (C.take i).map chTx) ++ [chTx x]) := by
          show ([102, 101, 100] :: (C.take (i + 1)).map chTx : List (List UInt8)) = ([102, 101, 100] :: (C.take i).map chTx) ++ [chTx x]
          rw [List.take_add_one, hx]; simp
        have hXl : ([102, 101, 100] :: (C.take i).map chTx : List (List UInt8)).length ≤ 2000 := by rw [List.length_cons, List.length_map, List.length_take]; omega
        have HN : Hid (∀ V, Below wr.heap.size wr V → Calls Tryz.prog 276 #[vC x.x x.g] V fun e w' => e = .returned (.string ⟨(chTx x).toArray⟩) ∧ Below V.heap.size V w') := fun V hV => tellChange_any x V (tab_below (tab_below HGl.out.g.tab (below_of_low I.out.low)) hV) (HZ3.out x (List.mem_of_getElem? hx))
        generalize ([102, 101, 100] :: (C.take i).map chTx : List (List UInt8)) = X at *
        have j1 : (0 : Int) ≤ (i : Int) := by omega
        have j2 : (i : Int) < (C.length : Int) := by omega
        obtain ⟨⟨xk, xlk, xlt, xlv, xrk, xrt, xrv, xhl, xhr⟩, xg⟩ := x
        simp only [vC] at HN hcx
        have HA : Hid (∀ o, Below wr.heap.size wr (wr.alloc o)) := fun o => Go.Joins.below_alloc1 _ _
        clear hx
        go_wp2_with (first
          | (go_at_call 276; refine (HN.out _ (HA.out _)).mono ?_; rintro e w4 ⟨rfl, hb4⟩; have hb5 := (HA.out _).trans (hb4.mono (HA.out _).size); have C4 : Hid (Tw w2 X u9 (w4.alloc (.cells #[.string ⟨(chTx ⟨⟨xk, xlk, xlt, xlv, xrk, xrt, xrv, xhl, xhr⟩, xg⟩).toArray⟩] 9))) := I.out.go (hb5.trans ((Go.Joins.below_alloc1 w4 _).mono hb5.size)); have hl4 : w2.heap.size ≤ w4.heap.size := Nat.le_trans I.out.low.size hb5.size; have N4 : Hid (∀ j u, ([(.string ⟨(chTx ⟨⟨xk, xlk, xlt, xlv, xrk, xrt, xrv, xhl, xhr⟩, xg⟩).toArray⟩ : Value)])[j]? = some u → (w4.alloc (.cells #[.string ⟨(chTx ⟨⟨xk, xlk, xlt, xlv, xrk, xrt, xrv, xhl, xhr⟩, xg⟩).toArray⟩] 9)).cell? ((⟨w4.heap.size, 0, none⟩ : Addr).add j) = some u) := World.news_of_block (heap_alloc_new w4 (.cells #[.string ⟨(chTx ⟨⟨xk, xlk, xlt, xlv, xrk, xrt, xrv, xhl, xhr⟩, xg⟩).toArray⟩] 9)); clear hb4 hb5)
          | (at_builtin; refine wpList_append_lies _ rfl _ _ _ rfl w2.heap.size 9 i0 (.string ⟨#[]⟩) 1 16 Tryz.underlying81 hi hz0 hz1 hz2 rfl (by omega) u9 X.length (X.map sV) rfl C4.out.row ⟨w4.heap.size, 0, none⟩ 1 1 [.string ⟨(chTx ⟨⟨xk, xlk, xlt, xlv, xrk, xrt, xrv, xhl, xhr⟩, xg⟩).toArray⟩] rfl rfl N4.out one_str (by omega) (by unfold maxLen; omega) (by omega) (by simp; omega) _ rfl ?_; intro g5 cap5 w5 hown5 hgrow5 hat5 hlt5; have C5 : Hid (Tw w2 (X ++ [chTx ⟨⟨xk, xlk, xlt, xlv, xrk, xrt, xrv, xhl, xhr⟩, xg⟩]) (.slice (some ⟨g5, 0, none⟩) (X.length + 1) cap5) w5) := C4.out.step hown5 hgrow5; clear hown5 hgrow5 hat5 hlt5)
          | fail)
        go_roundg (C.length - (i + 1))
        case measure => have := HG.out; omega
        case rel => exact ⟨i + 1, by omega, rfl, by first | rfl | (congr 1; omega) | go_num, by rw [htk.out]; exact C5.out⟩
      · have j2 : ¬ ((i : Int) < (C.length : Int)) := by omega
        have e1 : C.take i = C := List.take_of_length_le (by omega)
        have hI := I.out
        rw [e1] at hI
        have HJ : Hid (Calls Tryz.prog 217 #[u9] wr fun e w' => e = .returned (.string ⟨txt.toArray⟩) ∧ Below wr.heap.size wr w') := by
          have := list_own ([102, 101, 100] :: C.map chTx) u9 wr hI.row (by simp; omega) (Nat.le_trans (join_len ([102, 101, 100] :: C.map chTx) 113 (fun y hy => by rcases List.mem_cons.1 hy with rfl | hy; (simp); (obtain ⟨c, hc, rfl⟩ := List.mem_map.1 hy; exact chTx_len c (HZ3.out c hc)))) (by simp; omega))
          rw [← HT.out] at this
          exact this
        have HL : Hid (Below w2.heap.size w2 wr) := below_of_low hI.low
        clear hI e1 I HR HZ3 HT
        go_wp2_with (first
          | (go_at_call 217; refine HJ.out.mono ?_; rintro e w4 ⟨rfl, hb4⟩; have HB4 : Hid (Below w2.heap.size w2 w4) := HL.out.trans (hb4.mono HL.out.size); clear hb4)
          | fail)
        go_ret
        exact ⟨rfl, HD.out _ HB4.out⟩
  · have hq : errC c = .iface 24 (.int .i64 c) := by unfold errC; rw [if_neg hc]
    rw [hq] at HF
    unfold outc
    rw [if_neg hc]
    clear HZ HT hq
    go_enter Tryz.func214, Tryz.ntmps214
    go_wp2
    go_region_held3 (fun V => V.cell? ⟨bs, 0, none⟩ = some (.pointer (some ⟨be, 0, none⟩)) ∧ V.cell? ⟨g, 0, none⟩ = some (.int .i64 k) ∧ V.cell? ⟨g, 1, none⟩ = some (.int .i64 t) ∧ V.cell? ⟨g, 2, none⟩ = some (.int .i64 v)) (first | exact c1 | exact c2 | fail) (first
      | (go_at_call 11; refine (HF.out _ B1.out).mono ?_; rintro e w2 ⟨v9, rfl, c2, h2⟩)
      | fail)
    have HD : Hid (DNext w0 bs mv st' P W w2) := h2.out.2.1 w2 (Below.refl _ _)
    clear HF c1 c2 B1 h2
    go_wp2_with (first
      | (go_at_call 213; refine (check_err _ _).mono ?_; rintro e w3 ⟨rfl, hw⟩; have hw := hw.symm; subst hw)
      | fail)
    exact ⟨rfl, rfl, HD.out⟩
end Go.Proofs.YthfpipieboophaaGreatDoor

/- A session: a row of the right side comes. -/
namespace Go.Proofs.YthfpipieboophaaGreatDoor
open Go.RowKit Go.Sort Go.Shelf
set_option maxRecDepth 100000
theorem feed1_cF {n : Nat} {st : Sx} (hO : OkS n st) (k t v : Int) (h0 : (st.feed1 k t v).1 = 0) : (∀ c ∈ cF1 st.x ⟨k, t, v⟩, Fits c.x) ∧ (cF1 st.x ⟨k, t, v⟩).length ≤ 1000 := by
  have hg : goodI k t v = true := by
    unfold Sx.feed1 at h0
    by_cases hg : goodI k t v = false
    · rw [if_pos hg] at h0; exact absurd (show (1 : Int) = 0 from h0) (by decide)
    · simpa using hg
  obtain ⟨A, B, hH, hL, hlen, ha, hb⟩ := hO.ex
  have hls : (⟨k, t, v⟩ : Rw).small := good_small (r := ⟨k, t, v⟩) hg
  refine ⟨fun c hc => fits_wf (chgs_wf st.x.mode 1 ⟨k, t, v⟩ _ hls (fun y hy => ha _ (hH.yet0 y (met_mem hy)).2.2.2) c hc), ?_⟩
  have h1 := chgsA_len st.x.mode 1 k t v (metR k (t + -st.x.hi) (t + -st.x.lo) st.x.R0)
  have h2 := met_len k (t + -st.x.hi) (t + -st.x.lo) st.x.R0
  have h3 := hO.l0
  show (chgs st.x.mode 1 k t v (metR k (t + -st.x.hi) (t + -st.x.lo) st.x.R0)).length ≤ _
  omega
def semF1 (st : Sx) (k t v : Int) : List UInt8 := Lib.join ([102, 101, 100] :: (cF1 st.x ⟨k, t, v⟩).map chTx) [44, 32]
set_option maxHeartbeats 8000000 in
theorem v_feed1 {n : Nat} {w0 : World} {bs be : Nat} {mv : Option Nat} {st : Sx} {S P : Nat → Prop} {W : World} (h : Dk w0 bs mv st be S P W) (hO : OkS n st) (hn : n ≤ 1600) (hG : GlobE w0) (k t v : Int) (g : Nat) (hg : W.heap[g]? = some (.cells ([k, t, v].map (Value.int .i64)).toArray 3)) (hgP : ¬ P g) :
    Calls Tryz.prog 214 #[.pointer (some ⟨bs, 0, none⟩), .int .i64 1, .slice (some ⟨g, 0, none⟩) 3 3] W fun e w' => e = outc (st.feed1 k t v).1 (semF1 st k t v) ∧ DNext w0 bs mv (st.feed1 k t v).2 P W w' := by
  have hgl := (Array.getElem?_eq_some_iff.1 hg).1
  have c1 : W.cell? ⟨bs, 0, none⟩ = some (.pointer (some ⟨be, 0, none⟩)) ∧ W.cell? ⟨g, 0, none⟩ = some (.int .i64 k) ∧ W.cell? ⟨g, 1, none⟩ = some (.int .i64 t) ∧ W.cell? ⟨g, 2, none⟩ = some (.int .i64 v) := ⟨h.cell.1, three_nums hg⟩
  have hlt := h.lt
  have hgw := hG.below h.low
  have HF : Hid (∀ V, Below W.heap.size W V → Calls Tryz.prog 11 #[.pointer (some ⟨be, 0, none⟩), .int .i64 1, .agg #[.int .i64 k, .int .i64 t, .int .i64 v]] V fun e w' => ∃ v9, e = .returned (.tuple #[v9, errC (st.feed1 k t v).1]) ∧ (w'.cell? ⟨bs, 0, none⟩ = some (.pointer (some ⟨be, 0, none⟩)) ∧ w'.cell? ⟨g, 0, none⟩ = some (.int .i64 k) ∧ w'.cell? ⟨g, 1, none⟩ = some (.int .i64 t) ∧ w'.cell? ⟨g, 2, none⟩ = some (.int .i64 v)) ∧ Hid (((st.feed1 k t v).1 = 0 → w'.ownsRow 0 95 10 v9 (cF1 st.x ⟨k, t, v⟩).length ((cF1 st.x ⟨k, t, v⟩).flatMap encC)) ∧ (∀ W', Below w'.heap.size w' W' → DNext w0 bs mv (st.feed1 k t v).2 P W W') ∧ GlobE w')) := by
    intro V hV
    have hk := h.below hV
    refine (d_feed1 hk.eng hO hn ((hgw.below hV).g.err) k t v).mono ?_
    rintro e w' ⟨v9, S', rfl, h1, h2, h3⟩
    obtain ⟨a1, a2, a3⟩ := hk.goes h2 h3
    have hb2 : Turned P W w' := (Turned.of_below (S := P) hV).trans a2 (fun _ _ e => e)
    refine ⟨v9, rfl, ⟨a1.cell.1, three_nums ((a2.block g (Nat.lt_of_lt_of_le hgl hV.size) hgP).trans ((hV.block g hgl).trans hg))⟩, fun e => Go.Joins.ownsRow_le (h1 e) (Nat.zero_le _), fun W' hW' => DNext.go a1 hb2 (fun k e => (a3 k e).imp id (fun g => Nat.le_trans hV.size g)) hW', hG.below a1.low⟩
  have HZ : Hid ((st.feed1 k t v).1 = 0 → (∀ c ∈ cF1 st.x ⟨k, t, v⟩, Fits c.x) ∧ (cF1 st.x ⟨k, t, v⟩).length ≤ 1000) := fun e => feed1_cF hO k t v e
  have HT : Hid (semF1 st k t v = Lib.join ([102, 101, 100] :: (cF1 st.x ⟨k, t, v⟩).map chTx) [44, 32]) := rfl
  have B1 : Hid (Below W.heap.size W W.drew) := (Below.refl _ _).drew
  clear h hO hn hG hg hgP hgw
  generalize (st.feed1 k t v).2 = st' at *
  generalize (st.feed1 k t v).1 = c at *
  generalize semF1 st k t v = txt at *
  generalize cF1 st.x ⟨k, t, v⟩ = C at *
  by_cases hc : c = 0
  · subst hc
    obtain ⟨i0, hi, hz0, hz1, hz2⟩ := info_parts infoS
    have HZ2 := HZ.out rfl
    have hCl := HZ2.2
    have HZ3 : Hid (∀ c ∈ C, Fits c.x) := HZ2.1
    clear HZ HZ2
    simp only [errC, if_true] at HF
    unfold outc
    rw [if_pos rfl]
    go_enter Tryz.func214, Tryz.ntmps214
    go_wp2
    go_region_held3 (fun V => V.cell? ⟨bs, 0, none⟩ = some (.pointer (some ⟨be, 0, none⟩)) ∧ V.cell? ⟨g, 0, none⟩ = some (.int .i64 k) ∧ V.cell? ⟨g, 1, none⟩ = some (.int .i64 t) ∧ V.cell? ⟨g, 2, none⟩ = some (.int .i64 v)) (first | exact c1 | exact c2 | fail) (first
      | (go_at_call 11; refine (HF.out _ B1.out).mono ?_; rintro e w2 ⟨v9, rfl, c2, h2⟩)
      | fail)
    clear HF c1 c2 B1
    have h2r := h2.out.1 trivial
    obtain ⟨oa, ck, rfl, hrow⟩ := changes_at h2r
    have HR : Hid (ChAt w2 oa C) := hrow
    have HD : Hid (∀ W', Below w2.heap.size w2 W' → DNext w0 bs mv st' P W W') := h2.out.2.1
    have HGl : Hid (GlobE w2) := h2.out.2.2
    clear h2 h2r hrow hlt hgl
    have i1 : (C.length : Int) ≤ 1000 := by omega
    go_wp2_with (first
      | (go_at_call 213; refine (check_nil _).mono ?_; rintro e w3 ⟨rfl, hw⟩; have hw := hw.symm; subst hw)
      | fail)
    have C0 : Hid (Tw w2 ([102, 101, 100] :: (C.take 0).map chTx) (.slice (some ⟨w2.heap.size, 0, none⟩) 1 1) (w2.alloc (.cells #[.string ⟨#[102, 101, 100]⟩] 9))) := tw_one w2 [102, 101, 100]
    go_loopg [9, 36] C.length (fun gg v9 v36 wr => ∃ (i : Nat), i ≤ C.length ∧ gg = C.length - i ∧ v36 = .int .i64 i ∧ Hid (Tw w2 ([102, 101, 100] :: (C.take i).map chTx) v9 wr))
    case atStart => exact ⟨0, Nat.zero_le _, rfl, rfl, C0⟩
    case round =>
      obtain ⟨i, hi2, hgk, rfl, I⟩ := hrel
      have HG : Hid (gk = C.length - i) := hgk
      clear hgk C0
      by_cases hlt : i < C.length
      · obtain ⟨x, hx⟩ : ∃ x, C[i]? = some x := ⟨_, List.getElem?_eq_getElem hlt⟩
        obtain ⟨gc, rfl, hgc, hcx⟩ := HR.out.below I.out.low i x hx
        have hcx := chc_cells hcx
        have htk : Hid ([102, 101, 100] :: (C.take (i + 1)).map chTx = ([102, 101, 100] :: (C.take i).map chTx) ++ [chTx x]) := by
          show ([102, 101, 100] :: (C.take (i + 1)).map chTx : List (List UInt8)) = ([102, 101, 100] :: (C.take i).map chTx) ++ [chTx x]
          rw [List.take_add_one, hx]; simp
        have hXl : ([102, 101, 100] :: (C.take i).map chTx : List (List UInt8)).length ≤ 2000 := by rw [List.length_cons, List.length_map, List.length_take]; omega
        have HN : Hid (∀ V, Below wr.heap.size wr V → Calls Tryz.prog 276 #[vC x.x x.g] V fun e w' => e = .returned (.string ⟨(chTx x).toArray⟩) ∧ Below V.heap.size V w') := fun V hV => tellChange_any x V (tab_below (tab_below HGl.out.g.tab (below_of_low I.out.low)) hV) (HZ3.out x (List.mem_of_getElem? hx))
        generalize ([102, 101, 100] :: (C.take i).map chTx : List (List UInt8)) = X at *
        have j1 : (0 : Int) ≤ (i : Int) := by omega
        have j2 : (i : Int) < (C.length : Int) := by omega
        obtain ⟨⟨xk, xlk, xlt, xlv, xrk, xrt, xrv, xhl, xhr⟩, xg⟩ := x
        simp only [vC] at HN hcx
        have HA : Hid (∀ o, Below wr.heap.size wr (wr.alloc o)) := fun o => Go.Joins.below_alloc1 _ _
        clear hx
        go_wp2_with (first
          | (go_at_call 276; refine (HN.out _ (HA.out _)).mono ?_; rintro e w4 ⟨rfl, hb4⟩; have hb5 := (HA.out _).trans (hb4.mono (HA.out _).size); have C4 : Hid (Tw w2 X u9 (w4.alloc (.cells #[.string ⟨(chTx ⟨⟨xk, xlk, xlt, xlv, xrk, xrt, xrv, xhl, xhr⟩, xg⟩).toArray⟩] 9))) := I.out.go (hb5.trans ((Go.Joins.below_alloc1 w4 _).mono hb5.size)); have hl4 : w2.heap.size ≤ w4.heap.size := Nat.le_trans I.out.low.size hb5.size; have N4 : Hid (∀ j u, ([(.string ⟨(chTx ⟨⟨xk, xlk, xlt, xlv, xrk, xrt, xrv, xhl, xhr⟩, xg⟩).toArray⟩ : Value)])[j]? = some u → (w4.alloc (.cells #[.string ⟨(chTx ⟨⟨xk, xlk, xlt, xlv, xrk, xrt, xrv, xhl, xhr⟩, xg⟩).toArray⟩] 9)).cell? ((⟨w4.heap.size, 0, none⟩ : Addr).add j) = some u) := World.news_of_block (heap_alloc_new w4 (.cells #[.string ⟨(chTx ⟨⟨xk, xlk, xlt, xlv, xrk, xrt, xrv, xhl, xhr⟩, xg⟩).toArray⟩] 9)); clear hb4 hb5)
          | (at_builtin; refine wpList_append_lies _ rfl _ _ _ rfl w2.heap.size 9 i0 (.string ⟨#[]⟩) 1 16 Tryz.underlying81 hi hz0 hz1 hz2 rfl (by omega) u9 X.length (X.map sV) rfl C4.out.row ⟨w4.heap.size, 0, none⟩ 1 1 [.string ⟨(chTx ⟨⟨xk, xlk, xlt, xlv, xrk, xrt, xrv, xhl, xhr⟩, xg⟩).toArray⟩] rfl rfl N4.out one_str (by omega) (by unfold maxLen; omega) (by omega) (by simp; omega) _ rfl ?_; intro g5 cap5 w5 hown5 hgrow5 hat5 hlt5; have C5 : Hid (Tw w2 (X ++ [chTx ⟨⟨xk, xlk, xlt, xlv, xrk, xrt, xrv, xhl, xhr⟩, xg⟩]) (.slice (some ⟨g5, 0, none⟩) (X.length + 1) cap5) w5) := C4.out.step hown5 hgrow5; clear hown5 hgrow5 hat5 hlt5)
          | fail)
        go_roundg (C.length - (i + 1))
        case measure => have := HG.out; omega
        case rel => exact ⟨i + 1, by omega, rfl, by first | rfl | (congr 1; omega) | go_num, by rw [htk.out]; exact C5.out⟩
      · have j2 : ¬ ((i : Int) < (C.length : Int)) := by omega
        have e1 : C.take i = C := List.take_of_length_le (by omega)
        have hI := I.out
        rw [e1] at hI
        have HJ : Hid (Calls Tryz.prog 217 #[u9] wr fun e w' => e = .returned (.string ⟨txt.toArray⟩) ∧ Below wr.heap.size wr w') := by
          have := list_own ([102, 101, 100] :: C.map chTx) u9 wr hI.row (by simp; omega) (Nat.le_trans (join_len ([102, 101, 100] :: C.map chTx) 113 (fun y hy => by rcases List.mem_cons.1 hy with rfl | hy; (simp); (obtain ⟨c, hc, rfl⟩ := List.mem_map.1 hy; exact chTx_len c (HZ3.out c hc)))) (by simp; omega))
          rw [← HT.out] at this
          exact this
        have HL : Hid (Below w2.heap.size w2 wr) := below_of_low hI.low
        clear hI e1 I HR HZ3 HT
        go_wp2_with (first
          | (go_at_call 217; refine HJ.out.mono ?_; rintro e w4 ⟨rfl, hb4⟩; have HB4 : Hid (Below w2.heap.size w2 w4) := HL.out.trans (hb4.mono HL.out.size); clear hb4)
          | fail)
        go_ret
        exact ⟨rfl, HD.out _ HB4.out⟩
  · have hq : errC c = .iface 24 (.int .i64 c) := by unfold errC; rw [if_neg hc]
    rw [hq] at HF
    unfold outc
    rw [if_neg hc]
    clear HZ HT hq
    go_enter Tryz.func214, Tryz.ntmps214
    go_wp2
    go_region_held3 (fun V => V.cell? ⟨bs, 0, none⟩ = some (.pointer (some ⟨be, 0, none⟩)) ∧ V.cell? ⟨g, 0, none⟩ = some (.int .i64 k) ∧ V.cell? ⟨g, 1, none⟩ = some (.int .i64 t) ∧ V.cell? ⟨g, 2, none⟩ = some (.int .i64 v)) (first | exact c1 | exact c2 | fail) (first
      | (go_at_call 11; refine (HF.out _ B1.out).mono ?_; rintro e w2 ⟨v9, rfl, c2, h2⟩)
      | fail)
    have HD : Hid (DNext w0 bs mv st' P W w2) := h2.out.2.1 w2 (Below.refl _ _)
    clear HF c1 c2 B1 h2
    go_wp2_with (first
      | (go_at_call 213; refine (check_err _ _).mono ?_; rintro e w3 ⟨rfl, hw⟩; have hw := hw.symm; subst hw)
      | fail)
    exact ⟨rfl, rfl, HD.out⟩
end Go.Proofs.YthfpipieboophaaGreatDoor
