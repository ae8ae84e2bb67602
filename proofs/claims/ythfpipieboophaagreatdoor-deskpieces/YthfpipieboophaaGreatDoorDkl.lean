/- A session: its view, its groups, told. -/
import Derived.Test.YthfpipieboophaaGreatDoorDkk
namespace Go.Proofs.YthfpipieboophaaGreatDoor
open Go.RowKit Go.Sort Go.Shelf
set_option maxRecDepth 100000
def RowAt {α : Type} (W : World) (oa : Option Addr) (enc : α → List Value) (n : Nat) (C : List α) : Prop := ∀ k c, C[k]? = some c → ∃ g, oa = some ⟨g, 0, none⟩ ∧ g < W.heap.size ∧ ∀ j u, (enc c)[j]? = some u → W.cell? ⟨g, k * n + j, none⟩ = some u
theorem RowAt.below {α : Type} {W W' : World} {oa : Option Addr} {enc : α → List Value} {n : Nat} {C : List α} (h : RowAt W oa enc n C) (hb : Below W.heap.size W W') : RowAt W' oa enc n C := fun k c hc => by
  obtain ⟨g, e, hl, h1⟩ := h k c hc
  exact ⟨g, e, Nat.lt_of_lt_of_le hl hb.size, fun j u hu => (hb.cell (p := ⟨g, k * n + j, none⟩) hl).trans (h1 j u hu)⟩
theorem row_at {α : Type} (enc : α → List Value) (n : Nat) (hn : ∀ x, (enc x).length = n) {W : World} {B : Nat} {T : TypeId} {v : Value} {C : List α} (h : W.ownsRow B T n v C.length (C.flatMap enc)) : ∃ oa ck, v = .slice oa C.length ck ∧ RowAt W oa enc n C := by
  have h0 := h.2
  rcases h0 with ⟨rfl, e0⟩ | ⟨g, cap, cur, rfl, h1, h2, h3, h4, h5, h6⟩
  · have e1 := List.length_eq_zero_iff.1 e0
    subst e1
    exact ⟨none, 0, rfl, fun k c hc => by simp at hc⟩
  · refine ⟨_, _, rfl, fun k c hc => ⟨g, rfl, (Array.getElem?_eq_some_iff.1 h2).1, fun j u hu => ?_⟩⟩
    have hj : j < n := by have := (List.getElem?_eq_some_iff.1 hu).1; rwa [hn] at this
    have := h.cells (g := g) rfl (k * n + j) u (by rw [flat_at enc n hn C k c j hc hj]; exact hu)
    rw [add_at] at this
    exact this
abbrev CellsO (g o : Nat) (x : O) (W : World) : Prop := W.cell? ⟨g, o, none⟩ = some (.int .i64 x.k) ∧ W.cell? ⟨g, o + 1, none⟩ = some (.int .i64 x.lk) ∧ W.cell? ⟨g, o + 2, none⟩ = some (.int .i64 x.lt) ∧ W.cell? ⟨g, o + 3, none⟩ = some (.int .i64 x.lv) ∧ W.cell? ⟨g, o + 4, none⟩ = some (.int .i64 x.rk) ∧ W.cell? ⟨g, o + 5, none⟩ = some (.int .i64 x.rt) ∧ W.cell? ⟨g, o + 6, none⟩ = some (.int .i64 x.rv) ∧ W.cell? ⟨g, o + 7, none⟩ = some (.bool x.hl) ∧ W.cell? ⟨g, o + 8, none⟩ = some (.bool x.hr)
theorem out_cells {W : World} {g k : Nat} {c : O} (h : ∀ j u, (encO c)[j]? = some u → W.cell? ⟨g, k * 9 + j, none⟩ = some u) : CellsO g (k * 9) c W :=
  ⟨h 0 _ rfl, h 1 _ rfl, h 2 _ rfl, h 3 _ rfl, h 4 _ rfl, h 5 _ rfl, h 6 _ rfl, h 7 _ rfl, h 8 _ rfl⟩
abbrev CellsQ (g o : Nat) (q : GrQ) (W : World) : Prop := W.cell? ⟨g, o, none⟩ = some (.int .i64 q.key) ∧ W.cell? ⟨g, o + 1, none⟩ = some (.int .i64 q.count) ∧ W.cell? ⟨g, o + 2, none⟩ = some (.int .i64 q.sum) ∧ W.cell? ⟨g, o + 3, none⟩ = some (.int .i64 q.least) ∧ W.cell? ⟨g, o + 4, none⟩ = some (.int .i64 q.most) ∧ W.cell? ⟨g, o + 5, none⟩ = some (.bool q.some)
def encGQ (q : GrQ) : List Value := [.int .i64 q.key, .int .i64 q.count, .int .i64 q.sum, .int .i64 q.least, .int .i64 q.most, .bool q.some]
theorem gr_cells {W : World} {g k : Nat} {c : GrQ} (h : ∀ j u, (encGQ c)[j]? = some u → W.cell? ⟨g, k * 6 + j, none⟩ = some u) : CellsQ g (k * 6) c W :=
  ⟨h 0 _ rfl, h 1 _ rfl, h 2 _ rfl, h 3 _ rfl, h 4 _ rfl, h 5 _ rfl⟩
def insK (k : Int) : List Int → List Int
  | [] => [k]
  | a :: r => if k < a then k :: a :: r else if k = a then a :: r else a :: insK k r
def keysL : List O → List Int
  | [] => []
  | o :: r => insK o.k (keysL r)
theorem mem_insK (k x : Int) : ∀ l : List Int, x ∈ insK k l ↔ x = k ∨ x ∈ l
  | [] => by simp [insK]
  | a :: r => by
    unfold insK
    split
    · simp
    · split
      · rename_i h; subst h; simp
      · have := mem_insK k x r
        simp only [List.mem_cons, this]
        constructor
        · rintro (h | h | h)
          · exact .inr (.inl h)
          · exact .inl h
          · exact .inr (.inr h)
        · rintro (h | h | h)
          · exact .inr (.inl h)
          · exact .inl h
          · exact .inr (.inr h)
theorem insK_up (k : Int) : ∀ l : List Int, l.Pairwise (fun x y => x < y) → (insK k l).Pairwise (fun x y => x < y)
  | [], _ => by simp [insK]
  | a :: r, h => by
    obtain ⟨h1, h2⟩ := List.pairwise_cons.1 h
    unfold insK
    split
    · rename_i hk
      refine List.pairwise_cons.2 ⟨fun x hx => ?_, h⟩
      rcases List.mem_cons.1 hx with rfl | hx
      · exact hk
      · have := h1 x hx; omega
    · split
      · exact h
      · refine List.pairwise_cons.2 ⟨fun x hx => ?_, insK_up k r h2⟩
        rcases (mem_insK k x r).1 hx with rfl | hx
        · omega
        · exact h1 x hx
theorem keysL_up : ∀ L : List O, (keysL L).Pairwise (fun x y => x < y)
  | [] => List.Pairwise.nil
  | o :: r => insK_up o.k (keysL r) (keysL_up r)
theorem keysL_mem : ∀ (L : List O) (k : Int), k ∈ keysL L ↔ ∃ o ∈ L, o.k = k
  | [], k => by simp [keysL]
  | o :: r, k => by
    unfold keysL
    rw [mem_insK, keysL_mem r k]
    simp only [List.mem_cons, exists_eq_or_imp]
    constructor
    · rintro (h | h)
      · exact .inl h.symm
      · exact .inr h
    · rintro (h | h)
      · exact .inl h.symm
      · exact .inr h
theorem keysL_some (L : List O) (k : Int) : k ∈ keysL L ↔ (absG L k).isSome = true := by
  rw [keysL_mem]
  unfold absG
  split
  · rename_i h
    simp only [Option.isSome_none, Bool.false_eq_true, iff_false, not_exists, not_and]
    intro o ho e
    have : o ∈ ofK L k := by unfold ofK; exact List.mem_filter.2 ⟨ho, by simp [e]⟩
    rw [h] at this
    cases this
  · rename_i h
    simp only [Option.isSome_some, iff_true]
    obtain ⟨o, ho⟩ := List.exists_mem_of_ne_nil _ h
    unfold ofK at ho
    obtain ⟨h1, h2⟩ := List.mem_filter.1 ho
    exact ⟨o, h1, by simpa using h2⟩
theorem keysL_len (L : List O) : (keysL L).length ≤ L.length := by
  induction L with
  | nil => simp [keysL]
  | cons o r ih =>
    have key : ∀ (k : Int) (l : List Int), (insK k l).length ≤ l.length + 1 := by
      intro k l
      induction l with
      | nil => simp [insK]
      | cons a r ih =>
        unfold insK
        split
        · simp
        · split
          · simp
          · simp only [List.length_cons]; omega
    have := key o.k (keysL r)
    unfold keysL
    rw [List.length_cons]
    omega
def grOf (L : List O) (k : Int) : GrQ := ⟨k, ((absG L k).getD τ0).c, ((absG L k).getD τ0).s, lo ((absG L k).getD τ0).R, hi ((absG L k).getD τ0).R, some? ((absG L k).getD τ0).R⟩
theorem wrap_range (n : Int) : In64a (wrap64 n) := by unfold wrap64; exact ⟨by omega, by omega⟩
theorem tal_right64 (M : List O) (h : ∀ o ∈ M, o.wf) : ∀ r ∈ (talOf M).R, In64a r := by
  induction M with
  | nil => intro r hr; simp [talOf, τ0] at hr
  | cons x M ih =>
    intro r hr
    have hr : r ∈ (if x.hr = true then x.rv :: (talOf M).R else (talOf M).R) := hr
    split at hr
    · rcases List.mem_cons.1 hr with rfl | hr
      · exact (fits_wf (h x (by simp))).rv
      · exact ih (fun o ho => h o (by simp [ho])) r hr
    · exact ih (fun o ho => h o (by simp [ho])) r hr
theorem grOf_fits (L : List O) (k : Int) (hk : k ∈ keysL L) (h : ∀ o ∈ L, o.wf) (hl : L.length ≤ 700000) : FitsG (grOf L k) := by
  obtain ⟨o, ho, rfl⟩ := (keysL_mem L k).1 hk
  have e : (absG L o.k).getD τ0 = talOf (ofK L o.k) := by rw [abs_has ho]; rfl
  have hm : ∀ q ∈ ofK L o.k, q.wf := fun q hq => h q (List.mem_filter.1 hq).1
  have hlen : (ofK L o.k).length ≤ L.length := List.length_filter_le _ _
  have hc : (talOf (ofK L o.k)).c ≤ 700000 := by rw [tal_count]; omega
  have hR := tal_right64 (ofK L o.k) hm
  have hs := tal_in (ofK L o.k)
  have hlo : In64a (lo (talOf (ofK L o.k)).R) := by
    by_cases hz : (talOf (ofK L o.k)).R = []
    · rw [hz]; exact ⟨by decide, by decide⟩
    · exact hR _ (lo_spec hz).1
  have hhi : In64a (hi (talOf (ofK L o.k)).R) := by
    by_cases hz : (talOf (ofK L o.k)).R = []
    · rw [hz]; exact ⟨by decide, by decide⟩
    · exact hR _ (hi_spec hz).1
  unfold grOf
  rw [e]
  exact ⟨(fits_wf (h o ho)).k, ⟨by simp only; omega, by simp only; omega⟩, by simp only; rw [← hs]; exact wrap_range _, hlo, hhi⟩
def viewTx (L : List O) : List UInt8 := Lib.join ((sortO L).map outTx) [44, 32]
def groupsTx (L : List O) : List UInt8 := Lib.join (((keysL L).map (grOf L)).map grTx) [44, 32]
set_option maxHeartbeats 8000000 in
theorem v_view {n : Nat} {w0 : World} {bs be : Nat} {mv : Option Nat} {st : Sx} {S P : Nat → Prop} {W : World} (h : Dk w0 bs mv st be S P W) (hO : OkS n st) (hn : n ≤ 1600) (hG : GlobE w0) (v9 : Value) : Calls Tryz.prog 140 #[.pointer (some ⟨bs, 0, none⟩), v9] W fun e w' => e = .returned (sV (viewTx st.L)) ∧ DNext w0 bs mv st P W w' := by
  have hll := hO.len hn
  have HV : Hid (Calls Tryz.prog 27 #[.pointer (some ⟨be, 0, none⟩)] W fun e w' => ∃ v, e = .returned v ∧ Hid (w'.ownsRow 0 89 9 v (sortO st.L).length ((sortO st.L).flatMap encO) ∧ Below W.heap.size W w')) := by
    obtain ⟨bj, bm, v0, v1, om, Sg, hE, hS⟩ := h.eng
    refine (eview_any (sorted_says nil_says) be bj bm v0 v1 st.f0 st.f1 om Sg st.x st.L st.L W hE (by omega)).mono ?_
    rintro e w' ⟨v, Z, rfl, h1, h2, h3, h4⟩
    have e1 : Z = sortO st.L := order_eq (h1.trans (sortO_perm st.L).symm) h2 (sortO_order st.L)
    subst e1
    exact ⟨v, rfl, Go.Joins.ownsRow_le h3 (Nat.zero_le _), h4⟩
  have hZ : (sortO st.L).length ≤ 700000 ∧ ∀ x ∈ sortO st.L, Fits x := ⟨by rw [(sortO_perm st.L).length_eq]; exact hll, fun x hx => fits_wf (tell_wf (hO.tell x ((sortO_perm st.L).subset hx)))⟩
  have HT : Hid (viewTx st.L = Lib.join ((sortO st.L).map outTx) [44, 32]) := rfl
  have HD2 : Hid (∀ W', Below W.heap.size W W' → DNext w0 bs mv st P W W') := fun W' hW' => h.same hW'
  have hgw := hG.below h.low
  have hc := h.cell.1
  have hlt := h.lt
  clear h hO hn hG hll
  generalize viewTx st.L = txt at *
  generalize sortO st.L = C at *
  obtain ⟨hCl, hCf⟩ := hZ
  have HZ3 : Hid (∀ x ∈ C, Fits x) := hCf
  clear hCf
  obtain ⟨i0, hi, hz0, hz1, hz2⟩ := info_parts infoS
  go_enter Tryz.func140, Tryz.ntmps140
  go_wp2_with fail
  refine HV.out.mono ?_
  rintro e w2 ⟨v, rfl, h2⟩
  obtain ⟨oa, ck, rfl, hrow⟩ := row_at encO 9 (fun _ => rfl) h2.out.1
  have HR : Hid (RowAt w2 oa encO 9 C) := hrow
  have HD : Hid (∀ W', Below w2.heap.size w2 W' → DNext w0 bs mv st P W W') := fun W' hW' => HD2.out W' (h2.out.2.trans (hW'.mono h2.out.2.size))
  have HGl : Hid (GlobE w2) := hgw.below h2.out.2
  have i1 : (C.length : Int) ≤ 700000 := by omega
  clear h2 hrow hlt hgw HD2 HV hc
  go_wp2
  have C0 : Hid (Tw w2 ((C.take 0).map outTx) (.slice none 0 0) w2) := Tw.start w2
  go_loopg [5, 14] C.length (fun gg v5 v14 wr => ∃ (i : Nat), i ≤ C.length ∧ gg = C.length - i ∧ v14 = .int .i64 i ∧ Hid (Tw w2 ((C.take i).map outTx) v5 wr))
  case atStart => exact ⟨0, Nat.zero_le _, rfl, rfl, C0⟩
  case round =>
    obtain ⟨i, hi2, hgk, rfl, I⟩ := hrel
    have HG : Hid (gk = C.length - i) := hgk
    clear hgk C0
    by_cases hlt : i < C.length
    · obtain ⟨x, hx⟩ : ∃ x, C[i]? = some x := ⟨_, List.getElem?_eq_getElem hlt⟩
      obtain ⟨gc, rfl, hgc, hcx⟩ := HR.out.below I.out.low i x hx
      have hcx := out_cells hcx
      have htk : Hid ((C.take (i + 1)).map outTx = (C.take i).map outTx ++ [outTx x]) := by
        show (C.take (i + 1)).map outTx = (C.take i).map outTx ++ [outTx x]
        rw [List.take_add_one, hx]; simp
      have hXl : ((C.take i).map outTx).length ≤ 700000 := by rw [List.length_map, List.length_take]; omega
      have HN : Hid (∀ V, Below wr.heap.size wr V → Calls Tryz.prog 216 #[vO x] V fun e w' => e = .returned (.string ⟨(outTx x).toArray⟩) ∧ Below V.heap.size V w') := fun V hV => tellOut_any x V (tab_below (tab_below HGl.out.g.tab I.out.low) hV) (HZ3.out x (List.mem_of_getElem? hx))
      generalize (C.take i).map outTx = X at *
      have j1 : (0 : Int) ≤ (i : Int) := by omega
      have j2 : (i : Int) < (C.length : Int) := by omega
      obtain ⟨k, lk, lt, lv, rk, rt, rv, hl, hr⟩ := x
      simp only [vO] at HN hcx
      have HA : Hid (∀ o, Below wr.heap.size wr (wr.alloc o)) := fun o => Go.Joins.below_alloc1 _ _
      clear hx
      go_wp2_with (first
        | (go_at_call 216; refine (HN.out _ (HA.out _)).mono ?_; rintro e w4 ⟨rfl, hb4⟩; have hb5 := (HA.out _).trans (hb4.mono (HA.out _).size); have C4 : Hid (Tw w2 X u5 (w4.alloc (.cells #[.string ⟨(outTx ⟨k, lk, lt, lv, rk, rt, rv, hl, hr⟩).toArray⟩] 9))) := I.out.go (hb5.trans ((Go.Joins.below_alloc1 w4 _).mono hb5.size)); have hl4 : w2.heap.size ≤ w4.heap.size := Nat.le_trans I.out.low.size hb5.size; have N4 : Hid (∀ j u, ([(.string ⟨(outTx ⟨k, lk, lt, lv, rk, rt, rv, hl, hr⟩).toArray⟩ : Value)])[j]? = some u → (w4.alloc (.cells #[.string ⟨(outTx ⟨k, lk, lt, lv, rk, rt, rv, hl, hr⟩).toArray⟩] 9)).cell? ((⟨w4.heap.size, 0, none⟩ : Addr).add j) = some u) := World.news_of_block (heap_alloc_new w4 (.cells #[.string ⟨(outTx ⟨k, lk, lt, lv, rk, rt, rv, hl, hr⟩).toArray⟩] 9)); clear hb4 hb5)
        | (at_builtin; refine wpList_append_lies _ rfl _ _ _ rfl w2.heap.size 9 i0 (.string ⟨#[]⟩) 1 16 Tryz.underlying81 hi hz0 hz1 hz2 rfl (by omega) u5 X.length (X.map sV) rfl C4.out.row ⟨w4.heap.size, 0, none⟩ 1 1 [.string ⟨(outTx ⟨k, lk, lt, lv, rk, rt, rv, hl, hr⟩).toArray⟩] rfl rfl N4.out one_str (by omega) (by unfold maxLen; omega) (by omega) (by simp; omega) _ rfl ?_; intro g5 cap5 w5 hown5 hgrow5 hat5 hlt5; have C5 : Hid (Tw w2 (X ++ [outTx ⟨k, lk, lt, lv, rk, rt, rv, hl, hr⟩]) (.slice (some ⟨g5, 0, none⟩) (X.length + 1) cap5) w5) := C4.out.step hown5 hgrow5; clear hown5 hgrow5 hat5 hlt5)
        | fail)
      go_roundg (C.length - (i + 1))
      case measure => have := HG.out; omega
      case rel => exact ⟨i + 1, by omega, rfl, by first | rfl | (congr 1; omega) | go_num, by rw [htk.out]; exact C5.out⟩
    · have j2 : ¬ ((i : Int) < (C.length : Int)) := by omega
      have e1 : C.take i = C := List.take_of_length_le (by omega)
      have hI := I.out
      rw [e1] at hI
      have HJ : Hid (Calls Tryz.prog 217 #[u5] wr fun e w' => e = .returned (.string ⟨txt.toArray⟩) ∧ Below wr.heap.size wr w') := by
        have := list_own (C.map outTx) u5 wr hI.row (by simp; omega) (Nat.le_trans (join_len (C.map outTx) 112 (fun y hy => by obtain ⟨c, hc, rfl⟩ := List.mem_map.1 hy; exact outTx_len c (HZ3.out c hc))) (by simp; omega))
        rw [← HT.out] at this
        exact this
      have HL : Hid (Below w2.heap.size w2 wr) := hI.low
      clear hI e1 I HR HZ3 HT
      go_wp2_with (first
        | (go_at_call 217; refine HJ.out.mono ?_; rintro e w4 ⟨rfl, hb4⟩; have HB4 : Hid (Below w2.heap.size w2 w4) := HL.out.trans (hb4.mono HL.out.size); clear hb4)
        | fail)
      go_ret
      exact ⟨rfl, HD.out _ HB4.out⟩
set_option maxHeartbeats 8000000 in
theorem v_groups {n : Nat} {w0 : World} {bs be : Nat} {mv : Option Nat} {st : Sx} {S P : Nat → Prop} {W : World} (h : Dk w0 bs mv st be S P W) (hO : OkS n st) (hn : n ≤ 1600) (hG : GlobE w0) (v9 : Value) : Calls Tryz.prog 141 #[.pointer (some ⟨bs, 0, none⟩), v9] W fun e w' => e = .returned (sV (groupsTx st.L)) ∧ DNext w0 bs mv st P W w' := by
  have hll := hO.len hn
  have HV : Hid (Calls Tryz.prog 30 #[.pointer (some ⟨be, 0, none⟩)] W fun e w' => ∃ v, e = .returned v ∧ Hid (w'.ownsRow 0 140 6 v ((keysL st.L).map (grOf st.L)).length (((keysL st.L).map (grOf st.L)).flatMap encGQ) ∧ Below W.heap.size W w')) := by
    obtain ⟨bj, bm, v0, v1, om, Sg, hE, hS⟩ := h.eng
    refine (egroups_any be bj bm v0 v1 st.f0 st.f1 om Sg st.x st.L st.L W hE (by omega)).mono ?_
    rintro e w' ⟨v, ks, rfl, h1, h2, _, h3, h4⟩
    have e1 : ks = keysL st.L := keys_eq (Geq.refl _) h1 (keysL_up st.L) h2 (keysL_some st.L)
    subst e1
    have e3 : ((keysL st.L).map (grOf st.L)).flatMap encGQ = (keysL st.L).flatMap (gE (absG st.L)) := by
      rw [List.flatMap_map]
      rfl
    refine ⟨v, rfl, ?_, h4⟩
    rw [e3, List.length_map]
    exact Go.Joins.ownsRow_le h3 (Nat.zero_le _)
  have hZ : ((keysL st.L).map (grOf st.L)).length ≤ 700000 ∧ ∀ x ∈ (keysL st.L).map (grOf st.L), FitsG x := ⟨by rw [List.length_map]; exact Nat.le_trans (keysL_len st.L) hll, fun x hx => by obtain ⟨k, hk, rfl⟩ := List.mem_map.1 hx; exact grOf_fits st.L k hk (fun o ho => tell_wf (hO.tell o ho)) hll⟩
  have HT : Hid (groupsTx st.L = Lib.join (((keysL st.L).map (grOf st.L)).map grTx) [44, 32]) := rfl
  have HD2 : Hid (∀ W', Below W.heap.size W W' → DNext w0 bs mv st P W W') := fun W' hW' => h.same hW'
  have hgw := hG.below h.low
  have hc := h.cell.1
  have hlt := h.lt
  clear h hO hn hG hll
  generalize groupsTx st.L = txt at *
  generalize (keysL st.L).map (grOf st.L) = C at *
  obtain ⟨hCl, hCf⟩ := hZ
  have HZ3 : Hid (∀ x ∈ C, FitsG x) := hCf
  clear hCf
  obtain ⟨i0, hi, hz0, hz1, hz2⟩ := info_parts infoS
  go_enter Tryz.func141, Tryz.ntmps141
  go_wp2_with fail
  refine HV.out.mono ?_
  rintro e w2 ⟨v, rfl, h2⟩
  obtain ⟨oa, ck, rfl, hrow⟩ := row_at encGQ 6 (fun _ => rfl) h2.out.1
  have HR : Hid (RowAt w2 oa encGQ 6 C) := hrow
  have HD : Hid (∀ W', Below w2.heap.size w2 W' → DNext w0 bs mv st P W W') := fun W' hW' => HD2.out W' (h2.out.2.trans (hW'.mono h2.out.2.size))
  have HGl : Hid (GlobE w2) := hgw.below h2.out.2
  have i1 : (C.length : Int) ≤ 700000 := by omega
  clear h2 hrow hlt hgw HD2 HV hc
  go_wp2
  have C0 : Hid (Tw w2 ((C.take 0).map grTx) (.slice none 0 0) w2) := Tw.start w2
  go_loopg [5, 14] C.length (fun gg v5 v14 wr => ∃ (i : Nat), i ≤ C.length ∧ gg = C.length - i ∧ v14 = .int .i64 i ∧ Hid (Tw w2 ((C.take i).map grTx) v5 wr))
  case atStart => exact ⟨0, Nat.zero_le _, rfl, rfl, C0⟩
  case round =>
    obtain ⟨i, hi2, hgk, rfl, I⟩ := hrel
    have HG : Hid (gk = C.length - i) := hgk
    clear hgk C0
    by_cases hlt : i < C.length
    · obtain ⟨x, hx⟩ : ∃ x, C[i]? = some x := ⟨_, List.getElem?_eq_getElem hlt⟩
      obtain ⟨gc, rfl, hgc, hcx⟩ := HR.out.below I.out.low i x hx
      have hcx := gr_cells hcx
      have htk : Hid ((C.take (i + 1)).map grTx = (C.take i).map grTx ++ [grTx x]) := by
        show (C.take (i + 1)).map grTx = (C.take i).map grTx ++ [grTx x]
        rw [List.take_add_one, hx]; simp
      have hXl : ((C.take i).map grTx).length ≤ 700000 := by rw [List.length_map, List.length_take]; omega
      have HN : Hid (∀ V, Below wr.heap.size wr V → Calls Tryz.prog 218 #[.agg #[.int .i64 x.key, .int .i64 x.count, .int .i64 x.sum, .int .i64 x.least, .int .i64 x.most, .bool x.some]] V fun e w' => e = .returned (.string ⟨(grTx x).toArray⟩) ∧ Below V.heap.size V w') := fun V hV => tellGroup_any x V (tab_below (tab_below HGl.out.g.tab I.out.low) hV) (HZ3.out x (List.mem_of_getElem? hx))
      generalize (C.take i).map grTx = X at *
      have j1 : (0 : Int) ≤ (i : Int) := by omega
      have j2 : (i : Int) < (C.length : Int) := by omega
      obtain ⟨k, c, s, l, m, b⟩ := x
      simp only at HN hcx
      have HA : Hid (∀ o, Below wr.heap.size wr (wr.alloc o)) := fun o => Go.Joins.below_alloc1 _ _
      clear hx
      go_wp2_with (first
        | (go_at_call 218; refine (HN.out _ (HA.out _)).mono ?_; rintro e w4 ⟨rfl, hb4⟩; have hb5 := (HA.out _).trans (hb4.mono (HA.out _).size); have C4 : Hid (Tw w2 X u5 (w4.alloc (.cells #[.string ⟨(grTx ⟨k, c, s, l, m, b⟩).toArray⟩] 9))) := I.out.go (hb5.trans ((Go.Joins.below_alloc1 w4 _).mono hb5.size)); have hl4 : w2.heap.size ≤ w4.heap.size := Nat.le_trans I.out.low.size hb5.size; have N4 : Hid (∀ j u, ([(.string ⟨(grTx ⟨k, c, s, l, m, b⟩).toArray⟩ : Value)])[j]? = some u → (w4.alloc (.cells #[.string ⟨(grTx ⟨k, c, s, l, m, b⟩).toArray⟩] 9)).cell? ((⟨w4.heap.size, 0, none⟩ : Addr).add j) = some u) := World.news_of_block (heap_alloc_new w4 (.cells #[.string ⟨(grTx ⟨k, c, s, l, m, b⟩).toArray⟩] 9)); clear hb4 hb5)
        | (at_builtin; refine wpList_append_lies _ rfl _ _ _ rfl w2.heap.size 9 i0 (.string ⟨#[]⟩) 1 16 Tryz.underlying81 hi hz0 hz1 hz2 rfl (by omega) u5 X.length (X.map sV) rfl C4.out.row ⟨w4.heap.size, 0, none⟩ 1 1 [.string ⟨(grTx ⟨k, c, s, l, m, b⟩).toArray⟩] rfl rfl N4.out one_str (by omega) (by unfold maxLen; omega) (by omega) (by simp; omega) _ rfl ?_; intro g5 cap5 w5 hown5 hgrow5 hat5 hlt5; have C5 : Hid (Tw w2 (X ++ [grTx ⟨k, c, s, l, m, b⟩]) (.slice (some ⟨g5, 0, none⟩) (X.length + 1) cap5) w5) := C4.out.step hown5 hgrow5; clear hown5 hgrow5 hat5 hlt5)
        | fail)
      go_roundg (C.length - (i + 1))
      case measure => have := HG.out; omega
      case rel => exact ⟨i + 1, by omega, rfl, by first | rfl | (congr 1; omega) | go_num, by rw [htk.out]; exact C5.out⟩
    · have j2 : ¬ ((i : Int) < (C.length : Int)) := by omega
      have e1 : C.take i = C := List.take_of_length_le (by omega)
      have hI := I.out
      rw [e1] at hI
      have HJ : Hid (Calls Tryz.prog 217 #[u5] wr fun e w' => e = .returned (.string ⟨txt.toArray⟩) ∧ Below wr.heap.size wr w') := by
        have := list_own (C.map grTx) u5 wr hI.row (by simp; omega) (Nat.le_trans (join_len (C.map grTx) 112 (fun y hy => by obtain ⟨c, hc, rfl⟩ := List.mem_map.1 hy; exact grTx_len c (HZ3.out c hc))) (by simp; omega))
        rw [← HT.out] at this
        exact this
      have HL : Hid (Below w2.heap.size w2 wr) := hI.low
      clear hI e1 I HR HZ3 HT
      go_wp2_with (first
        | (go_at_call 217; refine HJ.out.mono ?_; rintro e w4 ⟨rfl, hb4⟩; have HB4 : Hid (Below w2.heap.size w2 w4) := HL.out.trans (hb4.mono HL.out.size); clear hb4)
        | fail)
      go_ret
      exact ⟨rfl, HD.out _ HB4.out⟩
end Go.Proofs.YthfpipieboophaaGreatDoor
