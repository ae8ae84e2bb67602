/- A session: its other verbs. -/
import Derived.Test.YthfpipieboophaaGreatDoorDkiz
import Derived.StillTailTactics
namespace Go.Proofs.YthfpipieboophaaGreatDoor
open Go.RowKit Go.Sort Go.Shelf
set_option maxRecDepth 100000
theorem v_left {n : Nat} {w0 : World} {bs be : Nat} {mv : Option Nat} {st : Sx} {S P : Nat → Prop} {W : World} (h : Dk w0 bs mv st be S P W) (hO : OkS n st) (hn : n ≤ 1600) (hG : GlobE w0) (k t v : Int) (g : Nat) (hg : W.heap[g]? = some (.cells ([k, t, v].map (Value.int .i64)).toArray 3)) (hgP : ¬ P g) :
    Calls Tryz.prog 133 #[.pointer (some ⟨bs, 0, none⟩), .slice (some ⟨g, 0, none⟩) 3 3] W fun e w' => e = outc (st.feed0 k t v).1 (semF0 st k t v) ∧ DNext w0 bs mv (st.feed0 k t v).2 P W w' := by
  have H : Hid (Calls Tryz.prog 214 #[.pointer (some ⟨bs, 0, none⟩), .int .i64 0, .slice (some ⟨g, 0, none⟩) 3 3] W fun e w' => e = outc (st.feed0 k t v).1 (semF0 st k t v) ∧ Hid (DNext w0 bs mv (st.feed0 k t v).2 P W w')) := v_feed0 h hO hn hG k t v g hg hgP
  clear h hO hn hG hg hgP
  generalize (st.feed0 k t v).2 = st' at *
  generalize (st.feed0 k t v).1 = c at *
  generalize semF0 st k t v = txt at *
  unfold outc at *
  by_cases hc : c = 0
  · rw [if_pos hc] at *
    go_enter Tryz.func133, Tryz.ntmps133
    go_wp2_with (first
      | (go_at_call 214; refine H.out.mono ?_; rintro e w2 ⟨rfl, h2⟩)
      | fail)
    go_ret
    exact ⟨rfl, h2.out⟩
  · rw [if_neg hc] at *
    go_enter Tryz.func133, Tryz.ntmps133
    go_wp2_with (first
      | (go_at_call 214; refine H.out.mono ?_; rintro e w2 ⟨rfl, h2⟩)
      | fail)
    exact ⟨rfl, rfl, h2.out⟩
theorem v_right {n : Nat} {w0 : World} {bs be : Nat} {mv : Option Nat} {st : Sx} {S P : Nat → Prop} {W : World} (h : Dk w0 bs mv st be S P W) (hO : OkS n st) (hn : n ≤ 1600) (hG : GlobE w0) (k t v : Int) (g : Nat) (hg : W.heap[g]? = some (.cells ([k, t, v].map (Value.int .i64)).toArray 3)) (hgP : ¬ P g) :
    Calls Tryz.prog 134 #[.pointer (some ⟨bs, 0, none⟩), .slice (some ⟨g, 0, none⟩) 3 3] W fun e w' => e = outc (st.feed1 k t v).1 (semF1 st k t v) ∧ DNext w0 bs mv (st.feed1 k t v).2 P W w' := by
  have H : Hid (Calls Tryz.prog 214 #[.pointer (some ⟨bs, 0, none⟩), .int .i64 1, .slice (some ⟨g, 0, none⟩) 3 3] W fun e w' => e = outc (st.feed1 k t v).1 (semF1 st k t v) ∧ Hid (DNext w0 bs mv (st.feed1 k t v).2 P W w')) := v_feed1 h hO hn hG k t v g hg hgP
  clear h hO hn hG hg hgP
  generalize (st.feed1 k t v).2 = st' at *
  generalize (st.feed1 k t v).1 = c at *
  generalize semF1 st k t v = txt at *
  unfold outc at *
  by_cases hc : c = 0
  · rw [if_pos hc] at *
    go_enter Tryz.func134, Tryz.ntmps134
    go_wp2_with (first
      | (go_at_call 214; refine H.out.mono ?_; rintro e w2 ⟨rfl, h2⟩)
      | fail)
    go_ret
    exact ⟨rfl, h2.out⟩
  · rw [if_neg hc] at *
    go_enter Tryz.func134, Tryz.ntmps134
    go_wp2_with (first
      | (go_at_call 214; refine H.out.mono ?_; rintro e w2 ⟨rfl, h2⟩)
      | fail)
    exact ⟨rfl, rfl, h2.out⟩
set_option maxHeartbeats 4000000 in
theorem v_mark {n : Nat} {w0 : World} {bs be : Nat} {mv : Option Nat} {st : Sx} {S P : Nat → Prop} {W : World} (h : Dk w0 bs mv st be S P W) (hO : OkS n st) (hn : n ≤ 1600) (a b : Int) (g : Nat) (hg : W.heap[g]? = some (.cells ([a, b].map (Value.int .i64)).toArray 3)) (hgP : ¬ P g) :
    Calls Tryz.prog 135 #[.pointer (some ⟨bs, 0, none⟩), .slice (some ⟨g, 0, none⟩) 2 2] W fun e w' => e = outc (st.move a b).1 [109, 97, 114, 107] ∧ DNext w0 bs mv (st.move a b).2 P W w' := by
  have hgl := (Array.getElem?_eq_some_iff.1 hg).1
  have hab : ∀ {V : World}, V.heap[g]? = some (.cells ([a, b].map (Value.int .i64)).toArray 3) → V.cell? ⟨g, 0, none⟩ = some (.int .i64 a) ∧ V.cell? ⟨g, 1, none⟩ = some (.int .i64 b) := fun hv => by
    refine ⟨?_, ?_⟩ <;> (rw [Go.Joins.cell_of_block hv]; rfl)
  have c1 : W.cell? ⟨bs, 0, none⟩ = some (.pointer (some ⟨be, 0, none⟩)) ∧ W.cell? ⟨g, 0, none⟩ = some (.int .i64 a) ∧ W.cell? ⟨g, 1, none⟩ = some (.int .i64 b) := ⟨h.cell.1, hab hg⟩
  have hlt := h.lt
  have HF : Hid (∀ V, Below W.heap.size W V → Calls Tryz.prog 15 #[.pointer (some ⟨be, 0, none⟩), .int .i64 a, .int .i64 b] V fun e w' => e = .returned (errC (st.move a b).1) ∧ (w'.cell? ⟨bs, 0, none⟩ = some (.pointer (some ⟨be, 0, none⟩)) ∧ w'.cell? ⟨g, 0, none⟩ = some (.int .i64 a) ∧ w'.cell? ⟨g, 1, none⟩ = some (.int .i64 b)) ∧ Hid (DNext w0 bs mv (st.move a b).2 P W w')) := by
    intro V hV
    have hk := h.below hV
    refine (d_move hk.eng hO hn a b).mono ?_
    rintro e w' ⟨S', rfl, h2, h3⟩
    obtain ⟨a1, a2, a3⟩ := hk.goes h2 h3
    have hb2 : Turned P W w' := (Turned.of_below (S := P) hV).trans a2 (fun _ _ e => e)
    exact ⟨rfl, ⟨a1.cell.1, hab ((a2.block g (Nat.lt_of_lt_of_le hgl hV.size) hgP).trans ((hV.block g hgl).trans hg))⟩, DNext.go a1 hb2 (fun k e => (a3 k e).imp id (fun g => Nat.le_trans hV.size g)) (Below.refl _ _)⟩
  have B1 : Hid (Below W.heap.size W W.drew) := (Below.refl _ _).drew
  clear h hO hn hg hgP hab
  generalize (st.move a b).2 = st' at *
  generalize (st.move a b).1 = c at *
  unfold outc
  unfold errC at HF
  by_cases hc : c = 0
  · rw [if_pos hc] at *
    clear hc
    go_enter Tryz.func135, Tryz.ntmps135
    go_wp2
    go_region_held3 (fun V => V.cell? ⟨bs, 0, none⟩ = some (.pointer (some ⟨be, 0, none⟩)) ∧ V.cell? ⟨g, 0, none⟩ = some (.int .i64 a) ∧ V.cell? ⟨g, 1, none⟩ = some (.int .i64 b)) (first | exact c1 | exact c2 | fail) (first
      | (go_at_call 15; refine (HF.out _ B1.out).mono ?_; rintro e w2 ⟨rfl, c2, h2⟩)
      | (go_at_call 213; refine (check_nil _).mono ?_; rintro e w3 ⟨rfl, hw⟩; have hw := hw.symm; subst hw)
      | fail)
    go_wp2
    go_ret
    exact ⟨rfl, h2.out⟩
  · rw [if_neg hc] at *
    clear hc
    go_enter Tryz.func135, Tryz.ntmps135
    go_wp2
    go_still_tail 10, (by kernel_rfl)
    go_wp2_with (first
      | (go_at_call 15; refine (HF.out _ ?_).mono ?_; (exact B1.out); rintro e w2 ⟨rfl, c2, h2⟩)
      | (go_at_call 213; refine (check_err _ _).mono ?_; rintro e w3 ⟨rfl, hw⟩; have hw := hw.symm; subst hw)
      | fail)
    exact ⟨rfl, rfl, h2.out⟩
theorem v_marks {n : Nat} {w0 : World} {bs be : Nat} {mv : Option Nat} {st : Sx} {S P : Nat → Prop} {W : World} (h : Dk w0 bs mv st be S P W) (hO : OkS n st) (hn : n ≤ 1600) (hG : GlobE w0) (v9 : Value) : Calls Tryz.prog 136 #[.pointer (some ⟨bs, 0, none⟩), v9] W fun e w' => e = .returned (sV (spacedB [st.x.m0, st.x.m1])) ∧ DNext w0 bs mv st P W w' := by
  have hf0 := hO.f0
  have hf1 := hO.f1
  have hm0 := hO.m0
  have hm1 := hO.m1
  have hl0 := hO.l0
  have hl1 := hO.l1
  have hJ := hO.jok hn
  have hB : Hid (Calls Tryz.prog 215 #[.func (.func 20) #[.pointer (some ⟨be, 0, none⟩)] #[]] W fun e w' => e = .returned (.string ⟨(spacedB [st.x.m0, st.x.m1]).toArray⟩) ∧ Hid (DNext w0 bs mv st P W w')) := by
    obtain ⟨bj, bm, v0, v1, om, Sg, hE, hS⟩ := h.eng
    exact (both_any 20 (.pointer (some ⟨be, 0, none⟩)) (st.x.m0) (st.x.m1) (by exact ⟨by omega, by omega⟩) (by exact ⟨by omega, by omega⟩) W (hG.below h.low).g.tab (enters_of Tryz.func20 (by kernel_rfl) rfl) (emark_any be bj bm v0 v1 st.f0 st.f1 om Sg st.x st.L st.L W 0 hE) (emark_any be bj bm v0 v1 st.f0 st.f1 om Sg st.x st.L st.L W 1 hE)).mono fun e w' hh => ⟨hh.1, h.same hh.2⟩
  have hc := h.cell.1
  have hlt := h.lt
  have hmf : ∀ (fn : Fn) (first cap : Array Value) (w : World), (Instr.makeFunc fn first cap).run Tryz.prog w = .ok (.func fn first cap) w := fun _ _ _ _ => rfl
  clear h hO hn hG hf0 hf1 hm0 hm1 hl0 hl1 hJ
  go_enter Tryz.func136, Tryz.ntmps136
  go_wp2_with (first
    | (go_at_call 215; refine hB.out.mono ?_; rintro e w2 ⟨rfl, h2⟩)
    | fail)
  go_ret
  exact ⟨rfl, h2.out⟩
theorem v_held {n : Nat} {w0 : World} {bs be : Nat} {mv : Option Nat} {st : Sx} {S P : Nat → Prop} {W : World} (h : Dk w0 bs mv st be S P W) (hO : OkS n st) (hn : n ≤ 1600) (hG : GlobE w0) (v9 : Value) : Calls Tryz.prog 137 #[.pointer (some ⟨bs, 0, none⟩), v9] W fun e w' => e = .returned (sV (spacedB [st.x.R0.length, st.x.R1.length])) ∧ DNext w0 bs mv st P W w' := by
  have hf0 := hO.f0
  have hf1 := hO.f1
  have hm0 := hO.m0
  have hm1 := hO.m1
  have hl0 := hO.l0
  have hl1 := hO.l1
  have hJ := hO.jok hn
  have hB : Hid (Calls Tryz.prog 215 #[.func (.func 19) #[.pointer (some ⟨be, 0, none⟩)] #[]] W fun e w' => e = .returned (.string ⟨(spacedB [st.x.R0.length, st.x.R1.length]).toArray⟩) ∧ Hid (DNext w0 bs mv st P W w')) := by
    obtain ⟨bj, bm, v0, v1, om, Sg, hE, hS⟩ := h.eng
    exact (both_any 19 (.pointer (some ⟨be, 0, none⟩)) (st.x.R0.length) (st.x.R1.length) (by exact ⟨by omega, by omega⟩) (by exact ⟨by omega, by omega⟩) W (hG.below h.low).g.tab (enters_of Tryz.func19 (by kernel_rfl) rfl) (eheld0 hE) (eheld1 hE)).mono fun e w' hh => ⟨hh.1, h.same hh.2⟩
  have hc := h.cell.1
  have hlt := h.lt
  have hmf : ∀ (fn : Fn) (first cap : Array Value) (w : World), (Instr.makeFunc fn first cap).run Tryz.prog w = .ok (.func fn first cap) w := fun _ _ _ _ => rfl
  clear h hO hn hG hf0 hf1 hm0 hm1 hl0 hl1 hJ
  go_enter Tryz.func137, Tryz.ntmps137
  go_wp2_with (first
    | (go_at_call 215; refine hB.out.mono ?_; rintro e w2 ⟨rfl, h2⟩)
    | fail)
  go_ret
  exact ⟨rfl, h2.out⟩
theorem v_fed {n : Nat} {w0 : World} {bs be : Nat} {mv : Option Nat} {st : Sx} {S P : Nat → Prop} {W : World} (h : Dk w0 bs mv st be S P W) (hO : OkS n st) (hn : n ≤ 1600) (hG : GlobE w0) (v9 : Value) : Calls Tryz.prog 138 #[.pointer (some ⟨bs, 0, none⟩), v9] W fun e w' => e = .returned (sV (spacedB [st.f0, st.f1])) ∧ DNext w0 bs mv st P W w' := by
  have hf0 := hO.f0
  have hf1 := hO.f1
  have hm0 := hO.m0
  have hm1 := hO.m1
  have hl0 := hO.l0
  have hl1 := hO.l1
  have hJ := hO.jok hn
  have hB : Hid (Calls Tryz.prog 215 #[.func (.func 21) #[.pointer (some ⟨be, 0, none⟩)] #[]] W fun e w' => e = .returned (.string ⟨(spacedB [st.f0, st.f1]).toArray⟩) ∧ Hid (DNext w0 bs mv st P W w')) := by
    obtain ⟨bj, bm, v0, v1, om, Sg, hE, hS⟩ := h.eng
    exact (both_any 21 (.pointer (some ⟨be, 0, none⟩)) (st.f0) (st.f1) (by exact ⟨by omega, by omega⟩) (by exact ⟨by omega, by omega⟩) W (hG.below h.low).g.tab (enters_of Tryz.func21 (by kernel_rfl) rfl) (efed0 hE) (efed1 hE)).mono fun e w' hh => ⟨hh.1, h.same hh.2⟩
  have hc := h.cell.1
  have hlt := h.lt
  have hmf : ∀ (fn : Fn) (first cap : Array Value) (w : World), (Instr.makeFunc fn first cap).run Tryz.prog w = .ok (.func fn first cap) w := fun _ _ _ _ => rfl
  clear h hO hn hG hf0 hf1 hm0 hm1 hl0 hl1 hJ
  go_enter Tryz.func138, Tryz.ntmps138
  go_wp2_with (first
    | (go_at_call 215; refine hB.out.mono ?_; rintro e w2 ⟨rfl, h2⟩)
    | fail)
  go_ret
  exact ⟨rfl, h2.out⟩
theorem v_late {n : Nat} {w0 : World} {bs be : Nat} {mv : Option Nat} {st : Sx} {S P : Nat → Prop} {W : World} (h : Dk w0 bs mv st be S P W) (hO : OkS n st) (hn : n ≤ 1600) (hG : GlobE w0) (v9 : Value) : Calls Tryz.prog 139 #[.pointer (some ⟨bs, 0, none⟩), v9] W fun e w' => e = .returned (sV (Lib.itoa st.x.late)) ∧ DNext w0 bs mv st P W w' := by
  have hl := hO.late
  have HL : Hid (Calls Tryz.prog 25 #[.pointer (some ⟨be, 0, none⟩)] W fun e w' => e = .returned (.int .i64 st.x.late) ∧ w' = W) := pe_lateN h.eng
  have HI : Hid (Calls Tryz.prog 113 #[.int .i64 st.x.late] W fun e w' => e = .returned (.string ⟨(Lib.itoa st.x.late).toArray⟩) ∧ Hid (DNext w0 bs mv st P W w')) := (dk_itoa st.x.late (by omega) (by omega) W (hG.below h.low).g.tab).mono fun e w' hh => ⟨hh.1, h.same hh.2⟩
  have hc := h.cell.1
  have hlt := h.lt
  clear h hO hn hG hl
  go_enter Tryz.func139, Tryz.ntmps139
  go_wp2_with (first
    | (go_at_call 25; refine HL.out.mono ?_; rintro e w' ⟨rfl, hw⟩; have hw := hw.symm; subst hw)
    | (go_at_call 113; refine HI.out.mono ?_; rintro e w2 ⟨rfl, h2⟩)
    | fail)
  go_ret
  exact ⟨rfl, h2.out⟩
def helpTx : List UInt8 := [102, 101, 100, 32, 103, 114, 111, 117, 112, 115, 32, 104, 101, 108, 112, 32, 104, 101, 108, 100, 32, 108, 97, 116, 101, 32, 108, 101, 102, 116, 32, 109, 97, 114, 107, 32, 109, 97, 114, 107, 115, 32, 112, 108, 97, 110, 32, 114, 101, 108, 111, 97, 100, 32, 114, 105, 103, 104, 116, 32, 115, 97, 118, 101, 100, 32, 118, 105, 101, 119]
theorem v_help {w0 : World} {bs be : Nat} {mv : Option Nat} {st : Sx} {S P : Nat → Prop} {W : World} (h : Dk w0 bs mv st be S P W) (v9 : Value) : Calls Tryz.prog 144 #[.pointer (some ⟨bs, 0, none⟩), v9] W fun e w' => e = .returned (sV helpTx) ∧ DNext w0 bs mv st P W w' := by
  go_enter Tryz.func144, Tryz.ntmps144
  go_wp2
  go_ret
  exact ⟨rfl, h.same (Below.refl _ _)⟩
def sortO (L : List O) : List O := L.mergeSort (fun a b => decide (cO a b ≤ 0))
theorem sortO_perm (L : List O) : (sortO L).Perm L := List.mergeSort_perm L _
theorem sortO_order (L : List O) : InOrder (sortO L) := by
  have h := List.pairwise_mergeSort (le := fun a b : O => decide (cO a b ≤ 0)) (fun a b c h1 h2 => by
    simp only [decide_eq_true_eq] at h1 h2 ⊢
    exact cO_trans a b c h1 h2) (fun a b => by
    have := cO_neg a b
    simp only [Bool.or_eq_true, decide_eq_true_eq]
    omega) L
  exact h.imp (fun h => by simpa using h)
def Sx.text (st : Sx) : Option (List UInt8) := if 5000 < st.L.length ∨ 60000 < (savedB st.x st.f0 st.f1 (sortO st.L)).length then none else some (savedB st.x st.f0 st.f1 (sortO st.L))
def Sx.again (st : Sx) : Sx := ⟨st.x, st.f0, st.f1, (sortO st.L).reverse⟩
theorem OkS.again {n : Nat} {st : Sx} (h : OkS n st) : OkS n st.again := by
  obtain ⟨A, B, a1, a2, a3⟩ := h.ex
  exact ⟨⟨A, B, a1, ((List.reverse_perm _).trans (sortO_perm _)).trans a2, a3⟩, h.plan, h.l0, h.l1, h.late, h.m0, h.m1, h.f0, h.f1⟩
theorem text_len {st : Sx} {t : List UInt8} (h : st.text = some t) : t.length ≤ 60000 := by
  unfold Sx.text at h
  split at h
  · cases h
  · injection h with h
    subst h
    omega
theorem d_saved {n : Nat} {st : Sx} {be : Nat} {S : Nat → Prop} {W : World} (hP : PE st be S W) (hO : OkS n st) (hn : n ≤ 1600) (hG : Glob W) :
    Calls Tryz.prog 18 #[.pointer (some ⟨be, 0, none⟩)] W fun e w' => e = .returned (match st.text with | none => .tuple #[.string ⟨#[]⟩, .iface 24 (.int .i64 4)] | some t => .tuple #[.string ⟨t.toArray⟩, .nilIface]) ∧ Below W.heap.size W w' := by
  have := pe_saved (x := st.x) (f0 := st.f0) (f1 := st.f1) (L := st.L) hP hG (hO.sv hn) hO.tell (sortO_perm st.L) (sortO_order st.L)
  refine this.mono ?_
  rintro e w' ⟨rfl, hb⟩
  refine ⟨?_, hb⟩
  unfold Sx.text
  split
  · rfl
  · rfl
def semSaved (st : Sx) : Int × List UInt8 := match st.text with | none => (4, []) | some t => (0, Lib.itoa t.length)
theorem v_saved {n : Nat} {w0 : World} {bs be : Nat} {mv : Option Nat} {st : Sx} {S P : Nat → Prop} {W : World} (h : Dk w0 bs mv st be S P W) (hO : OkS n st) (hn : n ≤ 1600) (hG : GlobE w0) (v9 : Value) : Calls Tryz.prog 142 #[.pointer (some ⟨bs, 0, none⟩), v9] W fun e w' => e = outc (semSaved st).1 (semSaved st).2 ∧ DNext w0 bs mv st P W w' := by
  have HS := d_saved h.eng hO hn (hG.below h.low).g
  have hc := h.cell.1
  have hlt := h.lt
  have hgw := hG.below h.low
  unfold semSaved
  cases ht : st.text with
  | none =>
    simp only [ht] at HS
    have HS : Hid (Calls Tryz.prog 18 #[.pointer (some ⟨be, 0, none⟩)] W fun e w' => e = .returned (.tuple #[.string ⟨#[]⟩, .iface 24 (.int .i64 4)]) ∧ Hid (DNext w0 bs mv st P W w')) := HS.mono fun e w' hh => ⟨hh.1, h.same hh.2⟩
    clear h hO hn hG hgw ht
    go_enter Tryz.func142, Tryz.ntmps142
    go_wp2_with (first
      | (go_at_call 18; refine HS.out.mono ?_; rintro e w2 ⟨rfl, h2⟩)
      | (go_at_call 213; refine (check_err _ _).mono ?_; rintro e w3 ⟨rfl, hw⟩; have hw := hw.symm; subst hw)
      | fail)
    exact ⟨rfl, rfl, h2.out⟩
  | some t =>
    simp only [ht] at HS
    have htl := text_len ht
    have HS : Hid (Calls Tryz.prog 18 #[.pointer (some ⟨be, 0, none⟩)] W fun e w' => e = .returned (.tuple #[.string ⟨t.toArray⟩, .nilIface]) ∧ Hid (Below W.heap.size W w')) := HS
    have HI : Hid (∀ V, Hid (Below W.heap.size W V) → Calls Tryz.prog 113 #[.int .i64 t.length] V fun e w' => e = .returned (.string ⟨(Lib.itoa t.length).toArray⟩) ∧ Hid (DNext w0 bs mv st P W w')) := fun V hV => (dk_itoa t.length (by omega) (by omega) V (hgw.below hV.out).g.tab).mono fun e w' hh => ⟨hh.1, h.same (hV.out.trans (hh.2.mono hV.out.size))⟩
    clear h hO hn hG hgw ht
    go_enter Tryz.func142, Tryz.ntmps142
    go_wp2_with (first
      | (go_at_call 18; refine HS.out.mono ?_; rintro e w2 ⟨rfl, h2⟩)
      | (go_at_call 213; refine (check_nil _).mono ?_; rintro e w3 ⟨rfl, hw⟩; have hw := hw.symm; subst hw)
      | (go_at_call 113; refine (HI.out _ h2).mono ?_; rintro e w4 ⟨rfl, h4⟩)
      | fail)
    go_ret
    exact ⟨rfl, h4.out⟩
def semReload (st : Sx) : (Int × List UInt8) × Sx := match st.text with | none => ((4, []), st) | some _ => ((0, [114, 101, 108, 111, 97, 100]), st.again)
theorem v_reload {n : Nat} {w0 : World} {bs be : Nat} {mv : Option Nat} {st : Sx} {S P : Nat → Prop} {W : World} (h : Dk w0 bs mv st be S P W) (hO : OkS n st) (hn : n ≤ 1600) (hG : GlobE w0) (v9 : Value) : Calls Tryz.prog 143 #[.pointer (some ⟨bs, 0, none⟩), v9] W fun e w' => e = outc (semReload st).1.1 (semReload st).1.2 ∧ DNext w0 bs mv (semReload st).2 P W w' := by
  have HS := d_saved h.eng hO hn (hG.below h.low).g
  have hc := h.cell.1
  have hlt := h.lt
  have hgw := hG.below h.low
  unfold semReload
  cases ht : st.text with
  | none =>
    simp only [ht] at HS
    have HS : Hid (Calls Tryz.prog 18 #[.pointer (some ⟨be, 0, none⟩)] W fun e w' => e = .returned (.tuple #[.string ⟨#[]⟩, .iface 24 (.int .i64 4)]) ∧ Hid (DNext w0 bs mv st P W w')) := HS.mono fun e w' hh => ⟨hh.1, h.same hh.2⟩
    clear h hO hn hG hgw ht
    go_enter Tryz.func143, Tryz.ntmps143
    go_wp2_with (first
      | (go_at_call 18; refine HS.out.mono ?_; rintro e w2 ⟨rfl, h2⟩)
      | (go_at_call 213; refine (check_err _ _).mono ?_; rintro e w3 ⟨rfl, hw⟩; have hw := hw.symm; subst hw)
      | fail)
    exact ⟨rfl, rfl, h2.out⟩
  | some t =>
    simp only [ht] at HS
    have htl := text_len ht
    have hLl : st.L.length ≤ 5000 := by
      unfold Sx.text at ht
      split at ht
      · cases ht
      · omega
    have hte : t = savedB st.x st.f0 st.f1 (sortO st.L) := by
      unfold Sx.text at ht
      split at ht
      · cases ht
      · injection ht with ht; exact ht.symm
    have HS : Hid (Calls Tryz.prog 18 #[.pointer (some ⟨be, 0, none⟩)] W fun e w' => e = .returned (.tuple #[.string ⟨t.toArray⟩, .nilIface]) ∧ Hid (Below W.heap.size W w')) := HS
    have HL : Hid (∀ V, Hid (Below W.heap.size W V) → Calls Tryz.prog 8 #[.string ⟨t.toArray⟩] V fun e w' => ∃ be', e = .returned (.tuple #[.pointer (some ⟨be', 0, none⟩), .nilIface]) ∧ (w'.cell? ⟨bs, 0, none⟩ = some (.pointer (some ⟨be, 0, none⟩)) ∧ w'.frozen? ⟨bs, 0, none⟩ = false ∧ bs < w'.heap.size) ∧ Hid (DNext w0 bs mv st.again P W (w'.setCell ⟨bs, 0, none⟩ (.pointer (some ⟨be', 0, none⟩))))) := by
      intro V hV
      rw [hte]
      refine (load_saved st.x st.f0 st.f1 (sortO st.L) (hO.sv hn) (fun o ho => hO.tell o ((sortO_perm _).subset ho)) (by rw [(sortO_perm st.L).length_eq]; exact hLl) (sortO_order _) (by rw [← hte]; exact htl) V (hgw.below hV.out).g).mono ?_
      rintro e w' ⟨be', S', rfl, h1, h2, h3⟩
      have hb : Below W.heap.size W w' := hV.out.trans (h3.mono hV.out.size)
      have h4 := h.below hb
      exact ⟨be', rfl, ⟨h4.cell.1, h4.cell.2.2, h4.lt⟩, h.taken hb h1 (fun k e => Nat.le_trans hV.out.size (h2 k e).1)⟩
    clear h hO hn hG hgw ht hte
    go_enter Tryz.func143, Tryz.ntmps143
    go_wp2_with (first
      | (go_at_call 18; refine HS.out.mono ?_; rintro e w2 ⟨rfl, h2⟩)
      | (go_at_call 213; refine (check_nil _).mono ?_; rintro e w3 ⟨rfl, hw⟩; have hw := hw.symm; subst hw)
      | (go_at_call 8; refine (HL.out _ h2).mono ?_; rintro e w4 ⟨be', rfl, c4, h4⟩)
      | fail)
    go_ret
    exact ⟨rfl, h4.out⟩
end Go.Proofs.YthfpipieboophaaGreatDoor
