/- Dknz: several texts in one. -/
import Derived.Test.YthfpipieboophaaGreatDoorDkm
import Derived.Test.YthfpipieboophaaGreatDoorLez
import Derived.Maps.OwnSet
/- A session's verbs: a map of thirteen. -/
namespace Go.Proofs.YthfpipieboophaaGreatDoor
open Go.RowKit Go.Sort Go.Shelf
set_option maxRecDepth 100000
inductive Vb
  | vplan
  | vleft
  | vright
  | vmark
  | vmarks
  | vheld
  | vfed
  | vlate
  | vview
  | vgroups
  | vsaved
  | vreload
  | vhelp
def Vb.fn : Vb → Nat
  | .vplan => 132
  | .vleft => 133
  | .vright => 134
  | .vmark => 135
  | .vmarks => 136
  | .vheld => 137
  | .vfed => 138
  | .vlate => 139
  | .vview => 140
  | .vgroups => 141
  | .vsaved => 142
  | .vreload => 143
  | .vhelp => 144
def Vb.ar : Vb → Nat
  | .vplan => 3
  | .vleft => 3
  | .vright => 3
  | .vmark => 2
  | .vmarks => 0
  | .vheld => 0
  | .vfed => 0
  | .vlate => 0
  | .vview => 0
  | .vgroups => 0
  | .vsaved => 0
  | .vreload => 0
  | .vhelp => 0
def Vb.word : Vb → List UInt8
  | .vplan => [112, 108, 97, 110]
  | .vleft => [108, 101, 102, 116]
  | .vright => [114, 105, 103, 104, 116]
  | .vmark => [109, 97, 114, 107]
  | .vmarks => [109, 97, 114, 107, 115]
  | .vheld => [104, 101, 108, 100]
  | .vfed => [102, 101, 100]
  | .vlate => [108, 97, 116, 101]
  | .vview => [118, 105, 101, 119]
  | .vgroups => [103, 114, 111, 117, 112, 115]
  | .vsaved => [115, 97, 118, 101, 100]
  | .vreload => [114, 101, 108, 111, 97, 100]
  | .vhelp => [104, 101, 108, 112]
def verbOf (l : List UInt8) : Option Vb :=
  if l = [112, 108, 97, 110] then some .vplan
  else if l = [108, 101, 102, 116] then some .vleft
  else if l = [114, 105, 103, 104, 116] then some .vright
  else if l = [109, 97, 114, 107] then some .vmark
  else if l = [109, 97, 114, 107, 115] then some .vmarks
  else if l = [104, 101, 108, 100] then some .vheld
  else if l = [102, 101, 100] then some .vfed
  else if l = [108, 97, 116, 101] then some .vlate
  else if l = [118, 105, 101, 119] then some .vview
  else if l = [103, 114, 111, 117, 112, 115] then some .vgroups
  else if l = [115, 97, 118, 101, 100] then some .vsaved
  else if l = [114, 101, 108, 111, 97, 100] then some .vreload
  else if l = [104, 101, 108, 112] then some .vhelp
  else none
abbrev vRel : Value → Option (DataW Value × List MemPlace) := fun v => some (.held v, [])
abbrev vbV (bs : Nat) (f : Nat) (k : Nat) : Value := .agg #[.int .i64 k, .func (.func f) #[.pointer (some ⟨bs, 0, none⟩)] #[]]
abbrev vbZ : Value := .agg #[.int .i64 0, .nilFunc]
def verbs13 (bs : Nat) : DataW Value := ((((((((((((((DataW.map []).put (.string [112, 108, 97, 110]) (.held (vbV bs 132 3))).put (.string [108, 101, 102, 116]) (.held (vbV bs 133 3))).put (.string [114, 105, 103, 104, 116]) (.held (vbV bs 134 3))).put (.string [109, 97, 114, 107]) (.held (vbV bs 135 2))).put (.string [109, 97, 114, 107, 115]) (.held (vbV bs 136 0))).put (.string [104, 101, 108, 100]) (.held (vbV bs 137 0))).put (.string [102, 101, 100]) (.held (vbV bs 138 0))).put (.string [108, 97, 116, 101]) (.held (vbV bs 139 0))).put (.string [118, 105, 101, 119]) (.held (vbV bs 140 0))).put (.string [103, 114, 111, 117, 112, 115]) (.held (vbV bs 141 0))).put (.string [115, 97, 118, 101, 100]) (.held (vbV bs 142 0))).put (.string [114, 101, 108, 111, 97, 100]) (.held (vbV bs 143 0))).put (.string [104, 101, 108, 112]) (.held (vbV bs 144 0)))
def VMap (W : World) (bs bm : Nat) : Prop := W.ownsMap Tryz.prog 9 vRel bm 13 (verbs13 bs)
theorem VMap.still {W W' : World} {bs bm : Nat} (h : VMap W bs bm) (hb : W'.heap[bm]? = W.heap[bm]?) : VMap W' bs bm := by
  obtain ⟨es, c, h1, h2⟩ := h
  exact ⟨es, c, hb.trans h1, h2⟩
theorem VMap.lt {W : World} {bs bm : Nat} (h : VMap W bs bm) : bm < W.heap.size := by
  obtain ⟨es, c, h1, h2⟩ := h
  exact (Array.getElem?_eq_some_iff.1 h1).1
theorem zero228 (w : World) : (zeroValue 228).run Tryz.prog w = .ok vbZ w := by kernel_rfl
theorem keyv (l : List UInt8) (hs : l.length ≤ 1000000) : keyOf Tryz.prog 9 (.string ⟨l.toArray⟩) = some (.string l) := by
  have := key9b ⟨l.toArray⟩ (by show l.toArray.size ≤ _; simp; omega)
  simpa using this
theorem verb_at (bs : Nat) (v : Vb) : (verbs13 bs).atKey (.string v.word) (.held vbZ) = .held (vbV bs v.fn v.ar) ∧ Maps.has (verbs13 bs) (.string v.word) = true := by
  cases v <;> exact ⟨by kernel_rfl, by kernel_rfl⟩
theorem word_of {l : List UInt8} {v : Vb} (h : verbOf l = some v) : l = v.word := by
  unfold verbOf at h
  by_cases h0 : l = [112, 108, 97, 110]
  · rw [if_pos h0] at h; injection h with h; subst h; exact h0
  rw [if_neg h0] at h
  by_cases h1 : l = [108, 101, 102, 116]
  · rw [if_pos h1] at h; injection h with h; subst h; exact h1
  rw [if_neg h1] at h
  by_cases h2 : l = [114, 105, 103, 104, 116]
  · rw [if_pos h2] at h; injection h with h; subst h; exact h2
  rw [if_neg h2] at h
  by_cases h3 : l = [109, 97, 114, 107]
  · rw [if_pos h3] at h; injection h with h; subst h; exact h3
  rw [if_neg h3] at h
  by_cases h4 : l = [109, 97, 114, 107, 115]
  · rw [if_pos h4] at h; injection h with h; subst h; exact h4
  rw [if_neg h4] at h
  by_cases h5 : l = [104, 101, 108, 100]
  · rw [if_pos h5] at h; injection h with h; subst h; exact h5
  rw [if_neg h5] at h
  by_cases h6 : l = [102, 101, 100]
  · rw [if_pos h6] at h; injection h with h; subst h; exact h6
  rw [if_neg h6] at h
  by_cases h7 : l = [108, 97, 116, 101]
  · rw [if_pos h7] at h; injection h with h; subst h; exact h7
  rw [if_neg h7] at h
  by_cases h8 : l = [118, 105, 101, 119]
  · rw [if_pos h8] at h; injection h with h; subst h; exact h8
  rw [if_neg h8] at h
  by_cases h9 : l = [103, 114, 111, 117, 112, 115]
  · rw [if_pos h9] at h; injection h with h; subst h; exact h9
  rw [if_neg h9] at h
  by_cases h10 : l = [115, 97, 118, 101, 100]
  · rw [if_pos h10] at h; injection h with h; subst h; exact h10
  rw [if_neg h10] at h
  by_cases h11 : l = [114, 101, 108, 111, 97, 100]
  · rw [if_pos h11] at h; injection h with h; subst h; exact h11
  rw [if_neg h11] at h
  by_cases h12 : l = [104, 101, 108, 112]
  · rw [if_pos h12] at h; injection h with h; subst h; exact h12
  rw [if_neg h12] at h
  cases h
theorem verb_not (bs : Nat) {l : List UInt8} (h : verbOf l = none) : (verbs13 bs).atKey (.string l) (.held vbZ) = .held vbZ ∧ Maps.has (verbs13 bs) (.string l) = false := by
  unfold verbOf at h
  by_cases h0 : l = [112, 108, 97, 110]
  · rw [if_pos h0] at h; cases h
  rw [if_neg h0] at h
  by_cases h1 : l = [108, 101, 102, 116]
  · rw [if_pos h1] at h; cases h
  rw [if_neg h1] at h
  by_cases h2 : l = [114, 105, 103, 104, 116]
  · rw [if_pos h2] at h; cases h
  rw [if_neg h2] at h
  by_cases h3 : l = [109, 97, 114, 107]
  · rw [if_pos h3] at h; cases h
  rw [if_neg h3] at h
  by_cases h4 : l = [109, 97, 114, 107, 115]
  · rw [if_pos h4] at h; cases h
  rw [if_neg h4] at h
  by_cases h5 : l = [104, 101, 108, 100]
  · rw [if_pos h5] at h; cases h
  rw [if_neg h5] at h
  by_cases h6 : l = [102, 101, 100]
  · rw [if_pos h6] at h; cases h
  rw [if_neg h6] at h
  by_cases h7 : l = [108, 97, 116, 101]
  · rw [if_pos h7] at h; cases h
  rw [if_neg h7] at h
  by_cases h8 : l = [118, 105, 101, 119]
  · rw [if_pos h8] at h; cases h
  rw [if_neg h8] at h
  by_cases h9 : l = [103, 114, 111, 117, 112, 115]
  · rw [if_pos h9] at h; cases h
  rw [if_neg h9] at h
  by_cases h10 : l = [115, 97, 118, 101, 100]
  · rw [if_pos h10] at h; cases h
  rw [if_neg h10] at h
  by_cases h11 : l = [114, 101, 108, 111, 97, 100]
  · rw [if_pos h11] at h; cases h
  rw [if_neg h11] at h
  by_cases h12 : l = [104, 101, 108, 112]
  · rw [if_pos h12] at h; cases h
  rw [if_neg h12] at h
  refine ⟨?_, ?_⟩
  · unfold verbs13
    rw [Maps.atKey_put_other (by simpa using h12), Maps.atKey_put_other (by simpa using h11), Maps.atKey_put_other (by simpa using h10), Maps.atKey_put_other (by simpa using h9), Maps.atKey_put_other (by simpa using h8), Maps.atKey_put_other (by simpa using h7), Maps.atKey_put_other (by simpa using h6), Maps.atKey_put_other (by simpa using h5), Maps.atKey_put_other (by simpa using h4), Maps.atKey_put_other (by simpa using h3), Maps.atKey_put_other (by simpa using h2), Maps.atKey_put_other (by simpa using h1), Maps.atKey_put_other (by simpa using h0)]
    rfl
  · unfold verbs13
    rw [Maps.has_put_other (by simpa using h12), Maps.has_put_other (by simpa using h11), Maps.has_put_other (by simpa using h10), Maps.has_put_other (by simpa using h9), Maps.has_put_other (by simpa using h8), Maps.has_put_other (by simpa using h7), Maps.has_put_other (by simpa using h6), Maps.has_put_other (by simpa using h5), Maps.has_put_other (by simpa using h4), Maps.has_put_other (by simpa using h3), Maps.has_put_other (by simpa using h2), Maps.has_put_other (by simpa using h1), Maps.has_put_other (by simpa using h0)]
    rfl
theorem verb_look {W : World} {bs bm : Nat} (h : VMap W bs bm) {l : List UInt8} (hs : l.length ≤ 1000000) : (Instr.lookup 223 (.map (some bm)) (.string ⟨l.toArray⟩) true).run Tryz.prog W = .ok (match verbOf l with | some v => .tuple #[vbV bs v.fn v.ar, .bool true] | none => .tuple #[vbZ, .bool false]) W := by
  obtain ⟨v, ps, hrun, hv⟩ := h.look_ok keyed9 Tryz.underlying223 (zero228 W) (zd := .held vbZ) (zp := []) rfl (keyv l hs)
  simp only [vRel, Option.some.injEq, Prod.mk.injEq] at hv
  obtain ⟨hv, _⟩ := hv
  cases hq : verbOf l with
  | some q =>
    have e := word_of hq
    subst e
    obtain ⟨a1, a2⟩ := verb_at bs q
    have hv2 : v = vbV bs q.fn q.ar := DataW.held.inj (hv.trans a1)
    rw [hrun, a2, hv2]
  | none =>
    obtain ⟨a1, a2⟩ := verb_not bs hq
    have hv2 : v = vbZ := DataW.held.inj (hv.trans a1)
    rw [hrun, a2, hv2]
theorem vput {W : World} {bs b n : Nat} {D : DataW Value} (h : W.ownsMap Tryz.prog 9 vRel b n D) (hn : n < 100) (l : List UInt8) (hs : l.length ≤ 100) (f k : Nat) :
    ∃ w', (Instr.mapUpdate 223 (.map (some b)) (.string ⟨l.toArray⟩) (vbV bs f k)).run Tryz.prog W = .ok () w' ∧ w'.ownsMap Tryz.prog 9 vRel b (n + 1) (D.put (.string l) (.held (vbV bs f k))) ∧ W.grownBy w' (some b) :=
  h.update keyed9 Tryz.underlying223 (by unfold maxLen; omega) (keyv l (by omega)) rfl
end Go.Proofs.YthfpipieboophaaGreatDoor

/- What a verb does, whichever it is. -/
namespace Go.Proofs.YthfpipieboophaaGreatDoor
open Go.RowKit Go.Sort Go.Shelf
set_option maxRecDepth 100000
def Vb.does (v : Vb) (st : Sx) (ns : List Int) : (Int × List UInt8) × Sx :=
  match v, ns with
  | .vplan, [a, b, m] => ((planC a b m, [112, 108, 97, 110]), if planC a b m = 0 then Sx.new a b m else st)
  | .vleft, [k, t, u] => (((st.feed0 k t u).1, semF0 st k t u), (st.feed0 k t u).2)
  | .vright, [k, t, u] => (((st.feed1 k t u).1, semF1 st k t u), (st.feed1 k t u).2)
  | .vmark, [a, b] => (((st.move a b).1, [109, 97, 114, 107]), (st.move a b).2)
  | .vmarks, _ => ((0, spacedB [st.x.m0, st.x.m1]), st)
  | .vheld, _ => ((0, spacedB [st.x.R0.length, st.x.R1.length]), st)
  | .vfed, _ => ((0, spacedB [st.f0, st.f1]), st)
  | .vlate, _ => ((0, Lib.itoa st.x.late), st)
  | .vview, _ => ((0, viewTx st.L), st)
  | .vgroups, _ => ((0, groupsTx st.L), st)
  | .vsaved, _ => (semSaved st, st)
  | .vreload, _ => ((semReload st).1, (semReload st).2)
  | .vhelp, _ => ((0, helpTx), st)
  | _, _ => ((3, []), st)
theorem outc_zero (t : List UInt8) : outc 0 t = .returned (sV t) := by unfold outc; rw [if_pos rfl]
theorem list3 {ns : List Int} (h : ns.length = 3) : ∃ a b c, ns = [a, b, c] := by
  match ns, h with
  | [a, b, c], _ => exact ⟨a, b, c, rfl⟩
theorem list2 {ns : List Int} (h : ns.length = 2) : ∃ a b, ns = [a, b] := by
  match ns, h with
  | [a, b], _ => exact ⟨a, b, rfl⟩
theorem verb_says (v : Vb) {n : Nat} {w0 : World} {bs be : Nat} {mv : Option Nat} {st : Sx} {S P : Nat → Prop} {W : World} (h : Dk w0 bs mv st be S P W) (hO : OkS n st) (hn : n ≤ 1600) (hG : GlobE w0) (ns : List Int) (hl : ns.length = v.ar) (g : Nat) (hg : W.heap[g]? = some (.cells (ns.map (Value.int .i64)).toArray 3)) (hgP : ¬ P g) :
    Calls Tryz.prog v.fn #[.pointer (some ⟨bs, 0, none⟩), .slice (some ⟨g, 0, none⟩) v.ar v.ar] W fun e w' => e = outc (v.does st ns).1.1 (v.does st ns).1.2 ∧ DNext w0 bs mv (v.does st ns).2 P W w' := by
  cases v with
  | vplan =>
    obtain ⟨a, b, c, rfl⟩ := list3 hl
    exact v_plan h a b c g hg
  | vleft =>
    obtain ⟨a, b, c, rfl⟩ := list3 hl
    exact v_left h hO hn hG a b c g hg hgP
  | vright =>
    obtain ⟨a, b, c, rfl⟩ := list3 hl
    exact v_right h hO hn hG a b c g hg hgP
  | vmark =>
    obtain ⟨a, b, rfl⟩ := list2 hl
    exact v_mark h hO hn a b g hg hgP
  | vmarks => exact (v_marks h hO hn hG _).mono fun e w' hh => ⟨hh.1.trans (outc_zero _).symm, hh.2⟩
  | vheld => exact (v_held h hO hn hG _).mono fun e w' hh => ⟨hh.1.trans (outc_zero _).symm, hh.2⟩
  | vfed => exact (v_fed h hO hn hG _).mono fun e w' hh => ⟨hh.1.trans (outc_zero _).symm, hh.2⟩
  | vlate => exact (v_late h hO hn hG _).mono fun e w' hh => ⟨hh.1.trans (outc_zero _).symm, hh.2⟩
  | vview => exact (v_view h hO hn hG _).mono fun e w' hh => ⟨hh.1.trans (outc_zero _).symm, hh.2⟩
  | vgroups => exact (v_groups h hO hn hG _).mono fun e w' hh => ⟨hh.1.trans (outc_zero _).symm, hh.2⟩
  | vsaved => exact v_saved h hO hn hG _
  | vreload => exact v_reload h hO hn hG _
  | vhelp => exact (v_help h _).mono fun e w' hh => ⟨hh.1.trans (outc_zero _).symm, hh.2⟩
theorem does_ok (v : Vb) {n : Nat} {st : Sx} (hO : OkS n st) (hn : n ≤ 1600) (ns : List Int) : OkS (n + 1) (v.does st ns).2 := by
  have h1 : OkS (n + 1) st := hO.more (by omega)
  unfold Vb.does
  split
  · simp only
    split
    · rename_i h; exact okS_new (planC_zero h) _
    · exact h1
  · exact hO.feed0 hn _ _ _
  · exact hO.feed1 hn _ _ _
  · exact (hO.move _ _).more (by omega)
  · exact h1
  · exact h1
  · exact h1
  · exact h1
  · exact h1
  · exact h1
  · exact h1
  · unfold semReload
    split
    · exact h1
    · exact h1.again
  · exact h1
  · exact h1
theorem code_in (c : Int) (h : c = 0 ∨ c = 1 ∨ c = 2 ∨ c = 3 ∨ c = 4 ∨ c = 10 ∨ c = 12) : In64a c := by
  rcases h with rfl | rfl | rfl | rfl | rfl | rfl | rfl <;> exact ⟨by decide, by decide⟩
theorem feed0_code (st : Sx) (k t v : Int) : (st.feed0 k t v).1 = 0 ∨ (st.feed0 k t v).1 = 1 ∨ (st.feed0 k t v).1 = 2 ∨ (st.feed0 k t v).1 = 3 ∨ (st.feed0 k t v).1 = 4 ∨ (st.feed0 k t v).1 = 10 ∨ (st.feed0 k t v).1 = 12 := by
  unfold Sx.feed0
  split
  · simp
  · split
    · simp
    · split <;> simp
theorem feed1_code (st : Sx) (k t v : Int) : (st.feed1 k t v).1 = 0 ∨ (st.feed1 k t v).1 = 1 ∨ (st.feed1 k t v).1 = 2 ∨ (st.feed1 k t v).1 = 3 ∨ (st.feed1 k t v).1 = 4 ∨ (st.feed1 k t v).1 = 10 ∨ (st.feed1 k t v).1 = 12 := by
  unfold Sx.feed1
  split
  · simp
  · split
    · simp
    · split <;> simp
theorem plan_code (a b m : Int) : planC a b m = 0 ∨ planC a b m = 1 ∨ planC a b m = 2 ∨ planC a b m = 3 ∨ planC a b m = 4 ∨ planC a b m = 10 ∨ planC a b m = 12 := by
  unfold planC
  split
  · simp
  · split
    · simp
    · split <;> simp
theorem move_code (st : Sx) (a b : Int) : (st.move a b).1 = 0 ∨ (st.move a b).1 = 1 ∨ (st.move a b).1 = 2 ∨ (st.move a b).1 = 3 ∨ (st.move a b).1 = 4 ∨ (st.move a b).1 = 10 ∨ (st.move a b).1 = 12 := by
  unfold Sx.move
  split
  · unfold moveE
    split
    · simp
    · split
      · simp
      · split <;> simp
  · simp
theorem does_code (v : Vb) (st : Sx) (ns : List Int) : In64a (v.does st ns).1.1 := by
  unfold Vb.does
  split
  · exact code_in _ (plan_code _ _ _)
  · exact code_in _ (feed0_code _ _ _ _)
  · exact code_in _ (feed1_code _ _ _ _)
  · exact code_in _ (move_code _ _ _)
  · exact code_in _ (.inl rfl)
  · exact code_in _ (.inl rfl)
  · exact code_in _ (.inl rfl)
  · exact code_in _ (.inl rfl)
  · exact code_in _ (.inl rfl)
  · exact code_in _ (.inl rfl)
  · unfold semSaved
    split
    · exact code_in _ (.inr (.inr (.inr (.inr (.inl rfl)))))
    · exact code_in _ (.inl rfl)
  · unfold semReload
    split
    · exact code_in _ (.inr (.inr (.inr (.inr (.inl rfl)))))
    · exact code_in _ (.inl rfl)
  · exact code_in _ (.inl rfl)
  · exact code_in _ (.inr (.inr (.inr (.inl rfl))))
def ansTx (c : Int) (t : List UInt8) : List UInt8 := if c = 0 then t else errTx c
theorem does_len (v : Vb) {n : Nat} {st : Sx} (hO : OkS n st) (hn : n ≤ 1600) (ns : List Int) : (ansTx (v.does st ns).1.1 (v.does st ns).1.2).length ≤ 100000000 := by
  unfold ansTx
  split
  · rename_i h0
    unfold Vb.does at h0 ⊢
    have hll := hO.len hn
    have f0 := hO.f0
    have f1 := hO.f1
    have m0 := hO.m0
    have m1 := hO.m1
    have l0 := hO.l0
    have l1 := hO.l1
    have lt := hO.late
    split at h0
    · simp
    · have hc := feed0_cF hO _ _ _ h0
      refine Nat.le_trans (join_len _ 113 (fun y hy => ?_)) ?_
      · rcases List.mem_cons.1 hy with rfl | hy
        · simp
        · obtain ⟨c, hc2, rfl⟩ := List.mem_map.1 hy
          exact chTx_len c (hc.1 c hc2)
      · rw [List.length_cons, List.length_map]
        have := hc.2
        omega
    · have hc := feed1_cF hO _ _ _ h0
      refine Nat.le_trans (join_len _ 113 (fun y hy => ?_)) ?_
      · rcases List.mem_cons.1 hy with rfl | hy
        · simp
        · obtain ⟨c, hc2, rfl⟩ := List.mem_map.1 hy
          exact chTx_len c (hc.1 c hc2)
      · rw [List.length_cons, List.length_map]
        have := hc.2
        omega
    · simp
    · exact Nat.le_trans (spacedTwo_len _ _ ⟨by omega, by omega⟩ ⟨by omega, by omega⟩) (by omega)
    · exact Nat.le_trans (spacedTwo_len _ _ ⟨by omega, by omega⟩ ⟨by omega, by omega⟩) (by omega)
    · exact Nat.le_trans (spacedTwo_len _ _ ⟨by omega, by omega⟩ ⟨by omega, by omega⟩) (by omega)
    · exact Nat.le_trans (Lib.itoa_length_le _ (by omega) (by omega)) (by omega)
    · refine Nat.le_trans (join_len _ 112 (fun y hy => ?_)) ?_
      · obtain ⟨c, hc2, rfl⟩ := List.mem_map.1 hy
        exact outTx_len c (fits_wf (tell_wf (hO.tell c ((sortO_perm st.L).subset hc2))))
      · rw [List.length_map, (sortO_perm st.L).length_eq]
        omega
    · refine Nat.le_trans (join_len _ 112 (fun y hy => ?_)) ?_
      · obtain ⟨c, hc2, rfl⟩ := List.mem_map.1 hy
        obtain ⟨k, hk, rfl⟩ := List.mem_map.1 hc2
        exact grTx_len _ (grOf_fits st.L k hk (fun o ho => tell_wf (hO.tell o ho)) hll)
      · rw [List.length_map, List.length_map]
        have := keysL_len st.L
        omega
    · unfold semSaved at h0 ⊢
      split
      · simp
      · rename_i t ht
        have := text_len ht
        have h7 := Lib.itoa_length_le (t.length : Int) (by omega) (by omega)
        show (Lib.itoa (t.length : Int)).length ≤ _
        omega
    · unfold semReload at h0 ⊢
      split
      · simp
      · simp
    · simp [helpTx]
    · simp
  · exact Nat.le_trans (errTx_len _ (does_code v st ns)) (by omega)
def numsSay (v : Vb) (st : Sx) (ws : List (List UInt8)) : List UInt8 × Sx :=
  match numsOf ws with
  | none => (errTx 3, st)
  | some ns => (ansTx (v.does st ns).1.1 (v.does st ns).1.2, (v.does st ns).2)
def sayOf (st : Sx) (line : List UInt8) : List UInt8 × Sx :=
  match wordsOf line with
  | [] => ([111, 107], st)
  | w :: ws =>
    match verbOf w with
    | none => (errTx 3, st)
    | some v => if ws.length = v.ar then numsSay v st ws else (errTx 3, st)
theorem say_ok {n : Nat} {st : Sx} (hO : OkS n st) (hn : n ≤ 1600) (line : List UInt8) : OkS (n + 1) (sayOf st line).2 := by
  have h1 : OkS (n + 1) st := hO.more (by omega)
  unfold sayOf
  split
  · exact h1
  · split
    · exact h1
    · split
      · unfold numsSay
        split
        · exact h1
        · exact does_ok _ hO hn _
      · exact h1
theorem say_len {n : Nat} {st : Sx} (hO : OkS n st) (hn : n ≤ 1600) (line : List UInt8) : (sayOf st line).1.length ≤ 100000000 := by
  have h3 : (errTx 3).length ≤ 100000000 := Nat.le_trans (errTx_len 3 ⟨by decide, by decide⟩) (by omega)
  unfold sayOf
  split
  · simp
  · split
    · exact h3
    · split
      · unfold numsSay
        split
        · exact h3
        · exact does_len _ hO hn _
      · exact h3
end Go.Proofs.YthfpipieboophaaGreatDoor
