/- Dkxz: several texts in one. -/
import Derived.Test.YthfpipieboophaaGreatDoorDkw
import Derived.Test.YthfpipieboophaaGreatDoorDkv
/- A whole session: its text, and what it answers. -/
namespace Go.Proofs.YthfpipieboophaaGreatDoor
open Go.RowKit Go.Sort Go.Shelf
set_option maxRecDepth 100000
attribute [local go_sem] Oper.semAt_some
def runsOf : Sx → List (List UInt8) → List UInt8 × Sx
  | st, [] => ([], st)
  | st, x :: ls => ((sayOf st x).1 ++ 10 :: (runsOf (sayOf st x).2 ls).1, (runsOf (sayOf st x).2 ls).2)
theorem runs_app (st : Sx) (a b : List (List UInt8)) : runsOf st (a ++ b) = ((runsOf st a).1 ++ (runsOf (runsOf st a).2 b).1, (runsOf (runsOf st a).2 b).2) := by
  induction a generalizing st with
  | nil => simp [runsOf]
  | cons x a ih => simp only [List.cons_append, runsOf]; rw [ih]; simp
theorem runs_step (st : Sx) (ls : List (List UInt8)) (i : Nat) (x : List UInt8) (h : ls[i]? = some x) : runsOf st (ls.take (i + 1)) = ((runsOf st (ls.take i)).1 ++ (sayOf (runsOf st (ls.take i)).2 x).1 ++ [10], (sayOf (runsOf st (ls.take i)).2 x).2) := by
  have : ls.take (i + 1) = ls.take i ++ [x] := by rw [List.take_add_one, h]; rfl
  rw [this, runs_app]
  simp [runsOf]
def cntW : List (List UInt8) → Nat
  | [] => 0
  | x :: ls => (if wordsOf x = [] then 0 else 1) + cntW ls
theorem cnt_take (ls : List (List UInt8)) (i : Nat) (x : List UInt8) (h : ls[i]? = some x) : cntW (ls.take (i + 1)) = cntW (ls.take i) + (if wordsOf x = [] then 0 else 1) := by
  induction ls generalizing i with
  | nil => simp at h
  | cons y ls ih =>
    cases i with
    | zero => simp at h; subst h; simp [cntW]
    | succ i =>
      simp only [List.getElem?_cons_succ] at h
      have := ih i h
      simp only [List.take_succ_cons, cntW]
      omega
theorem cnt_le (ls : List (List UInt8)) (i : Nat) : cntW (ls.take i) ≤ cntW ls := by
  induction ls generalizing i with
  | nil => simp
  | cons y ls ih =>
    cases i with
    | zero => simp [cntW]
    | succ i => simp only [List.take_succ_cons, cntW]; have := ih i; omega
theorem words_none : wordsOf [] = [] := by kernel_rfl
theorem cnt_one (x : List UInt8) : (if wordsOf x = [] then 0 else 1) ≤ x.length := by
  cases x with
  | nil => rw [if_pos words_none]; simp
  | cons c x => split <;> simp
theorem cnt_half : ∀ ls : List (List UInt8), cntW ls * 2 ≤ (restL ls).length + 1
  | [] => by simp [cntW]
  | [x] => by
    have := cnt_one x
    simp only [cntW, restL]
    split <;> simp_all <;> omega
  | x :: y :: ls => by
    have h1 := cnt_one x
    have h2 := cnt_half (y :: ls)
    have e : (restL (x :: y :: ls)).length = x.length + 1 + (restL (y :: ls)).length := by simp [restL]; omega
    rw [e]
    have e2 : cntW (x :: y :: ls) = (if wordsOf x = [] then 0 else 1) + cntW (y :: ls) := rfl
    rw [e2]
    have h3 : (if wordsOf x = [] then 0 else 1) ≤ 1 := by split <;> omega
    omega
theorem runs_ok {st : Sx} {ls : List (List UInt8)} (hO : ∀ n, OkS n st) (hc : cntW ls ≤ 1600) : ∀ i, OkS (cntW (ls.take i)) (runsOf st (ls.take i)).2 := by
  intro i
  induction i with
  | zero => simpa [runsOf] using hO _
  | succ i ih =>
    cases h : ls[i]? with
    | none =>
      have hl : ls.length ≤ i := by simpa using h
      rw [List.take_of_length_le (by omega)]
      rw [List.take_of_length_le hl] at ih
      exact ih
    | some x =>
      rw [runs_step st ls i x h, cnt_take ls i x h]
      by_cases hw : wordsOf x = []
      · rw [if_pos hw]
        have : (sayOf (runsOf st (ls.take i)).2 x).2 = (runsOf st (ls.take i)).2 := by unfold sayOf; rw [hw]
        simpa only [this, Nat.add_zero] using ih
      · rw [if_neg hw]
        exact say_ok ih (Nat.le_trans (cnt_le ls i) hc) x
theorem runs_len {st : Sx} {ls : List (List UInt8)} (hO : ∀ n, OkS n st) (hc : cntW ls ≤ 1600) : ∀ i, (runsOf st (ls.take i)).1.length ≤ i * 100000001 := by
  intro i
  induction i with
  | zero => simp [runsOf]
  | succ i ih =>
    cases h : ls[i]? with
    | none =>
      have hl : ls.length ≤ i := by simpa using h
      rw [List.take_of_length_le (by omega)]
      rw [List.take_of_length_le hl] at ih
      exact Nat.le_trans ih (Nat.mul_le_mul_right _ (Nat.le_succ i))
    | some x =>
      rw [runs_step st ls i x h]
      have := say_len (runs_ok hO hc i) (Nat.le_trans (cnt_le ls i) hc) x
      simp only [List.length_append, List.length_cons, List.length_nil]
      generalize (runsOf st (ls.take i)).1.length = a at *
      generalize (sayOf (runsOf st (ls.take i)).2 x).1.length = b at *
      omega
theorem rest_len : ∀ ls : List (List UInt8), ls.length ≤ (restL ls).length + 1
  | [] => by simp
  | [x] => by simp
  | x :: y :: ls => by
    have := rest_len (y :: ls)
    simp [restL] at this ⊢
    omega
theorem rest_mem : ∀ (ls : List (List UInt8)), ∀ x ∈ ls, x.length ≤ (restL ls).length
  | [], x, h => by simp at h
  | [y], x, h => by simp at h; subst h; simp [restL]
  | y :: z :: ls, x, h => by
    rcases List.mem_cons.1 h with rfl | h
    · simp [restL]
    · have := rest_mem (z :: ls) x h
      simp [restL] at this ⊢
      omega
def sessTx (t : List UInt8) : List UInt8 := (runsOf (Sx.new 0 10 3) (lnsOf (Lib.trimSuffix t [10]))).1
theorem new_ok (n : Nat) : OkS n (Sx.new 0 10 3) := okS_new (by unfold planOk; decide) n
theorem lines_any (s : ByteArray) (w : World) : Calls Tryz.prog 77 #[.string s] w fun e w' => e = .returned (.func (.func 145) #[] #[.pointer (some ⟨w.heap.size, 0, none⟩)]) ∧ w' = w.alloc (.cells #[.string s] 9) := by
  have hmf : ∀ (fn : Fn) (first cap : Array Value) (w : World), (Instr.makeFunc fn first cap).run Tryz.prog w = .ok (.func fn first cap) w := fun _ _ _ _ => rfl
  go_enter Tryz.func77, Tryz.ntmps77
  go_wp2
  go_ret
  exact ⟨rfl, rfl⟩
def Ri (w : World) (bs bm bx bb : Nat) (ls : List (List UInt8)) (D : Nat) (i : Nat) (W : World) : Prop :=
  ∃ F, Ses w bs bm bx bb (runsOf (Sx.new 0 10 3) (ls.take i)).2 (runsOf (Sx.new 0 10 3) (ls.take i)).1 F W ∧ ¬ F D ∧ ¬ F (D + 1)
theorem Ri.grown {w : World} {bs bm bx bb : Nat} {ls : List (List UInt8)} {D i : Nat} {W W' : World} {row : Option Nat} (h : Ri w bs bm bx bb ls D i W) (hD : w.heap.size ≤ D) (hg : W.grownBy W' row) (hr : ∀ k, row = some k → k = D + 1) : Ri w bs bm bx bb ls D i W' := by
  obtain ⟨F, hS, h1, h2⟩ := h
  refine ⟨F, hS.still hg.size (fun k e => hg.block k (hS.flt k e).1 (fun e2 => ?_)) ?_, h1, h2⟩
  · have := hr k e2.symm
    subst this
    exact h2 e
  · exact hS.low.grown hg hS.low.size (fun k e => by have := hr k e; omega)
set_option maxHeartbeats 1000000 in
theorem session_any (t : List UInt8) (ht : t.length ≤ 20000) (hc : cntW (lnsOf (Lib.trimSuffix t [10])) ≤ 1600) (w : World) (hG : GlobE w) :
    Calls Tryz.prog 32 #[.string ⟨t.toArray⟩] w fun e w' => e = .returned (sV (sessTx t)) ∧ Below w.heap.size w w' := by
  have hz : ¬ (20000 : Int) < (t.length : Int) := by omega
  refine (callsIn_wide (n := 4)).1 ?_
  refine callsIn_of_wp_marks Tryz.func32 rfl trivial ?_ rfl
  simp only [Tryz.ntmps32, List.size_toArray, List.length_cons, List.length_nil, Nat.reduceAdd, Nat.reduceSub, Array.replicate_succ, Array.replicate_zero, List.push_toArray, List.append_toArray, List.nil_append, List.cons_append]
  have f76 : Fence.wide.fn 76 := trivial
  have f77 : Fence.wide.fn 77 := trivial
  gi_wp2_with (first
    | (gi_at_call 77; refine (callsIn_wide.2 (lines_any _ _)).mono ?_; rintro e w4 ⟨rfl, hw4⟩; subst hw4)
    | (gi_at_call 76; refine (callsIn_wide.2 (open_any _)).mono ?_; rintro e w2 ⟨bs, bm, P, rfl, hD2, hV2, hn2, hm2⟩)
    | gi_in)
  obtain ⟨m, hm⟩ := hG.g.max
  obtain ⟨F0, hS0⟩ := ses_open hD2 hV2 hn2 hm2
  have hlo2 : w.heap.size ≤ w2.heap.size := by obtain ⟨be, S, hd⟩ := hD2; exact hd.low.size
  clear hD2 hV2 hn2 hm2
  obtain ⟨w3, hw3⟩ : ∃ w3, ((w2.alloc (.cells #[.pointer (some ⟨bs, 0, none⟩)] 145)).alloc (.cells #[.pointer none, .slice none 0 0] 126)) = w3 := ⟨_, rfl⟩
  have hs3 : w3.heap.size = w2.heap.size + 1 + 1 := by rw [← hw3]; simp
  rw [hw3] at hS0
  rw [hw3]
  clear hw3
  obtain ⟨w4, hw4⟩ : ∃ w4, w3.alloc (.cells #[.string ⟨t.toArray⟩] 9) = w4 := ⟨_, rfl⟩
  have hs4 : w4.heap.size = w3.heap.size + 1 := by rw [← hw4]; simp
  have hb4 : Below w3.heap.size w3 w4 := by rw [← hw4]; exact Go.Joins.below_alloc1 _ _
  have hB4 : w4.heap[w2.heap.size + 1 + 1]? = some (.cells #[.string ⟨t.toArray⟩] 9) := by rw [← hw4, ← hs3]; exact heap_alloc_new w3 _
  rw [hw4]
  clear hw4
  obtain ⟨ls, hls⟩ : ∃ ls, lnsOf (Lib.trimSuffix t [10]) = ls := ⟨_, rfl⟩
  have hfin : sessTx t = (runsOf (Sx.new 0 10 3) ls).1 := by unfold sessTx; rw [hls]
  have hne : ls ≠ [] := by rw [← hls]; exact lns_ne _
  have h10 : ∀ x ∈ ls, (10 : UInt8) ∉ x := by rw [← hls]; exact lns_10 _
  have hrs : Lib.trimSuffix t [10] = restL ls := by rw [← hls]; exact (lns_rest _).symm
  have hrl : (restL ls).length ≤ 20000 := by
    rw [← hrs]
    unfold Lib.trimSuffix
    split
    · rw [List.length_take]; omega
    · exact ht
  rw [hls] at hc
  have Hfin : Hid (sessTx t = (runsOf (Sx.new 0 10 3) ls).1) := hfin
  clear hls hfin
  have hR4 : Ri w bs bm w2.heap.size (w2.heap.size + 1) ls w4.heap.size 0 w4 := by
    refine ⟨F0, ?_, fun e => ?_, fun e => ?_⟩
    · have := hS0.still hb4.size (fun k e => hb4.block k (hS0.flt k e).1) (hS0.low.trans (hb4.mono hS0.low.size))
      simpa [runsOf] using this
    · have := (hS0.flt _ e).1; omega
    · have := (hS0.flt _ e).1; omega
  have hlo4 : w.heap.size ≤ w4.heap.size := by omega
  clear hS0 hb4 hs4 hs3
  refine range_text (n := 4) (by omega) (bt := w2.heap.size + 1 + 1) rfl t (by omega) ls hne h10 hrs hB4 (Ri w bs bm w2.heap.size (w2.heap.size + 1) ls w4.heap.size) m ?hM (fun i W W' row hR hg hr => hR.grown hlo4 hg hr) hR4
    (fun x => { tmps := #[.string ⟨t.toArray⟩, undef, .string ⟨#[]⟩, .pointer (some ⟨w2.heap.size, 0, none⟩), .pointer (some ⟨w2.heap.size + 1, 0, none⟩), .string ⟨x.toArray⟩, .string ⟨t.toArray⟩, .int .i64 t.length, .bool false, undef, undef, undef, .pointer (some ⟨bs, 0, none⟩), .string ⟨t.toArray⟩, .func (.func 145) #[] #[.pointer (some ⟨w2.heap.size + 1 + 1, 0, none⟩)], .string ⟨x.toArray⟩, undef, undef, undef, undef, undef, undef], defers := [] }) ?assign ?body ?done
  case hM =>
    rintro i W ⟨F, hS, _, _⟩
    exact (hS.low.cell (p := ⟨3, 0, none⟩) (World.block_lt_of_cell? _ _ hm)).trans hm
  case assign =>
    intro x W K hK
    gi_wp2
    exact hK
  case body =>
    rintro i x W hx ⟨F, hS, nD, nl⟩ hWs
    have hil : i < ls.length := (List.getElem?_eq_some_iff.1 hx).1
    have hxl : x.length ≤ 1000000 := by have := rest_mem ls x (List.mem_of_getElem? hx); omega
    have hOk := runs_ok new_ok hc i
    have hcn := Nat.le_trans (cnt_le ls i) hc
    have hol := runs_len new_ok hc i
    have hsl := say_len hOk hcn x
    have hlsl := rest_len ls
    have hbx := hS.box
    have h0 : (runsOf (Sx.new 0 10 3) (ls.take i)).1.length + (sayOf (runsOf (Sx.new 0 10 3) (ls.take i)).2 x).1.length + 2 ≤ 140737488355328 := by
      generalize (runsOf (Sx.new 0 10 3) (ls.take i)).1.length = a at *
      generalize (sayOf (runsOf (Sx.new 0 10 3) (ls.take i)).2 x).1.length = b at *
      omega
    have HA : Hid (Calls Tryz.prog 79 #[.pointer (some ⟨bs, 0, none⟩), .string ⟨x.toArray⟩] W fun e w' => e = .returned (sV (sayOf (runsOf (Sx.new 0 10 3) (ls.take i)).2 x).1) ∧ Hid (∃ F', Ses w bs bm w2.heap.size (w2.heap.size + 1) (sayOf (runsOf (Sx.new 0 10 3) (ls.take i)).2 x).2 (runsOf (Sx.new 0 10 3) (ls.take i)).1 F' w' ∧ FTo F F' W w')) := ses_answer hS hG x hxl hOk hcn
    have H1 : Hid (∀ (st : Sx) (s out : List UInt8) (V : World), out.length + s.length + 1 ≤ 140737488355328 → Hid (∃ F', Ses w bs bm w2.heap.size (w2.heap.size + 1) st out F' V ∧ FTo F F' W V) → Calls Tryz.prog 78 #[.pointer (some ⟨w2.heap.size + 1, 0, none⟩), .string ⟨s.toArray⟩] V fun e w' => e = .returned (.tuple #[.int .i64 s.length, .nilIface]) ∧ Hid (∃ F', Ses w bs bm w2.heap.size (w2.heap.size + 1) st (out ++ s) F' w' ∧ FTo F F' W w')) := by
      rintro st s out V hl ⟨F', hS', hF'⟩
      refine (ses_write hS' s (by omega)).mono ?_
      rintro e w' ⟨rfl, F'', hS'', hF''⟩
      exact ⟨rfl, F'', hS'', hF'.trans hF''⟩
    have HE : Hid (∀ V, Hid (∃ F', Ses w bs bm w2.heap.size (w2.heap.size + 1) (sayOf (runsOf (Sx.new 0 10 3) (ls.take i)).2 x).2 ((runsOf (Sx.new 0 10 3) (ls.take i)).1 ++ (sayOf (runsOf (Sx.new 0 10 3) (ls.take i)).2 x).1 ++ [10]) F' V ∧ FTo F F' W V) → Ri w bs bm w2.heap.size (w2.heap.size + 1) ls w4.heap.size (i + 1) V ∧ W.heap.size ≤ V.heap.size ∧ ∀ k, k = w4.heap.size ∨ k = w4.heap.size + 1 → V.heap[k]? = W.heap[k]?) := by
      rintro V ⟨F', hS', hF'⟩
      refine ⟨⟨F', ?_, fun e => ?_, fun e => ?_⟩, hF'.1.size, fun k hk => ?_⟩
      · rw [runs_step _ ls i x hx]; exact hS'
      · exact (hF'.2 _ e).elim nD (fun g => by omega)
      · exact (hF'.2 _ e).elim nl (fun g => by omega)
      · rcases hk with rfl | rfl
        · exact hF'.1.block _ (by omega) nD
        · exact hF'.1.block _ (by omega) nl
    clear hS hOk hcn hol hsl hlsl hR4 hx
    generalize (runsOf (Sx.new 0 10 3) (ls.take i)).1 = o1 at *
    generalize (sayOf (runsOf (Sx.new 0 10 3) (ls.take i)).2 x).2 = st2 at *
    generalize (sayOf (runsOf (Sx.new 0 10 3) (ls.take i)).2 x).1 = s1 at *
    have f79 : Fence.wide.fn 79 := trivial
    have f78 : Fence.wide.fn 78 := trivial
    have hn2 : 1 ≤ 4 - 1 - 1 := by decide
    have hl1 : o1.length + s1.length + 1 ≤ 140737488355328 := by omega
    have HL1 : Hid (o1.length + s1.length + 1 ≤ 140737488355328) := hl1
    have hl2 : (o1 ++ s1).length + [(10 : UInt8)].length + 1 ≤ 140737488355328 := by rw [List.length_append, List.length_singleton]; omega
    have HL2 : Hid ((o1 ++ s1).length + [(10 : UInt8)].length + 1 ≤ 140737488355328) := hl2
    gi_wp2_with (first
      | (gi_at_call 79; refine (CallsIn.inRound _ (callsIn_wide.2 HA.out)).mono ?_; rintro e W1 ⟨rfl, h1⟩)
      | (gi_at_call 78; first
          | (have h2x := h2; refine (CallsIn.inRound _ (callsIn_wide.2 (H1.out st2 [10] (o1 ++ s1) _ HL2.out h2x))).mono ?_; rintro e W3 ⟨rfl, h3⟩)
          | (refine (CallsIn.inRound _ (callsIn_wide.2 (H1.out st2 s1 o1 _ HL1.out h1))).mono ?_; rintro e W2 ⟨rfl, h2⟩))
      | gi_in)
    exact HE.out _ h3
  case done =>
    rintro W ⟨F, hS, nD, nl⟩ hK
    rw [List.take_of_length_le (Nat.le_refl _)] at hS
    have HSt : Hid (Calls Tryz.prog 62 #[.pointer (some ⟨w2.heap.size + 1, 0, none⟩)] W fun e w' => e = .returned (sV (runsOf (Sx.new 0 10 3) ls).1) ∧ Hid (Below w.heap.size w w' ∧ w'.heap[w4.heap.size]? = some (.deferred (some [])))) := by
      obtain ⟨be, S, P, og, hs⟩ := hS
      refine (Tryz.Builder_String_any_k w.heap.size (w2.heap.size + 1) (runsOf (Sx.new 0 10 3) ls).1 W hs.bo.isF hs.dk.low.size).mono ?_
      rintro e w' ⟨rfl, _, hb, hk⟩
      refine ⟨rfl, hs.dk.low.trans hb, hk _ _ hK (fun e => nD ?_) (fun c fz e => by cases e)⟩
      injection e with e
      rw [e]
      exact (hs.all _).2 (.inr (.inr (.inr (.inl rfl))))
    clear hS nD nl hR4 hc hB4 h10 hrs
    have f62 : Fence.wide.fn 62 := trivial
    generalize (runsOf (Sx.new 0 10 3) ls).1 = fin at *
    gi_wp2_with (first
      | (gi_at_call 62; refine (callsIn_wide.2 HSt.out).mono ?_; rintro e W5 ⟨rfl, h5⟩)
      | gi_in)
    obtain ⟨hlow5, hK5⟩ := h5.out
    refine ⟨by simp, .inl ⟨_, _, rfl, run_takeDeferred hK5, ?_⟩⟩
    refine ⟨sV fin, by simp [results, Tryz.results32, go_sem], by rw [Hfin.out], ?_⟩
    exact hlow5.trans (belowK_b (w := w) (Nat.le_refl _) W5 w4.heap.size _ _ (by omega) hK5 rfl rfl)
end Go.Proofs.YthfpipieboophaaGreatDoor

/- The desk in pieces: what is answered to a text's head is the head of what is answered. -/
namespace Go.Proofs.YthfpipieboophaaGreatDoor
open Go.RowKit Go.Sort Go.Shelf
set_option maxRecDepth 100000
theorem lns_app (a b : List UInt8) : lnsOf (a ++ 10 :: b) = lnsOf a ++ lnsOf b := by
  induction a with
  | nil => simp [lnsOf]
  | cons c a ih =>
    show lnsOf (c :: (a ++ 10 :: b)) = lnsOf (c :: a) ++ lnsOf b
    generalize lnsOf b = B at *
    unfold lnsOf
    split
    · rw [ih]; rfl
    · rw [ih]
      cases h : lnsOf a with
      | nil => exact absurd h (lns_ne a)
      | cons x r => rfl
theorem trim_one (a : List UInt8) : Lib.trimSuffix (a ++ [10]) [10] = a := by
  unfold Lib.trimSuffix Lib.hasSuffix
  rw [if_pos (by rw [List.isSuffixOf_iff_suffix]; exact List.suffix_append _ _)]
  simp
theorem trim_more (a b : List UInt8) : Lib.trimSuffix (a ++ 10 :: b) [10] = a ∨ ∃ b', Lib.trimSuffix (a ++ 10 :: b) [10] = a ++ 10 :: b' := by
  rcases List.eq_nil_or_concat b with rfl | ⟨b', c, rfl⟩
  · exact .inl (trim_one a)
  · right
    by_cases hc : c = 10
    · subst hc
      refine ⟨b', ?_⟩
      have := trim_one (a ++ 10 :: b')
      simpa using this
    · refine ⟨b' ++ [c], ?_⟩
      unfold Lib.trimSuffix Lib.hasSuffix
      rw [if_neg]
      · simp
      · rw [List.isSuffixOf_iff_suffix]
        rintro ⟨t, ht⟩
        have ht2 : t ++ [10] = (a ++ 10 :: b') ++ [c] := by simpa using ht
        have := (List.append_inj' ht2 rfl).2
        simp at this
        exact hc this.symm
theorem sess_head (a b : List UInt8) : ∃ z, sessTx (a ++ 10 :: b) = sessTx (a ++ [10]) ++ z := by
  unfold sessTx
  rw [trim_one]
  rcases trim_more a b with h | ⟨b', h⟩
  · rw [h]; exact ⟨[], by simp⟩
  · rw [h, lns_app, runs_app]; exact ⟨_, rfl⟩
theorem trim_len (t : List UInt8) : (Lib.trimSuffix t [10]).length ≤ t.length := by
  unfold Lib.trimSuffix
  split
  · rw [List.length_take]; omega
  · exact Nat.le_refl _
theorem cnt_text (t : List UInt8) (h : t.length ≤ 3000) : cntW (lnsOf (Lib.trimSuffix t [10])) ≤ 1600 := by
  have h1 := cnt_half (lnsOf (Lib.trimSuffix t [10]))
  rw [lns_rest] at h1
  have := trim_len t
  omega
theorem sess_first : sessTx [108, 101, 102, 116, 32, 49, 32, 53, 32, 55, 10, 120, 10] = [102, 101, 100, 44, 32, 43, 49, 58, 32, 53, 32, 55, 32, 45, 10, 101, 114, 114, 111, 114, 32, 51, 10] := by kernel_rfl
theorem sess_at (w : World) (hG : GlobE w) (t : List UInt8) (V : World) (ht : t.length ≤ 3000) (hV : Below w.heap.size w V) : Calls Tryz.prog 32 #[.string ⟨t.toArray⟩] V fun e w' => e = .returned (sV (sessTx t)) ∧ Hid (Below w.heap.size w w') := by
  refine (session_any t (by omega) (cnt_text t ht) V (hG.below hV)).mono ?_
  rintro e w' ⟨rfl, hb⟩
  exact ⟨rfl, hV.trans (hb.mono hV.size)⟩
theorem sess_one (w : World) (hG : GlobE w) : Calls Tryz.prog 32 #[.string ⟨#[108, 101, 102, 116, 32, 49, 32, 53, 32, 55, 10, 120, 10]⟩] w fun e w' => e = .returned (.string ⟨#[102, 101, 100, 44, 32, 43, 49, 58, 32, 53, 32, 55, 32, 45, 10, 101, 114, 114, 111, 114, 32, 51, 10]⟩) ∧ Hid (Below w.heap.size w w') := by
  refine (sess_at w hG [108, 101, 102, 116, 32, 49, 32, 53, 32, 55, 10, 120, 10] w (by decide) (Below.refl _ _)).mono ?_
  rintro e w' ⟨rfl, hb⟩
  rw [sess_first]
  exact ⟨rfl, hb⟩
set_option maxHeartbeats 400000 in
theorem pieces_small (a b : List UInt8) (hl : a.length + b.length ≤ 2000) (w : World) (hG : GlobE w) : Calls Tryz.prog 5 #[sV a, sV b] w fun e w' => e = .returned (.bool true) ∧ Below w.heap.size w w' := by
  have i1 : (a.length : Int) + (b.length : Int) ≤ 2000 := by omega
  have e1 : ((⟨a.toArray⟩ : ByteArray) ++ (⟨#[10]⟩ : ByteArray)) = ⟨(a ++ [10]).toArray⟩ := by apply ByteArray.ext; simp
  have e2 : ((⟨a.toArray⟩ : ByteArray) ++ (⟨#[10]⟩ : ByteArray) ++ (⟨b.toArray⟩ : ByteArray)) = ⟨(a ++ 10 :: b).toArray⟩ := by apply ByteArray.ext; simp
  obtain ⟨z, hz⟩ := sess_head a b
  have H0 : Hid (Calls Tryz.prog 32 #[.string ⟨#[108, 101, 102, 116, 32, 49, 32, 53, 32, 55, 10, 120, 10]⟩] w fun e w' => e = .returned (.string ⟨#[102, 101, 100, 44, 32, 43, 49, 58, 32, 53, 32, 55, 32, 45, 10, 101, 114, 114, 111, 114, 32, 51, 10]⟩) ∧ Hid (Below w.heap.size w w')) := sess_one w hG
  have H1 : Hid (∀ V, Hid (Below w.heap.size w V) → Calls Tryz.prog 32 #[.string ((⟨a.toArray⟩ : ByteArray) ++ (⟨#[10]⟩ : ByteArray))] V fun e w' => e = .returned (sV (sessTx (a ++ [10]))) ∧ Hid (Below w.heap.size w w')) := by
    intro V hV
    rw [e1]
    exact sess_at w hG _ V (by simp; omega) hV.out
  have H2 : Hid (∀ V, Hid (Below w.heap.size w V) → Calls Tryz.prog 32 #[.string ((⟨a.toArray⟩ : ByteArray) ++ (⟨#[10]⟩ : ByteArray) ++ (⟨b.toArray⟩ : ByteArray))] V fun e w' => e = .returned (sV (sessTx (a ++ [10]) ++ z)) ∧ Hid (Below w.heap.size w w')) := by
    intro V hV
    rw [e2, ← hz]
    exact sess_at w hG _ V (by simp; omega) hV.out
  clear e1 e2 hz hG
  have s1 : ¬ 9223372036854775807 < a.length + 1 := by omega
  have s2 : ¬ 9223372036854775807 < a.length + 1 + b.length := by omega
  generalize sessTx (a ++ [10]) = X at *
  have k1 : (X.length : Int) ≤ ((X ++ z).length : Int) := by simp; omega
  have ef : Hid ((⟨(X ++ z).toArray⟩ : ByteArray).extract 0 X.length = ⟨X.toArray⟩) := extract_first X z
  generalize X ++ z = Y at *
  go_enter Tryz.func5, Tryz.ntmps5
  go_wp2_with fail
  refine H0.out.mono ?_
  rintro e w1 ⟨rfl, h1⟩
  clear H0
  go_wp2_with fail
  refine (H1.out _ h1).mono ?_
  rintro e w2 ⟨rfl, h2⟩
  clear H1
  go_wp2_with fail
  refine (H2.out _ h2).mono ?_
  rintro e w3 ⟨rfl, h3⟩
  clear H2
  go_wp2
  go_ret
  refine ⟨?_, h3.out⟩
  show Ending.returned (Value.bool (((⟨Y.toArray⟩ : ByteArray).extract 0 X.length).toList == X)) = _
  rw [ef.out]
  simp
theorem pieces_big (a b : List UInt8) (hl : 2000 < a.length + b.length) (hs : a.length + b.length ≤ 9223372036854775807) (w : World) : Calls Tryz.prog 5 #[sV a, sV b] w fun e w' => e = .returned (.bool true) ∧ Below w.heap.size w w' := by
  have i1 : (2000 : Int) < (a.length : Int) + (b.length : Int) := by omega
  have i2 : (a.length : Int) + (b.length : Int) ≤ 9223372036854775807 := by omega
  go_enter Tryz.func5, Tryz.ntmps5
  go_wp2
  go_ret
  exact ⟨rfl, Below.refl _ _⟩
theorem pieces_any (a b : List UInt8) (hs : a.length + b.length ≤ 9223372036854775807) (w : World) (hG : GlobE w) : Calls Tryz.prog 5 #[sV a, sV b] w fun e w' => e = .returned (.bool true) ∧ Below w.heap.size w w' := by
  rcases Nat.lt_or_ge 2000 (a.length + b.length) with h | h
  · exact pieces_big a b h hs w
  · exact pieces_small a b h w hG
end Go.Proofs.YthfpipieboophaaGreatDoor
