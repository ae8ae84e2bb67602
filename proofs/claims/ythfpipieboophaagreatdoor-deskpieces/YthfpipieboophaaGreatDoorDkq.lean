/- A line whose first word is known is answered. -/
import Derived.Test.YthfpipieboophaaGreatDoorDkp
namespace Go.Proofs.YthfpipieboophaaGreatDoor
open Go.RowKit Go.Sort Go.Shelf
set_option maxRecDepth 100000
theorem enters_verb (v : Vb) : ∀ args V, (callFunc v.fn args).run Tryz.prog V = .ok (.enter v.fn args) V := by
  cases v
  · exact enters_of Tryz.func132 (by kernel_rfl) rfl
  · exact enters_of Tryz.func133 (by kernel_rfl) rfl
  · exact enters_of Tryz.func134 (by kernel_rfl) rfl
  · exact enters_of Tryz.func135 (by kernel_rfl) rfl
  · exact enters_of Tryz.func136 (by kernel_rfl) rfl
  · exact enters_of Tryz.func137 (by kernel_rfl) rfl
  · exact enters_of Tryz.func138 (by kernel_rfl) rfl
  · exact enters_of Tryz.func139 (by kernel_rfl) rfl
  · exact enters_of Tryz.func140 (by kernel_rfl) rfl
  · exact enters_of Tryz.func141 (by kernel_rfl) rfl
  · exact enters_of Tryz.func142 (by kernel_rfl) rfl
  · exact enters_of Tryz.func143 (by kernel_rfl) rfl
  · exact enters_of Tryz.func144 (by kernel_rfl) rfl
abbrev boxV (bs f k : Nat) : Obj := .cells #[.int .i64 k, .func (.func f) #[.pointer (some ⟨bs, 0, none⟩)] #[]] 228
set_option maxHeartbeats 8000000 in
theorem answer_len {w0 : World} {bs be bm : Nat} {st : Sx} {S P : Nat → Prop} {W : World} (h : Dk w0 bs (some bm) st be S P W) (hV : VMap W bs bm) (hG : GlobE w0) (line : List UInt8) (hl : line.length ≤ 1000000) (y : List UInt8) (ws : List (List UInt8)) (hw : wordsOf line = y :: ws) (v : Vb) (hv : verbOf y = some v) (hlen : ws.length ≠ v.ar) :
    Calls Tryz.prog 79 #[.pointer (some ⟨bs, 0, none⟩), .string ⟨line.toArray⟩] W fun e w' => e = .returned (sV (errTx 3)) ∧ DNext w0 bs (some bm) st P W w' := by
  have hmf : ∀ (fn : Fn) (first cap : Array Value) (w : World), (Instr.makeFunc fn first cap).run Tryz.prog w = .ok (.func fn first cap) w := fun _ _ _ _ => rfl
  have hyl : y.length ≤ 1000000 := Nat.le_trans (wordsOf_len line y (by rw [hw]; simp)) hl
  have HW : Hid (Calls Tryz.prog 149 #[.string ⟨line.toArray⟩] (W.alloc boxR) fun e w' => ∃ A, e = .returned (.slice (some ⟨A, 0, none⟩) (ws.length + 1) (ws.length + 1)) ∧ Hid (An w0 bs bm st be S P W A y ws w')) := words_an h hV line hl y ws hw
  have i0 : ((ws.length : Int) + 1 == 0) = false := by simp only [beq_eq_false_iff_ne]; omega
  have i1 : (0 : Int) < (ws.length : Int) + 1 := by omega
  have hlt := h.lt
  have h0 := h.low.size
  have hp : ¬ P W.heap.size := fun e => by have := h.plt _ e; omega
  have HL : Hid (ws.length ≠ v.ar) := hlen
  clear hlen
  clear h hV hw hl
  obtain ⟨f, hf⟩ : ∃ f, Hid (f = v.fn) := ⟨_, rfl⟩
  obtain ⟨k, hk⟩ : ∃ k, Hid (k = v.ar) := ⟨_, rfl⟩
  go_enter_defers Tryz.func79, Tryz.ntmps79
  go_wp2_with (first
    | (go_at_call 149; refine HW.out.mono ?_; rintro e w2 ⟨A, rfl, h2⟩)
    | fail)
  have c2 := h2.out.cells
  have hlk : ∀ V : World, V.heap[bm]? = w2.heap[bm]? → (Instr.lookup 223 (.map (some bm)) (.string ⟨y.toArray⟩) true).run Tryz.prog V = .ok (.tuple #[vbV bs f k, .bool true]) V := fun V e => by have := verb_look (h2.out.vm.still e) hyl; simp only [hv] at this; rw [← hf.out, ← hk.out] at this; exact this
  have hlk1 := hlk w2.drew rfl
  have hlk2 := hlk (w2.alloc (.cells #[.int .i64 0, .nilFunc] 228)).drew (Below.heap_alloc _ _ _ h2.out.vm.lt)
  have hl2 : bs < w2.heap.size ∧ A < w2.heap.size := ⟨h2.out.dk.lt, h2.out.al⟩
  have f0 : (w2.alloc (.cells #[.int .i64 0, .nilFunc] 228)).cell? ⟨w2.heap.size, 0, none⟩ = some (.int .i64 0) := by rw [Go.Joins.cell_of_block (heap_alloc_new w2 (.cells #[.int .i64 0, .nilFunc] 228))]; rfl
  have f1 : (w2.alloc (.cells #[.int .i64 0, .nilFunc] 228)).cell? ⟨w2.heap.size, 1, none⟩ = some .nilFunc := by rw [Go.Joins.cell_of_block (heap_alloc_new w2 (.cells #[.int .i64 0, .nilFunc] 228))]; rfl
  have f2 : (w2.alloc (.cells #[.int .i64 0, .nilFunc] 228)).frozen? ⟨w2.heap.size, 0, none⟩ = false := Go.Joins.unfrozen_of_block (heap_alloc_new w2 (.cells #[.int .i64 0, .nilFunc] 228)) 0
  have f3 : (w2.alloc (.cells #[.int .i64 0, .nilFunc] 228)).frozen? ⟨w2.heap.size, 1, none⟩ = false := Go.Joins.unfrozen_of_block (heap_alloc_new w2 (.cells #[.int .i64 0, .nilFunc] 228)) 1
  have B3 : Below w2.heap.size w2 (w2.alloc (boxV bs f k)).drew := (Go.Joins.below_alloc1 _ _).drew
  have H3 : Hid (An w0 bs bm st be S P W A y ws (w2.alloc (boxV bs f k)).drew) := h2.out.below B3
  have hbx : (w2.alloc (boxV bs f k)).drew.heap[w2.heap.size]? = some (boxV bs f k) := heap_alloc_new w2 (boxV bs f k)
  clear hv
  go_region
  all_goals
    clear hlk hlk1 hlk2 c2 h2 B3 f0 f1 f2 f3 hmf hl2
    revert H3 hbx
    generalize (w2.alloc (boxV bs f k)).drew = w3
    generalize w2.heap.size = bx
    intro H3 hbx
    have b3 : w3.cell? ⟨bx, 0, none⟩ = some (.int .i64 k) ∧ w3.cell? ⟨bx, 1, none⟩ = some (.func (.func f) #[.pointer (some ⟨bs, 0, none⟩)] #[]) ∧ bx < w3.heap.size := ⟨by rw [Go.Joins.cell_of_block hbx]; rfl, by rw [Go.Joins.cell_of_block hbx]; rfl, (Array.getElem?_eq_some_iff.1 hbx).1⟩
    have hfew := H3.out.few
    have n1 : ((ws.length : Int) == (k : Int)) = false := by simp only [beq_eq_false_iff_ne]; rw [hk.out]; have := HL.out; omega
    have n2 : ((ws.length : Int) != (k : Int)) = true := by simp only [bne, n1]; rfl
    clear hf hk HL hbx
    go_wp2
    exact door_throw (V0 := w3) 3 ⟨by decide, by decide⟩ hG (H3.out.dk.same (Below.refl _ _)) H3.out.low h0 (Array.getElem?_eq_some_iff.1 H3.out.res).1 hp H3.out.res (fun V' t ht => by simp [results, Tryz.results79, go_sem, ht])
set_option maxHeartbeats 8000000 in
theorem answer_num {w0 : World} {bs be bm : Nat} {st : Sx} {S P : Nat → Prop} {W : World} (h : Dk w0 bs (some bm) st be S P W) (hV : VMap W bs bm) (hG : GlobE w0) (line : List UInt8) (hl : line.length ≤ 1000000) (y : List UInt8) (ws : List (List UInt8)) (hw : wordsOf line = y :: ws) (v : Vb) (hv : verbOf y = some v) (hlen : ws.length = v.ar) (hns : numsOf ws = none) :
    Calls Tryz.prog 79 #[.pointer (some ⟨bs, 0, none⟩), .string ⟨line.toArray⟩] W fun e w' => e = .returned (sV (errTx 3)) ∧ DNext w0 bs (some bm) st P W w' := by
  have hmf : ∀ (fn : Fn) (first cap : Array Value) (w : World), (Instr.makeFunc fn first cap).run Tryz.prog w = .ok (.func fn first cap) w := fun _ _ _ _ => rfl
  have hyl : y.length ≤ 1000000 := Nat.le_trans (wordsOf_len line y (by rw [hw]; simp)) hl
  have HW : Hid (Calls Tryz.prog 149 #[.string ⟨line.toArray⟩] (W.alloc boxR) fun e w' => ∃ A, e = .returned (.slice (some ⟨A, 0, none⟩) (ws.length + 1) (ws.length + 1)) ∧ Hid (An w0 bs bm st be S P W A y ws w')) := words_an h hV line hl y ws hw
  have i0 : ((ws.length : Int) + 1 == 0) = false := by simp only [beq_eq_false_iff_ne]; omega
  have i1 : (0 : Int) < (ws.length : Int) + 1 := by omega
  have hlt := h.lt
  have h0 := h.low.size
  have hp : ¬ P W.heap.size := fun e => by have := h.plt _ e; omega
  have hwl : ∀ x ∈ ws, x.length ≤ 1000000 := fun x hx => Nat.le_trans (wordsOf_len line x (by rw [hw]; simp [hx])) hl
  have hwk : ws.length ≤ 100 := by rw [hlen]; cases v <;> decide
  have i2 : (ws.length : Int) ≤ 100 := by omega
  have HL : Hid (ws.length = v.ar) := hlen
  clear hlen
  clear h hV hw hl
  obtain ⟨f, hf⟩ : ∃ f, Hid (f = v.fn) := ⟨_, rfl⟩
  obtain ⟨k, hk⟩ : ∃ k, Hid (k = v.ar) := ⟨_, rfl⟩
  go_enter_defers Tryz.func79, Tryz.ntmps79
  go_wp2_with (first
    | (go_at_call 149; refine HW.out.mono ?_; rintro e w2 ⟨A, rfl, h2⟩)
    | fail)
  have c2 := h2.out.cells
  have hlk : ∀ V : World, V.heap[bm]? = w2.heap[bm]? → (Instr.lookup 223 (.map (some bm)) (.string ⟨y.toArray⟩) true).run Tryz.prog V = .ok (.tuple #[vbV bs f k, .bool true]) V := fun V e => by have := verb_look (h2.out.vm.still e) hyl; simp only [hv] at this; rw [← hf.out, ← hk.out] at this; exact this
  have hlk1 := hlk w2.drew rfl
  have hlk2 := hlk (w2.alloc (.cells #[.int .i64 0, .nilFunc] 228)).drew (Below.heap_alloc _ _ _ h2.out.vm.lt)
  have hl2 : bs < w2.heap.size ∧ A < w2.heap.size := ⟨h2.out.dk.lt, h2.out.al⟩
  have f0 : (w2.alloc (.cells #[.int .i64 0, .nilFunc] 228)).cell? ⟨w2.heap.size, 0, none⟩ = some (.int .i64 0) := by rw [Go.Joins.cell_of_block (heap_alloc_new w2 (.cells #[.int .i64 0, .nilFunc] 228))]; rfl
  have f1 : (w2.alloc (.cells #[.int .i64 0, .nilFunc] 228)).cell? ⟨w2.heap.size, 1, none⟩ = some .nilFunc := by rw [Go.Joins.cell_of_block (heap_alloc_new w2 (.cells #[.int .i64 0, .nilFunc] 228))]; rfl
  have f2 : (w2.alloc (.cells #[.int .i64 0, .nilFunc] 228)).frozen? ⟨w2.heap.size, 0, none⟩ = false := Go.Joins.unfrozen_of_block (heap_alloc_new w2 (.cells #[.int .i64 0, .nilFunc] 228)) 0
  have f3 : (w2.alloc (.cells #[.int .i64 0, .nilFunc] 228)).frozen? ⟨w2.heap.size, 1, none⟩ = false := Go.Joins.unfrozen_of_block (heap_alloc_new w2 (.cells #[.int .i64 0, .nilFunc] 228)) 1
  have B3 : Below w2.heap.size w2 (w2.alloc (boxV bs f k)).drew := (Go.Joins.below_alloc1 _ _).drew
  have H3 : Hid (An w0 bs bm st be S P W A y ws (w2.alloc (boxV bs f k)).drew) := h2.out.below B3
  have hbx : (w2.alloc (boxV bs f k)).drew.heap[w2.heap.size]? = some (boxV bs f k) := heap_alloc_new w2 (boxV bs f k)
  clear hv
  go_region
  all_goals
    clear hlk hlk1 hlk2 c2 h2 B3 f0 f1 f2 f3 hmf hl2
    revert H3 hbx
    generalize (w2.alloc (boxV bs f k)).drew = w3
    generalize w2.heap.size = bx
    intro H3 hbx
    have b3 : w3.cell? ⟨bx, 0, none⟩ = some (.int .i64 k) ∧ w3.cell? ⟨bx, 1, none⟩ = some (.func (.func f) #[.pointer (some ⟨bs, 0, none⟩)] #[]) ∧ bx < w3.heap.size := ⟨by rw [Go.Joins.cell_of_block hbx]; rfl, by rw [Go.Joins.cell_of_block hbx]; rfl, (Array.getElem?_eq_some_iff.1 hbx).1⟩
    have ek : k = ws.length := by rw [hk.out, HL.out]
    subst ek
    have i3 : (1 : Int) ≤ (ws.length : Int) + 1 := by omega
    have HN : Hid (∀ V, Below w3.heap.size w3 V → Calls Tryz.prog 150 #[.slice (if ws = [] then some ⟨A, 0, none⟩ else some ⟨A, 1, none⟩) ws.length ws.length] V fun e w' => e = thrown 3 ∧ Hid (An w0 bs bm st be S P W A y ws w')) := by
      intro V hV
      have hA := H3.out.below hV
      refine (numbers_any ws A 1 ws.length _ V (hG.below hA.dk.low) hwk hwl hA.al (fun j x hx => by have := hA.row (j + 1) x (by simpa using hx); rw [Nat.add_comm] at this; exact this) (fun hne => if_neg hne)).mono ?_
      rintro e w' ⟨hs, hb⟩
      unfold NumsSay at hs
      rw [hns] at hs
      exact ⟨hs, hA.below hb⟩
    clear hf hk HL hbx hns hwk hwl
    go_wp2
    refine wp_region_any (by kernel_rfl) ?_
    change wpAny _ _ _ _ _ _ _ (World.drew _)
    refine wpAny_take (i := 0) (v := .pointer (some ⟨bx, 1, none⟩)) rfl (by kernel_rfl) (by kernel_rfl) (by kernel_rfl) (fun c a w h => put79 36 (by decide) _ c a w h) (Or.inl ⟨by rfl, by intro w; go_simp⟩) ?_
    refine wpAny_take (i := 2) (v := .slice (some ⟨A, 0, none⟩) (ws.length + 1) (ws.length + 1)) rfl (by kernel_rfl) (by kernel_rfl) (by kernel_rfl) (fun c a w h => put79 38 (by decide) _ c a w h) (Or.inl ⟨by rfl, by intro w; go_simp⟩) ?_
    refine wpAny_take (i := 3) (v := .slice (if ws = [] then some ⟨A, 0, none⟩ else some ⟨A, 1, none⟩) ws.length ws.length) rfl (by kernel_rfl) (by kernel_rfl) (by kernel_rfl) (fun c a w h => put79 39 (by decide) _ c a w h) (Or.inl ⟨by rfl, by intro w; go_simp⟩) ?_
    refine wpAny_ready (rs := [1, 4]) (by kernel_rfl) (by simp) ?_
    refine AllReady.cons rfl (fun K hK => ?_) (AllReady.cons rfl (fun K hK => ?_) AllReady.nil)
    · go_simp
      refine hK _ _ ?_
      clear hK K
      refine wpAny_ready (rs := [4]) (by kernel_rfl) (by simp) ?_
      refine AllReady.cons rfl (fun K hK => ?_) AllReady.nil
      go_simp
      refine (HN.out _ ?_).mono ?_
      · exact (Below.refl _ _).drew
      rintro e w4 ⟨rfl, h4⟩
      exact door_throw (V0 := w4) 3 ⟨by decide, by decide⟩ hG (h4.out.dk.same (Below.refl _ _)) h4.out.low h0 (Array.getElem?_eq_some_iff.1 h4.out.res).1 hp h4.out.res (fun V' t ht => by simp [results, Tryz.results79, go_sem, ht])
    · go_simp
      refine (HN.out _ ?_).mono ?_
      · exact (Below.refl _ _).drew
      rintro e w4 ⟨rfl, h4⟩
      exact door_throw (V0 := w4) 3 ⟨by decide, by decide⟩ hG (h4.out.dk.same (Below.refl _ _)) h4.out.low h0 (Array.getElem?_eq_some_iff.1 h4.out.res).1 hp h4.out.res (fun V' t ht => by simp [results, Tryz.results79, go_sem, ht])
set_option maxHeartbeats 8000000 in
theorem answer_err {w0 : World} {bs be bm : Nat} {st : Sx} {S P : Nat → Prop} {W : World} (h : Dk w0 bs (some bm) st be S P W) (hV : VMap W bs bm) (hG : GlobE w0) (line : List UInt8) (hl : line.length ≤ 1000000) (y : List UInt8) (ws : List (List UInt8)) (hw : wordsOf line = y :: ws) (v : Vb) (hv : verbOf y = some v) (hlen : ws.length = v.ar) (ns : List Int) (hns : numsOf ws = some ns) {n : Nat} (hO : OkS n st) (hn : n ≤ 1600) (hc : (v.does st ns).1.1 ≠ 0) :
    Calls Tryz.prog 79 #[.pointer (some ⟨bs, 0, none⟩), .string ⟨line.toArray⟩] W fun e w' => e = .returned (sV (errTx (v.does st ns).1.1)) ∧ DNext w0 bs (some bm) (v.does st ns).2 P W w' := by
  have hmf : ∀ (fn : Fn) (first cap : Array Value) (w : World), (Instr.makeFunc fn first cap).run Tryz.prog w = .ok (.func fn first cap) w := fun _ _ _ _ => rfl
  have hyl : y.length ≤ 1000000 := Nat.le_trans (wordsOf_len line y (by rw [hw]; simp)) hl
  have HW : Hid (Calls Tryz.prog 149 #[.string ⟨line.toArray⟩] (W.alloc boxR) fun e w' => ∃ A, e = .returned (.slice (some ⟨A, 0, none⟩) (ws.length + 1) (ws.length + 1)) ∧ Hid (An w0 bs bm st be S P W A y ws w')) := words_an h hV line hl y ws hw
  have i0 : ((ws.length : Int) + 1 == 0) = false := by simp only [beq_eq_false_iff_ne]; omega
  have i1 : (0 : Int) < (ws.length : Int) + 1 := by omega
  have hlt := h.lt
  have h0 := h.low.size
  have hp : ¬ P W.heap.size := fun e => by have := h.plt _ e; omega
  have hwl : ∀ x ∈ ws, x.length ≤ 1000000 := fun x hx => Nat.le_trans (wordsOf_len line x (by rw [hw]; simp [hx])) hl
  have hwk : ws.length ≤ 100 := by rw [hlen]; cases v <;> decide
  have i2 : (ws.length : Int) ≤ 100 := by omega
  have HL : Hid (ws.length = v.ar) := hlen
  have HS : Hid (∀ V A g, An w0 bs bm st be S P W A y ws V → V.heap[g]? = some (.cells (ns.map (Value.int .i64)).toArray 3) → ¬ P g → Calls Tryz.prog v.fn #[.pointer (some ⟨bs, 0, none⟩), .slice (some ⟨g, 0, none⟩) ws.length ws.length] V fun e w' => e = outc (v.does st ns).1.1 (v.does st ns).1.2 ∧ DNext w0 bs (some bm) (v.does st ns).2 P V w') := by
    intro V A g hA hg hgP
    have := verb_says v hA.dk hO hn hG ns (by rw [numsOf_len ws ns hns]; exact hlen) g hg hgP
    rw [← hlen] at this
    exact this
  have hcode := does_code v st ns
  clear hlen hO hn
  generalize (v.does st ns).2 = st' at *
  generalize (v.does st ns).1.2 = txt at *
  generalize (v.does st ns).1.1 = c at *
  unfold outc at HS
  rw [if_neg hc] at HS
  clear hc
  clear h hV hw hl
  obtain ⟨f, hf⟩ : ∃ f, Hid (f = v.fn) := ⟨_, rfl⟩
  obtain ⟨k, hk⟩ : ∃ k, Hid (k = v.ar) := ⟨_, rfl⟩
  go_enter_defers Tryz.func79, Tryz.ntmps79
  go_wp2_with (first
    | (go_at_call 149; refine HW.out.mono ?_; rintro e w2 ⟨A, rfl, h2⟩)
    | fail)
  have c2 := h2.out.cells
  have hlk : ∀ V : World, V.heap[bm]? = w2.heap[bm]? → (Instr.lookup 223 (.map (some bm)) (.string ⟨y.toArray⟩) true).run Tryz.prog V = .ok (.tuple #[vbV bs f k, .bool true]) V := fun V e => by have := verb_look (h2.out.vm.still e) hyl; simp only [hv] at this; rw [← hf.out, ← hk.out] at this; exact this
  have hlk1 := hlk w2.drew rfl
  have hlk2 := hlk (w2.alloc (.cells #[.int .i64 0, .nilFunc] 228)).drew (Below.heap_alloc _ _ _ h2.out.vm.lt)
  have hl2 : bs < w2.heap.size ∧ A < w2.heap.size := ⟨h2.out.dk.lt, h2.out.al⟩
  have f0 : (w2.alloc (.cells #[.int .i64 0, .nilFunc] 228)).cell? ⟨w2.heap.size, 0, none⟩ = some (.int .i64 0) := by rw [Go.Joins.cell_of_block (heap_alloc_new w2 (.cells #[.int .i64 0, .nilFunc] 228))]; rfl
  have f1 : (w2.alloc (.cells #[.int .i64 0, .nilFunc] 228)).cell? ⟨w2.heap.size, 1, none⟩ = some .nilFunc := by rw [Go.Joins.cell_of_block (heap_alloc_new w2 (.cells #[.int .i64 0, .nilFunc] 228))]; rfl
  have f2 : (w2.alloc (.cells #[.int .i64 0, .nilFunc] 228)).frozen? ⟨w2.heap.size, 0, none⟩ = false := Go.Joins.unfrozen_of_block (heap_alloc_new w2 (.cells #[.int .i64 0, .nilFunc] 228)) 0
  have f3 : (w2.alloc (.cells #[.int .i64 0, .nilFunc] 228)).frozen? ⟨w2.heap.size, 1, none⟩ = false := Go.Joins.unfrozen_of_block (heap_alloc_new w2 (.cells #[.int .i64 0, .nilFunc] 228)) 1
  have B3 : Below w2.heap.size w2 (w2.alloc (boxV bs f k)).drew := (Go.Joins.below_alloc1 _ _).drew
  have H3 : Hid (An w0 bs bm st be S P W A y ws (w2.alloc (boxV bs f k)).drew) := h2.out.below B3
  have hbx : (w2.alloc (boxV bs f k)).drew.heap[w2.heap.size]? = some (boxV bs f k) := heap_alloc_new w2 (boxV bs f k)
  clear hv
  go_region
  all_goals
    clear hlk hlk1 hlk2 c2 h2 B3 f0 f1 f2 f3 hmf hl2
    revert H3 hbx
    generalize (w2.alloc (boxV bs f k)).drew = w3
    generalize w2.heap.size = bx
    intro H3 hbx
    have b3 : w3.cell? ⟨bx, 0, none⟩ = some (.int .i64 k) ∧ w3.cell? ⟨bx, 1, none⟩ = some (.func (.func f) #[.pointer (some ⟨bs, 0, none⟩)] #[]) ∧ bx < w3.heap.size := ⟨by rw [Go.Joins.cell_of_block hbx]; rfl, by rw [Go.Joins.cell_of_block hbx]; rfl, (Array.getElem?_eq_some_iff.1 hbx).1⟩
    have ek : k = ws.length := by rw [hk.out, HL.out]
    subst ek
    have i3 : (1 : Int) ≤ (ws.length : Int) + 1 := by omega
    have HS2 : Hid (∀ V, An w0 bs bm st be S P W A y ws V → ∀ g, V.heap[g]? = some (.cells (ns.map (Value.int .i64)).toArray 3) → ¬ P g → Calls Tryz.prog f #[.pointer (some ⟨bs, 0, none⟩), .slice (some ⟨g, 0, none⟩) ws.length ws.length] V fun e w' => e = thrown c ∧ Hid (DNext w0 bs (some bm) st' P V w')) := fun V hA g hg hgP => by
      have := HS.out V A g hA hg hgP
      rw [← hf.out] at this
      exact this
    have eg : ∀ args V, (callFunc f args).run Tryz.prog V = .ok (.enter f args) V := by rw [hf.out]; exact enters_verb v
    have HN : Hid (∀ V, Below w3.heap.size w3 V → Calls Tryz.prog 150 #[.slice (if ws = [] then some ⟨A, 0, none⟩ else some ⟨A, 1, none⟩) ws.length ws.length] V fun e w' => ∃ g, e = .returned (.slice (some ⟨g, 0, none⟩) ws.length ws.length) ∧ (w'.cell? ⟨bx, 1, none⟩ = some (.func (.func f) #[.pointer (some ⟨bs, 0, none⟩)] #[]) ∧ bx < w'.heap.size) ∧ Hid (An w0 bs bm st be S P W A y ws w' ∧ w'.heap[g]? = some (.cells (ns.map (Value.int .i64)).toArray 3) ∧ ¬ P g)) := by
      intro V hV
      have hA := H3.out.below hV
      refine (numbers_any ws A 1 ws.length _ V (hG.below hA.dk.low) hwk hwl hA.al (fun j x hx => by have := hA.row (j + 1) x (by simpa using hx); rw [Nat.add_comm] at this; exact this) (fun hne => if_neg hne)).mono ?_
      rintro e w' ⟨hs, hb⟩
      unfold NumsSay at hs
      rw [hns] at hs
      obtain ⟨g, hg1, rfl, hg2⟩ := hs
      have hb4 := hV.trans (hb.mono hV.size)
      have hbx4 := (hb4.block bx b3.2.2).trans hbx
      refine ⟨g, by rw [numsOf_len ws ns hns], ⟨by rw [Go.Joins.cell_of_block hbx4]; rfl, (Array.getElem?_eq_some_iff.1 hbx4).1⟩, hA.below hb, hg2, fun e => ?_⟩
      have := hA.dk.plt g e
      omega
    clear hf hk HL hbx hns hwk hwl HS
    go_wp2
    refine wp_region_any (by kernel_rfl) ?_
    change wpAny _ _ _ _ _ _ _ (World.drew _)
    refine wpAny_take (i := 0) (v := .pointer (some ⟨bx, 1, none⟩)) rfl (by kernel_rfl) (by kernel_rfl) (by kernel_rfl) (fun c a w h => put79 36 (by decide) _ c a w h) (Or.inl ⟨by rfl, by intro w; go_simp⟩) ?_
    refine wpAny_take (i := 2) (v := .slice (some ⟨A, 0, none⟩) (ws.length + 1) (ws.length + 1)) rfl (by kernel_rfl) (by kernel_rfl) (by kernel_rfl) (fun c a w h => put79 38 (by decide) _ c a w h) (Or.inl ⟨by rfl, by intro w; go_simp⟩) ?_
    refine wpAny_take (i := 3) (v := .slice (if ws = [] then some ⟨A, 0, none⟩ else some ⟨A, 1, none⟩) ws.length ws.length) rfl (by kernel_rfl) (by kernel_rfl) (by kernel_rfl) (fun c a w h => put79 39 (by decide) _ c a w h) (Or.inl ⟨by rfl, by intro w; go_simp⟩) ?_
    refine wpAny_ready (rs := [1, 4]) (by kernel_rfl) (by simp) ?_
    refine AllReady.cons rfl (fun K hK => ?_) (AllReady.cons rfl (fun K hK => ?_) AllReady.nil)
    · go_simp
      refine hK _ _ ?_
      clear hK K
      refine wpAny_ready (rs := [4]) (by kernel_rfl) (by simp) ?_
      refine AllReady.cons rfl (fun K hK => ?_) AllReady.nil
      go_simp
      refine (HN.out _ ?_).mono ?_
      · exact (Below.refl _ _).drew
      rintro e w4 ⟨g, rfl, c4, h4⟩
      refine hK _ _ ?_
      clear hK K
      refine wpAny_ready (rs := [5]) (by kernel_rfl) (by simp) ?_
      refine AllReady.cons rfl (fun K hK => ?_) AllReady.nil
      go_simp
      refine (HS2.out _ h4.out.1 g h4.out.2.1 h4.out.2.2).mono ?_
      rintro e w5 ⟨rfl, h5⟩
      exact door_throw (V0 := w4) c hcode hG h5.out h4.out.1.low h0 (Array.getElem?_eq_some_iff.1 h4.out.1.res).1 hp h4.out.1.res (fun V' t ht => by simp [results, Tryz.results79, go_sem, ht])
    · go_simp
      refine (HN.out _ ?_).mono ?_
      · exact (Below.refl _ _).drew
      rintro e w4 ⟨g, rfl, c4, h4⟩
      refine hK _ _ ?_
      clear hK K
      refine wpAny_ready (rs := [1]) (by kernel_rfl) (by simp) ?_
      refine AllReady.cons rfl (fun K hK => ?_) AllReady.nil
      go_simp
      refine hK _ _ ?_
      clear hK K
      refine wpAny_ready (rs := [5]) (by kernel_rfl) (by simp) ?_
      refine AllReady.cons rfl (fun K hK => ?_) AllReady.nil
      go_simp
      refine (HS2.out _ h4.out.1 g h4.out.2.1 h4.out.2.2).mono ?_
      rintro e w5 ⟨rfl, h5⟩
      exact door_throw (V0 := w4) c hcode hG h5.out h4.out.1.low h0 (Array.getElem?_eq_some_iff.1 h4.out.1.res).1 hp h4.out.1.res (fun V' t ht => by simp [results, Tryz.results79, go_sem, ht])
end Go.Proofs.YthfpipieboophaaGreatDoor
