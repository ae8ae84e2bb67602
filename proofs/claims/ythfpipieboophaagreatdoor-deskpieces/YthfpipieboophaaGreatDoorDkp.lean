/- A line is answered. -/
import Derived.Test.YthfpipieboophaaGreatDoorDknz
import Derived.RegionDies
import Derived.Laws.EntriesVeiled
namespace Go.Proofs.YthfpipieboophaaGreatDoor
open Go.RowKit Go.Sort Go.Shelf
set_option maxRecDepth 100000
abbrev boxR : Obj := .cells #[.string ⟨#[]⟩] 9
section
variable {w0 : World} {bs : Nat} {mv : Option Nat} {st' : Sx} {P : Nat → Prop} {W V w4 w5 : World}
theorem DNext.later (h : DNext w0 bs mv st' P V w4) (hb : Below w4.heap.size w4 w5) : DNext w0 bs mv st' P V w5 := by
  obtain ⟨P', ⟨be, S, hD⟩, hT, hn⟩ := h
  exact ⟨P', ⟨be, S, hD.below hb⟩, hT.trans (Turned.of_below (S := fun _ => False) hb) (fun _ _ e => e.elim), hn⟩
theorem DNext.from (h : DNext w0 bs mv st' P V w4) (hb : Below W.heap.size W V) : DNext w0 bs mv st' P W w4 := by
  obtain ⟨P', hD, hT, hn⟩ := h
  exact ⟨P', hD, (Turned.of_below (S := P) hb).trans hT (fun _ _ e => e), fun k e => (hn k e).imp id (fun g => Nat.le_trans hb.size g)⟩
theorem DNext.kept (h : DNext w0 bs mv st' P V w4) {r : Nat} (hr : r < V.heap.size) (hp : ¬ P r) : w4.heap[r]? = V.heap[r]? := by
  obtain ⟨P', hD, hT, hn⟩ := h
  exact hT.block r hr hp
theorem DNext.store (h : DNext w0 bs mv st' P V w4) (hb : Below W.heap.size W V) {r : Nat} (h0 : w0.heap.size ≤ W.heap.size) (hr : W.heap.size ≤ r) (hl : r < V.heap.size) (hp : ¬ P r) (v : Value) : DNext w0 bs mv st' P W (w4.setCell ⟨r, 0, none⟩ v) := by
  obtain ⟨P', ⟨be, S, hD⟩, hT, hn⟩ := h
  have hnr : ¬ P' r := fun e => by
    rcases hn r e with g | g
    · exact hp g
    · omega
  have hse : ∀ k, k ≠ r → (w4.setCell ⟨r, 0, none⟩ v).heap[k]? = w4.heap[k]? := fun k e => Below.heap_setCell _ _ _ _ e
  have hT2 : Turned (fun k => P k ∨ W.heap.size ≤ k) W (w4.setCell ⟨r, 0, none⟩ v) := ((Turned.of_below (S := fun k => P k ∨ W.heap.size ≤ k) hb).trans hT (fun _ _ e => .inl e)).trans (turned_cell (b := r) (o := 0)) (fun k _ e => .inr (by rw [e]; exact hr))
  have hlow : Below w0.heap.size w0 (w4.setCell ⟨r, 0, none⟩ v) := hD.low.setCell (p := ⟨r, 0, none⟩) (Nat.le_trans h0 hr) _
  refine ⟨P', ⟨be, S, hD.still (by simp) (fun k e => hse k (fun e2 => hnr (e2 ▸ e))) hlow⟩, ⟨hT2.os, hT2.tape, hT2.output, hT2.size, fun k hk hkp => hT2.block k hk (fun e => e.elim hkp (fun g => by omega))⟩, fun k e => (hn k e).imp id (fun g => Nat.le_trans hb.size g)⟩
end
set_option maxHeartbeats 4000000 in
theorem answer_nil {w0 : World} {bs be : Nat} {mv : Option Nat} {st : Sx} {S P : Nat → Prop} {W : World} (h : Dk w0 bs mv st be S P W) (line : List UInt8) (hl : line.length ≤ 1000000) (hw : wordsOf line = []) :
    Calls Tryz.prog 79 #[.pointer (some ⟨bs, 0, none⟩), .string ⟨line.toArray⟩] W fun e w' => e = .returned (sV [111, 107]) ∧ DNext w0 bs mv st P W w' := by
  have hmf : ∀ (fn : Fn) (first cap : Array Value) (w : World), (Instr.makeFunc fn first cap).run Tryz.prog w = .ok (.func fn first cap) w := fun _ _ _ _ => rfl
  have h0 := h.low.size
  have hp : ¬ P W.heap.size := fun e => by have := h.plt _ e; omega
  have HW : Hid (Calls Tryz.prog 149 #[.string ⟨line.toArray⟩] (W.alloc boxR) fun e w' => ∃ A, e = .returned (.slice (some ⟨A, 0, none⟩) 0 0) ∧ (w'.cell? ⟨W.heap.size, 0, none⟩ = some (.string ⟨#[]⟩) ∧ w'.frozen? ⟨W.heap.size, 0, none⟩ = false ∧ W.heap.size < w'.heap.size) ∧ Hid (DNext w0 bs mv st P W (w'.setCell ⟨W.heap.size, 0, none⟩ (sV [111, 107])))) := by
    refine (words_any line (W.alloc boxR) (by omega)).mono ?_
    rintro e w' ⟨A, rfl, h1, h2, h3⟩
    rw [hw]
    have hbx := (h3.block W.heap.size (by simp)).trans (heap_alloc_new W boxR)
    have hb : Below W.heap.size W w' := (Go.Joins.below_alloc1 W boxR).trans (h3.mono (by simp))
    refine ⟨A, rfl, ⟨by rw [Go.Joins.cell_of_block hbx]; rfl, Go.Joins.unfrozen_of_block hbx 0, (Array.getElem?_eq_some_iff.1 hbx).1⟩, ?_⟩
    exact DNext.store ((h.below hb).same (Below.refl _ _)) hb h0 (Nat.le_refl _) (Array.getElem?_eq_some_iff.1 hbx).1 hp _
  clear h hp h0 hw
  go_enter_defers Tryz.func79, Tryz.ntmps79
  go_wp2_with (first
    | (go_at_call 149; refine HW.out.mono ?_; rintro e w2 ⟨A, rfl, c2, h2⟩)
    | fail)
  have hcell : (w2.setCell ⟨W.heap.size, 0, none⟩ (.string ⟨#[111, 107]⟩)).cell? ⟨W.heap.size, 0, none⟩ = some (.string ⟨#[111, 107]⟩) := World.cell?_setCell_same _ _ _ c2.1
  refine leaves_cons (f := 148) (args := #[.pointer (some ⟨W.heap.size, 0, none⟩)]) (by simp) (by simp [go_sem]) ?_
  refine (catch_idle _ _).mono ?_
  rintro e u' w'' ⟨rfl, rfl, rfl⟩
  have h3 := h2.out
  clear h2
  generalize w2.setCell ⟨W.heap.size, 0, none⟩ (.string ⟨#[111, 107]⟩) = w5 at *
  simp [Leaves, settle, results, Tryz.results79, go_sem, hcell]
  exact h3
theorem door_throw {w0 : World} {bs : Nat} {mv : Option Nat} {st' : Sx} {P : Nat → Prop} {W V0 V : World} {tmps : Array Value} (c : Int) (hc : In64a c) (hG : GlobE w0) (hD : DNext w0 bs mv st' P V0 V) (hb : Below W.heap.size W V0) (h0 : w0.heap.size ≤ W.heap.size) (hl : W.heap.size < V0.heap.size) (hp : ¬ P W.heap.size) (hR : V0.heap[W.heap.size]? = some boxR)
    (htm : ∀ (V' : World) (t : ByteArray), V'.cell? ⟨W.heap.size, 0, none⟩ = some (.string t) → (results Tryz.f79 tmps).run Tryz.prog V' = .ok (.string t) V') :
    bodyPostD Tryz.prog Tryz.f79 (fun e w' => e = .returned (sV (errTx c)) ∧ DNext w0 bs mv st' P W w') (Exit.panic [{ v := .iface 24 (.int .i64 c), recovered := false }]) { tmps := tmps, defers := [{ target := Target.fn (Fn.func 148) #[.pointer (some ⟨W.heap.size, 0, none⟩)], args := #[] }] } V := by
  have hV : V.heap[W.heap.size]? = some boxR := (hD.kept hl hp).trans hR
  have hlow : Below w0.heap.size w0 V := by obtain ⟨P', ⟨be, S, hD⟩, _⟩ := hD; exact hD.low
  have hcl : ∀ V', Below V.heap.size V V' → V'.cell? ⟨W.heap.size, 0, none⟩ = some (.string ⟨#[]⟩) ∧ V'.frozen? ⟨W.heap.size, 0, none⟩ = false := fun V' hV' => by
    have h1 := (hV'.block _ (Array.getElem?_eq_some_iff.1 hV).1).trans hV
    exact ⟨by rw [Go.Joins.cell_of_block h1]; rfl, Go.Joins.unfrozen_of_block h1 0⟩
  have hgv := hG.below hlow
  refine leaves_cons (f := 148) (args := #[.pointer (some ⟨W.heap.size, 0, none⟩)]) (by simp) (by simp [go_sem]) ?_
  refine (catch_panicking ⟨W.heap.size, 0, none⟩ c hc (.string ⟨#[]⟩) V hgv.g.tab hgv.g.err hcl).mono ?_
  rintro e u' w'' ⟨rfl, rfl, w1, hb1, rfl⟩
  have hcell : (w1.setCell ⟨W.heap.size, 0, none⟩ (sV (errTx c))).cell? ⟨W.heap.size, 0, none⟩ = some (sV (errTx c)) := World.cell?_setCell_same _ _ _ (hcl w1 hb1).1
  have hres := htm _ _ hcell
  have hfin : DNext w0 bs mv st' P W (w1.setCell ⟨W.heap.size, 0, none⟩ (sV (errTx c))) := DNext.store (hD.later hb1) hb h0 (Nat.le_refl _) hl hp _
  exact ⟨_, hres, rfl, hfin⟩
theorem door_ret {R : Ending → World → Prop} {W V : World} {tmps : Array Value} (t : ByteArray) (hR : R (.returned (.string t)) V) (hc : V.cell? ⟨W.heap.size, 0, none⟩ = some (.string t))
    (htm : ∀ (V' : World) (t : ByteArray), V'.cell? ⟨W.heap.size, 0, none⟩ = some (.string t) → (results Tryz.f79 tmps).run Tryz.prog V' = .ok (.string t) V') :
    bodyPostD Tryz.prog Tryz.f79 R Exit.ret { tmps := tmps, defers := [{ target := Target.fn (Fn.func 148) #[.pointer (some ⟨W.heap.size, 0, none⟩)], args := #[] }] } V := by
  refine leaves_cons (f := 148) (args := #[.pointer (some ⟨W.heap.size, 0, none⟩)]) (by simp) (by simp [go_sem]) ?_
  refine (catch_idle _ _).mono ?_
  rintro e u' w'' ⟨rfl, rfl, rfl⟩
  exact ⟨_, htm _ _ hc, hR⟩
theorem numsOf_len : ∀ (vs : List (List UInt8)) (ns : List Int), numsOf vs = some ns → ns.length = vs.length
  | [], ns, h => by simp [numsOf] at h; subst h; rfl
  | y :: r, ns, h => by
    unfold numsOf at h
    split at h
    · cases h
    · cases hr : numsOf r with
      | none => rw [hr] at h; cases h
      | some q =>
        rw [hr] at h
        simp at h
        subst h
        simp [numsOf_len r q hr]
/-! A slot that is not the answer's cell does not matter at the door. -/
theorem res_put (i : Nat) (hi : i ≠ 4) (v : Value) (t : Array Value) : results Tryz.f79 (t.setIfInBounds i v) = results Tryz.f79 t := by
  simp [results, Tryz.results79, Array.getElem?_setIfInBounds_ne hi]
theorem leaves_same {P : Program} {fn : Func} {t1 t2 : Array Value} (h : results fn t1 = results fn t2) {R : Ending → World → Prop} : ∀ (ds : List Deferred) (u : FrameMode) (w : World), Leaves P fn t1 R ds u w → Leaves P fn t2 R ds u w
  | [], .returning, w, ⟨v, h1, h2⟩ => ⟨v, h ▸ h1, h2⟩
  | [], .panicking chain, w, hh => hh
  | [], .run, _, hh => hh
  | d :: ds, u, w, ⟨h1, fv, cap, f, args, h2, h3, h4⟩ => ⟨h1, fv, cap, f, args, h2, h3, h4.mono fun e u' w' hh => by
      cases e
      · exact leaves_same h ds _ _ hh
      · exact leaves_same h ds _ _ hh
      · exact hh⟩
theorem put79 (i : Nat) (hi : i ≠ 4) (v : Value) {R : Ending → World → Prop} (c : List PanicEntry) (a : Act) (w : World) (h : bodyPostD Tryz.prog Tryz.f79 R (.panic c) (a.put (some i) v) w) : bodyPostD Tryz.prog Tryz.f79 R (.panic c) a w :=
  leaves_same (res_put i hi v a.tmps) _ _ _ h
structure An (w0 : World) (bs bm : Nat) (st : Sx) (be : Nat) (S P : Nat → Prop) (W : World) (A : Nat) (y : List UInt8) (ws : List (List UInt8)) (V : World) : Prop where
  dk : Dk w0 bs (some bm) st be S P V
  vm : VMap V bs bm
  low : Below W.heap.size W V
  res : V.heap[W.heap.size]? = some boxR
  row : ∀ j x, (y :: ws)[j]? = some x → V.cell? ⟨A, j, none⟩ = some (sV x)
  al : A < V.heap.size
  few : (ws.length : Int) + 1 ≤ 9223372036854775807
theorem An.below {w0 : World} {bs bm : Nat} {st : Sx} {be : Nat} {S P : Nat → Prop} {W : World} {A : Nat} {y : List UInt8} {ws : List (List UInt8)} {V V' : World} (h : An w0 bs bm st be S P W A y ws V) (hb : Below V.heap.size V V') : An w0 bs bm st be S P W A y ws V' :=
  ⟨h.dk.below hb, h.vm.still (hb.block bm h.vm.lt), h.low.trans (hb.mono h.low.size), (hb.block _ (Array.getElem?_eq_some_iff.1 h.res).1).trans h.res, fun j x hx => (hb.cell (p := ⟨A, j, none⟩) h.al).trans (h.row j x hx), Nat.lt_of_lt_of_le h.al hb.size, h.few⟩
theorem An.cells {w0 : World} {bs bm : Nat} {st : Sx} {be : Nat} {S P : Nat → Prop} {W : World} {A : Nat} {y : List UInt8} {ws : List (List UInt8)} {V : World} (h : An w0 bs bm st be S P W A y ws V) : V.cell? ⟨bs, 1, none⟩ = some (.map (some bm)) ∧ V.cell? ⟨A, 0, none⟩ = some (sV y) ∧ V.cell? ⟨W.heap.size, 0, none⟩ = some (.string ⟨#[]⟩) ∧ V.frozen? ⟨W.heap.size, 0, none⟩ = false :=
  ⟨h.dk.cell.2.1, h.row 0 y rfl, by rw [Go.Joins.cell_of_block h.res]; rfl, Go.Joins.unfrozen_of_block h.res 0⟩
theorem words_an {w0 : World} {bs be bm : Nat} {st : Sx} {S P : Nat → Prop} {W : World} (h : Dk w0 bs (some bm) st be S P W) (hV : VMap W bs bm) (line : List UInt8) (hl : line.length ≤ 1000000) (y : List UInt8) (ws : List (List UInt8)) (hw : wordsOf line = y :: ws) :
    Calls Tryz.prog 149 #[.string ⟨line.toArray⟩] (W.alloc boxR) fun e w' => ∃ A, e = .returned (.slice (some ⟨A, 0, none⟩) (ws.length + 1) (ws.length + 1)) ∧ An w0 bs bm st be S P W A y ws w' := by
  refine (words_any line (W.alloc boxR) (by omega)).mono ?_
  rintro e w' ⟨A, rfl, h1, h2, h3⟩
  rw [hw] at h2 ⊢
  have hb : Below W.heap.size W w' := (Go.Joins.below_alloc1 W boxR).trans (h3.mono (by simp))
  refine ⟨A, rfl, h.below hb, hV.still (hb.block bm hV.lt), hb, (h3.block W.heap.size (by simp)).trans (heap_alloc_new W boxR), fun j x hx => ?_, (h2.lt A rfl).2, ?_⟩
  rotate_left 1
  · rcases h2.2 with ⟨e, _⟩ | ⟨g, cap, cur, e, _, _, _, e4, _⟩
    · cases e
    · injection e with _ _ e
      have e5 : ws.length + 1 ≤ maxLen := by rw [← e] at e4; simpa using e4
      unfold maxLen at e5
      omega
  have := h2.cells (g := A) rfl j (sV x) (by rw [List.getElem?_map, hx]; rfl)
  rw [add_at] at this
  exact this
set_option maxHeartbeats 8000000 in
theorem answer_no {w0 : World} {bs be bm : Nat} {st : Sx} {S P : Nat → Prop} {W : World} (h : Dk w0 bs (some bm) st be S P W) (hV : VMap W bs bm) (hG : GlobE w0) (line : List UInt8) (hl : line.length ≤ 1000000) (y : List UInt8) (ws : List (List UInt8)) (hw : wordsOf line = y :: ws) (hv : verbOf y = none) :
    Calls Tryz.prog 79 #[.pointer (some ⟨bs, 0, none⟩), .string ⟨line.toArray⟩] W fun e w' => e = .returned (sV (errTx 3)) ∧ DNext w0 bs (some bm) st P W w' := by
  have hmf : ∀ (fn : Fn) (first cap : Array Value) (w : World), (Instr.makeFunc fn first cap).run Tryz.prog w = .ok (.func fn first cap) w := fun _ _ _ _ => rfl
  have hyl : y.length ≤ 1000000 := Nat.le_trans (wordsOf_len line y (by rw [hw]; simp)) hl
  have HW : Hid (Calls Tryz.prog 149 #[.string ⟨line.toArray⟩] (W.alloc boxR) fun e w' => ∃ A, e = .returned (.slice (some ⟨A, 0, none⟩) (ws.length + 1) (ws.length + 1)) ∧ Hid (An w0 bs bm st be S P W A y ws w')) := words_an h hV line hl y ws hw
  have i0 : ((ws.length : Int) + 1 == 0) = false := by simp only [beq_eq_false_iff_ne]; omega
  have i1 : (0 : Int) < (ws.length : Int) + 1 := by omega
  have hlt := h.lt
  have h0 := h.low.size
  have hp : ¬ P W.heap.size := fun e => by have := h.plt _ e; omega
  clear h hV hw hl
  go_enter_defers Tryz.func79, Tryz.ntmps79
  go_wp2_with (first
    | (go_at_call 149; refine HW.out.mono ?_; rintro e w2 ⟨A, rfl, h2⟩)
    | fail)
  have c2 := h2.out.cells
  have hlk : ∀ V : World, V.heap[bm]? = w2.heap[bm]? → (Instr.lookup 223 (.map (some bm)) (.string ⟨y.toArray⟩) true).run Tryz.prog V = .ok (.tuple #[vbZ, .bool false]) V := fun V e => by have := verb_look (h2.out.vm.still e) hyl; rw [hv] at this; exact this
  have hlk1 := hlk w2.drew rfl
  have hlk2 := hlk (w2.alloc (.cells #[.int .i64 0, .nilFunc] 228)).drew (Below.heap_alloc _ _ _ h2.out.vm.lt)
  have hl2 : bs < w2.heap.size ∧ A < w2.heap.size := ⟨h2.out.dk.lt, h2.out.al⟩
  have f0 : (w2.alloc (.cells #[.int .i64 0, .nilFunc] 228)).cell? ⟨w2.heap.size, 0, none⟩ = some (.int .i64 0) := by rw [Go.Joins.cell_of_block (heap_alloc_new w2 (.cells #[.int .i64 0, .nilFunc] 228))]; rfl
  have f1 : (w2.alloc (.cells #[.int .i64 0, .nilFunc] 228)).cell? ⟨w2.heap.size, 1, none⟩ = some .nilFunc := by rw [Go.Joins.cell_of_block (heap_alloc_new w2 (.cells #[.int .i64 0, .nilFunc] 228))]; rfl
  have f2 : (w2.alloc (.cells #[.int .i64 0, .nilFunc] 228)).frozen? ⟨w2.heap.size, 0, none⟩ = false := Go.Joins.unfrozen_of_block (heap_alloc_new w2 (.cells #[.int .i64 0, .nilFunc] 228)) 0
  have f3 : (w2.alloc (.cells #[.int .i64 0, .nilFunc] 228)).frozen? ⟨w2.heap.size, 1, none⟩ = false := Go.Joins.unfrozen_of_block (heap_alloc_new w2 (.cells #[.int .i64 0, .nilFunc] 228)) 1
  go_region
  all_goals
    have B3 : Below w2.heap.size w2 (w2.alloc (.cells #[.int .i64 0, .nilFunc] 228)).drew := (Go.Joins.below_alloc1 _ _).drew
    have h3 := h2.out.below B3
    clear hlk hlk1 hlk2 hmf c2 h2 B3
    revert h3 f0 f1 f2 f3
    generalize (w2.alloc (.cells #[.int .i64 0, .nilFunc] 228)) = w3
    intro f0 f1 f2 f3 h3
    have H3 : Hid (An w0 bs bm st be S P W A y ws w3.drew) := h3
    clear h3
    go_wp2
    refine door_throw (V0 := w3.drew) 3 ⟨by decide, by decide⟩ hG (H3.out.dk.same (Below.refl _ _)) H3.out.low h0 (Array.getElem?_eq_some_iff.1 H3.out.res).1 hp H3.out.res (fun V' t ht => by simp [results, Tryz.results79, go_sem, ht])
end Go.Proofs.YthfpipieboophaaGreatDoor
