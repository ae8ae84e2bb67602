/- A tale: a mark that goes on; an engine that is saved, and loaded: for every engine. -/
import Derived.Test.YtmmbjbgimpgcfaaGreatDoorTld
namespace Go.Proofs.YtmmbjbgimpgcfaaGreatDoor
open Go.RowKit Go.Sort
set_option maxRecDepth 100000

abbrev stepB (wh xs xn xk xt xv : Int) : Obj := .cells #[.int .i64 wh, .int .i64 xs, .int .i64 xn, .int .i64 xk, .int .i64 xt, .int .i64 xv] 28

/-- A side's mark is stored. -/
theorem TaleAt.mark0 {w : World} {base bt : Nat} {ve : Value} {lo hi mode a0 a1 : Int} {va vb : Value} {bf nF : Nat} {A B : List Rw} {F : List O} (h : TaleAt w base bt ve lo hi mode a0 a1 va vb bf nF A B F) (t : Int) :
    TaleAt (w.setCell ⟨bt, 6, none⟩ (.int .i64 t)) base bt ve lo hi mode t a1 va vb bf nF A B F := by
  have hs : ∀ k, k ≠ bt → (w.setCell ⟨bt, 6, none⟩ (.int .i64 t)).heap[k]? = w.heap[k]? := fun k e => Below.heap_setCell _ _ _ _ e
  obtain ⟨n, D, h1, h2, h3⟩ := h.fold
  exact ⟨Go.Joins.block_setCell h.blk _, own_still h.r0 (fun g e => hs g (fun e2 => own_ne48 h.r0 h.blk (by omega) (by rw [← e2]; exact e))), own_still h.r1 (fun g e => hs g (fun e2 => own_ne48 h.r1 h.blk (by omega) (by rw [← e2]; exact e))), h.apart, n, D, h1, own_map_kept h2 (hs bf h.nef), h3⟩

set_option maxHeartbeats 4000000 in
theorem does1_0 (Eng Eng' : (Nat → Prop) → World → Prop) (S : Nat → Prop) (p : Int) (base bt be bf nF : Nat) (lo hi mode a0 a1 : Int) (va vb : Value) (A B : List Rw) (F : List O) (xs xn xk xt xv : Int) (w : World)
    (hT : TaleAt w base bt (.pointer (some ⟨be, 0, none⟩)) lo hi mode a0 a1 va vb bf nF A B F) (hs : pickN xs 2 = 0) (hp : p = pickN xn 60) (ha : -1000000 ≤ a0 ∧ a0 ≤ 1000000)
    (hst : Steady Eng) (hst' : Steady Eng') (hE : Eng S w) (hS : ∀ k, S k → k < w.heap.size ∧ k ≠ bt ∧ k ≠ bf ∧ va.ownBlock ≠ some k ∧ vb.ownBlock ≠ some k)
    (hF : ∀ W, Eng S W → w.heap.size ≤ W.heap.size → Calls Tryz.prog 20 #[.pointer (some ⟨be, 0, none⟩), .int .i64 0, .int .i64 (a0 + p)] W fun e w' => ∃ S', e = .returned .nilIface ∧ Eng' S' w' ∧ (∀ k, S' k → (S k ∨ W.heap.size ≤ k) ∧ k < w'.heap.size) ∧ Turned S W w') :
    Calls Tryz.prog 9 #[.pointer (some ⟨bt, 0, none⟩), .agg #[.int .i64 1, .int .i64 xs, .int .i64 xn, .int .i64 xk, .int .i64 xt, .int .i64 xv]] w fun e w' => e = .returned (.bool true) ∧ ∃ S', TaleAt w' base bt (.pointer (some ⟨be, 0, none⟩)) lo hi mode (a0 + p) a1 va vb bf nF A B F ∧ Eng' S' w' ∧
      (∀ k, S' k → (S k ∨ w.heap.size ≤ k) ∧ k < w'.heap.size ∧ k ≠ bt ∧ k ≠ bf ∧ va.ownBlock ≠ some k ∧ vb.ownBlock ≠ some k) ∧ Turned (fun k => S k ∨ k = bt) w w' := by
  have p1 : (IntKind.u64.wrap xs).tmod 2 = 0 := by have := (pickN_lt xs 2 (by omega)).2; rw [hs] at this; exact this.symm
  have p2 := pickN_lt xn 60 (by omega)
  have k60 : (IntKind.u64.wrap xn).tmod 60 = p := by rw [hp]; exact p2.2.symm
  have hp0 : 0 ≤ p ∧ p < 60 := by omega
  have K : Hid ((IntKind.u64.wrap xs).tmod 2 = 0 ∧ (IntKind.u64.wrap xn).tmod 60 = p) := ⟨p1, k60⟩
  have e1 : IntKind.i64.wrap (a0 + p) = a0 + p := wr64 (by omega) (by omega)
  have HT : Hid (TaleAt w base bt (.pointer (some ⟨be, 0, none⟩)) lo hi mode a0 a1 va vb bf nF A B F) := hT
  have hlt := hT.lt
  have HO : Hid (Steady Eng ∧ Steady Eng' ∧ Eng S w) := ⟨hst, hst', hE⟩
  have hbl : Below w.heap.size w (w.alloc (stepB 1 xs xn xk xt xv)).drew := (Go.Joins.below_alloc1 _ _).drew
  have HF : Hid (Calls Tryz.prog 20 #[.pointer (some ⟨be, 0, none⟩), .int .i64 0, .int .i64 (a0 + p)] (w.alloc (stepB 1 xs xn xk xt xv)).drew fun e w' => e = .returned .nilIface ∧ (w'.cell? ⟨bt, 6, none⟩ = some (.int .i64 a0) ∧ w'.frozen? ⟨bt, 6, none⟩ = false) ∧ Hid (∃ S', TaleAt (w'.setCell ⟨bt, 6, none⟩ (.int .i64 (a0 + p))) base bt (.pointer (some ⟨be, 0, none⟩)) lo hi mode (a0 + p) a1 va vb bf nF A B F ∧ Eng' S' (w'.setCell ⟨bt, 6, none⟩ (.int .i64 (a0 + p))) ∧
      (∀ k, S' k → (S k ∨ w.heap.size ≤ k) ∧ k < (w'.setCell ⟨bt, 6, none⟩ (.int .i64 (a0 + p))).heap.size ∧ k ≠ bt ∧ k ≠ bf ∧ va.ownBlock ≠ some k ∧ vb.ownBlock ≠ some k) ∧ Turned (fun k => S k ∨ k = bt) w (w'.setCell ⟨bt, 6, none⟩ (.int .i64 (a0 + p))))) := by
    refine (hF _ (hst S w _ hE hbl.size (fun k hk => hbl.block k (hS k hk).1)) hbl.size).mono ?_
    rintro e w2 ⟨S', rfl, h1, h2, h3⟩
    have hT2 : TaleAt w2 base bt (.pointer (some ⟨be, 0, none⟩)) lo hi mode a0 a1 va vb bf nF A B F := (hT.below hbl).kept (fun k hk hor => h3.block k hk (fun e => by
      have h5 := hS k e
      rcases hor with h6 | h6 | h6 | h6
      · exact h5.2.1 h6
      · exact h5.2.2.1 h6
      · exact h5.2.2.2.1 h6
      · exact h5.2.2.2.2 h6))
    have hsz : w.heap.size < (w.alloc (stepB 1 xs xn xk xt xv)).drew.heap.size := by
      have := World.size_alloc w (stepB 1 xs xn xk xt xv)
      show w.heap.size < (w.alloc (stepB 1 xs xn xk xt xv)).heap.size
      omega
    have hS' : ∀ k, S' k → (S k ∨ w.heap.size ≤ k) ∧ k < w2.heap.size ∧ k ≠ bt ∧ k ≠ bf ∧ va.ownBlock ≠ some k ∧ vb.ownBlock ≠ some k := fun k hk => by
      obtain ⟨g1, g2⟩ := h2 k hk
      rcases g1 with g1 | g1
      · exact ⟨Or.inl g1, g2, (hS k g1).2⟩
      · have a1 := hT.ltf
        have a2 := hT.lt
        exact ⟨Or.inr (by omega), g2, by omega, by omega, fun e => by have := (hT.r0.lt k e).2; omega, fun e => by have := (hT.r1.lt k e).2; omega⟩
    refine ⟨rfl, ⟨by rw [Go.Joins.cell_of_block hT2.blk]; rfl, Go.Joins.unfrozen_of_block hT2.blk _⟩, S', hT2.mark0 _, hst' S' w2 _ h1 (by simp) (fun k hk => Below.heap_setCell _ _ _ _ (hS' k hk).2.2.1), fun k hk => ⟨(hS' k hk).1, by simp; exact (hS' k hk).2.1, (hS' k hk).2.2⟩, ?_⟩
    exact (((Turned.of_below (S := fun k => S k ∨ k = bt) hbl).trans (h3.mono (S' := fun k => S k ∨ k = bt) (fun k e => Or.inl e)) (fun _ _ e => e)).trans (turned_cell (b := bt)) (fun k _ e => Or.inr e))
  have hx2 : (w.alloc (stepB 1 xs xn xk xt xv)).cell? ⟨w.heap.size, 2, none⟩ = some (.int .i64 xn) := by rw [Go.Joins.cell_of_block (heap_alloc_new _ _)]; rfl
  have hca : (w.alloc (stepB 1 xs xn xk xt xv)).cell? ⟨bt, 6, none⟩ = some (.int .i64 a0) := by rw [Go.Joins.cell_of_block (hT.below (Go.Joins.below_alloc1 w (stepB 1 xs xn xk xt xv))).blk]; rfl
  have hce : (w.alloc (stepB 1 xs xn xk xt xv)).cell? ⟨bt, 0, none⟩ = some (.pointer (some ⟨be, 0, none⟩)) := by rw [Go.Joins.cell_of_block (hT.below (Go.Joins.below_alloc1 w (stepB 1 xs xn xk xt xv))).blk]; rfl
  clear hT hF hS hst hst' hE p1 p2 k60 hp hs hbl
  go_enter Tryz.func9, Tryz.ntmps9
  go_wp2_with (first
    | (go_at_call 13; refine (pick_int _ _ _ (by omega) (by omega)).mono ?_; rintro e w' ⟨rfl, rfl⟩; rw [K.out.1])
    | fail)
  go_region_held3 (fun W => W.cell? ⟨w.heap.size, 2, none⟩ = some (.int .i64 xn) ∧ W.cell? ⟨bt, 6, none⟩ = some (.int .i64 a0)) (first | (go_keep; done) | fail) (first
    | (go_at_call 13; refine (pick_int _ _ _ (by omega) (by omega)).mono ?_; rintro e w' ⟨rfl, rfl⟩; rw [K.out.2])
    | fail)
  go_wp2_with (first
    | (go_at_call 20; refine (HF.out).mono ?_; rintro e w2 ⟨rfl, hc2, h2⟩)
    | fail)
  go_ret
  exact ⟨rfl, h2.out⟩

/-- A side's mark is stored. -/
theorem TaleAt.mark1 {w : World} {base bt : Nat} {ve : Value} {lo hi mode a0 a1 : Int} {va vb : Value} {bf nF : Nat} {A B : List Rw} {F : List O} (h : TaleAt w base bt ve lo hi mode a0 a1 va vb bf nF A B F) (t : Int) :
    TaleAt (w.setCell ⟨bt, 7, none⟩ (.int .i64 t)) base bt ve lo hi mode a0 t va vb bf nF A B F := by
  have hs : ∀ k, k ≠ bt → (w.setCell ⟨bt, 7, none⟩ (.int .i64 t)).heap[k]? = w.heap[k]? := fun k e => Below.heap_setCell _ _ _ _ e
  obtain ⟨n, D, h1, h2, h3⟩ := h.fold
  exact ⟨Go.Joins.block_setCell h.blk _, own_still h.r0 (fun g e => hs g (fun e2 => own_ne48 h.r0 h.blk (by omega) (by rw [← e2]; exact e))), own_still h.r1 (fun g e => hs g (fun e2 => own_ne48 h.r1 h.blk (by omega) (by rw [← e2]; exact e))), h.apart, n, D, h1, own_map_kept h2 (hs bf h.nef), h3⟩

set_option maxHeartbeats 4000000 in
theorem does1_1 (Eng Eng' : (Nat → Prop) → World → Prop) (S : Nat → Prop) (p : Int) (base bt be bf nF : Nat) (lo hi mode a0 a1 : Int) (va vb : Value) (A B : List Rw) (F : List O) (xs xn xk xt xv : Int) (w : World)
    (hT : TaleAt w base bt (.pointer (some ⟨be, 0, none⟩)) lo hi mode a0 a1 va vb bf nF A B F) (hs : pickN xs 2 = 1) (hp : p = pickN xn 60) (ha : -1000000 ≤ a1 ∧ a1 ≤ 1000000)
    (hst : Steady Eng) (hst' : Steady Eng') (hE : Eng S w) (hS : ∀ k, S k → k < w.heap.size ∧ k ≠ bt ∧ k ≠ bf ∧ va.ownBlock ≠ some k ∧ vb.ownBlock ≠ some k)
    (hF : ∀ W, Eng S W → w.heap.size ≤ W.heap.size → Calls Tryz.prog 20 #[.pointer (some ⟨be, 0, none⟩), .int .i64 1, .int .i64 (a1 + p)] W fun e w' => ∃ S', e = .returned .nilIface ∧ Eng' S' w' ∧ (∀ k, S' k → (S k ∨ W.heap.size ≤ k) ∧ k < w'.heap.size) ∧ Turned S W w') :
    Calls Tryz.prog 9 #[.pointer (some ⟨bt, 0, none⟩), .agg #[.int .i64 1, .int .i64 xs, .int .i64 xn, .int .i64 xk, .int .i64 xt, .int .i64 xv]] w fun e w' => e = .returned (.bool true) ∧ ∃ S', TaleAt w' base bt (.pointer (some ⟨be, 0, none⟩)) lo hi mode a0 (a1 + p) va vb bf nF A B F ∧ Eng' S' w' ∧
      (∀ k, S' k → (S k ∨ w.heap.size ≤ k) ∧ k < w'.heap.size ∧ k ≠ bt ∧ k ≠ bf ∧ va.ownBlock ≠ some k ∧ vb.ownBlock ≠ some k) ∧ Turned (fun k => S k ∨ k = bt) w w' := by
  have p1 : (IntKind.u64.wrap xs).tmod 2 = 1 := by have := (pickN_lt xs 2 (by omega)).2; rw [hs] at this; exact this.symm
  have p2 := pickN_lt xn 60 (by omega)
  have k60 : (IntKind.u64.wrap xn).tmod 60 = p := by rw [hp]; exact p2.2.symm
  have hp0 : 0 ≤ p ∧ p < 60 := by omega
  have K : Hid ((IntKind.u64.wrap xs).tmod 2 = 1 ∧ (IntKind.u64.wrap xn).tmod 60 = p) := ⟨p1, k60⟩
  have e1 : IntKind.i64.wrap (a1 + p) = a1 + p := wr64 (by omega) (by omega)
  have HT : Hid (TaleAt w base bt (.pointer (some ⟨be, 0, none⟩)) lo hi mode a0 a1 va vb bf nF A B F) := hT
  have hlt := hT.lt
  have HO : Hid (Steady Eng ∧ Steady Eng' ∧ Eng S w) := ⟨hst, hst', hE⟩
  have hbl : Below w.heap.size w (w.alloc (stepB 1 xs xn xk xt xv)).drew := (Go.Joins.below_alloc1 _ _).drew
  have HF : Hid (Calls Tryz.prog 20 #[.pointer (some ⟨be, 0, none⟩), .int .i64 1, .int .i64 (a1 + p)] (w.alloc (stepB 1 xs xn xk xt xv)).drew fun e w' => e = .returned .nilIface ∧ (w'.cell? ⟨bt, 7, none⟩ = some (.int .i64 a1) ∧ w'.frozen? ⟨bt, 7, none⟩ = false) ∧ Hid (∃ S', TaleAt (w'.setCell ⟨bt, 7, none⟩ (.int .i64 (a1 + p))) base bt (.pointer (some ⟨be, 0, none⟩)) lo hi mode a0 (a1 + p) va vb bf nF A B F ∧ Eng' S' (w'.setCell ⟨bt, 7, none⟩ (.int .i64 (a1 + p))) ∧
      (∀ k, S' k → (S k ∨ w.heap.size ≤ k) ∧ k < (w'.setCell ⟨bt, 7, none⟩ (.int .i64 (a1 + p))).heap.size ∧ k ≠ bt ∧ k ≠ bf ∧ va.ownBlock ≠ some k ∧ vb.ownBlock ≠ some k) ∧ Turned (fun k => S k ∨ k = bt) w (w'.setCell ⟨bt, 7, none⟩ (.int .i64 (a1 + p))))) := by
    refine (hF _ (hst S w _ hE hbl.size (fun k hk => hbl.block k (hS k hk).1)) hbl.size).mono ?_
    rintro e w2 ⟨S', rfl, h1, h2, h3⟩
    have hT2 : TaleAt w2 base bt (.pointer (some ⟨be, 0, none⟩)) lo hi mode a0 a1 va vb bf nF A B F := (hT.below hbl).kept (fun k hk hor => h3.block k hk (fun e => by
      have h5 := hS k e
      rcases hor with h6 | h6 | h6 | h6
      · exact h5.2.1 h6
      · exact h5.2.2.1 h6
      · exact h5.2.2.2.1 h6
      · exact h5.2.2.2.2 h6))
    have hsz : w.heap.size < (w.alloc (stepB 1 xs xn xk xt xv)).drew.heap.size := by
      have := World.size_alloc w (stepB 1 xs xn xk xt xv)
      show w.heap.size < (w.alloc (stepB 1 xs xn xk xt xv)).heap.size
      omega
    have hS' : ∀ k, S' k → (S k ∨ w.heap.size ≤ k) ∧ k < w2.heap.size ∧ k ≠ bt ∧ k ≠ bf ∧ va.ownBlock ≠ some k ∧ vb.ownBlock ≠ some k := fun k hk => by
      obtain ⟨g1, g2⟩ := h2 k hk
      rcases g1 with g1 | g1
      · exact ⟨Or.inl g1, g2, (hS k g1).2⟩
      · have a1 := hT.ltf
        have a2 := hT.lt
        exact ⟨Or.inr (by omega), g2, by omega, by omega, fun e => by have := (hT.r0.lt k e).2; omega, fun e => by have := (hT.r1.lt k e).2; omega⟩
    refine ⟨rfl, ⟨by rw [Go.Joins.cell_of_block hT2.blk]; rfl, Go.Joins.unfrozen_of_block hT2.blk _⟩, S', hT2.mark1 _, hst' S' w2 _ h1 (by simp) (fun k hk => Below.heap_setCell _ _ _ _ (hS' k hk).2.2.1), fun k hk => ⟨(hS' k hk).1, by simp; exact (hS' k hk).2.1, (hS' k hk).2.2⟩, ?_⟩
    exact (((Turned.of_below (S := fun k => S k ∨ k = bt) hbl).trans (h3.mono (S' := fun k => S k ∨ k = bt) (fun k e => Or.inl e)) (fun _ _ e => e)).trans (turned_cell (b := bt)) (fun k _ e => Or.inr e))
  have hx2 : (w.alloc (stepB 1 xs xn xk xt xv)).cell? ⟨w.heap.size, 2, none⟩ = some (.int .i64 xn) := by rw [Go.Joins.cell_of_block (heap_alloc_new _ _)]; rfl
  have hca : (w.alloc (stepB 1 xs xn xk xt xv)).cell? ⟨bt, 7, none⟩ = some (.int .i64 a1) := by rw [Go.Joins.cell_of_block (hT.below (Go.Joins.below_alloc1 w (stepB 1 xs xn xk xt xv))).blk]; rfl
  have hce : (w.alloc (stepB 1 xs xn xk xt xv)).cell? ⟨bt, 0, none⟩ = some (.pointer (some ⟨be, 0, none⟩)) := by rw [Go.Joins.cell_of_block (hT.below (Go.Joins.below_alloc1 w (stepB 1 xs xn xk xt xv))).blk]; rfl
  clear hT hF hS hst hst' hE p1 p2 k60 hp hs hbl
  go_enter Tryz.func9, Tryz.ntmps9
  go_wp2_with (first
    | (go_at_call 13; refine (pick_int _ _ _ (by omega) (by omega)).mono ?_; rintro e w' ⟨rfl, rfl⟩; rw [K.out.1])
    | fail)
  go_region_held3 (fun W => W.cell? ⟨w.heap.size, 2, none⟩ = some (.int .i64 xn) ∧ W.cell? ⟨bt, 7, none⟩ = some (.int .i64 a1)) (first | (go_keep; done) | fail) (first
    | (go_at_call 13; refine (pick_int _ _ _ (by omega) (by omega)).mono ?_; rintro e w' ⟨rfl, rfl⟩; rw [K.out.2])
    | fail)
  go_wp2_with (first
    | (go_at_call 20; refine (HF.out).mono ?_; rintro e w2 ⟨rfl, hc2, h2⟩)
    | fail)
  go_ret
  exact ⟨rfl, h2.out⟩

end Go.Proofs.YtmmbjbgimpgcfaaGreatDoor
