/- A tale: its engine is saved, and loaded: for every engine. -/
import Derived.Test.YtmmbjbgimpgcfaaGreatDoorTle
namespace Go.Proofs.YtmmbjbgimpgcfaaGreatDoor
open Go.RowKit Go.Sort
set_option maxRecDepth 100000

/-- A tale's engine is another one. -/
theorem TaleAt.other {w : World} {base bt : Nat} {ve : Value} {lo hi mode a0 a1 : Int} {va vb : Value} {bf nF : Nat} {A B : List Rw} {F : List O} (h : TaleAt w base bt ve lo hi mode a0 a1 va vb bf nF A B F) (u : Value) :
    TaleAt (w.setCell ⟨bt, 0, none⟩ u) base bt u lo hi mode a0 a1 va vb bf nF A B F := by
  have hs : ∀ k, k ≠ bt → (w.setCell ⟨bt, 0, none⟩ u).heap[k]? = w.heap[k]? := fun k e => Below.heap_setCell _ _ _ _ e
  obtain ⟨n, D, h1, h2, h3⟩ := h.fold
  exact ⟨Go.Joins.block_setCell h.blk _, own_still h.r0 (fun g e => hs g (fun e2 => own_ne48 h.r0 h.blk (by omega) (by rw [← e2]; exact e))), own_still h.r1 (fun g e => hs g (fun e2 => own_ne48 h.r1 h.blk (by omega) (by rw [← e2]; exact e))), h.apart, n, D, h1, own_map_kept h2 (hs bf h.nef), h3⟩

set_option maxHeartbeats 4000000 in
theorem does2_ok (Eng : (Nat → Prop) → World → Prop) (Eng' : Nat → (Nat → Prop) → World → Prop) (S : Nat → Prop) (txt : ByteArray) (base bt be bf nF : Nat) (lo hi mode a0 a1 : Int) (va vb : Value) (A B : List Rw) (F : List O) (xs xn xk xt xv : Int) (w : World)
    (hT : TaleAt w base bt (.pointer (some ⟨be, 0, none⟩)) lo hi mode a0 a1 va vb bf nF A B F)
    (hst : Steady Eng) (hst' : ∀ b, Steady (Eng' b)) (hE : Eng S w) (hS : ∀ k, S k → k < w.heap.size)
    (hSv : ∀ W, Eng S W → w.heap.size ≤ W.heap.size → Calls Tryz.prog 21 #[.pointer (some ⟨be, 0, none⟩)] W fun e w' => e = .returned (.tuple #[.string txt, .nilIface]) ∧ Below W.heap.size W w')
    (hLd : ∀ W, Calls Tryz.prog 29 #[.string txt] W fun e w' => ∃ be' S', e = .returned (.tuple #[.pointer (some ⟨be', 0, none⟩), .nilIface]) ∧ Eng' be' S' w' ∧ (∀ k, S' k → W.heap.size ≤ k ∧ k < w'.heap.size) ∧ Below W.heap.size W w') :
    Calls Tryz.prog 9 #[.pointer (some ⟨bt, 0, none⟩), .agg #[.int .i64 2, .int .i64 xs, .int .i64 xn, .int .i64 xk, .int .i64 xt, .int .i64 xv]] w fun e w' => e = .returned (.bool true) ∧ ∃ be' S', TaleAt w' base bt (.pointer (some ⟨be', 0, none⟩)) lo hi mode a0 a1 va vb bf nF A B F ∧ Eng' be' S' w' ∧
      (∀ k, S' k → w.heap.size ≤ k ∧ k < w'.heap.size) ∧ Turned (fun k => k = bt) w w' := by
  have p2 := pickN_lt xs 2 (by omega)
  have K : Hid ((IntKind.u64.wrap xs).tmod 2 = ((pickN xs 2 : Nat) : Int)) := p2.2.symm
  have hbl : Below w.heap.size w (w.alloc (stepB 2 xs xn xk xt xv)) := Go.Joins.below_alloc1 _ _
  have HT : Hid (TaleAt w base bt (.pointer (some ⟨be, 0, none⟩)) lo hi mode a0 a1 va vb bf nF A B F) := hT
  have HSv : Hid (Calls Tryz.prog 21 #[.pointer (some ⟨be, 0, none⟩)] (w.alloc (stepB 2 xs xn xk xt xv)) fun e w' => e = .returned (.tuple #[.string txt, .nilIface]) ∧ Below w.heap.size w w') :=
    (hSv _ (hst S w _ hE hbl.size (fun k hk => hbl.block k (hS k hk))) hbl.size).mono (by rintro e w' ⟨rfl, hb⟩; exact ⟨rfl, hbl.trans (hb.mono hbl.size)⟩)
  have HLd : Hid (∀ W, Below w.heap.size w W → Calls Tryz.prog 29 #[.string txt] W fun e w' => ∃ be', e = .returned (.tuple #[.pointer (some ⟨be', 0, none⟩), .nilIface]) ∧ (w'.cell? ⟨bt, 0, none⟩ = some (.pointer (some ⟨be, 0, none⟩)) ∧ w'.frozen? ⟨bt, 0, none⟩ = false) ∧ Hid (∃ S', TaleAt (w'.setCell ⟨bt, 0, none⟩ (.pointer (some ⟨be', 0, none⟩))) base bt (.pointer (some ⟨be', 0, none⟩)) lo hi mode a0 a1 va vb bf nF A B F ∧ Eng' be' S' (w'.setCell ⟨bt, 0, none⟩ (.pointer (some ⟨be', 0, none⟩))) ∧
      (∀ k, S' k → w.heap.size ≤ k ∧ k < (w'.setCell ⟨bt, 0, none⟩ (.pointer (some ⟨be', 0, none⟩))).heap.size) ∧ Turned (fun k => k = bt) w (w'.setCell ⟨bt, 0, none⟩ (.pointer (some ⟨be', 0, none⟩))))) := by
    intro W hW
    refine (hLd W).mono ?_
    rintro e w2 ⟨be', S', rfl, h1, h2, h3⟩
    have hb2 : Below w.heap.size w w2 := hW.trans (h3.mono hW.size)
    have hT2 := hT.below hb2
    have hlt := hT.lt
    have hws := hW.size
    refine ⟨be', rfl, ⟨by rw [Go.Joins.cell_of_block hT2.blk]; rfl, Go.Joins.unfrozen_of_block hT2.blk _⟩, S', hT2.other _, hst' be' S' w2 _ h1 (by simp) (fun k hk => Below.heap_setCell _ _ _ _ (by have := (h2 k hk).1; show k ≠ bt; omega)), fun k hk => ⟨by have := (h2 k hk).1; omega, by simp; exact (h2 k hk).2⟩, ?_⟩
    exact (Turned.of_below (S := fun k => k = bt) hb2).trans (turned_cell (b := bt)) (fun k _ e => e)
  have hce : (w.alloc (stepB 2 xs xn xk xt xv)).cell? ⟨bt, 0, none⟩ = some (.pointer (some ⟨be, 0, none⟩)) := by rw [Go.Joins.cell_of_block (hT.below hbl).blk]; rfl
  have hlt := hT.lt
  clear hT hSv hLd hS hst hst' hE hbl p2
  go_enter Tryz.func9, Tryz.ntmps9
  go_wp2_with (first
    | (go_at_call 13; refine (pick_int _ _ _ (by omega) (by omega)).mono ?_; rintro e w' ⟨rfl, rfl⟩; rw [K.out])
    | (go_at_call 21; refine (HSv.out).mono ?_; rintro e w1 ⟨rfl, hb1⟩; have HB1 : Hid (Below w.heap.size w w1) := hb1; clear hb1)
    | (go_at_call 29; refine (HLd.out _ HB1.out).mono ?_; rintro e w2 ⟨be', rfl, hc2, h2⟩)
    | fail)
  go_ret
  exact ⟨rfl, be', h2.out⟩

end Go.Proofs.YtmmbjbgimpgcfaaGreatDoor
