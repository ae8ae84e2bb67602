/- A tale: what a row does, where it is taken. -/
import Derived.Test.YtmmbjbgimpgcfaaGreatDoorTlz
namespace Go.Proofs.YtmmbjbgimpgcfaaGreatDoor
open Go.RowKit Go.Sort
set_option maxRecDepth 100000

theorem pick_int (a m : Int) (w : World) (hm : 0 < m) (h1 : m ≤ 1000) : Calls Tryz.prog 13 #[.int .i64 a, .int .i64 m] w fun e w' => e = .returned (.int .i64 ((IntKind.u64.wrap a).tmod m)) ∧ w' = w := by
  obtain ⟨n, rfl⟩ : ∃ n : Nat, m = n := ⟨m.toNat, by omega⟩
  have h := pick_any a n w (by omega) (by omega)
  rw [(pickN_lt a n (by omega)).2] at h
  exact h

theorem slice_form62 {w : World} {base n e size : Nat} {v : Value} {xs : List Value} (h : w.ownsRow base e size v n xs) : ∃ oa c, v = .slice oa n c := by
  rcases h.2 with ⟨rfl, h0⟩ | ⟨g, cap, cur, rfl, _⟩
  · exact ⟨none, 0, by rw [h0]⟩
  · exact ⟨_, _, rfl⟩

def loadTale : Op := .load 33 (.tmp 59)
abbrev rwB (r : Rw) : Obj := .cells #[.int .i64 r.k, .int .i64 r.t, .int .i64 r.v] 48
theorem rw_cells {W : World} {B : Nat} {r : Rw} (h : W.heap[B]? = some (rwB r)) : W.cell? ⟨B, 0, none⟩ = some (.int .i64 r.k) ∧ W.cell? ⟨B, 1, none⟩ = some (.int .i64 r.t) ∧ W.cell? ⟨B, 2, none⟩ = some (.int .i64 r.v) := by
  refine ⟨?_, ?_, ?_⟩ <;> (rw [Go.Joins.cell_of_block h]; rfl)

/-- A row is taken: its side's slice is stored anew. -/
theorem TaleAt.took0 {w W w3 : World} {base bt : Nat} {ve : Value} {lo hi mode a0 a1 : Int} {va vb v' : Value} {bf nF : Nat} {A B : List Rw} {F : List O} {r : Rw} (h : TaleAt w base bt ve lo hi mode a0 a1 va vb bf nF A B F) (hb : Below w.heap.size w W)
    (hown : w3.ownsRow base 48 3 v' (A.length + 1) (A.flatMap encRw ++ encRw r)) (hg : W.grownBy w3 va.ownBlock) (hat : v'.ownBlock = va.ownBlock ∨ ∃ g, v'.ownBlock = some g ∧ w.heap.size ≤ g) :
    TaleAt (w3.setCell ⟨bt, 4, none⟩ v') base bt ve lo hi mode a0 a1 v' vb bf nF (A ++ [r]) B F ∧ (w3.cell? ⟨bt, 4, none⟩ = some va ∧ w3.frozen? ⟨bt, 4, none⟩ = false) := by
  have hk : ∀ k, k < w.heap.size → va.ownBlock ≠ some k → w3.heap[k]? = w.heap[k]? := fun k hk hne => (hg.block k (Nat.lt_of_lt_of_le hk hb.size) (fun e => hne e.symm)).trans (hb.block k hk)
  have hbt : w3.heap[bt]? = some (.cells #[ve, .int .i64 lo, .int .i64 hi, .int .i64 mode, va, vb, .int .i64 a0, .int .i64 a1, .map (some bf)] 38) := (hk bt h.lt (own_ne48 h.r0 h.blk (by omega))).trans h.blk
  have hne : v'.ownBlock ≠ some bt := own_ne48 hown hbt (by omega)
  obtain ⟨n, D, h1, h2, h3⟩ := h.fold
  have hs : ∀ k, k ≠ bt → (w3.setCell ⟨bt, 4, none⟩ v').heap[k]? = w3.heap[k]? := fun k e => Below.heap_setCell _ _ _ _ e
  have hot : ∀ g, vb.ownBlock = some g → va.ownBlock ≠ some g := fun g e e2 => h.apart g e2 e
  have hro : (w3.setCell ⟨bt, 4, none⟩ v').ownsRow base 48 3 vb B.length (B.flatMap encRw) := own_still h.r1 (fun g e => (hs g (fun e2 => own_ne48 h.r1 h.blk (by omega) (by rw [← e2]; exact e))).trans (hk g (h.r1.lt g e).2 (hot g e)))
  have hrs : (w3.setCell ⟨bt, 4, none⟩ v').ownsRow base 48 3 v' (A ++ [r]).length ((A ++ [r]).flatMap encRw) := by
    refine own_still (w := w3) ?_ (fun g e => hs g (fun e2 => hne (by rw [← e2]; exact e)))
    rw [List.length_append, List.flatMap_append]
    simpa using hown
  refine ⟨⟨Go.Joins.block_setCell hbt v', hrs, hro, ?_, n, D, h1, own_map_kept h2 ((hs bf h.nef).trans (hk bf h.ltf (own_ne_map h.r0 h2))), h3⟩, ?_, Go.Joins.unfrozen_of_block hbt _⟩
  · intro g e1 e2
    rcases hat with hat | ⟨g', hat, hl⟩
    · rw [hat] at e1
      exact h.apart g e1 e2
    · rw [hat] at e1
      cases e1
      have := (h.r1.lt _ e2).2
      omega
  · rw [Go.Joins.cell_of_block hbt]; rfl

/-- A row is taken: its side's slice is stored anew. -/
theorem TaleAt.took1 {w W w3 : World} {base bt : Nat} {ve : Value} {lo hi mode a0 a1 : Int} {va vb v' : Value} {bf nF : Nat} {A B : List Rw} {F : List O} {r : Rw} (h : TaleAt w base bt ve lo hi mode a0 a1 va vb bf nF A B F) (hb : Below w.heap.size w W)
    (hown : w3.ownsRow base 48 3 v' (B.length + 1) (B.flatMap encRw ++ encRw r)) (hg : W.grownBy w3 vb.ownBlock) (hat : v'.ownBlock = vb.ownBlock ∨ ∃ g, v'.ownBlock = some g ∧ w.heap.size ≤ g) :
    TaleAt (w3.setCell ⟨bt, 5, none⟩ v') base bt ve lo hi mode a0 a1 va v' bf nF A (B ++ [r]) F ∧ (w3.cell? ⟨bt, 5, none⟩ = some vb ∧ w3.frozen? ⟨bt, 5, none⟩ = false) := by
  have hk : ∀ k, k < w.heap.size → vb.ownBlock ≠ some k → w3.heap[k]? = w.heap[k]? := fun k hk hne => (hg.block k (Nat.lt_of_lt_of_le hk hb.size) (fun e => hne e.symm)).trans (hb.block k hk)
  have hbt : w3.heap[bt]? = some (.cells #[ve, .int .i64 lo, .int .i64 hi, .int .i64 mode, va, vb, .int .i64 a0, .int .i64 a1, .map (some bf)] 38) := (hk bt h.lt (own_ne48 h.r1 h.blk (by omega))).trans h.blk
  have hne : v'.ownBlock ≠ some bt := own_ne48 hown hbt (by omega)
  obtain ⟨n, D, h1, h2, h3⟩ := h.fold
  have hs : ∀ k, k ≠ bt → (w3.setCell ⟨bt, 5, none⟩ v').heap[k]? = w3.heap[k]? := fun k e => Below.heap_setCell _ _ _ _ e
  have hot : ∀ g, va.ownBlock = some g → vb.ownBlock ≠ some g := fun g e e2 => h.apart g e e2
  have hro : (w3.setCell ⟨bt, 5, none⟩ v').ownsRow base 48 3 va A.length (A.flatMap encRw) := own_still h.r0 (fun g e => (hs g (fun e2 => own_ne48 h.r0 h.blk (by omega) (by rw [← e2]; exact e))).trans (hk g (h.r0.lt g e).2 (hot g e)))
  have hrs : (w3.setCell ⟨bt, 5, none⟩ v').ownsRow base 48 3 v' (B ++ [r]).length ((B ++ [r]).flatMap encRw) := by
    refine own_still (w := w3) ?_ (fun g e => hs g (fun e2 => hne (by rw [← e2]; exact e)))
    rw [List.length_append, List.flatMap_append]
    simpa using hown
  refine ⟨⟨Go.Joins.block_setCell hbt v', hro, hrs, ?_, n, D, h1, own_map_kept h2 ((hs bf h.nef).trans (hk bf h.ltf (own_ne_map h.r1 h2))), h3⟩, ?_, Go.Joins.unfrozen_of_block hbt _⟩
  · intro g e1 e2
    rcases hat with hat | ⟨g', hat, hl⟩
    · rw [hat] at e2
      exact h.apart g e1 e2
    · rw [hat] at e2
      cases e2
      have := (h.r0.lt _ e1).2
      omega
  · rw [Go.Joins.cell_of_block hbt]; rfl

set_option maxHeartbeats 8000000 in
theorem does0_0 (Eng Eng' : (Nat → Prop) → World → Prop) (S : Nat → Prop) (C : List Ch) (r : Rw) (base bt be bf nF : Nat) (lo hi mode a0 a1 : Int) (va vb : Value) (A B : List Rw) (F : List O) (xs xn xk xt xv : Int) (w : World)
    (hT : TaleAt w base bt (.pointer (some ⟨be, 0, none⟩)) lo hi mode a0 a1 va vb bf nF A B F) (hbase : base ≤ w.heap.size) (hs : pickN xs 2 = 0) (hr : r = ⟨pickN xk 4, (pickN xt 200 : Int) - 100, pickN xv 50⟩)
    (hst : Steady Eng) (hst' : Steady Eng') (hE : Eng S w) (hS : ∀ k, S k → k < w.heap.size ∧ k ≠ bt ∧ k ≠ bf ∧ va.ownBlock ≠ some k ∧ vb.ownBlock ≠ some k)
    (hF : ∀ W, Eng S W → w.heap.size ≤ W.heap.size → Calls Tryz.prog 25 #[.pointer (some ⟨be, 0, none⟩), .int .i64 0, .agg #[.int .i64 r.k, .int .i64 r.t, .int .i64 r.v]] W fun e w' => ∃ v9 S', e = .returned (.tuple #[v9, .nilIface]) ∧ w'.ownsRow W.heap.size 66 10 v9 C.length (C.flatMap encC) ∧ Eng' S' w' ∧ (∀ k, S' k → (S k ∨ W.heap.size ≤ k) ∧ k < w'.heap.size) ∧ Turned S W w')
    (hok : okC F C) (hwf : ∀ c ∈ C, c.x.wf) (hFl : F.length ≤ 1000000) (hnF : nF ≤ 1000000) (hCl : C.length ≤ 1000000) (hAl : A.length ≤ 1000000) :
    Calls Tryz.prog 9 #[.pointer (some ⟨bt, 0, none⟩), .agg #[.int .i64 0, .int .i64 xs, .int .i64 xn, .int .i64 xk, .int .i64 xt, .int .i64 xv]] w fun e w' => e = .returned (.bool true) ∧ ∃ v' S', TaleAt w' base bt (.pointer (some ⟨be, 0, none⟩)) lo hi mode a0 a1 v' vb bf (nF + C.length) (A ++ [r]) B (appC F C) ∧ Eng' S' w' ∧
      (∀ k, S' k → (S k ∨ w.heap.size ≤ k) ∧ k < w'.heap.size ∧ k ≠ bt ∧ k ≠ bf ∧ v'.ownBlock ≠ some k ∧ vb.ownBlock ≠ some k) ∧ Turned (fun k => S k ∨ k = bt ∨ k = bf ∨ va.ownBlock = some k) w w' ∧ Fresh w va v' := by
  obtain ⟨i0, hi0, hz0, hz1, hz2⟩ := info_parts infoRw
  have p1 : (IntKind.u64.wrap xs).tmod 2 = 0 := by have := (pickN_lt xs 2 (by omega)).2; rw [hs] at this; exact this.symm
  have p2 := (pickN_lt xk 4 (by omega))
  have p3 := (pickN_lt xt 200 (by omega))
  have p4 := (pickN_lt xv 50 (by omega))
  obtain ⟨rk, rt, rv⟩ := r
  simp only [Rw.mk.injEq] at hr
  obtain ⟨hrk, hrt, hrv⟩ := hr
  have k4 : (IntKind.u64.wrap xk).tmod 4 = rk := by rw [hrk]; exact p2.2.symm
  have k50 : (IntKind.u64.wrap xv).tmod 50 = rv := by rw [hrv]; exact p4.2.symm
  have k200 : (IntKind.u64.wrap xt).tmod 200 = rt + 100 := by have h : (IntKind.u64.wrap xt).tmod 200 = ((pickN xt 200 : Nat) : Int) := p3.2.symm; omega
  have t1 : -100 ≤ rt := by omega
  have t2 : rt ≤ 99 := by omega
  have e1 : IntKind.i64.wrap (rt + 100 - 100) = rt := by rw [show rt + 100 - 100 = rt by omega]; exact wr64 (by omega) (by omega)
  have e2 : rt + 100 - 100 = rt := by omega
  have e3 : IntKind.i64.wrap rt = rt := wr64 (by omega) (by omega)
  have K4 : Hid ((IntKind.u64.wrap xk).tmod 4 = rk ∧ (IntKind.u64.wrap xt).tmod 200 = rt + 100 ∧ (IntKind.u64.wrap xv).tmod 50 = rv ∧ (IntKind.u64.wrap xs).tmod 2 = 0) := ⟨k4, k200, k50, p1⟩
  clear k4 k200 k50 p1 p2 p3 p4
  have HT : Hid (TaleAt w base bt (.pointer (some ⟨be, 0, none⟩)) lo hi mode a0 a1 va vb bf nF A B F) := hT
  have HF : Hid (∀ W, Eng S W → w.heap.size ≤ W.heap.size → Calls Tryz.prog 25 #[.pointer (some ⟨be, 0, none⟩), .int .i64 0, .agg #[.int .i64 rk, .int .i64 rt, .int .i64 rv]] W fun e w' => ∃ v9 S', e = .returned (.tuple #[v9, .nilIface]) ∧ w'.ownsRow W.heap.size 66 10 v9 C.length (C.flatMap encC) ∧ Eng' S' w' ∧ (∀ k, S' k → (S k ∨ W.heap.size ≤ k) ∧ k < w'.heap.size) ∧ Turned S W w') := hF
  have HS : Hid (∀ k, S k → k < w.heap.size ∧ k ≠ bt ∧ k ≠ bf ∧ va.ownBlock ≠ some k ∧ vb.ownBlock ≠ some k) := hS
  have HO : Hid (okC F C ∧ (∀ c ∈ C, c.x.wf) ∧ Steady Eng' ∧ Steady Eng ∧ Eng S w) := ⟨hok, hwf, hst', hst, hE⟩
  have hlt := hT.lt
  clear hT hF hS hok hwf hst hst' hE hrk hrt hrv hs
  go_enter Tryz.func9, Tryz.ntmps9
  go_wp2_with (first
    | (go_at_call 13; refine (pick_int _ _ _ (by omega) (by omega)).mono ?_; rintro e w' ⟨rfl, rfl⟩; rw [K4.out.2.2.2])
    | fail)
  have hx1 : (w.alloc (.cells #[.int .i64 0, .int .i64 xs, .int .i64 xn, .int .i64 xk, .int .i64 xt, .int .i64 xv] 28)).cell? ⟨w.heap.size, 3, none⟩ = some (.int .i64 xk) ∧ (w.alloc (.cells #[.int .i64 0, .int .i64 xs, .int .i64 xn, .int .i64 xk, .int .i64 xt, .int .i64 xv] 28)).cell? ⟨w.heap.size, 4, none⟩ = some (.int .i64 xt) ∧ (w.alloc (.cells #[.int .i64 0, .int .i64 xs, .int .i64 xn, .int .i64 xk, .int .i64 xt, .int .i64 xv] 28)).cell? ⟨w.heap.size, 5, none⟩ = some (.int .i64 xv) := by
    refine ⟨?_, ?_, ?_⟩ <;> (rw [Go.Joins.cell_of_block (heap_alloc_new _ _)]; rfl)
  refine Code.wp_mono (Q := fun e a W => e = Exit.normal ∧ a = ({ tmps := #[Value.pointer (some { block := bt, off := 0 }), Value.agg #[Value.int IntKind.i64 0, Value.int IntKind.i64 xs, Value.int IntKind.i64 xn, Value.int IntKind.i64 xk, Value.int IntKind.i64 xt, Value.int IntKind.i64 xv], undef, Value.pointer (some { block := w.heap.size, off := 0 }), Value.bool false, Value.int IntKind.i64 0, Value.pointer (some { block := w.heap.size + 1, off := 0 }), undef, undef, undef, undef, undef, undef, undef, undef, Value.pointer (some { block := w.heap.size, off := 1 }), Value.int IntKind.i64 xs, Value.int IntKind.i64 0, Value.pointer (some { block := w.heap.size, off := 0 }), Value.int IntKind.i64 0, Value.bool true, Value.bool true, Value.pointer (some { block := w.heap.size, off := 3 }), Value.int IntKind.i64 xk, Value.int IntKind.i64 rk, Value.pointer (some { block := w.heap.size, off := 4 }), Value.int IntKind.i64 xt, Value.int IntKind.i64 (rt + 100), Value.int IntKind.i64 rt, Value.pointer (some { block := w.heap.size, off := 5 }), Value.int IntKind.i64 xv, Value.int IntKind.i64 rv, Value.agg #[Value.int IntKind.i64 rk, Value.int IntKind.i64 rt, Value.int IntKind.i64 rv], undef, undef, undef, undef, undef, undef, undef, undef, undef, undef, undef, undef, undef, undef, undef, undef, undef, undef, undef, undef, undef, undef, undef, undef, undef, undef, undef, undef, undef, undef, undef, undef, undef, undef, undef, undef, undef, undef, undef, undef, undef, undef, undef, undef, undef, undef, undef, undef, undef, undef, undef, undef, undef, undef, undef, undef, undef, undef, undef, undef, undef, undef, undef, undef, undef, undef, undef, undef, undef, undef, undef, undef, undef, undef, undef, undef, undef, undef, undef, undef, undef, undef, undef, undef, undef, undef, undef, undef, undef, undef, undef, undef, undef, undef, undef, undef, undef, undef, undef, undef, undef, undef, undef, undef, undef, undef, undef, undef, undef, undef, undef, undef, undef, undef, undef, undef, undef, undef, undef, undef, undef, undef, undef, undef, undef, undef, undef, undef, undef, undef, undef, undef, undef, undef, undef, undef, undef, undef, undef, undef, undef], defers := [] } : Act) ∧ W = ((w.alloc (Obj.cells #[Value.int IntKind.i64 0, Value.int IntKind.i64 xs, Value.int IntKind.i64 xn, Value.int IntKind.i64 xk, Value.int IntKind.i64 xt, Value.int IntKind.i64 xv] 28)).alloc (Obj.cells #[Value.int IntKind.i64 rk, Value.int IntKind.i64 rt, Value.int IntKind.i64 rv] 48)).drew) ?rest ?reg
  case reg =>
    go_region_held3 (fun W => W.cell? ⟨w.heap.size, 3, none⟩ = some (.int .i64 xk) ∧ W.cell? ⟨w.heap.size, 4, none⟩ = some (.int .i64 xt) ∧ W.cell? ⟨w.heap.size, 5, none⟩ = some (.int .i64 xv)) (first | (go_keep; done) | fail) (first
      | (go_at_call 13; refine (pick_int _ _ _ (by omega) (by omega)).mono ?_; rintro e w' ⟨rfl, rfl⟩; first | rw [K4.out.1] | rw [K4.out.2.1] | rw [K4.out.2.2.1])
      | fail)
    all_goals exact ⟨rfl, rfl, rfl⟩
  case rest =>
    rintro e a W ⟨rfl, rfl, rfl⟩
    go_wp2
    have D1 : Hid (Below w.heap.size w ((w.alloc (Obj.cells #[Value.int IntKind.i64 0, Value.int IntKind.i64 xs, Value.int IntKind.i64 xn, Value.int IntKind.i64 xk, Value.int IntKind.i64 xt, Value.int IntKind.i64 xv] 28)).alloc (Obj.cells #[Value.int IntKind.i64 rk, Value.int IntKind.i64 rt, Value.int IntKind.i64 rv] 48)).drew ∧ (((w.alloc (Obj.cells #[Value.int IntKind.i64 0, Value.int IntKind.i64 xs, Value.int IntKind.i64 xn, Value.int IntKind.i64 xk, Value.int IntKind.i64 xt, Value.int IntKind.i64 xv] 28)).alloc (Obj.cells #[Value.int IntKind.i64 rk, Value.int IntKind.i64 rt, Value.int IntKind.i64 rv] 48)).drew).heap[w.heap.size + 1]? = some (rwB ⟨rk, rt, rv⟩) ∧ w.heap.size + 1 < (((w.alloc (Obj.cells #[Value.int IntKind.i64 0, Value.int IntKind.i64 xs, Value.int IntKind.i64 xn, Value.int IntKind.i64 xk, Value.int IntKind.i64 xt, Value.int IntKind.i64 xv] 28)).alloc (Obj.cells #[Value.int IntKind.i64 rk, Value.int IntKind.i64 rt, Value.int IntKind.i64 rv] 48)).drew).heap.size) := ⟨(Go.Joins.below_alloc2 _ _ _).drew, by
      have := heap_alloc_new (w.alloc (Obj.cells #[Value.int IntKind.i64 0, Value.int IntKind.i64 xs, Value.int IntKind.i64 xn, Value.int IntKind.i64 xk, Value.int IntKind.i64 xt, Value.int IntKind.i64 xv] 28)) (rwB ⟨rk, rt, rv⟩)
      simp only [World.size_alloc] at this
      exact this, by simp⟩
    revert D1
    generalize ((w.alloc (Obj.cells #[Value.int IntKind.i64 0, Value.int IntKind.i64 xs, Value.int IntKind.i64 xn, Value.int IntKind.i64 xk, Value.int IntKind.i64 xt, Value.int IntKind.i64 xv] 28)).alloc (Obj.cells #[Value.int IntKind.i64 rk, Value.int IntKind.i64 rt, Value.int IntKind.i64 rv] 48)).drew = w1
    intro D1
    obtain ⟨rb, hrb⟩ : ∃ rb, rb = w.heap.size + 1 := ⟨_, rfl⟩
    rw [← hrb] at D1 ⊢
    have hrb1 : w.heap.size ≤ rb := by omega
    clear hrb hx1 e1 e2 e3 t1 t2 K4
    have E1 : Hid (Eng S w1.drew ∧ w.heap.size ≤ w1.drew.heap.size) := ⟨HO.out.2.2.2.1 S w w1.drew HO.out.2.2.2.2 D1.out.1.size (fun k hk => D1.out.1.block k (HS.out k hk).1), D1.out.1.size⟩
    have hc1 := (HT.out.below D1.out.1).cells
    have hx1 := rw_cells D1.out.2.1
    have HA : Hid (∀ w2, Turned S w1.drew w2 → TaleAt w2 base bt (.pointer (some ⟨be, 0, none⟩)) lo hi mode a0 a1 va vb bf nF A B F ∧ w2.heap[rb]? = some (rwB ⟨rk, rt, rv⟩) ∧ Turned S w w2 ∧ rb < w2.heap.size) := by
      intro w2 h4
      have hrb2 : w2.heap[rb]? = some (rwB ⟨rk, rt, rv⟩) := (h4.block rb D1.out.2.2 (fun e => by have := (HS.out rb e).1; omega)).trans D1.out.2.1
      refine ⟨(HT.out.below D1.out.1.drew).kept (fun k hk hor => h4.block k hk (fun e => ?_)), hrb2, (Turned.of_below D1.out.1.drew).trans h4 (fun _ _ e => e), (Array.getElem?_eq_some_iff.1 hrb2).1⟩
      have h5 := HS.out k e
      rcases hor with h6 | h6 | h6 | h6
      · exact h5.2.1 h6
      · exact h5.2.2.1 h6
      · exact h5.2.2.2.1 h6
      · exact h5.2.2.2.2 h6
    go_region_held3 (fun W => W.cell? ⟨bt, 0, none⟩ = some (.pointer (some ⟨be, 0, none⟩)) ∧ W.cell? ⟨rb, 0, none⟩ = some (.int .i64 rk) ∧ W.cell? ⟨rb, 1, none⟩ = some (.int .i64 rt) ∧ W.cell? ⟨rb, 2, none⟩ = some (.int .i64 rv)) (first | (go_keep; done) | fail) (first
      | (go_at_call 25; refine (HF.out _ E1.out.1 E1.out.2).mono ?_; rintro e w2 ⟨v9, S', rfl, h1, h2, h3, h4⟩; have T2 : Hid (TaleAt w2 base bt (.pointer (some ⟨be, 0, none⟩)) lo hi mode a0 a1 va vb bf nF A B F ∧ w2.heap[rb]? = some (rwB ⟨rk, rt, rv⟩) ∧ Turned S w w2 ∧ rb < w2.heap.size) := HA.out w2 h4; have Y2 : Hid (w2.ownsRow w1.heap.size 66 10 v9 C.length (C.flatMap encC) ∧ Eng' S' w2 ∧ (∀ k, S' k → (S k ∨ w1.heap.size ≤ k) ∧ k < w2.heap.size)) := ⟨h1, h2, h3⟩; have hc2 := T2.out.1.cells; have hx2 := rw_cells T2.out.2.1; clear h1 h2 h3 h4)
      | fail)
    clear hc1 hx1 HA HF E1
    obtain ⟨oa9, c9, ev9⟩ := slice_form62 Y2.out.1
    subst ev9
    go_wp2
    have hl2 : base ≤ w2.heap.size := Nat.le_trans hbase T2.out.2.2.1.size
    have hl3 : w.heap.size ≤ w2.heap.size := T2.out.2.2.1.size
    have hl4 : w.heap.size ≤ w1.heap.size := D1.out.1.size
    have hbl : Below w2.heap.size w2 (w2.drew.alloc (rwB ⟨rk, rt, rv⟩)) := (Below.refl _ _).drew.alloc (Nat.le_refl _) _
    have HD : Hid (∀ g3 cap3 w3, w3.ownsRow base 48 3 (.slice (some ⟨g3, 0, none⟩) (A.length + 1) cap3) (A.length + 1) (A.flatMap encRw ++ encRw ⟨rk, rt, rv⟩) → (w2.drew.alloc (rwB ⟨rk, rt, rv⟩)).grownBy w3 va.ownBlock → (va.ownBlock = some g3 ∨ g3 = (w2.drew.alloc (rwB ⟨rk, rt, rv⟩)).heap.size) →
        (w3.cell? ⟨bt, 4, none⟩ = some va ∧ w3.frozen? ⟨bt, 4, none⟩ = false) ∧ (w3.cell? ⟨rb, 0, none⟩ = some (.int .i64 rk) ∧ w3.cell? ⟨rb, 1, none⟩ = some (.int .i64 rt) ∧ w3.cell? ⟨rb, 2, none⟩ = some (.int .i64 rv)) ∧
        Hid (Dl Eng' S' (fun k => S k ∨ k = bt ∨ k = bf ∨ va.ownBlock = some k) w base bt (.pointer (some ⟨be, 0, none⟩)) lo hi mode a0 a1 (.slice (some ⟨g3, 0, none⟩) (A.length + 1) cap3) vb bf nF (A ++ [⟨rk, rt, rv⟩]) B F C w1.heap.size (.slice oa9 C.length c9) 0 (w3.setCell ⟨bt, 4, none⟩ (.slice (some ⟨g3, 0, none⟩) (A.length + 1) cap3)) ∧ Fresh w va (.slice (some ⟨g3, 0, none⟩) (A.length + 1) cap3))) := by
      intro g3 cap3 w3 ho hg hat
      have hat2 : (Value.slice (some ⟨g3, 0, none⟩) (A.length + 1) cap3).ownBlock = va.ownBlock ∨ ∃ g, (Value.slice (some ⟨g3, 0, none⟩) (A.length + 1) cap3).ownBlock = some g ∧ w2.heap.size ≤ g := hat.elim (fun e => Or.inl e.symm) (fun e => Or.inr ⟨g3, rfl, by rw [e]; simp⟩)
      have TK := T2.out.1.took0 (r := ⟨rk, rt, rv⟩) hbl ho hg hat2
      have hva : ∀ k, va.ownBlock = some k → k < w.heap.size := fun k e => (HT.out.r0.lt k e).2
      have hk : ∀ k, k < w2.heap.size → k ≠ bt → va.ownBlock ≠ some k → (w3.setCell ⟨bt, 4, none⟩ (.slice (some ⟨g3, 0, none⟩) (A.length + 1) cap3)).heap[k]? = w2.heap[k]? := fun k h1 h2 h3 => (Below.heap_setCell _ _ _ _ h2).trans ((hg.block k (Nat.lt_of_lt_of_le h1 hbl.size) (fun e => h3 e.symm)).trans (hbl.block k h1))
      have hS' : ∀ k, S' k → k < w2.heap.size ∧ k ≠ bt ∧ k ≠ bf ∧ va.ownBlock ≠ some k ∧ vb.ownBlock ≠ some k := fun k hk2 => by
        obtain ⟨h1, h2⟩ := Y2.out.2.2 k hk2
        rcases h1 with h1 | h1
        · exact ⟨h2, (HS.out k h1).2⟩
        · have a1 := HT.out.ltf
          exact ⟨h2, by omega, by omega, fun e => by have := (HT.out.r0.lt k e).2; omega, fun e => by have := (HT.out.r1.lt k e).2; omega⟩
      have hsz : w2.heap.size ≤ (w3.setCell ⟨bt, 4, none⟩ (.slice (some ⟨g3, 0, none⟩) (A.length + 1) cap3)).heap.size := by
        have := hg.size
        have h2 := hbl.size
        simp at this h2 ⊢
        omega
      have hrb3 : w3.heap[rb]? = some (rwB ⟨rk, rt, rv⟩) := ((hg.block rb (Nat.lt_of_lt_of_le T2.out.2.2.2 hbl.size) (fun e => by have := hva rb e.symm; omega)).trans (hbl.block rb T2.out.2.2.2)).trans T2.out.2.1
      refine ⟨TK.2, rw_cells hrb3, ⟨TK.1, HO.out.2.2.1 S' w2 _ Y2.out.2.1 hsz (fun k hk2 => hk k (hS' k hk2).1 (hS' k hk2).2.1 ((hS' k hk2).2.2.2.1)), fun k hk2 => ⟨Nat.lt_of_lt_of_le (hS' k hk2).1 hsz, (hS' k hk2).2.1, (hS' k hk2).2.2.1, (fun e => by rcases hat2 with h1 | ⟨g, h1, h2⟩; (exact (hS' k hk2).2.2.2.1 (h1.symm.trans e)); (rw [h1] at e; cases e; have := (hS' k hk2).1; omega)), (hS' k hk2).2.2.2.2⟩, ?_, ?_⟩, ?_⟩
      · refine own_still Y2.out.1 (fun g e => hk g (Y2.out.1.lt g e).2 ?_ ?_)
        · intro e2; have := (Y2.out.1.lt g e).1; omega
        · intro e2; have := (Y2.out.1.lt g e).1; have := hva g e2; omega
      · refine (T2.out.2.2.1.mono (S' := fun k => S k ∨ k = bt ∨ k = bf ∨ va.ownBlock = some k) (fun k e => Or.inl e)).trans (S' := fun k => k = bt ∨ va.ownBlock = some k) ⟨?_, ?_, ?_, hsz, fun k h1 h2 => hk k h1 (fun e => h2 (Or.inl e)) (fun e => h2 (Or.inr e))⟩ (fun k _ e => e.elim (fun e => Or.inr (Or.inl e)) (fun e => Or.inr (Or.inr (Or.inr e))))
        · exact hg.os
        · exact hg.tape
        · exact hg.output
      · rcases hat2 with h1 | ⟨g, h1, h2⟩
        · exact Or.inl h1
        · exact Or.inr ⟨g, h1, Nat.le_trans hl3 h2⟩
    have YS : Hid (∀ k, S' k → S k ∨ w.heap.size ≤ k) := fun k hk => (Y2.out.2.2 k hk).1.imp id (fun e => Nat.le_trans hl4 e)
    have O2 : Hid ((w2.drew.alloc (rwB ⟨rk, rt, rv⟩)).ownsRow base 48 3 va A.length (A.flatMap encRw)) := kept_below T2.out.1.r0 hbl
    have N2 : Hid (∀ j u, (encRw ⟨rk, rt, rv⟩)[j]? = some u → (w2.drew.alloc (rwB ⟨rk, rt, rv⟩)).cell? ((⟨w2.heap.size, 0, none⟩ : Addr).add j) = some u) := World.news_of_block (heap_alloc_new w2.drew (rwB ⟨rk, rt, rv⟩))
    have hq1 : bt < w2.heap.size := by omega
    have hq2 : ¬ (bt = w2.heap.size) := by omega
    have hq3 : ¬ (bt = rb) := by omega
    have hq4 : ¬ (rb = bt) := by omega
    have hq5 : rb < w2.heap.size := T2.out.2.2.2
    have hq6 : ¬ (rb = w2.heap.size) := by omega
    have hcA := (T2.out.1.below hbl).cells
    obtain ⟨oaA, cA, evA⟩ := slice_form62 HT.out.r0
    subst evA
    have hml : loadTale = Op.load 33 (.tmp 59) := rfl
    rw [← hml]
    clear hbl
    go_region_held3 (fun W => W.cell? ⟨rb, 0, none⟩ = some (.int .i64 rk) ∧ W.cell? ⟨rb, 1, none⟩ = some (.int .i64 rt) ∧ W.cell? ⟨rb, 2, none⟩ = some (.int .i64 rv)) (first | (go_keep; done) | fail) (first
      | (refine step_append_lies _ (by rfl) _ _ _ (by rfl) base 48 i0 zRw 3 24 Tryz.underlying33 hi0 hz0 hz1 hz2 rfl (by omega) (.slice oaA A.length cA) A.length (A.flatMap encRw) (by rfl) ?_ ⟨w2.heap.size, 0, none⟩ 1 1 (encRw ⟨rk, rt, rv⟩) (by rfl) (by rfl) ?_ (encRw_one _) (by omega) (by unfold maxLen; omega) (by omega) ?_ _ rfl ?_; (exact O2.out); (exact N2.out); (simp; omega); intro g3 cap3 w3 hown3 hgrow3 hat3 hlt3; have h3 := HD.out g3 cap3 w3 hown3 hgrow3 hat3; have hc3 := h3.1; have hx3 := h3.2.1; have Z3 := h3.2.2; clear hown3 hgrow3 hat3 hlt3 h3)
      | fail)
    all_goals clear hc2 hx2 hcA HD O2 N2 T2 Y2 hml
    all_goals
      go_wp2
      go_loopg [9] C.length (fun gg s9 wr => ∃ i : Nat, i ≤ C.length ∧ gg = C.length - i ∧ s9 = .int .i64 i ∧ Hid (Dl Eng' S' (fun k => S k ∨ k = bt ∨ k = bf ∨ (Value.slice oaA A.length cA).ownBlock = some k) w base bt (.pointer (some ⟨be, 0, none⟩)) lo hi mode a0 a1 (.slice (some ⟨g3, 0, none⟩) (A.length + 1) cap3) vb bf nF (A ++ [⟨rk, rt, rv⟩]) B F C w1.heap.size (.slice oa9 C.length c9) i wr))
      case atStart => exact ⟨0, Nat.zero_le _, rfl, rfl, Z3.out.1⟩
      case round =>
        obtain ⟨i, hile, hgk, rfl, I⟩ := hrel
        have HG : Hid (gk = C.length - i) := hgk
        clear hgk
        by_cases hlt2 : i < C.length
        · obtain ⟨c, hc⟩ : ∃ c, C[i]? = some c := ⟨_, List.getElem?_eq_getElem hlt2⟩
          obtain ⟨gs9, ck9, eoa⟩ := Go.Joins.ownsRow_form I.out.row (show 0 < C.length by omega)
          cases eoa
          have hcc := ch_cells I.out.row i c hc
          have hgl : gs9 < wr.heap.size := (I.out.row.lt gs9 rfl).2
          have hcw := HO.out.2.1 c (List.mem_of_getElem? hc)
          have hct := I.out.tale.cells
          have hbw : bt < wr.heap.size := I.out.tale.lt
          obtain ⟨n, D, hn, hown, hcn⟩ := I.out.tale.fold
          have hAt := appC_take C F i c hc
          have hLl := appC_len (C.take i) F
          have hLl2 : (C.take i).length ≤ C.length := by rw [List.length_take]; omega
          have hLc : (appC F (C.take i)).count c.x ≤ (appC F (C.take i)).length := List.count_le_length
          have HC : Hid (C[i]? = some c) := hc
          generalize hL : appC F (C.take i) = L at *
          have j1 : (0 : Int) ≤ (i : Int) := by omega
          have j2 : (i : Int) < (C.length : Int) := by omega
          have j3 : (C.length : Int) ≤ 1000000 := by omega
          have hbW : Below wr.heap.size wr (wr.alloc (.cells (bits10 c) 66)).drew := (Go.Joins.below_alloc1 _ _).drew
          have hLb : L.length ≤ 2000000 := by omega
          have hok9 := okC_at C F i c HO.out.1 hc
          rw [hL] at hok9
          obtain ⟨cx, cg⟩ := c
          have hLc2 : L.count cx ≤ L.length := List.count_le_length
          clear hLc
          cases cg
          · have hrun := look0 (hown.alloc (.cells (bits10 ⟨cx, false⟩) 66)).drew hcn cx hcw
            obtain ⟨v0, st, W1, W2, he1, he2, hown2, hgr⟩ := entry (hown.alloc (.cells (bits10 ⟨cx, false⟩) 66)).drew (by omega) cx hcw (L.count cx + 1 : Nat) (wf_nat _ (by omega))
            have hrun1 := look_entry0 (hown.alloc (.cells (bits10 ⟨cx, false⟩) 66)).drew hcn (by omega) cx hcw he1
            have I2 : Hid (Dl Eng' S' (fun k => S k ∨ k = bt ∨ k = bf ∨ (Value.slice oaA A.length cA).ownBlock = some k) w base bt (.pointer (some ⟨be, 0, none⟩)) lo hi mode a0 a1 (.slice (some ⟨g3, 0, none⟩) (A.length + 1) cap3) vb bf nF (A ++ [⟨rk, rt, rv⟩]) B F C w1.heap.size (.slice (some ⟨gs9, 0, none⟩) C.length c9) (i + 1) W2) := (I.out.below HO.out.2.2.1 hbW).step HO.out.2.2.1 hgr (by omega) hown2 (by
              rw [hAt]
              exact hcn.put cx hcw _ (by simp) (fun y hy => by simp [Ne.symm hy]) (fun y hy => by simpa using hy)) (Or.inr (Or.inr (Or.inl rfl)))
            have e1 : ((L.count cx + 1 : Nat) : Int) = (L.count cx : Int) + 1 := by omega
            rw [e1] at he2
            have hle1 : (L.count cx : Int) ≤ 3000000 := by omega
            have hle0 : (0 : Int) ≤ (L.count cx : Int) := by omega
            generalize (L.count cx : Int) = cc at *
            simp only [vO] at hrun hrun1 he1 he2
            simp only at hcc
            clear hL hAt hLl hLl2 hLc2 hLb hok9 hn hown hcn hown2 hgr hbW hcw e1 hc
            go_wp2
            go_region
            all_goals (try go_wp2)
            all_goals go_roundg (C.length - (i + 1))
            all_goals first
              | (have := HG.out; omega)
              | exact ⟨i + 1, by omega, rfl, by first | rfl | (congr 1; omega) | go_num, I2⟩
          · obtain ⟨hmem, hnp⟩ := hok9 rfl
            have hmem2 : cx ∈ L := hmem
            have hnp2 : (cx.hl && cx.hr) = false := hnp
            have hpos : 0 < L.count cx := List.count_pos_iff.2 hmem2
            have hrun := look0 (hown.alloc (.cells (bits10 ⟨cx, true⟩) 66)).drew hcn cx hcw
            have hrun2 := look0 (hown.alloc (.cells (bits10 ⟨cx, true⟩) 66)).drew.drew hcn cx hcw
            obtain ⟨v0, st, W1, W2, he1, he2, hown2, hgr⟩ := entry (hown.alloc (.cells (bits10 ⟨cx, true⟩) 66)).drew.drew (by omega) cx hcw (L.count cx - 1 : Nat) (wf_nat _ (by omega))
            have hrun1 := look_entry0 (hown.alloc (.cells (bits10 ⟨cx, true⟩) 66)).drew.drew hcn (by omega) cx hcw he1
            have I2 : Hid (Dl Eng' S' (fun k => S k ∨ k = bt ∨ k = bf ∨ (Value.slice oaA A.length cA).ownBlock = some k) w base bt (.pointer (some ⟨be, 0, none⟩)) lo hi mode a0 a1 (.slice (some ⟨g3, 0, none⟩) (A.length + 1) cap3) vb bf nF (A ++ [⟨rk, rt, rv⟩]) B F C w1.heap.size (.slice (some ⟨gs9, 0, none⟩) C.length c9) (i + 1) W2) := (I.out.below HO.out.2.2.1 hbW.drew).step HO.out.2.2.1 hgr (by omega) hown2 (by
              rw [hAt]
              exact hcn.put cx hcw _ (by simp) (fun y hy => by simp [List.count_erase_of_ne hy]) (fun y hy => Or.inr (List.mem_of_mem_erase (by simpa using hy)))) (Or.inr (Or.inr (Or.inl rfl)))
            have e1 : ((L.count cx - 1 : Nat) : Int) = (L.count cx : Int) - 1 := by omega
            rw [e1] at he2
            have hle1 : (L.count cx : Int) ≤ 3000000 := by omega
            have hle0 : (1 : Int) ≤ (L.count cx : Int) := by omega
            have hz9 : ((L.count cx : Int) == 0) = false := by simp only [beq_eq_false_iff_ne]; omega
            generalize (L.count cx : Int) = cc at *
            simp only [vO, bits10] at hrun hrun1 hrun2 he1 he2
            simp only at hcc
            clear hL hAt hLl hLl2 hLc2 hLb hok9 hn hown hcn hown2 hgr hbW hcw e1 hc hmem hmem2 hpos hnp
            cases hhl : cx.hl
            all_goals (rw [hhl] at hcc hrun hrun1 hrun2 he1)
            · clear hnp2
              go_wp2
              go_region
              all_goals (try go_wp2)
              all_goals go_region
              all_goals (try go_wp2)
              all_goals go_roundg (C.length - (i + 1))
              all_goals first
                | (have := HG.out; omega)
                | exact ⟨i + 1, by omega, rfl, by first | rfl | (congr 1; omega) | go_num, I2⟩
            · have hhr : cx.hr = false := by rw [hhl] at hnp2; simpa using hnp2
              rw [hhr] at hcc hrun hrun1 hrun2 he1
              clear hnp2
              go_wp2
              go_region
              all_goals (try go_wp2)
              all_goals go_region
              all_goals (try go_wp2)
              all_goals go_roundg (C.length - (i + 1))
              all_goals first
                | (have := HG.out; omega)
                | exact ⟨i + 1, by omega, rfl, by first | rfl | (congr 1; omega) | go_num, I2⟩
        · have j2 : ¬ ((i : Int) < (C.length : Int)) := by omega
          have hie : C.take i = C := List.take_of_length_le (by omega)
          go_wp2
          go_ret
          have hI := I.out
          have hie2 : i = C.length := by omega
          subst hie2
          refine ⟨rfl, _, ?_, S', hI.eng, fun k hk => ⟨YS.out k hk, hI.apart k hk⟩, hI.turn, Z3.out.2⟩
          have := hI.tale
          rw [hie] at this
          exact this

set_option maxHeartbeats 8000000 in
theorem does0_1 (Eng Eng' : (Nat → Prop) → World → Prop) (S : Nat → Prop) (C : List Ch) (r : Rw) (base bt be bf nF : Nat) (lo hi mode a0 a1 : Int) (va vb : Value) (A B : List Rw) (F : List O) (xs xn xk xt xv : Int) (w : World)
    (hT : TaleAt w base bt (.pointer (some ⟨be, 0, none⟩)) lo hi mode a0 a1 va vb bf nF A B F) (hbase : base ≤ w.heap.size) (hs : pickN xs 2 = 1) (hr : r = ⟨pickN xk 4, (pickN xt 200 : Int) - 100, pickN xv 50⟩)
    (hst : Steady Eng) (hst' : Steady Eng') (hE : Eng S w) (hS : ∀ k, S k → k < w.heap.size ∧ k ≠ bt ∧ k ≠ bf ∧ va.ownBlock ≠ some k ∧ vb.ownBlock ≠ some k)
    (hF : ∀ W, Eng S W → w.heap.size ≤ W.heap.size → Calls Tryz.prog 25 #[.pointer (some ⟨be, 0, none⟩), .int .i64 1, .agg #[.int .i64 r.k, .int .i64 r.t, .int .i64 r.v]] W fun e w' => ∃ v9 S', e = .returned (.tuple #[v9, .nilIface]) ∧ w'.ownsRow W.heap.size 66 10 v9 C.length (C.flatMap encC) ∧ Eng' S' w' ∧ (∀ k, S' k → (S k ∨ W.heap.size ≤ k) ∧ k < w'.heap.size) ∧ Turned S W w')
    (hok : okC F C) (hwf : ∀ c ∈ C, c.x.wf) (hFl : F.length ≤ 1000000) (hnF : nF ≤ 1000000) (hCl : C.length ≤ 1000000) (hAl : B.length ≤ 1000000) :
    Calls Tryz.prog 9 #[.pointer (some ⟨bt, 0, none⟩), .agg #[.int .i64 0, .int .i64 xs, .int .i64 xn, .int .i64 xk, .int .i64 xt, .int .i64 xv]] w fun e w' => e = .returned (.bool true) ∧ ∃ v' S', TaleAt w' base bt (.pointer (some ⟨be, 0, none⟩)) lo hi mode a0 a1 va v' bf (nF + C.length) A (B ++ [r]) (appC F C) ∧ Eng' S' w' ∧
      (∀ k, S' k → (S k ∨ w.heap.size ≤ k) ∧ k < w'.heap.size ∧ k ≠ bt ∧ k ≠ bf ∧ va.ownBlock ≠ some k ∧ v'.ownBlock ≠ some k) ∧ Turned (fun k => S k ∨ k = bt ∨ k = bf ∨ vb.ownBlock = some k) w w' ∧ Fresh w vb v' := by
  obtain ⟨i0, hi0, hz0, hz1, hz2⟩ := info_parts infoRw
  have p1 : (IntKind.u64.wrap xs).tmod 2 = 1 := by have := (pickN_lt xs 2 (by omega)).2; rw [hs] at this; exact this.symm
  have p2 := (pickN_lt xk 4 (by omega))
  have p3 := (pickN_lt xt 200 (by omega))
  have p4 := (pickN_lt xv 50 (by omega))
  obtain ⟨rk, rt, rv⟩ := r
  simp only [Rw.mk.injEq] at hr
  obtain ⟨hrk, hrt, hrv⟩ := hr
  have k4 : (IntKind.u64.wrap xk).tmod 4 = rk := by rw [hrk]; exact p2.2.symm
  have k50 : (IntKind.u64.wrap xv).tmod 50 = rv := by rw [hrv]; exact p4.2.symm
  have k200 : (IntKind.u64.wrap xt).tmod 200 = rt + 100 := by have h : (IntKind.u64.wrap xt).tmod 200 = ((pickN xt 200 : Nat) : Int) := p3.2.symm; omega
  have t1 : -100 ≤ rt := by omega
  have t2 : rt ≤ 99 := by omega
  have e1 : IntKind.i64.wrap (rt + 100 - 100) = rt := by rw [show rt + 100 - 100 = rt by omega]; exact wr64 (by omega) (by omega)
  have e2 : rt + 100 - 100 = rt := by omega
  have e3 : IntKind.i64.wrap rt = rt := wr64 (by omega) (by omega)
  have K4 : Hid ((IntKind.u64.wrap xk).tmod 4 = rk ∧ (IntKind.u64.wrap xt).tmod 200 = rt + 100 ∧ (IntKind.u64.wrap xv).tmod 50 = rv ∧ (IntKind.u64.wrap xs).tmod 2 = 1) := ⟨k4, k200, k50, p1⟩
  clear k4 k200 k50 p1 p2 p3 p4
  have HT : Hid (TaleAt w base bt (.pointer (some ⟨be, 0, none⟩)) lo hi mode a0 a1 va vb bf nF A B F) := hT
  have HF : Hid (∀ W, Eng S W → w.heap.size ≤ W.heap.size → Calls Tryz.prog 25 #[.pointer (some ⟨be, 0, none⟩), .int .i64 1, .agg #[.int .i64 rk, .int .i64 rt, .int .i64 rv]] W fun e w' => ∃ v9 S', e = .returned (.tuple #[v9, .nilIface]) ∧ w'.ownsRow W.heap.size 66 10 v9 C.length (C.flatMap encC) ∧ Eng' S' w' ∧ (∀ k, S' k → (S k ∨ W.heap.size ≤ k) ∧ k < w'.heap.size) ∧ Turned S W w') := hF
  have HS : Hid (∀ k, S k → k < w.heap.size ∧ k ≠ bt ∧ k ≠ bf ∧ va.ownBlock ≠ some k ∧ vb.ownBlock ≠ some k) := hS
  have HO : Hid (okC F C ∧ (∀ c ∈ C, c.x.wf) ∧ Steady Eng' ∧ Steady Eng ∧ Eng S w) := ⟨hok, hwf, hst', hst, hE⟩
  have hlt := hT.lt
  clear hT hF hS hok hwf hst hst' hE hrk hrt hrv hs
  go_enter Tryz.func9, Tryz.ntmps9
  go_wp2_with (first
    | (go_at_call 13; refine (pick_int _ _ _ (by omega) (by omega)).mono ?_; rintro e w' ⟨rfl, rfl⟩; rw [K4.out.2.2.2])
    | fail)
  have hx1 : (w.alloc (.cells #[.int .i64 0, .int .i64 xs, .int .i64 xn, .int .i64 xk, .int .i64 xt, .int .i64 xv] 28)).cell? ⟨w.heap.size, 3, none⟩ = some (.int .i64 xk) ∧ (w.alloc (.cells #[.int .i64 0, .int .i64 xs, .int .i64 xn, .int .i64 xk, .int .i64 xt, .int .i64 xv] 28)).cell? ⟨w.heap.size, 4, none⟩ = some (.int .i64 xt) ∧ (w.alloc (.cells #[.int .i64 0, .int .i64 xs, .int .i64 xn, .int .i64 xk, .int .i64 xt, .int .i64 xv] 28)).cell? ⟨w.heap.size, 5, none⟩ = some (.int .i64 xv) := by
    refine ⟨?_, ?_, ?_⟩ <;> (rw [Go.Joins.cell_of_block (heap_alloc_new _ _)]; rfl)
  refine Code.wp_mono (Q := fun e a W => e = Exit.normal ∧ a = ({ tmps := #[Value.pointer (some { block := bt, off := 0 }), Value.agg #[Value.int IntKind.i64 0, Value.int IntKind.i64 xs, Value.int IntKind.i64 xn, Value.int IntKind.i64 xk, Value.int IntKind.i64 xt, Value.int IntKind.i64 xv], undef, Value.pointer (some { block := w.heap.size, off := 0 }), Value.bool false, Value.int IntKind.i64 1, Value.pointer (some { block := w.heap.size + 1, off := 0 }), undef, undef, undef, undef, undef, undef, undef, undef, Value.pointer (some { block := w.heap.size, off := 1 }), Value.int IntKind.i64 xs, Value.int IntKind.i64 1, Value.pointer (some { block := w.heap.size, off := 0 }), Value.int IntKind.i64 0, Value.bool true, Value.bool true, Value.pointer (some { block := w.heap.size, off := 3 }), Value.int IntKind.i64 xk, Value.int IntKind.i64 rk, Value.pointer (some { block := w.heap.size, off := 4 }), Value.int IntKind.i64 xt, Value.int IntKind.i64 (rt + 100), Value.int IntKind.i64 rt, Value.pointer (some { block := w.heap.size, off := 5 }), Value.int IntKind.i64 xv, Value.int IntKind.i64 rv, Value.agg #[Value.int IntKind.i64 rk, Value.int IntKind.i64 rt, Value.int IntKind.i64 rv], undef, undef, undef, undef, undef, undef, undef, undef, undef, undef, undef, undef, undef, undef, undef, undef, undef, undef, undef, undef, undef, undef, undef, undef, undef, undef, undef, undef, undef, undef, undef, undef, undef, undef, undef, undef, undef, undef, undef, undef, undef, undef, undef, undef, undef, undef, undef, undef, undef, undef, undef, undef, undef, undef, undef, undef, undef, undef, undef, undef, undef, undef, undef, undef, undef, undef, undef, undef, undef, undef, undef, undef, undef, undef, undef, undef, undef, undef, undef, undef, undef, undef, undef, undef, undef, undef, undef, undef, undef, undef, undef, undef, undef, undef, undef, undef, undef, undef, undef, undef, undef, undef, undef, undef, undef, undef, undef, undef, undef, undef, undef, undef, undef, undef, undef, undef, undef, undef, undef, undef, undef, undef, undef, undef, undef, undef, undef, undef, undef, undef, undef, undef, undef, undef, undef, undef, undef, undef, undef, undef, undef], defers := [] } : Act) ∧ W = ((w.alloc (Obj.cells #[Value.int IntKind.i64 0, Value.int IntKind.i64 xs, Value.int IntKind.i64 xn, Value.int IntKind.i64 xk, Value.int IntKind.i64 xt, Value.int IntKind.i64 xv] 28)).alloc (Obj.cells #[Value.int IntKind.i64 rk, Value.int IntKind.i64 rt, Value.int IntKind.i64 rv] 48)).drew) ?rest ?reg
  case reg =>
    go_region_held3 (fun W => W.cell? ⟨w.heap.size, 3, none⟩ = some (.int .i64 xk) ∧ W.cell? ⟨w.heap.size, 4, none⟩ = some (.int .i64 xt) ∧ W.cell? ⟨w.heap.size, 5, none⟩ = some (.int .i64 xv)) (first | (go_keep; done) | fail) (first
      | (go_at_call 13; refine (pick_int _ _ _ (by omega) (by omega)).mono ?_; rintro e w' ⟨rfl, rfl⟩; first | rw [K4.out.1] | rw [K4.out.2.1] | rw [K4.out.2.2.1])
      | fail)
    all_goals exact ⟨rfl, rfl, rfl⟩
  case rest =>
    rintro e a W ⟨rfl, rfl, rfl⟩
    go_wp2
    have D1 : Hid (Below w.heap.size w ((w.alloc (Obj.cells #[Value.int IntKind.i64 0, Value.int IntKind.i64 xs, Value.int IntKind.i64 xn, Value.int IntKind.i64 xk, Value.int IntKind.i64 xt, Value.int IntKind.i64 xv] 28)).alloc (Obj.cells #[Value.int IntKind.i64 rk, Value.int IntKind.i64 rt, Value.int IntKind.i64 rv] 48)).drew ∧ (((w.alloc (Obj.cells #[Value.int IntKind.i64 0, Value.int IntKind.i64 xs, Value.int IntKind.i64 xn, Value.int IntKind.i64 xk, Value.int IntKind.i64 xt, Value.int IntKind.i64 xv] 28)).alloc (Obj.cells #[Value.int IntKind.i64 rk, Value.int IntKind.i64 rt, Value.int IntKind.i64 rv] 48)).drew).heap[w.heap.size + 1]? = some (rwB ⟨rk, rt, rv⟩) ∧ w.heap.size + 1 < (((w.alloc (Obj.cells #[Value.int IntKind.i64 0, Value.int IntKind.i64 xs, Value.int IntKind.i64 xn, Value.int IntKind.i64 xk, Value.int IntKind.i64 xt, Value.int IntKind.i64 xv] 28)).alloc (Obj.cells #[Value.int IntKind.i64 rk, Value.int IntKind.i64 rt, Value.int IntKind.i64 rv] 48)).drew).heap.size) := ⟨(Go.Joins.below_alloc2 _ _ _).drew, by
      have := heap_alloc_new (w.alloc (Obj.cells #[Value.int IntKind.i64 0, Value.int IntKind.i64 xs, Value.int IntKind.i64 xn, Value.int IntKind.i64 xk, Value.int IntKind.i64 xt, Value.int IntKind.i64 xv] 28)) (rwB ⟨rk, rt, rv⟩)
      simp only [World.size_alloc] at this
      exact this, by simp⟩
    revert D1
    generalize ((w.alloc (Obj.cells #[Value.int IntKind.i64 0, Value.int IntKind.i64 xs, Value.int IntKind.i64 xn, Value.int IntKind.i64 xk, Value.int IntKind.i64 xt, Value.int IntKind.i64 xv] 28)).alloc (Obj.cells #[Value.int IntKind.i64 rk, Value.int IntKind.i64 rt, Value.int IntKind.i64 rv] 48)).drew = w1
    intro D1
    obtain ⟨rb, hrb⟩ : ∃ rb, rb = w.heap.size + 1 := ⟨_, rfl⟩
    rw [← hrb] at D1 ⊢
    have hrb1 : w.heap.size ≤ rb := by omega
    clear hrb hx1 e1 e2 e3 t1 t2 K4
    have E1 : Hid (Eng S w1.drew ∧ w.heap.size ≤ w1.drew.heap.size) := ⟨HO.out.2.2.2.1 S w w1.drew HO.out.2.2.2.2 D1.out.1.size (fun k hk => D1.out.1.block k (HS.out k hk).1), D1.out.1.size⟩
    have hc1 := (HT.out.below D1.out.1).cells
    have hx1 := rw_cells D1.out.2.1
    have HA : Hid (∀ w2, Turned S w1.drew w2 → TaleAt w2 base bt (.pointer (some ⟨be, 0, none⟩)) lo hi mode a0 a1 va vb bf nF A B F ∧ w2.heap[rb]? = some (rwB ⟨rk, rt, rv⟩) ∧ Turned S w w2 ∧ rb < w2.heap.size) := by
      intro w2 h4
      have hrb2 : w2.heap[rb]? = some (rwB ⟨rk, rt, rv⟩) := (h4.block rb D1.out.2.2 (fun e => by have := (HS.out rb e).1; omega)).trans D1.out.2.1
      refine ⟨(HT.out.below D1.out.1.drew).kept (fun k hk hor => h4.block k hk (fun e => ?_)), hrb2, (Turned.of_below D1.out.1.drew).trans h4 (fun _ _ e => e), (Array.getElem?_eq_some_iff.1 hrb2).1⟩
      have h5 := HS.out k e
      rcases hor with h6 | h6 | h6 | h6
      · exact h5.2.1 h6
      · exact h5.2.2.1 h6
      · exact h5.2.2.2.1 h6
      · exact h5.2.2.2.2 h6
    go_region_held3 (fun W => W.cell? ⟨bt, 0, none⟩ = some (.pointer (some ⟨be, 0, none⟩)) ∧ W.cell? ⟨rb, 0, none⟩ = some (.int .i64 rk) ∧ W.cell? ⟨rb, 1, none⟩ = some (.int .i64 rt) ∧ W.cell? ⟨rb, 2, none⟩ = some (.int .i64 rv)) (first | (go_keep; done) | fail) (first
      | (go_at_call 25; refine (HF.out _ E1.out.1 E1.out.2).mono ?_; rintro e w2 ⟨v9, S', rfl, h1, h2, h3, h4⟩; have T2 : Hid (TaleAt w2 base bt (.pointer (some ⟨be, 0, none⟩)) lo hi mode a0 a1 va vb bf nF A B F ∧ w2.heap[rb]? = some (rwB ⟨rk, rt, rv⟩) ∧ Turned S w w2 ∧ rb < w2.heap.size) := HA.out w2 h4; have Y2 : Hid (w2.ownsRow w1.heap.size 66 10 v9 C.length (C.flatMap encC) ∧ Eng' S' w2 ∧ (∀ k, S' k → (S k ∨ w1.heap.size ≤ k) ∧ k < w2.heap.size)) := ⟨h1, h2, h3⟩; have hc2 := T2.out.1.cells; have hx2 := rw_cells T2.out.2.1; clear h1 h2 h3 h4)
      | fail)
    clear hc1 hx1 HA HF E1
    obtain ⟨oa9, c9, ev9⟩ := slice_form62 Y2.out.1
    subst ev9
    go_wp2
    have hl2 : base ≤ w2.heap.size := Nat.le_trans hbase T2.out.2.2.1.size
    have hl3 : w.heap.size ≤ w2.heap.size := T2.out.2.2.1.size
    have hl4 : w.heap.size ≤ w1.heap.size := D1.out.1.size
    have hbl : Below w2.heap.size w2 (w2.drew.alloc (rwB ⟨rk, rt, rv⟩)) := (Below.refl _ _).drew.alloc (Nat.le_refl _) _
    have HD : Hid (∀ g3 cap3 w3, w3.ownsRow base 48 3 (.slice (some ⟨g3, 0, none⟩) (B.length + 1) cap3) (B.length + 1) (B.flatMap encRw ++ encRw ⟨rk, rt, rv⟩) → (w2.drew.alloc (rwB ⟨rk, rt, rv⟩)).grownBy w3 vb.ownBlock → (vb.ownBlock = some g3 ∨ g3 = (w2.drew.alloc (rwB ⟨rk, rt, rv⟩)).heap.size) →
        (w3.cell? ⟨bt, 5, none⟩ = some vb ∧ w3.frozen? ⟨bt, 5, none⟩ = false) ∧ (w3.cell? ⟨rb, 0, none⟩ = some (.int .i64 rk) ∧ w3.cell? ⟨rb, 1, none⟩ = some (.int .i64 rt) ∧ w3.cell? ⟨rb, 2, none⟩ = some (.int .i64 rv)) ∧
        Hid (Dl Eng' S' (fun k => S k ∨ k = bt ∨ k = bf ∨ vb.ownBlock = some k) w base bt (.pointer (some ⟨be, 0, none⟩)) lo hi mode a0 a1 va (.slice (some ⟨g3, 0, none⟩) (B.length + 1) cap3) bf nF A (B ++ [⟨rk, rt, rv⟩]) F C w1.heap.size (.slice oa9 C.length c9) 0 (w3.setCell ⟨bt, 5, none⟩ (.slice (some ⟨g3, 0, none⟩) (B.length + 1) cap3)) ∧ Fresh w vb (.slice (some ⟨g3, 0, none⟩) (B.length + 1) cap3))) := by
      intro g3 cap3 w3 ho hg hat
      have hat2 : (Value.slice (some ⟨g3, 0, none⟩) (B.length + 1) cap3).ownBlock = vb.ownBlock ∨ ∃ g, (Value.slice (some ⟨g3, 0, none⟩) (B.length + 1) cap3).ownBlock = some g ∧ w2.heap.size ≤ g := hat.elim (fun e => Or.inl e.symm) (fun e => Or.inr ⟨g3, rfl, by rw [e]; simp⟩)
      have TK := T2.out.1.took1 (r := ⟨rk, rt, rv⟩) hbl ho hg hat2
      have hva : ∀ k, vb.ownBlock = some k → k < w.heap.size := fun k e => (HT.out.r1.lt k e).2
      have hk : ∀ k, k < w2.heap.size → k ≠ bt → vb.ownBlock ≠ some k → (w3.setCell ⟨bt, 5, none⟩ (.slice (some ⟨g3, 0, none⟩) (B.length + 1) cap3)).heap[k]? = w2.heap[k]? := fun k h1 h2 h3 => (Below.heap_setCell _ _ _ _ h2).trans ((hg.block k (Nat.lt_of_lt_of_le h1 hbl.size) (fun e => h3 e.symm)).trans (hbl.block k h1))
      have hS' : ∀ k, S' k → k < w2.heap.size ∧ k ≠ bt ∧ k ≠ bf ∧ va.ownBlock ≠ some k ∧ vb.ownBlock ≠ some k := fun k hk2 => by
        obtain ⟨h1, h2⟩ := Y2.out.2.2 k hk2
        rcases h1 with h1 | h1
        · exact ⟨h2, (HS.out k h1).2⟩
        · have a1 := HT.out.ltf
          exact ⟨h2, by omega, by omega, fun e => by have := (HT.out.r0.lt k e).2; omega, fun e => by have := (HT.out.r1.lt k e).2; omega⟩
      have hsz : w2.heap.size ≤ (w3.setCell ⟨bt, 5, none⟩ (.slice (some ⟨g3, 0, none⟩) (B.length + 1) cap3)).heap.size := by
        have := hg.size
        have h2 := hbl.size
        simp at this h2 ⊢
        omega
      have hrb3 : w3.heap[rb]? = some (rwB ⟨rk, rt, rv⟩) := ((hg.block rb (Nat.lt_of_lt_of_le T2.out.2.2.2 hbl.size) (fun e => by have := hva rb e.symm; omega)).trans (hbl.block rb T2.out.2.2.2)).trans T2.out.2.1
      refine ⟨TK.2, rw_cells hrb3, ⟨TK.1, HO.out.2.2.1 S' w2 _ Y2.out.2.1 hsz (fun k hk2 => hk k (hS' k hk2).1 (hS' k hk2).2.1 ((hS' k hk2).2.2.2.2)), fun k hk2 => ⟨Nat.lt_of_lt_of_le (hS' k hk2).1 hsz, (hS' k hk2).2.1, (hS' k hk2).2.2.1, (hS' k hk2).2.2.2.1, (fun e => by rcases hat2 with h1 | ⟨g, h1, h2⟩; (exact (hS' k hk2).2.2.2.2 (h1.symm.trans e)); (rw [h1] at e; cases e; have := (hS' k hk2).1; omega))⟩, ?_, ?_⟩, ?_⟩
      · refine own_still Y2.out.1 (fun g e => hk g (Y2.out.1.lt g e).2 ?_ ?_)
        · intro e2; have := (Y2.out.1.lt g e).1; omega
        · intro e2; have := (Y2.out.1.lt g e).1; have := hva g e2; omega
      · refine (T2.out.2.2.1.mono (S' := fun k => S k ∨ k = bt ∨ k = bf ∨ vb.ownBlock = some k) (fun k e => Or.inl e)).trans (S' := fun k => k = bt ∨ vb.ownBlock = some k) ⟨?_, ?_, ?_, hsz, fun k h1 h2 => hk k h1 (fun e => h2 (Or.inl e)) (fun e => h2 (Or.inr e))⟩ (fun k _ e => e.elim (fun e => Or.inr (Or.inl e)) (fun e => Or.inr (Or.inr (Or.inr e))))
        · exact hg.os
        · exact hg.tape
        · exact hg.output
      · rcases hat2 with h1 | ⟨g, h1, h2⟩
        · exact Or.inl h1
        · exact Or.inr ⟨g, h1, Nat.le_trans hl3 h2⟩
    have YS : Hid (∀ k, S' k → S k ∨ w.heap.size ≤ k) := fun k hk => (Y2.out.2.2 k hk).1.imp id (fun e => Nat.le_trans hl4 e)
    have O2 : Hid ((w2.drew.alloc (rwB ⟨rk, rt, rv⟩)).ownsRow base 48 3 vb B.length (B.flatMap encRw)) := kept_below T2.out.1.r1 hbl
    have N2 : Hid (∀ j u, (encRw ⟨rk, rt, rv⟩)[j]? = some u → (w2.drew.alloc (rwB ⟨rk, rt, rv⟩)).cell? ((⟨w2.heap.size, 0, none⟩ : Addr).add j) = some u) := World.news_of_block (heap_alloc_new w2.drew (rwB ⟨rk, rt, rv⟩))
    have hq1 : bt < w2.heap.size := by omega
    have hq2 : ¬ (bt = w2.heap.size) := by omega
    have hq3 : ¬ (bt = rb) := by omega
    have hq4 : ¬ (rb = bt) := by omega
    have hq5 : rb < w2.heap.size := T2.out.2.2.2
    have hq6 : ¬ (rb = w2.heap.size) := by omega
    have hcA := (T2.out.1.below hbl).cells
    obtain ⟨oaA, cA, evA⟩ := slice_form62 HT.out.r1
    subst evA
    have hml : loadTale = Op.load 33 (.tmp 59) := rfl
    rw [← hml]
    clear hbl
    go_region_held3 (fun W => W.cell? ⟨rb, 0, none⟩ = some (.int .i64 rk) ∧ W.cell? ⟨rb, 1, none⟩ = some (.int .i64 rt) ∧ W.cell? ⟨rb, 2, none⟩ = some (.int .i64 rv)) (first | (go_keep; done) | fail) (first
      | (refine step_append_lies _ (by rfl) _ _ _ (by rfl) base 48 i0 zRw 3 24 Tryz.underlying33 hi0 hz0 hz1 hz2 rfl (by omega) (.slice oaA B.length cA) B.length (B.flatMap encRw) (by rfl) ?_ ⟨w2.heap.size, 0, none⟩ 1 1 (encRw ⟨rk, rt, rv⟩) (by rfl) (by rfl) ?_ (encRw_one _) (by omega) (by unfold maxLen; omega) (by omega) ?_ _ rfl ?_; (exact O2.out); (exact N2.out); (simp; omega); intro g3 cap3 w3 hown3 hgrow3 hat3 hlt3; have h3 := HD.out g3 cap3 w3 hown3 hgrow3 hat3; have hc3 := h3.1; have hx3 := h3.2.1; have Z3 := h3.2.2; clear hown3 hgrow3 hat3 hlt3 h3)
      | fail)
    all_goals clear hc2 hx2 hcA HD O2 N2 T2 Y2 hml
    all_goals
      go_wp2
      go_loopg [9] C.length (fun gg s9 wr => ∃ i : Nat, i ≤ C.length ∧ gg = C.length - i ∧ s9 = .int .i64 i ∧ Hid (Dl Eng' S' (fun k => S k ∨ k = bt ∨ k = bf ∨ (Value.slice oaA B.length cA).ownBlock = some k) w base bt (.pointer (some ⟨be, 0, none⟩)) lo hi mode a0 a1 va (.slice (some ⟨g3, 0, none⟩) (B.length + 1) cap3) bf nF A (B ++ [⟨rk, rt, rv⟩]) F C w1.heap.size (.slice oa9 C.length c9) i wr))
      case atStart => exact ⟨0, Nat.zero_le _, rfl, rfl, Z3.out.1⟩
      case round =>
        obtain ⟨i, hile, hgk, rfl, I⟩ := hrel
        have HG : Hid (gk = C.length - i) := hgk
        clear hgk
        by_cases hlt2 : i < C.length
        · obtain ⟨c, hc⟩ : ∃ c, C[i]? = some c := ⟨_, List.getElem?_eq_getElem hlt2⟩
          obtain ⟨gs9, ck9, eoa⟩ := Go.Joins.ownsRow_form I.out.row (show 0 < C.length by omega)
          cases eoa
          have hcc := ch_cells I.out.row i c hc
          have hgl : gs9 < wr.heap.size := (I.out.row.lt gs9 rfl).2
          have hcw := HO.out.2.1 c (List.mem_of_getElem? hc)
          have hct := I.out.tale.cells
          have hbw : bt < wr.heap.size := I.out.tale.lt
          obtain ⟨n, D, hn, hown, hcn⟩ := I.out.tale.fold
          have hAt := appC_take C F i c hc
          have hLl := appC_len (C.take i) F
          have hLl2 : (C.take i).length ≤ C.length := by rw [List.length_take]; omega
          have hLc : (appC F (C.take i)).count c.x ≤ (appC F (C.take i)).length := List.count_le_length
          have HC : Hid (C[i]? = some c) := hc
          generalize hL : appC F (C.take i) = L at *
          have j1 : (0 : Int) ≤ (i : Int) := by omega
          have j2 : (i : Int) < (C.length : Int) := by omega
          have j3 : (C.length : Int) ≤ 1000000 := by omega
          have hbW : Below wr.heap.size wr (wr.alloc (.cells (bits10 c) 66)).drew := (Go.Joins.below_alloc1 _ _).drew
          have hLb : L.length ≤ 2000000 := by omega
          have hok9 := okC_at C F i c HO.out.1 hc
          rw [hL] at hok9
          obtain ⟨cx, cg⟩ := c
          have hLc2 : L.count cx ≤ L.length := List.count_le_length
          clear hLc
          cases cg
          · have hrun := look0 (hown.alloc (.cells (bits10 ⟨cx, false⟩) 66)).drew hcn cx hcw
            obtain ⟨v0, st, W1, W2, he1, he2, hown2, hgr⟩ := entry (hown.alloc (.cells (bits10 ⟨cx, false⟩) 66)).drew (by omega) cx hcw (L.count cx + 1 : Nat) (wf_nat _ (by omega))
            have hrun1 := look_entry0 (hown.alloc (.cells (bits10 ⟨cx, false⟩) 66)).drew hcn (by omega) cx hcw he1
            have I2 : Hid (Dl Eng' S' (fun k => S k ∨ k = bt ∨ k = bf ∨ (Value.slice oaA B.length cA).ownBlock = some k) w base bt (.pointer (some ⟨be, 0, none⟩)) lo hi mode a0 a1 va (.slice (some ⟨g3, 0, none⟩) (B.length + 1) cap3) bf nF A (B ++ [⟨rk, rt, rv⟩]) F C w1.heap.size (.slice (some ⟨gs9, 0, none⟩) C.length c9) (i + 1) W2) := (I.out.below HO.out.2.2.1 hbW).step HO.out.2.2.1 hgr (by omega) hown2 (by
              rw [hAt]
              exact hcn.put cx hcw _ (by simp) (fun y hy => by simp [Ne.symm hy]) (fun y hy => by simpa using hy)) (Or.inr (Or.inr (Or.inl rfl)))
            have e1 : ((L.count cx + 1 : Nat) : Int) = (L.count cx : Int) + 1 := by omega
            rw [e1] at he2
            have hle1 : (L.count cx : Int) ≤ 3000000 := by omega
            have hle0 : (0 : Int) ≤ (L.count cx : Int) := by omega
            generalize (L.count cx : Int) = cc at *
            simp only [vO] at hrun hrun1 he1 he2
            simp only at hcc
            clear hL hAt hLl hLl2 hLc2 hLb hok9 hn hown hcn hown2 hgr hbW hcw e1 hc
            go_wp2
            go_region
            all_goals (try go_wp2)
            all_goals go_roundg (C.length - (i + 1))
            all_goals first
              | (have := HG.out; omega)
              | exact ⟨i + 1, by omega, rfl, by first | rfl | (congr 1; omega) | go_num, I2⟩
          · obtain ⟨hmem, hnp⟩ := hok9 rfl
            have hmem2 : cx ∈ L := hmem
            have hnp2 : (cx.hl && cx.hr) = false := hnp
            have hpos : 0 < L.count cx := List.count_pos_iff.2 hmem2
            have hrun := look0 (hown.alloc (.cells (bits10 ⟨cx, true⟩) 66)).drew hcn cx hcw
            have hrun2 := look0 (hown.alloc (.cells (bits10 ⟨cx, true⟩) 66)).drew.drew hcn cx hcw
            obtain ⟨v0, st, W1, W2, he1, he2, hown2, hgr⟩ := entry (hown.alloc (.cells (bits10 ⟨cx, true⟩) 66)).drew.drew (by omega) cx hcw (L.count cx - 1 : Nat) (wf_nat _ (by omega))
            have hrun1 := look_entry0 (hown.alloc (.cells (bits10 ⟨cx, true⟩) 66)).drew.drew hcn (by omega) cx hcw he1
            have I2 : Hid (Dl Eng' S' (fun k => S k ∨ k = bt ∨ k = bf ∨ (Value.slice oaA B.length cA).ownBlock = some k) w base bt (.pointer (some ⟨be, 0, none⟩)) lo hi mode a0 a1 va (.slice (some ⟨g3, 0, none⟩) (B.length + 1) cap3) bf nF A (B ++ [⟨rk, rt, rv⟩]) F C w1.heap.size (.slice (some ⟨gs9, 0, none⟩) C.length c9) (i + 1) W2) := (I.out.below HO.out.2.2.1 hbW.drew).step HO.out.2.2.1 hgr (by omega) hown2 (by
              rw [hAt]
              exact hcn.put cx hcw _ (by simp) (fun y hy => by simp [List.count_erase_of_ne hy]) (fun y hy => Or.inr (List.mem_of_mem_erase (by simpa using hy)))) (Or.inr (Or.inr (Or.inl rfl)))
            have e1 : ((L.count cx - 1 : Nat) : Int) = (L.count cx : Int) - 1 := by omega
            rw [e1] at he2
            have hle1 : (L.count cx : Int) ≤ 3000000 := by omega
            have hle0 : (1 : Int) ≤ (L.count cx : Int) := by omega
            have hz9 : ((L.count cx : Int) == 0) = false := by simp only [beq_eq_false_iff_ne]; omega
            generalize (L.count cx : Int) = cc at *
            simp only [vO, bits10] at hrun hrun1 hrun2 he1 he2
            simp only at hcc
            clear hL hAt hLl hLl2 hLc2 hLb hok9 hn hown hcn hown2 hgr hbW hcw e1 hc hmem hmem2 hpos hnp
            cases hhl : cx.hl
            all_goals (rw [hhl] at hcc hrun hrun1 hrun2 he1)
            · clear hnp2
              go_wp2
              go_region
              all_goals (try go_wp2)
              all_goals go_region
              all_goals (try go_wp2)
              all_goals go_roundg (C.length - (i + 1))
              all_goals first
                | (have := HG.out; omega)
                | exact ⟨i + 1, by omega, rfl, by first | rfl | (congr 1; omega) | go_num, I2⟩
            · have hhr : cx.hr = false := by rw [hhl] at hnp2; simpa using hnp2
              rw [hhr] at hcc hrun hrun1 hrun2 he1
              clear hnp2
              go_wp2
              go_region
              all_goals (try go_wp2)
              all_goals go_region
              all_goals (try go_wp2)
              all_goals go_roundg (C.length - (i + 1))
              all_goals first
                | (have := HG.out; omega)
                | exact ⟨i + 1, by omega, rfl, by first | rfl | (congr 1; omega) | go_num, I2⟩
        · have j2 : ¬ ((i : Int) < (C.length : Int)) := by omega
          have hie : C.take i = C := List.take_of_length_le (by omega)
          go_wp2
          go_ret
          have hI := I.out
          have hie2 : i = C.length := by omega
          subst hie2
          refine ⟨rfl, _, ?_, S', hI.eng, fun k hk => ⟨YS.out k hk, hI.apart k hk⟩, hI.turn, Z3.out.2⟩
          have := hI.tale
          rw [hie] at this
          exact this

end Go.Proofs.YtmmbjbgimpgcfaaGreatDoor
