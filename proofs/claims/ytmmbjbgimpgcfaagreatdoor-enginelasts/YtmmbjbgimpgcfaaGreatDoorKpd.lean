/- What all rows should come to (estuarykeep.should). -/
import Derived.Test.YtmmbjbgimpgcfaaGreatDoorKpc
namespace Go.Proofs.YtmmbjbgimpgcfaaGreatDoor
open Go.RowKit Go.Sort
set_option maxRecDepth 100000

theorem infoB : (Tryz.prog.info? 4).map (fun i => (i.zero, i.size, i.bytes)) = some (some (.bool false), 1, 1) := by kernel_rfl
theorem made_bools (n : Nat) : (madeCells (Value.bool false).cells (n * 1)).toList = boolsOf (fun _ => false) n := by
  apply List.ext_getElem?
  intro j
  by_cases hj : j < n
  · have h0 : j % 1 = 0 := Nat.mod_one j
    simp [madeCells, boolsOf, hj, Value.cells, h0]
  · have h1 : (boolsOf (fun _ => false) n)[j]? = none := by simp [boolsOf]; omega
    rw [h1]
    simp [madeCells]; omega

def eachOf (lo hi mode : Int) (B : List Rw) (a : Rw) : List O := (B.filter (mB lo hi a)).map (pairRw a) ++ (if B.any (mB lo hi a) = false ∧ tellsB mode 0 = true then [leftRw a] else [])
theorem eachOf_len (lo hi mode : Int) (B : List Rw) (a : Rw) : (eachOf lo hi mode B a).length ≤ B.length + 1 := by
  unfold eachOf
  rw [List.length_append, List.length_map]
  have := List.length_filter_le (mB lo hi a) B
  split <;> simp <;> omega
theorem eaches_len (lo hi mode : Int) (B : List Rw) (A : List Rw) : (A.flatMap (eachOf lo hi mode B)).length ≤ A.length * (B.length + 1) := by
  induction A with
  | nil => simp
  | cons a r ih =>
    have := eachOf_len lo hi mode B a
    rw [List.flatMap_cons, List.length_append, List.length_cons, Nat.add_mul]
    omega

def atB (p : Rw → Bool) (B : List Rw) (j : Nat) : Bool := match B[j]? with | some b => p b | none => false
def flAt (lo hi : Int) (A B : List Rw) (j : Nat) : Bool := atB (fun b => A.any fun a => mB lo hi a b) B j
def flIn (lo hi : Int) (A B : List Rw) (a : Rw) (k j : Nat) : Bool := flAt lo hi A B j || (decide (j < k) && atB (mB lo hi a) B j)
theorem flIn_zero (lo hi : Int) (A B : List Rw) (a : Rw) : flIn lo hi A B a 0 = flAt lo hi A B := by funext j; simp [flIn]
theorem flIn_true {lo hi : Int} {A B : List Rw} {a b : Rw} {k : Nat} (hb : B[k]? = some b) (hq : mB lo hi a b = true) : (fun j => if j = k then true else flIn lo hi A B a k j) = flIn lo hi A B a (k + 1) := by
  funext j
  by_cases e : j = k
  · subst e; simp [flIn, atB, hb, hq]
  · rw [if_neg e]
    have : decide (j < k + 1) = decide (j < k) := by rw [decide_eq_decide]; omega
    simp [flIn, this]
theorem flIn_false {lo hi : Int} {A B : List Rw} {a b : Rw} {k : Nat} (hb : B[k]? = some b) (hq : mB lo hi a b = false) : flIn lo hi A B a k = flIn lo hi A B a (k + 1) := by
  funext j
  by_cases e : j = k
  · subst e; simp [flIn, atB, hb, hq]
  · have : decide (j < k + 1) = decide (j < k) := by rw [decide_eq_decide]; omega
    simp [flIn, this]
theorem flIn_all (lo hi : Int) (A B : List Rw) (a : Rw) : flIn lo hi A B a B.length = flAt lo hi (A ++ [a]) B := by
  funext j
  unfold flIn flAt atB
  cases hj : B[j]? with
  | none => simp
  | some b =>
    have : j < B.length := (List.getElem?_eq_some_iff.1 hj).1
    simp [this, List.any_append]
theorem flAt_nil (lo hi : Int) (B : List Rw) : flAt lo hi [] B = fun _ => false := by
  funext j; unfold flAt atB; split <;> simp
theorem emit_true {lo hi : Int} {B : List Rw} {a b : Rw} {k : Nat} (hb : B[k]? = some b) (hq : mB lo hi a b = true) (X : List O) : (((B.take (k + 1)).filter (mB lo hi a)).map (pairRw a)).reverse ++ X = pairRw a b :: ((((B.take k).filter (mB lo hi a)).map (pairRw a)).reverse ++ X) := by
  rw [List.take_add_one, hb, List.filter_append, List.map_append, List.reverse_append]
  simp [hq]
theorem emit_false {lo hi : Int} {B : List Rw} {a b : Rw} {k : Nat} (hb : B[k]? = some b) (hq : mB lo hi a b = false) : ((B.take (k + 1)).filter (mB lo hi a)) = ((B.take k).filter (mB lo hi a)) := by
  rw [List.take_add_one, hb, List.filter_append]
  simp [hq]
theorem any_step {p : Rw → Bool} {B : List Rw} {b : Rw} {k : Nat} (hb : B[k]? = some b) : (B.take (k + 1)).any p = ((B.take k).any p || p b) := by
  rw [List.take_add_one, hb, List.any_append]; simp

set_option maxHeartbeats 8000000 in
theorem should_any (base bt : Nat) (ve : Value) (lo hi mode a0 a1 : Int) (va vb : Value) (bf nF : Nat) (A B : List Rw) (F : List O) (w : World) (h : TaleAt w base bt ve lo hi mode a0 a1 va vb bf nF A B F)
    (hA : ∀ r ∈ A, r.small) (hB : ∀ r ∈ B, r.small) (hAl : A.length ≤ 1000) (hBl : B.length ≤ 1000) :
    Calls Tryz.prog 12 #[.pointer (some ⟨bt, 0, none⟩)] w fun e w' => e = .returned (.map (some w.heap.size)) ∧ ∃ n D X, w'.ownsMap Tryz.prog 50 (plainElem (H := Unit) Tryz.prog 3) w.heap.size n D ∧ Cnt D X ∧ X.Perm (viewOf lo hi mode A B) ∧ Below w.heap.size w w' := by
  obtain ⟨i0, hi0, hz0, hz1, hz2⟩ := info_parts infoB
  have HT : Hid (TaleAt w base bt ve lo hi mode a0 a1 va vb bf nF A B F) := h
  have HAB : Hid ((∀ r ∈ A, r.small) ∧ (∀ r ∈ B, r.small)) := ⟨hA, hB⟩
  have hlt := h.lt
  obtain ⟨oaA, cA, evA⟩ := slice_form62 h.r0
  obtain ⟨oaB, cB, evB⟩ := slice_form62 h.r1
  subst evA evB
  have hct := fun (W : World) (hW : Below w.heap.size w W) => (HT.out.below hW).cells
  have HC : Hid (∀ W, Below w.heap.size w W → W.cell? ⟨bt, 1, none⟩ = some (.int .i64 lo) ∧ W.cell? ⟨bt, 2, none⟩ = some (.int .i64 hi) ∧ W.cell? ⟨bt, 3, none⟩ = some (.int .i64 mode) ∧ W.cell? ⟨bt, 4, none⟩ = some (.slice oaA A.length cA) ∧ W.cell? ⟨bt, 5, none⟩ = some (.slice oaB B.length cB)) := by
    intro W hW
    have hb := (HT.out.below hW).blk
    refine ⟨?_, ?_, ?_, ?_, ?_⟩ <;> (rw [Go.Joins.cell_of_block hb]; rfl)
  have hmm := @run_makeMap Tryz.prog
  have hb1 : Below w.heap.size w (w.alloc (.map #[] 0)) := Go.Joins.below_alloc1 _ _
  have hc1 := HC.out _ hb1
  have M1 : Hid ((w.alloc (.map #[] 0)).ownsMap Tryz.prog 50 (plainElem (H := Unit) Tryz.prog 3) w.heap.size 0 (.map [])) := World.ownsMap_made (H := Unit) w Tryz.prog 50 (plainElem Tryz.prog 3)
  have b1 : (A.length : Int) ≤ 1000 := by omega
  have b2 : (B.length : Int) ≤ 1000 := by omega
  have hbt1 : bt < (w.alloc (.map #[] 0)).heap.size := by simp; omega
  clear h hA hB hct
  go_enter Tryz.func12, Tryz.ntmps12
  go_wp2_with (first
    | (at_make; refine wpList_make_full _ rfl _ _ 88 rfl w.heap.size 4 i0 (.bool false) 1 Tryz.underlying88 hi0 hz0 hz1 _ _ _ _ B.length rfl rfl rfl rfl (by rw [hz2]; omega) (by unfold maxLen; omega) (by simp) ?_; intro w2 hown2 hg2)
    | fail)
  have S0 : Hid (Sh w (w.alloc (.map #[] 0)).heap.size B.length [] (fun _ => false) w2) := by
    have hbl : RowKit.Below (w.alloc (.map #[] 0)).heap.size (w.alloc (.map #[] 0)) w2 := ⟨hg2.os, hg2.tape, hg2.output, hg2.size, fun k hk => hg2.block k hk (by simp)⟩
    rw [made_bools] at hown2
    exact ⟨hb1.trans (hbl.mono hb1.size), ⟨0, .map [], Nat.le_refl _, own_map_kept M1.out (hbl.block _ M1.out.lt), cnt_nil⟩, hown2⟩
  clear hown2 hg2 hmm hc1 hb1 M1 hbt1
  rw [show (w.alloc (.map #[] 0)).heap.size = w.heap.size + 1 by simp] at S0
  obtain ⟨gm, hgm⟩ : ∃ gm, gm = w.heap.size + 1 := ⟨_, rfl⟩
  rw [← hgm] at S0 ⊢
  clear hgm
  have hcap : A.length * (B.length + 1) ≤ 2000000 := by
    have := Nat.mul_le_mul hAl (show B.length + 1 ≤ 1001 by omega)
    omega
  go_loopg [5] A.length (fun gg s5 wr => ∃ i : Nat, i ≤ A.length ∧ gg = A.length - i ∧ s5 = .int .i64 i ∧ Hid (Sh w gm B.length ((A.take i).flatMap (eachOf lo hi mode B)).reverse (flAt lo hi (A.take i) B) wr))
  case atStart => exact ⟨0, Nat.zero_le _, rfl, rfl, by rw [List.take_zero, flAt_nil]; exact S0⟩
  case round =>
    obtain ⟨i, hile, hgk, rfl, I⟩ := hrel
    have HG : Hid (gk = A.length - i) := hgk
    clear hgk S0
    have hcw := HC.out wr I.out.low
    have hbw : bt < wr.heap.size := Nat.lt_of_lt_of_le hlt I.out.low.size
    by_cases hlt2 : i < A.length
    · obtain ⟨a, ha⟩ : ∃ a, A[i]? = some a := ⟨_, List.getElem?_eq_getElem hlt2⟩
      obtain ⟨gA, ckA, eoa⟩ := Go.Joins.ownsRow_form HT.out.r0 (show 0 < A.length by omega)
      cases eoa
      have hca := rws_cells (kept_below HT.out.r0 I.out.low) i a ha
      have has := HAB.out.1 a (List.mem_of_getElem? ha)
      have j1 : (0 : Int) ≤ (i : Int) := by omega
      have j2 : (i : Int) < (A.length : Int) := by omega
      have htk : A.take (i + 1) = A.take i ++ [a] := by rw [List.take_add_one, ha]; rfl
      have hXl : ((A.take i).flatMap (eachOf lo hi mode B)).reverse.length ≤ 2000000 := by
        rw [List.length_reverse]
        have h1 := eaches_len lo hi mode B (A.take i)
        have h2 : (A.take i).length * (B.length + 1) ≤ A.length * (B.length + 1) := Nat.mul_le_mul_right _ (by rw [List.length_take]; omega)
        omega
      have HE : Hid (((A.take (i + 1)).flatMap (eachOf lo hi mode B)).reverse = (eachOf lo hi mode B a).reverse ++ ((A.take i).flatMap (eachOf lo hi mode B)).reverse ∧ flAt lo hi (A.take (i + 1)) B = flIn lo hi (A.take i) B a B.length) := by
        refine ⟨?_, ?_⟩
        · rw [htk, List.flatMap_append, List.reverse_append]; simp
        · rw [flIn_all, htk]
      generalize ((A.take i).flatMap (eachOf lo hi mode B)).reverse = Xo at *
      have S1 : Hid (Sh w gm B.length Xo (flIn lo hi (A.take i) B a 0) (wr.alloc (rwB a)) ∧ (wr.alloc (rwB a)).heap[wr.heap.size]? = some (rwB a) ∧ w.heap.size < wr.heap.size ∧ gm < wr.heap.size) := ⟨by rw [flIn_zero]; exact I.out.below (Go.Joins.below_alloc1 _ _), heap_alloc_new _ _, by have := I.out.gm_lt; have := I.out.gm_ne; omega, I.out.gm_lt.2⟩
      clear ha htk
      go_wp2
      revert S1
      generalize wr.alloc (.cells #[.int .i64 a.k, .int .i64 a.t, .int .i64 a.v] 48) = w5
      generalize wr.heap.size = lb
      intro S1
      clear hcw hca hbw I
      go_loopg [7, 8] B.length (fun gg s7 s8 wz => ∃ k : Nat, k ≤ B.length ∧ gg = B.length - k ∧ s8 = .int .i64 k ∧ s7 = .bool ((B.take k).any (mB lo hi a)) ∧ Hid (Sh w gm B.length ((((B.take k).filter (mB lo hi a)).map (pairRw a)).reverse ++ Xo) (flIn lo hi (A.take i) B a k) wz ∧ wz.heap[lb]? = some (rwB a)))
      case atStart => exact ⟨0, Nat.zero_le _, rfl, rfl, by simp, ⟨by simpa using S1.out.1, S1.out.2.1⟩⟩
      case round =>
        obtain ⟨k, hkle, hgk2, rfl, rfl, J⟩ := hrel
        have HG2 : Hid (gk = B.length - k) := hgk2
        clear hgk2 S1
        have hcw := HC.out wr J.out.1.low
        have hbw : bt < wr.heap.size := Nat.lt_of_lt_of_le hlt J.out.1.low.size
        have hlx := rw_cells J.out.2
        have hlbw : lb < wr.heap.size := (Array.getElem?_eq_some_iff.1 J.out.2).1
        have hlbn : lb ≠ w.heap.size := fun e => by
          obtain ⟨n, D, _, ⟨es, c, h1, _⟩, _⟩ := J.out.1.map
          have h2 := J.out.2
          rw [e, h1] at h2
          cases h2
        have hlbg : lb ≠ gm := fun e => by
          rcases J.out.1.met.2 with ⟨h1, _⟩ | ⟨g, cap, cur, h1, _, hg, _⟩
          · cases h1
          · cases h1
            have h2 := J.out.2
            rw [e, hg] at h2
            cases h2
        by_cases hlt3 : k < B.length
        · obtain ⟨b, hb⟩ : ∃ b, B[k]? = some b := ⟨_, List.getElem?_eq_getElem hlt3⟩
          obtain ⟨gB, ckB, eob⟩ := Go.Joins.ownsRow_form HT.out.r1 (show 0 < B.length by omega)
          cases eob
          have hcb := rws_cells (kept_below HT.out.r1 J.out.1.low) k b hb
          have hbs := HAB.out.2 b (List.mem_of_getElem? hb)
          have ed : IntKind.i64.wrap (b.t - a.t) = b.t - a.t := wr64 (by have := hbs.2.1; have := has.2.1; omega) (by have := hbs.2.1; have := has.2.1; omega)
          have k1 : (0 : Int) ≤ (k : Int) := by omega
          have k2 : (k : Int) < (B.length : Int) := by omega
          have HB : Hid (B[k]? = some b ∧ b.small ∧ a.small) := ⟨hb, hbs, has⟩
          have hXl2 : ((((B.take k).filter (mB lo hi a)).map (pairRw a)).reverse ++ Xo).length ≤ 3000000 := by
            rw [List.length_append, List.length_reverse, List.length_map]
            have h1 := List.length_filter_le (mB lo hi a) (B.take k)
            have h2 : (B.take k).length ≤ B.length := by rw [List.length_take]; omega
            omega
          have S2 : Hid (Sh w gm B.length ((((B.take k).filter (mB lo hi a)).map (pairRw a)).reverse ++ Xo) (flIn lo hi (A.take i) B a k) (wr.alloc (rwB b)) ∧ (wr.alloc (rwB b)).heap[lb]? = some (rwB a)) := ⟨J.out.1.below (Go.Joins.below_alloc1 _ _), (Below.heap_alloc _ _ _ hlbw).trans J.out.2⟩
          have hany := any_step (p := mB lo hi a) hb
          clear hb hbs
          cases hq : mB lo hi a b
          · have HE2 : Hid ((B.take (k + 1)).filter (mB lo hi a) = (B.take k).filter (mB lo hi a) ∧ flIn lo hi (A.take i) B a k = flIn lo hi (A.take i) B a (k + 1) ∧ (B.take (k + 1)).any (mB lo hi a) = (B.take k).any (mB lo hi a)) := ⟨emit_false HB.out.1 hq, flIn_false HB.out.1 hq, by rw [hany, hq, Bool.or_false]⟩
            have hnq : ¬ (a.k = b.k ∧ lo ≤ b.t - a.t ∧ b.t - a.t ≤ hi) := by simpa [mB] using hq
            have S3 : Hid (Sh w gm B.length ((((B.take (k + 1)).filter (mB lo hi a)).map (pairRw a)).reverse ++ Xo) (flIn lo hi (A.take i) B a (k + 1)) (wr.alloc (rwB b)) ∧ (wr.alloc (rwB b)).heap[lb]? = some (rwB a)) := by
              show _ ∧ _
              rw [HE2.out.1, ← HE2.out.2.1]
              exact S2.out
            clear hany hq
            by_cases c1 : a.k = b.k
            · have d1 : (a.k == b.k) = true := by simp [c1]
              by_cases c2 : lo ≤ b.t - a.t
              · have c3 : ¬ (b.t - a.t ≤ hi) := fun c3 => hnq ⟨c1, c2, c3⟩
                clear hnq c1
                go_wp2
                go_roundg (B.length - (k + 1))
                case measure => have := HG2.out; omega
                case rel => exact ⟨k + 1, by omega, rfl, by first | rfl | (congr 1; omega) | go_num, by rw [HE2.out.2.2], S3⟩
              · clear hnq c1
                go_wp2
                go_roundg (B.length - (k + 1))
                case measure => have := HG2.out; omega
                case rel => exact ⟨k + 1, by omega, rfl, by first | rfl | (congr 1; omega) | go_num, by rw [HE2.out.2.2], S3⟩
            · have d1 : (a.k == b.k) = false := by simp [c1]
              clear hnq c1
              go_wp2
              go_roundg (B.length - (k + 1))
              case measure => have := HG2.out; omega
              case rel => exact ⟨k + 1, by omega, rfl, by first | rfl | (congr 1; omega) | go_num, by rw [HE2.out.2.2], S3⟩
          · have HE2 : Hid ((((B.take (k + 1)).filter (mB lo hi a)).map (pairRw a)).reverse ++ Xo = pairRw a b :: ((((B.take k).filter (mB lo hi a)).map (pairRw a)).reverse ++ Xo) ∧ (fun j => if j = k then true else flIn lo hi (A.take i) B a k j) = flIn lo hi (A.take i) B a (k + 1) ∧ (B.take (k + 1)).any (mB lo hi a) = true) := ⟨emit_true HB.out.1 hq Xo, flIn_true HB.out.1 hq, by rw [hany, hq, Bool.or_true]⟩
            have hyq : a.k = b.k ∧ lo ≤ b.t - a.t ∧ b.t - a.t ≤ hi := by simpa [mB] using hq
            have d1 : (a.k == b.k) = true := by simp [hyq.1]
            have c2 := hyq.2.1
            have c3 := hyq.2.2
            have hlw := J.out.1.low.size
            obtain ⟨v0, st, W1, W2, hrun, he1, hrun1, he2, S3, hg3, cc0, cc1⟩ := (S2.out.1.below ((RowKit.Below.refl _ _).drew)).inc (pairRw a b) (pairRw_wf HB.out.2.2 HB.out.2.1) (by omega)
            have hfl := S3.flag hlt3
            have hlb3 : W2.heap[lb]? = some (rwB a) := (hg3.block lb (by simp; omega) (by simpa using hlbn)).trans S2.out.2
            have S4 : Hid (Sh w gm B.length ((((B.take (k + 1)).filter (mB lo hi a)).map (pairRw a)).reverse ++ Xo) (flIn lo hi (A.take i) B a (k + 1)) (W2.setCell ⟨gm, k, none⟩ (.bool true)) ∧ (W2.setCell ⟨gm, k, none⟩ (.bool true)).heap[lb]? = some (rwB a)) := by
              show _ ∧ _
              rw [HE2.out.1, ← HE2.out.2.1]
              exact ⟨S3.mark, (Below.heap_setCell _ _ _ _ hlbg).trans hlb3⟩
            generalize (List.count (pairRw a b) ((((B.take k).filter (mB lo hi a)).map (pairRw a)).reverse ++ Xo) : Int) = cc at *
            simp only [vO, pairRw] at hrun he1 hrun1 he2
            clear hany hq hyq S2 S3 hg3 hlb3 hXl2 hlw
            go_wp2
            go_region
            all_goals (try go_wp2)
            all_goals go_roundg (B.length - (k + 1))
            all_goals first
              | (have := HG2.out; omega)
              | exact ⟨k + 1, by omega, rfl, by first | rfl | (congr 1; omega) | go_num, by rw [HE2.out.2.2], S4⟩
        · have k2 : ¬ ((k : Int) < (B.length : Int)) := by omega
          have hke : B.take k = B := List.take_of_length_le (by omega)
          have hke2 : k = B.length := by omega
          have J2 : Hid (Sh w gm B.length (((B.filter (mB lo hi a)).map (pairRw a)).reverse ++ Xo) (flIn lo hi (A.take i) B a B.length) wr) := by
            have := J.out.1
            rw [hke, hke2] at this
            exact this
          rw [hke]
          clear hke hke2 J
          have hXl3 : (((B.filter (mB lo hi a)).map (pairRw a)).reverse ++ Xo).length ≤ 3000000 := by
            rw [List.length_append, List.length_reverse, List.length_map]
            have h1 := List.length_filter_le (mB lo hi a) B
            omega
          cases hany : B.any (mB lo hi a)
          · cases hm1 : (mode == 1)
            · cases hm3 : (mode == 3)
              · have HD : Hid (((A.take (i + 1)).flatMap (eachOf lo hi mode B)).reverse = (((B.filter (mB lo hi a)).map (pairRw a)).reverse ++ Xo) ∧ flAt lo hi (A.take (i + 1)) B = flIn lo hi (A.take i) B a B.length) := ⟨by rw [HE.out.1]; simp [eachOf, tellsB, hm1, hm3], HE.out.2⟩
                clear hany
                go_wp2
                go_roundg (A.length - (i + 1))
                case measure => have := HG.out; omega
                case rel => exact ⟨i + 1, by omega, rfl, by first | rfl | (congr 1; omega) | go_num, by rw [HD.out.1, HD.out.2]; exact J2⟩
              · have HD : Hid (((A.take (i + 1)).flatMap (eachOf lo hi mode B)).reverse = leftRw a :: (((B.filter (mB lo hi a)).map (pairRw a)).reverse ++ Xo) ∧ flAt lo hi (A.take (i + 1)) B = flIn lo hi (A.take i) B a B.length) := ⟨by rw [HE.out.1]; simp [eachOf, hany, tellsB, hm1, hm3], HE.out.2⟩
                obtain ⟨v0, st, W1, W2, hrun, he1, hrun1, he2, S3, hg3, cc0, cc1⟩ := (J2.out.below ((RowKit.Below.refl _ _).drew)).inc (leftRw a) (leftRw_wf has) (by omega)
                have S4 : Hid (Sh w gm B.length (leftRw a :: (((B.filter (mB lo hi a)).map (pairRw a)).reverse ++ Xo)) (flIn lo hi (A.take i) B a B.length) W2) := S3
                generalize (List.count (leftRw a) (((B.filter (mB lo hi a)).map (pairRw a)).reverse ++ Xo) : Int) = cc at *
                simp only [vO, leftRw, loneO, ↓reduceIte] at hrun he1 hrun1 he2
                clear hany S3 hg3 hXl3 J2
                go_wp2
                go_region
                all_goals (try go_wp2)
                all_goals go_roundg (A.length - (i + 1))
                all_goals first
                  | (have := HG.out; omega)
                  | exact ⟨i + 1, by omega, rfl, by first | rfl | (congr 1; omega) | go_num, by rw [HD.out.1, HD.out.2]; exact S4⟩
            · have HD : Hid (((A.take (i + 1)).flatMap (eachOf lo hi mode B)).reverse = leftRw a :: (((B.filter (mB lo hi a)).map (pairRw a)).reverse ++ Xo) ∧ flAt lo hi (A.take (i + 1)) B = flIn lo hi (A.take i) B a B.length) := ⟨by rw [HE.out.1]; simp [eachOf, hany, tellsB, hm1], HE.out.2⟩
              obtain ⟨v0, st, W1, W2, hrun, he1, hrun1, he2, S3, hg3, cc0, cc1⟩ := (J2.out.below ((RowKit.Below.refl _ _).drew)).inc (leftRw a) (leftRw_wf has) (by omega)
              have S4 : Hid (Sh w gm B.length (leftRw a :: (((B.filter (mB lo hi a)).map (pairRw a)).reverse ++ Xo)) (flIn lo hi (A.take i) B a B.length) W2) := S3
              generalize (List.count (leftRw a) (((B.filter (mB lo hi a)).map (pairRw a)).reverse ++ Xo) : Int) = cc at *
              simp only [vO, leftRw, loneO, ↓reduceIte] at hrun he1 hrun1 he2
              clear hany S3 hg3 hXl3 J2
              go_wp2
              go_region
              all_goals (try go_wp2)
              all_goals go_roundg (A.length - (i + 1))
              all_goals first
                | (have := HG.out; omega)
                | exact ⟨i + 1, by omega, rfl, by first | rfl | (congr 1; omega) | go_num, by rw [HD.out.1, HD.out.2]; exact S4⟩
          · have HD : Hid (((A.take (i + 1)).flatMap (eachOf lo hi mode B)).reverse = (((B.filter (mB lo hi a)).map (pairRw a)).reverse ++ Xo) ∧ flAt lo hi (A.take (i + 1)) B = flIn lo hi (A.take i) B a B.length) := ⟨by rw [HE.out.1]; simp [eachOf, hany], HE.out.2⟩
            clear hany
            go_wp2
            go_roundg (A.length - (i + 1))
            case measure => have := HG.out; omega
            case rel => exact ⟨i + 1, by omega, rfl, by first | rfl | (congr 1; omega) | go_num, by rw [HD.out.1, HD.out.2]; exact J2⟩
    · have j2 : ¬ ((i : Int) < (A.length : Int)) := by omega
      have hie : A.take i = A := List.take_of_length_le (by omega)
      have I2 : Hid (Sh w gm B.length (A.flatMap (eachOf lo hi mode B)).reverse (flAt lo hi A B) wr) := by
        have := I.out
        rw [hie] at this
        exact this
      clear I hie HG
      have hXl : (A.flatMap (eachOf lo hi mode B)).reverse.length ≤ 2000000 := by
        rw [List.length_reverse]
        have h1 := eaches_len lo hi mode B A
        omega
      go_wp2
      go_loopg [11] B.length (fun gg s11 wz => ∃ k : Nat, k ≤ B.length ∧ gg = B.length - k ∧ s11 = .int .i64 k ∧ Hid (Sh w gm B.length ((((B.take k).filter (fun b => tellsB mode 1 && !A.any fun a => mB lo hi a b)).map rightRw).reverse ++ (A.flatMap (eachOf lo hi mode B)).reverse) (flAt lo hi A B) wz))
      case atStart => exact ⟨0, Nat.zero_le _, rfl, rfl, by simpa using I2⟩
      case round =>
        obtain ⟨k, hkle, hgk2, rfl, J⟩ := hrel
        have HG2 : Hid (gk = B.length - k) := hgk2
        clear hgk2 I2 hcw hbw
        have hcw := HC.out wr J.out.low
        have hbw : bt < wr.heap.size := Nat.lt_of_lt_of_le hlt J.out.low.size
        by_cases hlt3 : k < B.length
        · obtain ⟨b, hb⟩ : ∃ b, B[k]? = some b := ⟨_, List.getElem?_eq_getElem hlt3⟩
          obtain ⟨gB, ckB, eob⟩ := Go.Joins.ownsRow_form HT.out.r1 (show 0 < B.length by omega)
          cases eob
          have hcb := rws_cells (kept_below HT.out.r1 J.out.low) k b hb
          have hbs := HAB.out.2 b (List.mem_of_getElem? hb)
          have k1 : (0 : Int) ≤ (k : Int) := by omega
          have k2 : (k : Int) < (B.length : Int) := by omega
          have hfl := (J.out.below (Go.Joins.below_alloc1 wr (rwB b))).flag hlt3
          have hfa : flAt lo hi A B k = A.any fun a => mB lo hi a b := by unfold flAt atB; rw [hb]
          rw [hfa] at hfl
          have hgl : gm < wr.heap.size := J.out.gm_lt.2
          have htk : ∀ p : Rw → Bool, (B.take (k + 1)).filter p = (B.take k).filter p ++ (if p b = true then [b] else []) := fun p => by
            rw [List.take_add_one, hb, List.filter_append]
            cases hp : p b <;> simp [hp]
          have hXl2 : ((((B.take k).filter (fun b => tellsB mode 1 && !A.any fun a => mB lo hi a b)).map rightRw).reverse ++ (A.flatMap (eachOf lo hi mode B)).reverse).length ≤ 3000000 := by
            rw [List.length_append, List.length_reverse, List.length_map]
            have h1 := List.length_filter_le (fun b => tellsB mode 1 && !A.any fun a => mB lo hi a b) (B.take k)
            have h2 : (B.take k).length ≤ B.length := by rw [List.length_take]; omega
            omega
          have S2 := J.out.below (Go.Joins.below_alloc1 wr (rwB b))
          generalize (A.flatMap (eachOf lo hi mode B)).reverse = Xa at *
          have HN : Hid (∀ (hp : (tellsB mode 1 && !A.any fun a => mB lo hi a b) = false), (((B.take (k + 1)).filter (fun b => tellsB mode 1 && !A.any fun a => mB lo hi a b)).map rightRw).reverse ++ Xa = (((B.take k).filter (fun b => tellsB mode 1 && !A.any fun a => mB lo hi a b)).map rightRw).reverse ++ Xa) := fun hp => by rw [htk, if_neg (by rw [hp]; simp), List.append_nil]
          have HY : Hid (∀ (hp : (tellsB mode 1 && !A.any fun a => mB lo hi a b) = true), (((B.take (k + 1)).filter (fun b => tellsB mode 1 && !A.any fun a => mB lo hi a b)).map rightRw).reverse ++ Xa = rightRw b :: ((((B.take k).filter (fun b => tellsB mode 1 && !A.any fun a => mB lo hi a b)).map rightRw).reverse ++ Xa)) := fun hp => by rw [htk, if_pos hp]; simp
          have HS2 : Hid (Sh w gm B.length ((((B.take k).filter (fun b => tellsB mode 1 && !A.any fun a => mB lo hi a b)).map rightRw).reverse ++ Xa) (flAt lo hi A B) (wr.alloc (rwB b))) := S2
          clear htk hb hfa S2
          cases hany : A.any fun a => mB lo hi a b
          · rw [hany] at hfl
            cases hm1 : (mode == 2)
            · cases hm3 : (mode == 3)
              · have hp := HN.out (by simp [tellsB, hm1, hm3])
                have S3 : Hid (Sh w gm B.length ((((B.take (k + 1)).filter (fun b => tellsB mode 1 && !A.any fun a => mB lo hi a b)).map rightRw).reverse ++ Xa) (flAt lo hi A B) (wr.alloc (rwB b))) := by
                  show Sh _ _ _ _ _ _
                  rw [hp]; exact HS2.out
                clear hp hany
                go_wp2
                go_roundg (B.length - (k + 1))
                case measure => have := HG2.out; omega
                case rel => exact ⟨k + 1, by omega, rfl, by first | rfl | (congr 1; omega) | go_num, S3⟩
              · have hp := HY.out (by simp [tellsB, hm1, hm3, hany])
                obtain ⟨v0, st, W1, W2, hrun, he1, hrun1, he2, S3, hg3, cc0, cc1⟩ := (HS2.out.below ((RowKit.Below.refl _ _).drew)).inc (rightRw b) (rightRw_wf hbs) (by omega)
                have S4 : Hid (Sh w gm B.length ((((B.take (k + 1)).filter (fun b => tellsB mode 1 && !A.any fun a => mB lo hi a b)).map rightRw).reverse ++ Xa) (flAt lo hi A B) W2) := by
                  show Sh _ _ _ _ _ _
                  rw [hp]; exact S3
                generalize (List.count (rightRw b) ((((B.take k).filter (fun b => tellsB mode 1 && !A.any fun a => mB lo hi a b)).map rightRw).reverse ++ Xa) : Int) = cc at *
                simp only [vO, rightRw, loneO] at hrun he1 hrun1 he2
                simp only [show ¬ ((1 : Int) = 0) by omega, ↓reduceIte] at hrun he1 hrun1 he2
                clear hp hany S3 hg3 hXl2
                go_wp2
                go_region
                all_goals (try go_wp2)
                all_goals go_roundg (B.length - (k + 1))
                all_goals first
                  | (have := HG2.out; omega)
                  | exact ⟨k + 1, by omega, rfl, by first | rfl | (congr 1; omega) | go_num, S4⟩
            · have hp := HY.out (by simp [tellsB, hm1, hany])
              obtain ⟨v0, st, W1, W2, hrun, he1, hrun1, he2, S3, hg3, cc0, cc1⟩ := (HS2.out.below ((RowKit.Below.refl _ _).drew)).inc (rightRw b) (rightRw_wf hbs) (by omega)
              have S4 : Hid (Sh w gm B.length ((((B.take (k + 1)).filter (fun b => tellsB mode 1 && !A.any fun a => mB lo hi a b)).map rightRw).reverse ++ Xa) (flAt lo hi A B) W2) := by
                show Sh _ _ _ _ _ _
                rw [hp]; exact S3
              generalize (List.count (rightRw b) ((((B.take k).filter (fun b => tellsB mode 1 && !A.any fun a => mB lo hi a b)).map rightRw).reverse ++ Xa) : Int) = cc at *
              simp only [vO, rightRw, loneO] at hrun he1 hrun1 he2
              simp only [show ¬ ((1 : Int) = 0) by omega, ↓reduceIte] at hrun he1 hrun1 he2
              clear hp hany S3 hg3 hXl2
              go_wp2
              go_region
              all_goals (try go_wp2)
              all_goals go_roundg (B.length - (k + 1))
              all_goals first
                | (have := HG2.out; omega)
                | exact ⟨k + 1, by omega, rfl, by first | rfl | (congr 1; omega) | go_num, S4⟩
          · rw [hany] at hfl
            have hp := HN.out (by simp [hany])
            have S3 : Hid (Sh w gm B.length ((((B.take (k + 1)).filter (fun b => tellsB mode 1 && !A.any fun a => mB lo hi a b)).map rightRw).reverse ++ Xa) (flAt lo hi A B) (wr.alloc (rwB b))) := by
              show Sh _ _ _ _ _ _
              rw [hp]; exact HS2.out
            clear hp hany
            go_wp2
            go_roundg (B.length - (k + 1))
            case measure => have := HG2.out; omega
            case rel => exact ⟨k + 1, by omega, rfl, by first | rfl | (congr 1; omega) | go_num, S3⟩
        · have k2 : ¬ ((k : Int) < (B.length : Int)) := by omega
          have hke : B.take k = B := List.take_of_length_le (by omega)
          rw [hke] at J
          clear hke
          go_wp2
          go_ret
          obtain ⟨n, D, hn, hown, hc⟩ := J.out.map
          refine ⟨rfl, n, D, hown, _, hc, ?_, J.out.low⟩
          refine List.Perm.trans ?_ (walk_perm (mB lo hi) pairRw leftRw rightRw (tellsB mode 0) (tellsB mode 1) A B)
          rw [← List.reverse_append]
          refine (List.reverse_perm _).trans (List.Perm.of_eq ?_)
          unfold walkOf
          congr 1
          cases tellsB mode 1 <;> simp

end Go.Proofs.YtmmbjbgimpgcfaaGreatDoor
