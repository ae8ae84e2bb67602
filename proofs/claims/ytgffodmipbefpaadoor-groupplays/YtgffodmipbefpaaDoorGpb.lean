/- sort.Ints; the document's groups: estuaryref.Groups. -/
import Derived.Test.YtgffodmipbefpaaDoorGpa
import Derived.Shelf.SlIterI.Sorted
namespace Go.Proofs.YtgffodmipbefpaaDoor
open Go.RowKit Go.Maps Go.Sort Go.Shelf
set_option maxRecDepth 100000

/-- Of nothing the document knows nothing. -/
theorem rgroup_none (v : Value) (base : Nat) (w : World) (h : w.ownsRow base 37 9 v 0 []) (k : Int) :
    Calls Tryd.prog 32 #[v, .int .i64 k] w fun e w' => e = .returned (rOf k none) ∧ Below w.heap.size w w' := by
  rcases Go.Joins.ownsRow_forms h with ⟨rfl, _⟩ | ⟨ga, ca, rfl⟩
  all_goals
    clear h
    go_enter Tryd.func32, Tryd.ntmps32
    go_wp2
    refine wp_loop_rounds 1 ?_
    rw [rounds_succ]
    go_wp2
    refine bodyPost_ret (v := rOf k none) (by simp [results, Tryd.results32, go_sem, rOf, zG]) rfl ⟨rfl, ?_⟩
    exact Go.Joins.below_alloc2 _ _ _

theorem abs_some {A : List O} {k : Int} : (absG A k).isSome = true ↔ ∃ x ∈ A, x.k = k := by
  unfold absG
  by_cases h : ofK A k = []
  · rw [if_pos h]
    constructor
    · intro h; cases h
    · rintro ⟨x, hx, rfl⟩
      have := ofK_mem.2 hx
      rw [h] at this; cases this
  · rw [if_neg h]
    constructor
    · intro _
      obtain ⟨x, hx⟩ := List.exists_mem_of_ne_nil _ h
      simp only [ofK, List.mem_filter, beq_iff_eq] at hx
      exact ⟨x, hx.1, hx.2⟩
    · intro _; rfl

theorem rgroup_any (base : Nat) (v : Value) (A : List O) (w : World) (h : w.ownsRow base 37 9 v A.length (A.flatMap encO)) (k : Int) (hA : A.length ≤ 1000) :
    Calls Tryd.prog 32 #[v, .int .i64 k] w fun e w' => e = .returned (rOf k (absG A k)) ∧ Below w.heap.size w w' := by
  cases A with
  | nil =>
    have e : absG [] k = none := by rw [abs_nil]
    rw [e]
    exact rgroup_none v base w h k
  | cons a r =>
    obtain ⟨g, ck, rfl⟩ := Go.Joins.ownsRow_form h (by simp)
    exact rgroup_some base g ck (a :: r) w h k hA (by simp)

theorem info3 : (Tryd.prog.info? 3).map (fun i => (i.zero, i.size, i.bytes)) = some (some (.int .i64 0), 1, 8) := by kernel_rfl

theorem ints_any (base : Nat) (v : Value) (ks : List Int) (w : World) (h : w.ownsRow base 3 1 v ks.length (ks.map encZ)) (hl : ks.length ≤ 1000) :
    Calls Tryd.prog 63 #[v] w fun e w' => e = .returned (.tuple #[]) ∧ w'.ownsRow base 3 1 v ks.length ((ks.mergeSort fun x y => decide (x ≤ y)).map encZ) ∧ w.grownBy w' v.ownBlock := by
  rcases h.2 with ⟨rfl, hz⟩ | ⟨gb, cap, cur, rfl, hbase, hgb, r1, r2, r3, r4⟩
  · have hss : ks = [] := List.eq_nil_of_length_eq_zero hz
    subst hss
    have c := AnyM.slices_Sort_int_none Tryd.sortG none 0 w
    change Calls Tryd.prog 90 _ _ _ at c
    have HC : Hid _ := c
    clear c
    go_enter Tryd.func63, Tryd.ntmps63
    go_wp2_with (go_at_call 90; refine Calls.mono (Hid.out HC) ?_; rintro e w' ⟨rfl, rfl⟩)
    go_end0
    exact ⟨rfl, by simpa using h, ⟨rfl, rfl, rfl, Nat.le_refl _, fun _ _ _ => rfl⟩⟩
  · have hH : Holds encZ w gb 0 ks.toArray := holds_of_block_i hgb (by simpa using r4)
    have hgl : gb < w.heap.size := (Array.getElem?_eq_some_iff.1 hgb).1
    have c := AnyM.slices_Sort_int Tryd.sortG gb 0 cap ks w hH hgl (by omega)
    change Calls Tryd.prog 90 _ _ _ at c
    have HC : Hid (Calls Tryd.prog 90 #[.slice (some ⟨gb, 0, none⟩) ks.length cap] w fun e w' => e = .returned (.tuple #[]) ∧ (w'.ownsRow base 3 1 (.slice (some ⟨gb, 0, none⟩) ks.length cap) ks.length ((ks.mergeSort fun x y => decide (x ≤ y)).map encZ) ∧ w.grownBy w' (some gb))) :=
      c.mono fun e w' ⟨h1, n, os, h2⟩ => ⟨h1, by rw [h2]; exact ⟨ownsRow_sorted_i (by simp) hbase hgb r1 r2 r3, grownBy_sorted_i _⟩⟩
    clear c hH hgb r4 h
    go_enter Tryd.func63, Tryd.ntmps63
    go_wp2_with (go_at_call 90; refine Calls.mono (Hid.out HC) ?_; rintro e w' ⟨rfl, hpost⟩)
    go_end0
    exact ⟨rfl, hpost⟩

/-- The document's first loop: the keys of the first i. -/
structure Rk (w : World) (g ck : Nat) (A : List O) (i : Nat) (v : Value) (W : World) : Prop where
  below : Below w.heap.size w W
  row : W.ownsRow w.heap.size 3 1 v i (((A.take i).map (·.k)).map encZ)

theorem Rk.step {w W w6 : World} {g ck i : Nat} {A : List O} {v v' : Value} {o1 o2 : Obj} (h : Rk w g ck A i v W) {x : O} (hx : A[i]? = some x) (hown : w6.ownsRow w.heap.size 3 1 v' (i + 1) (((A.take i).map (·.k)).map encZ ++ [.int .i64 x.k])) (hg : ((W.alloc o1).alloc o2).grownBy w6 v.ownBlock) : Rk w g ck A (i + 1) v' w6 := by
  have hs := h.below.size
  refine ⟨((h.below.alloc hs o1).alloc (by simp; omega) o2).grown hg (by simp; omega) (fun j e => ?_), ?_⟩
  · rcases h.row.2 with ⟨rfl, _⟩ | ⟨g, cap, cur, rfl, h3, _⟩
    · simp [Value.ownBlock] at e
    · simp [Value.ownBlock] at e; omega
  · rw [List.take_add_one, hx]
    simpa [encZ] using hown

/-- The document's second loop: the groups of the first i keys. -/
structure Rm (w : World) (vk : Value) (Q : List Int) (A : List O) (i : Nat) (ks : List Int) (v : Value) (W : World) : Prop where
  below : Below w.heap.size w W
  keys : W.ownsRow w.heap.size 3 1 vk Q.length (Q.map encZ)
  row : W.ownsRow w.heap.size 88 6 v ks.length (ks.flatMap (gE (absG A)))
  ord : ks.Pairwise (fun x y => x < y)
  mem : ∀ k, k ∈ ks ↔ k ∈ Q.take i
  len : ks.length ≤ i
  ne : ∀ g, vk.ownBlock = some g → v.ownBlock ≠ some g

theorem Rm.skip {w W : World} {vk v : Value} {Q ks : List Int} {A : List O} {i : Nat} (h : Rm w vk Q A i ks v W) {k k0 : Int} (hk : Q[i]? = some k) (h0 : Q[i - 1]? = some k0) (hi : 0 < i) (e : k0 = k) : Rm w vk Q A (i + 1) ks v W := by
  refine ⟨h.below, h.keys, h.row, h.ord, fun x => ?_, Nat.le_succ_of_le h.len, h.ne⟩
  rw [h.mem, List.take_add_one, hk]
  simp only [Option.toList_some, List.mem_append, List.mem_singleton]
  constructor
  · exact .inl
  · rintro (h1 | rfl)
    · exact h1
    · subst e
      rw [List.mem_take_iff_getElem]
      have hl := (List.getElem?_eq_some_iff.1 h0).1
      have hv := (List.getElem?_eq_some_iff.1 h0).2
      exact ⟨i - 1, by omega, hv⟩
theorem Rm.step {w W w5 w6 : World} {vk v v' : Value} {Q ks : List Int} {A : List O} {i : Nat} {o1 o2 : Obj} (h : Rm w vk Q A i ks v W) (hQ : Q.Pairwise (fun x y => x ≤ y)) {k : Int} (hk : Q[i]? = some k) (hnew : i = 0 ∨ ∃ k0, Q[i - 1]? = some k0 ∧ k0 ≠ k)
    (hb : Below W.heap.size W w5) (hown : w6.ownsRow w.heap.size 88 6 v' (ks.length + 1) (ks.flatMap (gE (absG A)) ++ gE (absG A) k)) (hg : ((w5.alloc o1).alloc o2).grownBy w6 v.ownBlock) (hloc : v'.ownBlock = v.ownBlock ∨ v'.ownBlock = some ((w5.alloc o1).alloc o2).heap.size) : Rm w vk Q A (i + 1) (ks ++ [k]) v' w6 := by
  have hs := h.below.size
  have hs5 := hb.size
  have hk5 := gkept_below h.keys hb
  have hb5 : Below w.heap.size w w5 := h.below.trans (hb.mono hs)
  have hkl : ∀ g, vk.ownBlock = some g → g < W.heap.size := fun g e => (h.keys.lt g e).2
  refine ⟨((hb5.alloc (by omega) o1).alloc (by simp; omega) o2).grown hg (by simp; omega) (fun j e => ?_), ?_, by simpa [List.flatMap_append] using hown, ?_, fun x => ?_, by simp; have := h.len; omega, fun g e => ?_⟩
  · rcases h.row.2 with ⟨rfl, _⟩ | ⟨g, cap, cur, rfl, h3, _⟩
    · simp [Value.ownBlock] at e
    · simp [Value.ownBlock] at e; omega
  · refine ((hk5.alloc o1).alloc o2).kept hg ?_
    cases e : vk.ownBlock with
    | none => exact .inl rfl
    | some g => exact .inr (fun e' => h.ne g e e'.symm)
  · rw [List.pairwise_append]
    refine ⟨h.ord, List.pairwise_singleton _ _, fun a ha b hb' => ?_⟩
    rw [List.mem_singleton] at hb'
    subst hb'
    rw [h.mem, List.mem_take_iff_getElem] at ha
    obtain ⟨j, hj, rfl⟩ := ha
    have hil := (List.getElem?_eq_some_iff.1 hk).1
    rcases hnew with rfl | ⟨k0, h0, hne⟩
    · omega
    · have hl0 := (List.getElem?_eq_some_iff.1 h0).1
      have hv0 := (List.getElem?_eq_some_iff.1 h0).2
      have hvi := (List.getElem?_eq_some_iff.1 hk).2
      have h1 : Q[i - 1] ≤ Q[i] := List.pairwise_iff_getElem.1 hQ (i - 1) i hl0 hil (by omega)
      have h2 : Q[j] ≤ Q[i - 1] := by
        rcases Nat.lt_or_ge j (i - 1) with h | h
        · exact List.pairwise_iff_getElem.1 hQ j (i - 1) (by omega) hl0 h
        · have : j = i - 1 := by omega
          subst this; exact Int.le_refl _
      rw [hv0, hvi] at h1
      rw [hv0] at h2
      omega
  · rw [List.mem_append, h.mem, List.take_add_one, hk]
    simp
  · rcases hloc with e' | e'
    · rw [e']; exact h.ne g e
    · rw [e']
      have := hkl g e
      simp; omega

end Go.Proofs.YtgffodmipbefpaaDoor
