/- What a step does to a tale, whatever it is. -/
import Derived.Test.YtmmbjbgimpgcfaaGreatDoorEva
namespace Go.Proofs.YtmmbjbgimpgcfaaGreatDoor
open Go.RowKit Go.Sort
set_option maxRecDepth 100000

theorem view_len (lo hi mode : Int) (A B : List Rw) : (viewOf lo hi mode A B).length ≤ A.length * (B.length + 1) + B.length := by
  have h := (walk_perm (mB lo hi) pairRw leftRw rightRw (tellsB mode 0) (tellsB mode 1) A B).length_eq
  have h1 := eaches_len lo hi mode B A
  have h2 : (viewOf lo hi mode A B).length = (A.flatMap (eachOf lo hi mode B)).length + (if tellsB mode 1 = true then (B.filter fun b => !A.any fun a => mB lo hi a b).map rightRw else []).length := by
    rw [← List.length_append]; exact h.symm
  have h3 : (if tellsB mode 1 = true then (B.filter fun b => !A.any fun a => mB lo hi a b).map rightRw else []).length ≤ B.length := by
    split
    · rw [List.length_map]; exact List.length_filter_le _ _
    · simp
  omega
theorem view_small (lo hi mode : Int) (A B : List Rw) (n : Nat) (hn : n ≤ 100) (h : A.length + B.length ≤ n) : (viewOf lo hi mode A B).length ≤ 20000 := by
  have h1 := view_len lo hi mode A B
  have h2 : A.length * (B.length + 1) ≤ 100 * 101 := Nat.mul_le_mul (by omega) (by omega)
  omega

theorem met_mem {key frm til : Int} {R : List D} {y : D} (h : y ∈ metR key frm til R) : y ∈ R := List.mem_of_mem_drop ((List.takeWhile_sublist _).subset h)
theorem chgs_wf (mode s : Int) (r : Rw) (M : List D) (hr : r.small) (hM : ∀ y ∈ M, y.rw.small) : ∀ c ∈ chgs mode s r.k r.t r.v M, c.x.wf := by
  have hl : ∀ (u : Int) (q : Rw), q.small → (loneO u q.k q.t q.v).wf := fun u q hq => by
    unfold loneO
    split
    · exact ⟨wf40 hq.1, wf40 hq.1, wf40 hq.2.1, wf40 hq.2.2, wf40 (n := 0) (by omega), wf40 (n := 0) (by omega), wf40 (n := 0) (by omega)⟩
    · exact ⟨wf40 hq.1, wf40 (n := 0) (by omega), wf40 (n := 0) (by omega), wf40 (n := 0) (by omega), wf40 hq.1, wf40 hq.2.1, wf40 hq.2.2⟩
  have hp : ∀ (u : Int) (q m : Rw), q.small → m.small → (pairO u q.k q.t q.v m.k m.t m.v).wf := fun u q m hq hm => by
    unfold pairO
    split
    · exact ⟨wf40 hq.1, wf40 hq.1, wf40 hq.2.1, wf40 hq.2.2, wf40 hm.1, wf40 hm.2.1, wf40 hm.2.2⟩
    · exact ⟨wf40 hm.1, wf40 hm.1, wf40 hm.2.1, wf40 hm.2.2, wf40 hq.1, wf40 hq.2.1, wf40 hq.2.2⟩
  intro c hc
  unfold chgs at hc
  split at hc
  · split at hc
    · simp at hc; subst hc; exact hl s r hr
    · simp at hc
  · rw [List.mem_flatMap] at hc
    obtain ⟨m, hm, hc⟩ := hc
    have hms := hM m hm
    unfold chg1 at hc
    rw [List.mem_append] at hc
    rcases hc with hc | hc
    · split at hc
      · simp at hc; subst hc; exact hl (1 - s) m.rw hms
      · simp at hc
    · simp at hc; subst hc; exact hp s r m.rw hr hms
theorem chgsA_len (mode s k t v : Int) (M : List D) : (chgs mode s k t v M).length ≤ 2 * M.length + 1 := by
  unfold chgs
  split
  · split <;> simp
  · have := chgs_len (tellsB mode (1 - s)) s (1 - s) k t v M
    omega

set_option maxHeartbeats 1000000 in
theorem does_none (base bt be bf nF : Nat) (lo hi mode a0 a1 : Int) (va vb : Value) (A B : List Rw) (F : List O) (wh xs xn xk xt xv : Int) (w : World) (h0 : wh ≠ 0) (h1 : wh ≠ 1) (h2 : wh ≠ 2)
    (hT : TaleAt w base bt (.pointer (some ⟨be, 0, none⟩)) lo hi mode a0 a1 va vb bf nF A B F) :
    Calls Tryz.prog 9 #[.pointer (some ⟨bt, 0, none⟩), .agg #[.int .i64 wh, .int .i64 xs, .int .i64 xn, .int .i64 xk, .int .i64 xt, .int .i64 xv]] w fun e w' => e = .returned (.bool true) ∧ Below w.heap.size w w' := by
  have p2 := pickN_lt xs 2 (by omega)
  have K : Hid ((IntKind.u64.wrap xs).tmod 2 = ((pickN xs 2 : Nat) : Int)) := p2.2.symm
  have d0 : (wh == 0) = false := by simp [h0]
  have d1 : (wh == 1) = false := by simp [h1]
  have d2 : (wh == 2) = false := by simp [h2]
  have hlt := hT.lt
  clear hT p2 h0 h1 h2
  go_enter Tryz.func9, Tryz.ntmps9
  go_wp2_with (first
    | (go_at_call 13; refine (pick_int _ _ _ (by omega) (by omega)).mono ?_; rintro e w' ⟨rfl, rfl⟩; rw [K.out])
    | fail)
  go_ret
  exact ⟨rfl, Go.Joins.below_alloc1 _ _⟩

end Go.Proofs.YtmmbjbgimpgcfaaGreatDoor
