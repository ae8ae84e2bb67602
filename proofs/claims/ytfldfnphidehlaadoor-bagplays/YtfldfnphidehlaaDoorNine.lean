/- The document's list of an Out: nine numbers, in new memory. -/
import Derived.Test.YtfldfnphidehlaaDoorBase
import Derived.Deep.AppendLies
namespace Go.Proofs.YtfldfnphidehlaaDoor
open Go.RowKit Go.Sort
set_option maxRecDepth 100000

theorem info3 : (Tryd.prog.info? 3).map (fun i => (i.zero, i.size, i.bytes)) = some (some (.int .i64 0), 1, 8) := by kernel_rfl

theorem own_of_block {w : World} {g base n : Nat} {cs : List Value} (hg : w.heap[g]? = some (.cells cs.toArray 3)) (hb : base ≤ g) (hn : cs.length = n) (h : n ≤ 1000) : w.ownsRow base 3 1 (.slice (some ⟨g, 0, none⟩) n n) n cs :=
  ⟨by omega, .inr ⟨g, n, cs.toArray, rfl, hb, hg, Nat.le_refl _, by unfold maxLen; omega, by simp [hn], by rw [List.take_of_length_le (by simp; omega)]⟩⟩

theorem nth4 (w : World) (o0 o1 o2 o3 : Obj) : ((((w.alloc o0).alloc o1).alloc o2).alloc o3).heap[w.heap.size + 1]? = some o1 ∧ ((((w.alloc o0).alloc o1).alloc o2).alloc o3).heap[w.heap.size + 1 + 1]? = some o2 ∧ ((((w.alloc o0).alloc o1).alloc o2).alloc o3).heap[w.heap.size + 1 + 1 + 1]? = some o3 := by
  have h1 := heap_alloc_new (w.alloc o0) o1
  have h2 := heap_alloc_new ((w.alloc o0).alloc o1) o2
  have h3 := heap_alloc_new (((w.alloc o0).alloc o1).alloc o2) o3
  simp only [World.size_alloc] at h1 h2 h3
  refine ⟨?_, ?_, h3⟩
  · rw [Below.heap_alloc _ _ _ (by simp), Below.heap_alloc _ _ _ (by simp)]; exact h1
  · rw [Below.heap_alloc _ _ _ (by simp)]; exact h2

theorem factsA (w : World) (o0 o2 : Obj) (k h a b c : Int) :
    ((((w.alloc o0).alloc (.cells #[.int .i64 k, .int .i64 h] 3)).alloc o2).alloc (.cells #[.int .i64 a, .int .i64 b, .int .i64 c] 3)).drew.ownsRow (w.heap.size + 1) 3 1 (.slice (some ⟨w.heap.size + 1, 0, none⟩) 2 2) 2 [.int .i64 k, .int .i64 h] ∧
    ∀ j u, [Value.int .i64 a, .int .i64 b, .int .i64 c][j]? = some u → ((((w.alloc o0).alloc (.cells #[.int .i64 k, .int .i64 h] 3)).alloc o2).alloc (.cells #[.int .i64 a, .int .i64 b, .int .i64 c] 3)).drew.cell? ((⟨w.heap.size + 1 + 1 + 1, 0, none⟩ : Addr).add j) = some u :=
  ⟨(own_of_block (n := 2) (nth4 w o0 _ o2 _).1 (by omega) rfl (by omega)).drew, World.news_of_block (w := ((((w.alloc o0).alloc (.cells #[.int .i64 k, .int .i64 h] 3)).alloc o2).alloc (.cells #[.int .i64 a, .int .i64 b, .int .i64 c] 3)).drew) (nth4 w o0 _ o2 _).2.2⟩
theorem factsB (w : World) (o0 o1 : Obj) (k h a b c : Int) :
    ((((w.alloc o0).alloc o1).alloc (.cells #[.int .i64 a, .int .i64 b, .int .i64 c] 3)).alloc (.cells #[.int .i64 k, .int .i64 h] 3)).drew.ownsRow (w.heap.size + 1) 3 1 (.slice (some ⟨w.heap.size + 1 + 1 + 1, 0, none⟩) 2 2) 2 [.int .i64 k, .int .i64 h] ∧
    ∀ j u, [Value.int .i64 a, .int .i64 b, .int .i64 c][j]? = some u → ((((w.alloc o0).alloc o1).alloc (.cells #[.int .i64 a, .int .i64 b, .int .i64 c] 3)).alloc (.cells #[.int .i64 k, .int .i64 h] 3)).drew.cell? ((⟨w.heap.size + 1 + 1, 0, none⟩ : Addr).add j) = some u :=
  ⟨(own_of_block (n := 2) (nth4 w o0 o1 _ _).2.2 (by omega) rfl (by omega)).drew, World.news_of_block (w := ((((w.alloc o0).alloc o1).alloc (.cells #[.int .i64 a, .int .i64 b, .int .i64 c] 3)).alloc (.cells #[.int .i64 k, .int .i64 h] 3)).drew) (nth4 w o0 o1 _ _).2.1⟩

theorem box9 (x : O) (w w' : World) (hb : Below (w.heap.size + 1) (w.alloc (.cells #[.int .i64 x.k, .int .i64 x.lk, .int .i64 x.lt, .int .i64 x.lv, .int .i64 x.rk, .int .i64 x.rt, .int .i64 x.rv, .bool x.hl, .bool x.hr] 37)) w') :
    w'.cell? ⟨w.heap.size, 0, none⟩ = some (.int .i64 x.k) ∧ w'.cell? ⟨w.heap.size, 1, none⟩ = some (.int .i64 x.lk) ∧ w'.cell? ⟨w.heap.size, 2, none⟩ = some (.int .i64 x.lt) ∧ w'.cell? ⟨w.heap.size, 3, none⟩ = some (.int .i64 x.lv) ∧ w'.cell? ⟨w.heap.size, 4, none⟩ = some (.int .i64 x.rk) ∧ w'.cell? ⟨w.heap.size, 5, none⟩ = some (.int .i64 x.rt) ∧ w'.cell? ⟨w.heap.size, 6, none⟩ = some (.int .i64 x.rv) ∧ w'.cell? ⟨w.heap.size, 7, none⟩ = some (.bool x.hl) ∧ w'.cell? ⟨w.heap.size, 8, none⟩ = some (.bool x.hr) := by
  have h := fun (o : Nat) => hb.cell (p := ⟨w.heap.size, o, none⟩) (by simp)
  simp only [h]
  simp

set_option linter.unusedSimpArgs false
set_option maxHeartbeats 400000 in
theorem list9_any (x : O) (w : World) :
    Calls Tryd.prog 41 #[.agg #[.int .i64 x.k, .int .i64 x.lk, .int .i64 x.lt, .int .i64 x.lv, .int .i64 x.rk, .int .i64 x.rt, .int .i64 x.rv, .bool x.hl, .bool x.hr]] w fun e w' => ∃ g cap, e = .returned (.slice (some ⟨g, 0, none⟩) 9 cap) ∧ Below w.heap.size w w' ∧ w'.ownsRow (w.heap.size + 1) 3 1 (.slice (some ⟨g, 0, none⟩) 9 cap) 9 ((lO x).map (Value.int .i64)) := by
  obtain ⟨i0, hi0, hz0, hz1, hz2⟩ := info_parts info3
  go_enter Tryd.func41, Tryd.ntmps41
  go_wp2
  go_region_held3 (fun w' => w'.cell? ⟨w.heap.size, 0, none⟩ = some (.int .i64 x.k) ∧ w'.cell? ⟨w.heap.size, 1, none⟩ = some (.int .i64 x.lk) ∧ w'.cell? ⟨w.heap.size, 2, none⟩ = some (.int .i64 x.lt) ∧ w'.cell? ⟨w.heap.size, 3, none⟩ = some (.int .i64 x.lv) ∧ w'.cell? ⟨w.heap.size, 4, none⟩ = some (.int .i64 x.rk) ∧ w'.cell? ⟨w.heap.size, 5, none⟩ = some (.int .i64 x.rt) ∧ w'.cell? ⟨w.heap.size, 6, none⟩ = some (.int .i64 x.rv) ∧ w'.cell? ⟨w.heap.size, 7, none⟩ = some (.bool x.hl) ∧ w'.cell? ⟨w.heap.size, 8, none⟩ = some (.bool x.hr)) (first | (go_keep; done) | (simp (disch := first | omega | (simp only [World.size_alloc]; done) | (simp only [World.size_alloc]; omega)) only [World.cell?_drew, World.cell?_drewN, World.cell?_alloc_past, World.cell?_alloc_at]; simp; done) | (exact box9 x w _ (Below.grown (B := w.heap.size + 1) (((((Below.refl _ _).alloc (by simp) _).alloc (by simp) _).alloc (by simp) _).drew) hgrow (by simp) (fun k hk => by simp only [Value.ownBlock, Option.some.injEq] at hk; omega))))
    (first
      | (go_at_call 42; refine (one_any _ _).mono ?_; rintro e w' ⟨rfl, rfl⟩)
      | (go_at_call 43; refine (list_any _ _ _ _).mono ?_; rintro e w' ⟨rfl, rfl⟩)
      | (refine step_append_lies _ (by rfl) _ _ _ (by rfl) (w.heap.size + 1) 3 i0 _ 1 8 Tryd.underlying94 hi0 hz0 hz1 hz2 rfl (by omega) (.slice (some ⟨w.heap.size + 1, 0, none⟩) 2 2) 2 [.int .i64 x.k, .int .i64 (oneI x.hl)] (by rfl) ?_ ⟨w.heap.size + 1 + 1 + 1, 0, none⟩ 3 3 [.int .i64 x.lk, .int .i64 x.lt, .int .i64 x.lv] (by rfl) (by rfl) ?_ (by simp [Value.oneCell']) (by omega) (by decide) (by omega) (by simp) _ rfl ?_; (exact (factsA w _ _ _ _ _ _ _).1); (exact (factsA w _ _ _ _ _ _ _).2); intro g cap w1 hown1 hgrow hat hlt)
      | (refine step_append_lies _ (by rfl) _ _ _ (by rfl) (w.heap.size + 1) 3 i0 _ 1 8 Tryd.underlying94 hi0 hz0 hz1 hz2 rfl (by omega) (.slice (some ⟨w.heap.size + 1 + 1 + 1, 0, none⟩) 2 2) 2 [.int .i64 x.k, .int .i64 (oneI x.hl)] (by rfl) ?_ ⟨w.heap.size + 1 + 1, 0, none⟩ 3 3 [.int .i64 x.lk, .int .i64 x.lt, .int .i64 x.lv] (by rfl) (by rfl) ?_ (by simp [Value.oneCell']) (by omega) (by decide) (by omega) (by simp) _ rfl ?_; (exact (factsB w _ _ _ _ _ _ _).1); (exact (factsB w _ _ _ _ _ _ _).2); intro g cap w1 hown1 hgrow hat hlt)
      | fail)
  all_goals
    have hB : Below (w.heap.size + 1) (w.alloc (.cells #[.int .i64 x.k, .int .i64 x.lk, .int .i64 x.lt, .int .i64 x.lv, .int .i64 x.rk, .int .i64 x.rt, .int .i64 x.rv, .bool x.hl, .bool x.hr] 37)) w1 := Below.grown (((((Below.refl _ _).alloc (by simp) _).alloc (by simp) _).alloc (by simp) _).drew) hgrow (by simp) (fun k hk => by simp only [Value.ownBlock, Option.some.injEq] at hk; omega)
    have hy1 : w.heap.size + 1 ≤ w1.heap.size := by have := hB.size; simpa using this
    clear hgrow hat
    replace hown1 : w1.ownsRow (w.heap.size + 1) 3 1 (.slice (some ⟨g, 0, none⟩) 5 cap) 5 [.int .i64 x.k, .int .i64 (oneI x.hl), .int .i64 x.lk, .int .i64 x.lt, .int .i64 x.lv] := hown1
    go_wp2
    go_region_held3 (fun w' => w'.cell? ⟨w.heap.size, 0, none⟩ = some (.int .i64 x.k) ∧ w'.cell? ⟨w.heap.size, 1, none⟩ = some (.int .i64 x.lk) ∧ w'.cell? ⟨w.heap.size, 2, none⟩ = some (.int .i64 x.lt) ∧ w'.cell? ⟨w.heap.size, 3, none⟩ = some (.int .i64 x.lv) ∧ w'.cell? ⟨w.heap.size, 4, none⟩ = some (.int .i64 x.rk) ∧ w'.cell? ⟨w.heap.size, 5, none⟩ = some (.int .i64 x.rt) ∧ w'.cell? ⟨w.heap.size, 6, none⟩ = some (.int .i64 x.rv) ∧ w'.cell? ⟨w.heap.size, 7, none⟩ = some (.bool x.hl) ∧ w'.cell? ⟨w.heap.size, 8, none⟩ = some (.bool x.hr)) (first | (go_keep; done) | (exact box9 x w _ hB3) | (exact box9 x w _ ((hB2.alloc hy2 _).alloc (by simp; omega) _)) | (exact box9 x w _ hB2) | (exact box9 x w _ ((hB.alloc hy1 _).drew)) | (exact box9 x w _ hB.drew))
      (first
        | (go_at_call 42; refine (one_any _ _).mono ?_; rintro e w' ⟨rfl, rfl⟩)
        | (go_at_call 43; refine (list_any _ _ _ _).mono ?_; rintro e w' ⟨rfl, rfl⟩)
        | (refine step_append_lies _ (by rfl) _ _ _ (by rfl) (w.heap.size + 1) 3 i0 _ 1 8 Tryd.underlying94 hi0 hz0 hz1 hz2 rfl (by omega) (.slice (some ⟨g, 0, none⟩) 5 cap) 5 [.int .i64 x.k, .int .i64 (oneI x.hl), .int .i64 x.lk, .int .i64 x.lt, .int .i64 x.lv] (by rfl) ?_ ⟨w1.heap.size, 0, none⟩ 1 1 [.int .i64 (oneI x.hr)] (by rfl) (by rfl) ?_ (by simp [Value.oneCell']) (by omega) (by decide) (by omega) ?_ _ rfl ?_; (exact (hown1.alloc _).drew); (exact World.news_of_block (cs := #[.int .i64 (oneI x.hr)]) (t := 3) (fr := (0, 0)) (heap_alloc_new w1 _)); (simp; omega); intro g2 cap2 w2 hown2 hgrow2 hat2 hlt2; have hB2 := Below.grown ((hB.alloc hy1 _).drew) hgrow2 (by simp; omega) (fun k hk => (hown1.lt k hk).1); have hy2 : w.heap.size + 1 ≤ w2.heap.size := (by have := hB2.size; simpa using this); replace hown2 : w2.ownsRow (w.heap.size + 1) 3 1 (.slice (some ⟨g2, 0, none⟩) 6 cap2) 6 [.int .i64 x.k, .int .i64 (oneI x.hl), .int .i64 x.lk, .int .i64 x.lt, .int .i64 x.lv, .int .i64 (oneI x.hr)] := hown2; clear hgrow2 hat2)
        | (refine step_append_lies _ (by rfl) _ _ _ (by rfl) (w.heap.size + 1) 3 i0 _ 1 8 Tryd.underlying94 hi0 hz0 hz1 hz2 rfl (by omega) (.slice (some ⟨g2, 0, none⟩) 6 cap2) 6 [.int .i64 x.k, .int .i64 (oneI x.hl), .int .i64 x.lk, .int .i64 x.lt, .int .i64 x.lv, .int .i64 (oneI x.hr)] (by rfl) ?_ ⟨w2.heap.size + 1, 0, none⟩ 3 3 [.int .i64 x.rk, .int .i64 x.rt, .int .i64 x.rv] (by rfl) (by rfl) ?_ (by simp [Value.oneCell']) (by omega) (by decide) (by omega) ?_ _ rfl ?_; (exact (hown2.alloc _).alloc _); (exact World.news_of_block (cs := #[.int .i64 x.rk, .int .i64 x.rt, .int .i64 x.rv]) (t := 3) (fr := (0, 0)) (heap_alloc2_new w2 _ _)); (simp; omega); intro g3 cap3 w3 hown3 hgrow3 hat3 hlt3; have hB3 := Below.grown ((hB2.alloc hy2 _).alloc (by simp; omega) _) hgrow3 (by simp; omega) (fun k hk => (hown2.lt k hk).1))
        | fail)
    go_wp2
    go_ret
    exact ⟨g3, cap3, rfl, (Go.Joins.below_alloc1 _ _).trans (hB3.mono (by omega)), hown3⟩

end Go.Proofs.YtfldfnphidehlaaDoor
