/- What a round of GroupPlays finds. -/
import Derived.Test.YtgffodmipbefpaaDoorGpe
namespace Go.Proofs.YtgffodmipbefpaaDoor
open Go.RowKit Go.Maps Go.Sort Go.Shelf
set_option maxRecDepth 100000

/-- Ten cells at an address: a Change. -/
def Cells10 (W : World) (g o : Nat) (x : O) (gone : Bool) : Prop := W.cell? ⟨g, o, none⟩ = some (.int .i64 x.k) ∧ W.cell? ⟨g, o + 1, none⟩ = some (.int .i64 x.lk) ∧ W.cell? ⟨g, o + 2, none⟩ = some (.int .i64 x.lt) ∧ W.cell? ⟨g, o + 3, none⟩ = some (.int .i64 x.lv) ∧ W.cell? ⟨g, o + 4, none⟩ = some (.int .i64 x.rk) ∧ W.cell? ⟨g, o + 5, none⟩ = some (.int .i64 x.rt) ∧ W.cell? ⟨g, o + 6, none⟩ = some (.int .i64 x.rv) ∧ W.cell? ⟨g, o + 7, none⟩ = some (.bool x.hl) ∧ W.cell? ⟨g, o + 8, none⟩ = some (.bool x.hr) ∧ W.cell? ⟨g, o + 9, none⟩ = some (.bool gone)
theorem Cells10.below {w W : World} {g o : Nat} {x : O} {gone : Bool} (h : Cells10 w g o x gone) (hb : Below w.heap.size w W) (hg : g < w.heap.size) : Cells10 W g o x gone := by
  have key := fun (o : Nat) => hb.cell (p := ⟨g, o, none⟩) hg
  unfold Cells10 at *
  simp only [key]
  exact h

theorem box10 {W : World} {B : Nat} {x : O} {gone : Bool} (hb : W.heap[B]? = some (boxC x gone)) :
    W.cell? ⟨B, 0, none⟩ = some (.int .i64 x.k) ∧ W.cell? ⟨B, 1, none⟩ = some (.int .i64 x.lk) ∧ W.cell? ⟨B, 2, none⟩ = some (.int .i64 x.lt) ∧ W.cell? ⟨B, 3, none⟩ = some (.int .i64 x.lv) ∧ W.cell? ⟨B, 4, none⟩ = some (.int .i64 x.rk) ∧ W.cell? ⟨B, 5, none⟩ = some (.int .i64 x.rt) ∧ W.cell? ⟨B, 6, none⟩ = some (.int .i64 x.rv) ∧ W.cell? ⟨B, 7, none⟩ = some (.bool x.hl) ∧ W.cell? ⟨B, 8, none⟩ = some (.bool x.hr) ∧ W.cell? ⟨B, 9, none⟩ = some (.bool gone) := by
  refine ⟨?_, ?_, ?_, ?_, ?_, ?_, ?_, ?_, ?_, ?_⟩ <;> (rw [Go.Joins.cell_of_block hb]; rfl)

/-- Both sides, and the change's own box. -/
structure St (w : World) (cb m : Nat) (S : Nat → Prop) (L : List O) (v : Value) (A : List O) (x : O) (gone : Bool) (W : World) : Prop where
  ply : Ply w m S L v A W
  box : W.heap[cb]? = some (boxC x gone)
  cs : ¬ S cb
  cn : cb ≠ w.heap.size + 1
  cv : v.ownBlock ≠ some cb
theorem St.lt {w W : World} {cb m : Nat} {S : Nat → Prop} {L A : List O} {v : Value} {x : O} {gone : Bool} (h : St w cb m S L v A x gone W) : cb < W.heap.size := (Array.getElem?_eq_some_iff.1 h.box).1
theorem St.by_below {w W W' : World} {cb m : Nat} {S : Nat → Prop} {L A : List O} {v : Value} {x : O} {gone : Bool} (h : St w cb m S L v A x gone W) (hb : Below W.heap.size W W') : St w cb m S L v A x gone W' :=
  ⟨h.ply.by_below hb, (hb.block _ h.lt).trans h.box, h.cs, h.cn, h.cv⟩
theorem St.drew {w W : World} {cb m : Nat} {S : Nat → Prop} {L A : List O} {v : Value} {x : O} {gone : Bool} (h : St w cb m S L v A x gone W) : St w cb m S L v A x gone W.drew := h.by_below (Below.refl _ _).drew
theorem Ply.begin {w W : World} {m : Nat} {S : Nat → Prop} {L A : List O} {v : Value} (h : Ply w m S L v A W) (x : O) (gone : Bool) : St w W.heap.size m S L v A x gone (W.alloc (boxC x gone)) :=
  ⟨h.by_below (Go.Joins.below_alloc1 _ _), World.alloc_heap_new _ _, fun hS => by have := h.grp.lt _ hS; omega, by have := h.all.lt; omega, fun e => by have := (h.all.row.lt _ e).2; omega⟩
theorem St.turn {w W W' : World} {cb m m' : Nat} {S : Nat → Prop} {L L' A : List O} {v : Value} {x : O} {gone : Bool} (h : St w cb m S L v A x gone W) (hg : Grp W' w.heap.size 0 m' (More S W W') (absG L')) (ht : Turn S w.heap.size 0 W W') : St w cb m' (More S W W') L' v A x gone W' :=
  ⟨h.ply.turn hg ht, (ht.block _ h.lt h.cs).trans h.box, fun hj => by
    rcases hj with hj | hj
    · exact h.cs hj
    · have := h.lt; omega, h.cn, h.cv⟩
theorem Ply.mono {w W : World} {m m' : Nat} {S : Nat → Prop} {L A : List O} {v : Value} (h : Ply w m S L v A W) (hm : m ≤ m') : Ply w m' S L v A W := ⟨h.below, h.grp.mono hm, h.all, h.base, h.sa, h.sv⟩

theorem ply_form {w W : World} {m : Nat} {S : Nat → Prop} {L A : List O} {v : Value} (h : Ply w m S L v A W) : ∃ oa c, v = .slice oa A.length c := by
  rcases h.all.row.2 with ⟨rfl, h0⟩ | ⟨g, cap, cur, rfl, _⟩
  · exact ⟨none, 0, by rw [h0]⟩
  · exact ⟨_, _, rfl⟩

/-- One more lies at the list's end. -/
theorem Ply.append {w W w6 : World} {m : Nat} {S : Nat → Prop} {L A : List O} {v v' : Value} {o : Obj} {x : O} (h : Ply w m S L v A W) (hown : w6.ownsRow w.heap.size 37 9 v' (A.length + 1) (A.flatMap encO ++ encO x)) (hg : (W.alloc o).grownBy w6 v.ownBlock) (hloc : v'.ownBlock = v.ownBlock ∨ v'.ownBlock = some (W.alloc o).heap.size) :
    Ply w m S L v' (A ++ [x]) (w6.setCell ⟨w.heap.size + 1, 0, none⟩ v') ∧ w6.heap[w.heap.size + 1]? = some (.cells #[v] 27) := by
  have hlt := h.all.lt
  have hsz := hg.size
  simp at hsz
  have hvb : v.ownBlock ≠ some (w.heap.size + 1) := fun e => by
    rcases h.all.row.2 with ⟨rfl, _⟩ | ⟨g, cap, cur, rfl, hb, hgc, _⟩
    · simp [Value.ownBlock] at e
    · simp [Value.ownBlock] at e
      subst e
      rw [h.all.blk] at hgc
      cases hgc
  have hb6 : w6.heap[w.heap.size + 1]? = some (.cells #[v] 27) := (hg.block _ (by simp; omega) (fun e => hvb e.symm)).trans ((Below.heap_alloc W o _ hlt).trans h.all.blk)
  have hvb' : v'.ownBlock ≠ some (w.heap.size + 1) := by
    rcases hloc with e | e
    · rw [e]; exact hvb
    · rw [e]; simp; omega
  refine ⟨h.list ⟨Go.Joins.block_setCell hb6 v', ?_⟩ (fun j hj hne hvj => ?_) (by simp; omega) hg.os hg.tape hg.output ?_, hb6⟩
  · have hrow : w6.ownsRow w.heap.size 37 9 v' (A ++ [x]).length ((A ++ [x]).flatMap encO) := by simpa [List.flatMap_append] using hown
    refine hrow.kept (row := some (w.heap.size + 1)) ⟨rfl, rfl, rfl, by simp, fun k hk2 hne2 => ?_⟩ (Or.inr hvb')
    exact Below.heap_setCell _ _ _ _ (fun e => hne2 (by rw [e]))
  · exact (Below.heap_setCell _ _ _ _ hne).trans ((hg.block j (by simp; omega) (fun e => hvj e.symm)).trans (Below.heap_alloc W o j hj))
  · rcases hloc with e | e
    · exact .inl e
    · exact .inr ⟨_, e, by simp⟩

/-- What the law's own look finds. -/
def someB (A : List O) (x : O) : Bool := A.any fun y => y.k == x.k
def rightB (A : List O) (x : O) : Bool := !x.hr || A.any fun y => y.k == x.k && (y.hr && y.rv == x.rv)
theorem someB_step {A : List O} {x y : O} {k : Nat} (hy : A[k]? = some y) : someB (A.take (k + 1)) x = (someB (A.take k) x || y.k == x.k) := by
  unfold someB
  rw [List.take_add_one, hy, List.any_append]; simp
theorem rightB_step {A : List O} {x y : O} {k : Nat} (hy : A[k]? = some y) : rightB (A.take (k + 1)) x = (rightB (A.take k) x || (y.k == x.k && (y.hr && y.rv == x.rv))) := by
  unfold rightB
  rw [List.take_add_one, hy, List.any_append]; simp [Bool.or_assoc]

theorem yes_of {L A : List O} {x : O} (hp : L.Perm A) (h1 : someB A x = true) (h2 : rightB A x = true) : ∃ τ, absG L x.k = some τ ∧ yesG x τ := by
  have hs : (absG L x.k).isSome = true := by
    rw [abs_some]
    obtain ⟨y, hy, e⟩ := List.any_eq_true.1 h1
    exact ⟨y, hp.mem_iff.2 hy, by simpa using e⟩
  obtain ⟨τ, hτ⟩ := Option.isSome_iff_exists.1 hs
  refine ⟨τ, hτ, fun hr => ?_⟩
  unfold rightB at h2
  rw [hr] at h2
  simp only [Bool.not_true, Bool.false_or] at h2
  obtain ⟨y, hy, e⟩ := List.any_eq_true.1 h2
  simp at e
  obtain ⟨e1, e2, e3⟩ := e
  have hτ2 : τ = talOf (ofK L x.k) := by
    unfold absG at hτ
    by_cases h : ofK L x.k = []
    · rw [if_pos h] at hτ; cases hτ
    · rw [if_neg h] at hτ; cases hτ; rfl
  rw [hτ2, tal_rights]
  refine ⟨y, ?_, e2, e3⟩
  rw [← e1]; exact ofK_mem.2 (hp.mem_iff.2 hy)
theorem no_of {L A : List O} {x : O} (hp : L.Perm A) (h : someB A x = false ∨ rightB A x = false) : noG (absG L) x := by
  rcases h with h | h
  · refine .inl ?_
    cases hk : absG L x.k with
    | none => rfl
    | some τ =>
      have hs : (absG L x.k).isSome = true := by rw [hk]; rfl
      obtain ⟨y, hy, e⟩ := abs_some.1 hs
      have : someB A x = true := List.any_eq_true.2 ⟨y, hp.mem_iff.1 hy, by simpa using e⟩
      rw [h] at this; cases this
  · cases hk : absG L x.k with
    | none => exact .inl hk
    | some τ =>
      unfold rightB at h
      simp only [Bool.or_eq_false_iff, Bool.not_eq_false'] at h
      refine .inr ⟨τ, hk, h.1, fun hmem => ?_⟩
      have hτ2 : τ = talOf (ofK L x.k) := by
        unfold absG at hk
        by_cases h : ofK L x.k = []
        · rw [if_pos h] at hk; cases hk
        · rw [if_neg h] at hk; cases hk; rfl
      rw [hτ2, tal_rights] at hmem
      obtain ⟨y, hy, e2, e3⟩ := hmem
      simp only [ofK, List.mem_filter, beq_iff_eq] at hy
      have : (A.any fun y => y.k == x.k && (y.hr && y.rv == x.rv)) = true := List.any_eq_true.2 ⟨y, hp.mem_iff.1 hy.1, by simp [hy.2, e2, e3]⟩
      rw [h.2] at this; cases this

theorem ply_new (w : World) : Ply w 0 (fun j => j = w.heap.size) [] (.slice none 0 0) [] ((w.alloc (.cells #[.map none] 84)).alloc (.cells #[.slice none 0 0] 27)) := by
  have h2 := World.alloc_heap_new (w.alloc (.cells #[.map none] 84)) (.cells #[.slice none 0 0] 27)
  simp only [World.size_alloc] at h2
  exact ⟨Go.Joins.below_alloc2 _ _ _, (group_new w).below (Go.Joins.below_alloc1 _ _), ⟨h2, World.ownsRow_nil _ _ _ _⟩, fun j e => by omega, by omega, fun g e => by simp [Value.ownBlock] at e⟩

end Go.Proofs.YtgffodmipbefpaaDoor
