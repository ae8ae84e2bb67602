/- An engine: what it shows. -/
import Derived.Test.YtmmbjbgimpgcfaaGreatDoorEne
import Derived.Test.YtmmbjbgimpgcfaaGreatDoorEvm
namespace Go.Proofs.YtmmbjbgimpgcfaaGreatDoor
open Go.RowKit Go.Sort
set_option maxRecDepth 100000

theorem engApart : EngApart EngAt where
  feed0 := fun _ x _ _ _ r hE hJ hg hlate hroom hok hwf hL => engFeed0 x r hE hJ hg hlate hroom hok hwf hL

/-- What a key's tally is told as. -/
def grOf (L : List O) (k : Int) : GrQ := ⟨k, ((absG L k).getD τ0).c, ((absG L k).getD τ0).s, lo ((absG L k).getD τ0).R, hi ((absG L k).getD τ0).R, some? ((absG L k).getD τ0).R⟩
theorem grOf_enc (L : List O) (k : Int) : encGQ (grOf L k) = gE (absG L) k := rfl
theorem encGQ_inj {p q : GrQ} (h : encGQ p = encGQ q) : p = q := by
  obtain ⟨a, b, c, d, e, f⟩ := p
  obtain ⟨a', b', c', d', e', f'⟩ := q
  simp [encGQ] at h
  obtain ⟨rfl, rfl, rfl, rfl, rfl, rfl⟩ := h
  rfl
theorem grOf_perm {L L' : List O} (h : L.Perm L') (k : Int) : grOf L k = grOf L' k := encGQ_inj (geq_enc (abs_perm h) k)

/-- The keys, rising. -/
def KeysOf (L : List O) (ks : List Int) : Prop := ks.Pairwise (fun x y => x < y) ∧ (∀ k, k ∈ ks ↔ (absG L k).isSome = true) ∧ ks.length ≤ L.length
theorem KeysOf.eq {L L' : List O} {ks ks' : List Int} (h : KeysOf L ks) (h' : KeysOf L' ks') (p : L.Perm L') : ks = ks' := keys_eq (abs_perm p) h.1 h'.1 h.2.1 h'.2.1
theorem KeysOf.perm {L L' : List O} {ks : List Int} (h : KeysOf L ks) (p : L.Perm L') : KeysOf L' ks := by
  refine ⟨h.1, fun k => ?_, by rw [← p.length_eq]; exact h.2.2⟩
  rw [h.2.1 k]
  rcases abs_perm p k with ⟨e1, e2⟩ | ⟨τ, τ', e1, e2, _⟩
  · rw [e1, e2]
  · rw [e1, e2]; simp

theorem exists_view (L : List O) : ∃ Z : List O, ((∃ Z' : List O, Z'.Perm L ∧ InOrder Z') → Z.Perm L ∧ InOrder Z) ∧ (¬ (∃ Z' : List O, Z'.Perm L ∧ InOrder Z') → Z = []) := by
  by_cases h : ∃ Z' : List O, Z'.Perm L ∧ InOrder Z'
  · obtain ⟨Z, hZ⟩ := h
    exact ⟨Z, fun _ => hZ, fun hn => absurd ⟨Z, hZ⟩ hn⟩
  · exact ⟨[], fun hn => absurd hn h, fun _ => rfl⟩
theorem exists_groups (L : List O) : ∃ Q : List GrQ, (∀ ks, KeysOf L ks → Q = ks.map (grOf L)) ∧ ((¬ ∃ ks, KeysOf L ks) → Q = []) := by
  by_cases h : ∃ ks, KeysOf L ks
  · obtain ⟨ks, hk⟩ := h
    exact ⟨ks.map (grOf L), fun ks' hk' => by rw [hk.eq hk' (List.Perm.refl _)], fun hn => absurd ⟨ks, hk⟩ hn⟩
  · exact ⟨[], fun ks hk => absurd ⟨ks, hk⟩ h, fun _ => rfl⟩

theorem engShows : ∃ vOf gOf, EngShows EngAt vOf gOf := by
  obtain ⟨vOf, hv⟩ := Classical.axiomOfChoice exists_view
  obtain ⟨gOf, hg⟩ := Classical.axiomOfChoice exists_groups
  refine ⟨vOf, gOf, ?_, ?_, ?_, ?_, ?_, ?_, ?_⟩
  · intro L L' p
    by_cases h : ∃ Z' : List O, Z'.Perm L ∧ InOrder Z'
    · have h' : ∃ Z' : List O, Z'.Perm L' ∧ InOrder Z' := by
        obtain ⟨Z, h1, h2⟩ := h
        exact ⟨Z, h1.trans p, h2⟩
      obtain ⟨a1, a2⟩ := (hv L).1 h
      obtain ⟨b1, b2⟩ := (hv L').1 h'
      exact order_eq (a1.trans (p.trans b1.symm)) a2 b2
    · have h' : ¬ ∃ Z' : List O, Z'.Perm L' ∧ InOrder Z' := by
        rintro ⟨Z, h1, h2⟩
        exact h ⟨Z, h1.trans p.symm, h2⟩
      rw [(hv L).2 h, (hv L').2 h']
  · intro L L' p
    by_cases h : ∃ ks, KeysOf L ks
    · obtain ⟨ks, hk⟩ := h
      rw [(hg L).1 ks hk, (hg L').1 ks (hk.perm p)]
      exact List.map_congr_left (fun k _ => grOf_perm p k)
    · have h' : ¬ ∃ ks, KeysOf L' ks := fun ⟨ks, hk⟩ => h ⟨ks, hk.perm p.symm⟩
      rw [(hg L).2 h, (hg L').2 h']
  · intro L
    by_cases h : ∃ Z' : List O, Z'.Perm L ∧ InOrder Z'
    · exact Nat.le_of_eq ((hv L).1 h).1.length_eq
    · rw [(hv L).2 h]; exact Nat.zero_le _
  · intro L
    by_cases h : ∃ ks, KeysOf L ks
    · obtain ⟨ks, hk⟩ := h
      rw [(hg L).1 ks hk, List.length_map]
      exact hk.2.2
    · rw [(hg L).2 h]; exact Nat.zero_le _
  · intro L o ho
    by_cases h : ∃ Z' : List O, Z'.Perm L ∧ InOrder Z'
    · exact ((hv L).1 h).1.mem_iff.1 ho
    · rw [(hv L).2 h] at ho; cases ho
  · rintro be x L S W ⟨bj, bm, v0, v1, f0, f1, om, Sg, h, hS⟩ hL
    refine (eview_any (sorted_says nil_says) be bj bm v0 v1 f0 f1 om Sg x L L W h hL).mono ?_
    rintro e w' ⟨v, Z, rfl, h1, h2, h3, h4⟩
    obtain ⟨a1, a2⟩ := (hv L).1 ⟨Z, h1, h2⟩
    have e1 : Z = vOf L := order_eq (h1.trans a1.symm) h2 a2
    subst e1
    obtain ⟨oa, c, rfl⟩ := slice_formE h3
    exact ⟨oa, c, rfl, h3, h4⟩
  · rintro be x L S W ⟨bj, bm, v0, v1, f0, f1, om, Sg, h, hS⟩ hL
    refine (egroups_any be bj bm v0 v1 f0 f1 om Sg x L L W h hL).mono ?_
    rintro e w' ⟨v, ks, rfl, h1, h2, h3, h4, h5⟩
    have hk : KeysOf L ks := ⟨h1, h2, h3⟩
    have e1 := (hg L).1 ks hk
    have e2 : (gOf L).length = ks.length := by rw [e1, List.length_map]
    have e3 : (gOf L).flatMap encGQ = ks.flatMap (gE (absG L)) := by
      rw [e1, List.flatMap_map]
      rfl
    rw [← e2, ← e3] at h4
    obtain ⟨oa, c, rfl⟩ := slice_formE h4
    exact ⟨oa, c, rfl, h4, h5⟩

end Go.Proofs.YtmmbjbgimpgcfaaGreatDoor
