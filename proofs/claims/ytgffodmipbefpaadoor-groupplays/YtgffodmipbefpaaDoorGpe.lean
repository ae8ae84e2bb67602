/- estuarylaw.sameGroups; the program's Groups and the document's list side by side. -/
import Derived.Test.YtgffodmipbefpaaDoorGpd
import Derived.Deep.RegionHeld3
namespace Go.Proofs.YtgffodmipbefpaaDoor
open Go.RowKit Go.Maps Go.Sort Go.Shelf
set_option maxRecDepth 100000

theorem gE_len (G : Int → Option Tl) (k : Int) : (gE G k).length = 6 := rfl
theorem gflat_get (G : Int → Option Tl) (ks : List Int) (k j : Nat) (x : Int) (hx : ks[k]? = some x) (hj : j < 6) : (ks.flatMap (gE G))[k * 6 + j]? = (gE G x)[j]? := by
  induction ks generalizing k with
  | nil => simp at hx
  | cons a r ih =>
    rw [List.flatMap_cons]
    cases k with
    | zero =>
      simp at hx; subst hx
      rw [List.getElem?_append_left (by rw [gE_len]; omega)]; simp
    | succ k =>
      simp at hx
      rw [List.getElem?_append_right (by rw [gE_len]; omega), gE_len, show (k + 1) * 6 + j - 6 = k * 6 + j by omega]
      exact ih k hx
theorem gs_cells {W : World} {base gs n ck : Nat} {G : Int → Option Tl} {ks : List Int} (h : W.ownsRow base 88 6 (.slice (some ⟨gs, 0, none⟩) n ck) n (ks.flatMap (gE G))) (k : Nat) (x : Int) (hx : ks[k]? = some x) :
    ∀ τ, τ = (G x).getD τ0 → W.cell? ⟨gs, k * 6, none⟩ = some (.int .i64 x) ∧ W.cell? ⟨gs, k * 6 + 1, none⟩ = some (.int .i64 τ.c) ∧ W.cell? ⟨gs, k * 6 + 2, none⟩ = some (.int .i64 τ.s) ∧ W.cell? ⟨gs, k * 6 + 3, none⟩ = some (.int .i64 (lo τ.R)) ∧ W.cell? ⟨gs, k * 6 + 4, none⟩ = some (.int .i64 (hi τ.R)) ∧ W.cell? ⟨gs, k * 6 + 5, none⟩ = some (.bool (some? τ.R)) := by
  rintro τ rfl
  have key := fun (j : Nat) (v : Value) (hj : j < 6) (hv : (gE G x)[j]? = some v) => h.cells (g := gs) rfl (k * 6 + j) v ((gflat_get G ks k j x hx hj).trans hv)
  simp only [gadd_at] at key
  exact ⟨key 0 _ (by omega) rfl, key 1 _ (by omega) rfl, key 2 _ (by omega) rfl, key 3 _ (by omega) rfl, key 4 _ (by omega) rfl, key 5 _ (by omega) rfl⟩
theorem gflat_same {G G' : Int → Option Tl} (e : Geq G G') (ks : List Int) : ks.flatMap (gE G) = ks.flatMap (gE G') := by
  have : gE G = gE G' := funext fun k => geq_enc e k
  rw [this]
theorem neq_group (a b c d f : Int) (g : Bool) (w : World) : (binOp .neq 88 (.agg #[.int .i64 a, .int .i64 b, .int .i64 c, .int .i64 d, .int .i64 f, .bool g]) (.agg #[.int .i64 a, .int .i64 b, .int .i64 c, .int .i64 d, .int .i64 f, .bool g])).run Tryd.prog w = .ok (.bool false) w := by
  go_simp

set_option maxHeartbeats 1000000 in
theorem same_groups (v1 v2 : Value) (G : Int → Option Tl) (Z : List Int) (b1 b2 : Nat) (w : World) (h1 : w.ownsRow b1 88 6 v1 Z.length (Z.flatMap (gE G))) (h2 : w.ownsRow b2 88 6 v2 Z.length (Z.flatMap (gE G))) (hZ : Z.length ≤ 1000) :
    Calls Tryd.prog 34 #[v1, v2] w fun e w' => e = .returned (.bool true) ∧ Below w.heap.size w w' := by
  by_cases hz0 : Z.length = 0
  · rw [hz0] at h1 h2
    rcases Go.Joins.ownsRow_forms h1 with ⟨rfl, _⟩ | ⟨ga, ca, rfl⟩ <;> rcases Go.Joins.ownsRow_forms h2 with ⟨rfl, _⟩ | ⟨gb, cb, rfl⟩
    all_goals
      clear h1 h2
      go_enter Tryd.func34, Tryd.ntmps34
      go_wp2
      refine wp_loop_rounds 1 ?_
      rw [rounds_succ]
      go_wp2
      go_ret
      exact ⟨rfl, Below.refl _ _⟩
  · obtain ⟨ga, ca, rfl⟩ := Go.Joins.ownsRow_form h1 (by omega)
    obtain ⟨gb, cb, rfl⟩ := Go.Joins.ownsRow_form h2 (by omega)
    have HRa : Hid (w.ownsRow b1 88 6 (.slice (some ⟨ga, 0, none⟩) Z.length ca) Z.length (Z.flatMap (gE G))) := h1
    have HRb : Hid (w.ownsRow b2 88 6 (.slice (some ⟨gb, 0, none⟩) Z.length cb) Z.length (Z.flatMap (gE G))) := h2
    clear h1 h2
    go_enter Tryd.func34, Tryd.ntmps34
    go_wp2
    go_loopg [5] Z.length (fun g i wr => ∃ i' : Nat, i' ≤ Z.length ∧ g = Z.length - i' ∧ i = .int .i64 i' ∧ Below w.heap.size w wr)
    case atStart => exact ⟨0, Nat.zero_le _, rfl, rfl, Below.refl _ _⟩
    case round =>
      obtain ⟨i', hi', hgi, rfl, hBr⟩ := hrel
      have HGi : Hid (gk = Z.length - i') := hgi
      have HBr : Hid (Below w.heap.size w wr) := hBr
      clear hgi
      by_cases hlt : i' < Z.length
      · obtain ⟨z, hz⟩ : ∃ z, Z[i']? = some z := ⟨_, List.getElem?_eq_getElem hlt⟩
        obtain ⟨τz, hτz⟩ : ∃ τz, τz = (G z).getD τ0 := ⟨_, rfl⟩
        have hca := gs_cells (gkept_below HRa.out hBr) i' z hz τz hτz
        have hcb := gs_cells (gkept_below HRb.out hBr) i' z hz τz hτz
        have hnq := neq_group z τz.c τz.s (lo τz.R) (hi τz.R) (some? τz.R)
        have i1 : (0 : Int) ≤ (i' : Int) := by omega
        have i2 : (i' : Int) < (Z.length : Int) := by omega
        clear hBr hz hτz
        go_wp2
        go_region
        all_goals (try go_wp2)
        all_goals go_roundg (Z.length - (i' + 1))
        all_goals first
          | exact ⟨i' + 1, by omega, rfl, by go_num, HBr.out.drew⟩
          | (have := HGi.out; omega)
      · have e4 : i' = Z.length := by omega
        have hge4 : ¬ ((i' : Int) < (Z.length : Int)) := by omega
        clear hBr
        go_wp2
        go_ret
        exact ⟨rfl, HBr.out⟩

theorem Grp.lt {w : World} {b o m : Nat} {S : Nat → Prop} {G : Int → Option Tl} (h : Grp w b o m S G) : ∀ j, S j → j < w.heap.size := by obtain ⟨_, _, _, _, h3⟩ := h; exact h3

/-- The program's Groups (of L) and the document's list A in the call's own memory. -/
structure Ply (w : World) (m : Nat) (S : Nat → Prop) (L : List O) (v : Value) (A : List O) (W : World) : Prop where
  below : Below w.heap.size w W
  grp : Grp W w.heap.size 0 m S (absG L)
  all : AllAt W w.heap.size (w.heap.size + 1) v A
  base : ∀ j, S j → w.heap.size ≤ j
  sa : ¬ S (w.heap.size + 1)
  sv : ∀ g, v.ownBlock = some g → ¬ S g

theorem Ply.by_below {w W W' : World} {m : Nat} {S : Nat → Prop} {L A : List O} {v : Value} (h : Ply w m S L v A W) (hb : Below W.heap.size W W') : Ply w m S L v A W' :=
  ⟨h.below.trans (hb.mono h.below.size), h.grp.below hb, h.all.below hb, h.base, h.sa, h.sv⟩
theorem Ply.drew {w W : World} {m : Nat} {S : Nat → Prop} {L A : List O} {v : Value} (h : Ply w m S L v A W) : Ply w m S L v A W.drew := h.by_below (Below.refl _ _).drew
theorem row_turn {W W' : World} {base : Nat} {e : TypeId} {size : Nat} {v : Value} {n : Nat} {xs : List Value} {S : Nat → Prop} {b o : Nat} (h : W.ownsRow base e size v n xs) (ht : Turn S b o W W') (hv : ∀ g, v.ownBlock = some g → ¬ S g) : W'.ownsRow base e size v n xs := by
  refine ⟨h.1, ?_⟩
  rcases h.2 with hn | ⟨g, cap, cur, rfl, hbg, hg, rest⟩
  · exact .inl hn
  · exact .inr ⟨g, cap, cur, rfl, hbg, (ht.block g (Array.getElem?_eq_some_iff.1 hg).1 (hv g rfl)).trans hg, rest⟩
/-- The Groups have turned. -/
theorem Ply.turn {w W W' : World} {m m' : Nat} {S : Nat → Prop} {L L' A : List O} {v : Value} (h : Ply w m S L v A W) (hg : Grp W' w.heap.size 0 m' (More S W W') (absG L')) (ht : Turn S w.heap.size 0 W W') : Ply w m' (More S W W') L' v A W' := by
  have hs := h.below.size
  refine ⟨h.below.trans (ht.below hs h.base), hg, ⟨(ht.block _ h.all.lt h.sa).trans h.all.blk, row_turn h.all.row ht h.sv⟩, fun j hj => ?_, fun hj => ?_, fun g e hj => ?_⟩
  · rcases hj with hj | hj
    · exact h.base j hj
    · omega
  · rcases hj with hj | hj
    · exact h.sa hj
    · have := h.all.lt; omega
  · rcases hj with hj | hj
    · exact h.sv g e hj
    · have := (h.all.row.lt g e).2; omega
/-- The list has turned. -/
theorem Ply.list {w W W' : World} {m : Nat} {S : Nat → Prop} {L A A' : List O} {v v' : Value} (h : Ply w m S L v A W) (ha : AllAt W' w.heap.size (w.heap.size + 1) v' A') (hb : ∀ j, j < W.heap.size → j ≠ w.heap.size + 1 → v.ownBlock ≠ some j → W'.heap[j]? = W.heap[j]?)
    (hs : W.heap.size ≤ W'.heap.size) (h1 : W'.os = W.os) (h2 : W'.tape = W.tape) (h3 : W'.output = W.output) (hv : v'.ownBlock = v.ownBlock ∨ ∃ g, v'.ownBlock = some g ∧ W.heap.size ≤ g) : Ply w m S L v' A' W' := by
  have hsw := h.below.size
  refine ⟨h.below.trans ⟨h1, h2, h3, hs, fun j hj => hb j (by omega) (by omega) (fun e => ?_)⟩, h.grp.kept hs fun j hj => hb j (h.grp.lt j hj) (fun e => h.sa (by rw [← e]; exact hj)) (fun e => h.sv j e hj), ha, h.base, h.sa, fun g e => ?_⟩
  · have := (h.all.row.lt j e).1; omega
  · rcases hv with e' | ⟨g', e', hg'⟩
    · exact h.sv g (by rw [← e', e])
    · rw [e'] at e
      intro hS
      have := h.grp.lt g hS
      injection e with e; omega

def ansG (k : Int) : Option Tl → Value
  | none => zG
  | some τ => vG k τ
def ansE : Option Tl → Int
  | none => 8
  | some _ => 0
theorem rOf_ans (k : Int) (o : Option Tl) : rOf k o = .tuple #[ansG k o, .int .i64 (ansE o)] := by cases o <;> rfl
theorem vOf_ans (k : Int) (o : Option Tl) : vOf k o = .tuple #[ansG k o, errV (ansE o)] := by cases o <;> rfl
theorem ans_form (k : Int) (o : Option Tl) : ∃ a b c d f g, ansG k o = .agg #[.int .i64 a, .int .i64 b, .int .i64 c, .int .i64 d, .int .i64 f, .bool g] := by
  cases o with
  | none => exact ⟨_, _, _, _, _, _, rfl⟩
  | some τ => exact ⟨_, _, _, _, _, _, rfl⟩
theorem ans_geq {G G' : Int → Option Tl} (e : Geq G G') (k : Int) : ansG k (G k) = ansG k (G' k) ∧ ansE (G k) = ansE (G' k) := by
  rcases e k with ⟨h1, h2⟩ | ⟨τ, τ', h1, h2, h3⟩
  · rw [h1, h2]; exact ⟨rfl, rfl⟩
  · rw [h1, h2]; exact ⟨vG_eq h3 k, rfl⟩

theorem p_group {w W : World} {m : Nat} {S : Nat → Prop} {L A : List O} {v : Value} (h : Ply w m S L v A W) (k : Int) (hA : A.length ≤ 1000) (ag : Value) (ae : Int) (e1 : ansG k (absG A k) = ag) (e2 : ansE (absG A k) = ae) :
    Calls Tryd.prog 32 #[v, .int .i64 k] W fun e W' => e = .returned (.tuple #[ag, .int .i64 ae]) ∧ Below W.heap.size W W' :=
  (rgroup_any w.heap.size v A W h.all.row k hA).mono fun _ _ ⟨h1, h2⟩ => ⟨by rw [h1, rOf_ans, e1, e2], h2⟩
theorem p_of {w W : World} {m : Nat} {S : Nat → Prop} {L A : List O} {v : Value} (h : Ply w m S L v A W) (hp : L.Perm A) (k : Int) (hk : (gi k).wf = true) (ag : Value) (ae : Int) (e1 : ansG k (absG A k) = ag) (e2 : ansE (absG A k) = ae) :
    Calls Tryd.prog 33 #[.pointer (some ⟨w.heap.size, 0, none⟩), .int .i64 k] W fun e W' => e = .returned (.tuple #[ag, errV ae]) ∧ Below W.heap.size W W' :=
  (of_any w.heap.size 0 m S (absG L) W h.grp k hk).mono fun _ _ ⟨h1, h2⟩ => ⟨by rw [h1, vOf_ans, (ans_geq (abs_perm hp) k).1, (ans_geq (abs_perm hp) k).2, e1, e2], h2⟩
theorem p_all {w W : World} {m : Nat} {S : Nat → Prop} {L A : List O} {v : Value} (h : Ply w m S L v A W) (hp : L.Perm A) (hm : m ≤ 1000) :
    Calls Tryd.prog 35 #[.pointer (some ⟨w.heap.size, 0, none⟩)] W fun e W' => ∃ (v1 : Value) (Z : List Int) (b1 : Nat), e = .returned v1 ∧ Ply w m S L v A W' ∧ Below W.heap.size W W' ∧ (Z.Pairwise (fun x y => x < y) ∧ (∀ k, k ∈ Z ↔ (absG A k).isSome = true) ∧ Z.length ≤ m) ∧ W'.ownsRow b1 88 6 v1 Z.length (Z.flatMap (gE (absG A))) := by
  refine (gall_any w.heap.size 0 m S (absG L) W h.grp (by omega)).mono ?_
  rintro e W' ⟨v1, Z, h1, h2, h3, h4, h5, h6⟩
  have hge := abs_perm hp
  refine ⟨v1, Z, _, h1, h.by_below h6, h6, ⟨h2, fun k => ?_, h4⟩, by rw [← gflat_same hge]; exact h5⟩
  rw [h3]
  rcases hge k with ⟨g1, g2⟩ | ⟨τ, τ', g1, g2, _⟩ <;> rw [g1, g2]
  simp
theorem p_groups {w W : World} {m b1 : Nat} {S : Nat → Prop} {L A : List O} {v v1 : Value} {Z : List Int} (h : Ply w m S L v A W) (hA : A.length ≤ 1000) (hz : Z.Pairwise (fun x y => x < y) ∧ (∀ k, k ∈ Z ↔ (absG A k).isSome = true) ∧ Z.length ≤ m) (hr : W.ownsRow b1 88 6 v1 Z.length (Z.flatMap (gE (absG A)))) :
    Calls Tryd.prog 36 #[v] W fun e W' => ∃ (v2 : Value) (b2 : Nat), e = .returned v2 ∧ Ply w m S L v A W' ∧ Below W.heap.size W W' ∧ W'.ownsRow b1 88 6 v1 Z.length (Z.flatMap (gE (absG A))) ∧ W'.ownsRow b2 88 6 v2 Z.length (Z.flatMap (gE (absG A))) := by
  refine (rgroups_any w.heap.size v A W h.all.row hA).mono ?_
  rintro e W' ⟨v2, Z2, h1, h2, h3, h4, h5, h6⟩
  have e : Z2 = Z := keys_eq (Geq.refl (absG A)) h2 hz.1 h3 hz.2.1
  subst e
  exact ⟨v2, _, h1, h.by_below h6, h6, gkept_below hr h6, h5⟩

end Go.Proofs.YtgffodmipbefpaaDoor
