/- The document's bag (package estuaryref): one less. -/
import Derived.Test.YtfldfnphidehlaaDoorRefb
namespace Go.Proofs.YtfldfnphidehlaaDoor
open Go.RowKit
set_option maxRecDepth 100000

/-- append onto a slice of the call's own that is there, of any number. -/
theorem step_append_some {P : Program} (w : World) {ops : Array Oper} {o : Oper} {a : Act} {K : Act → World → Prop} {Q : Exit → Act → World → Prop} {E : Prop} (hgd : o.guard = none) (s x : Operand) (t : TypeId)
    (ho : o.op = .call { callee := .builtin .append, args := #[s, x], argTypes := #[t, t] })
    (base : Nat) (e : TypeId) (i : TypeInfo) (z : Value) (size bytes : Nat) (ht : P.underlying t = some (.slice e)) (hi : P.info? e = some i) (hz : i.zero = some z)
    (hsize : i.size = size) (hby : i.bytes = bytes) (hzs : z.cells.size = size) (hsz : 0 < size)
    (g0 c0 n : Nat) (xs : List Value) (hs : a.eval s = .slice (some ⟨g0, 0, none⟩) n c0) (hown : w.ownsRow base e size (.slice (some ⟨g0, 0, none⟩) n c0) n xs)
    (ad : Addr) (m c : Nat) (news : List Value) (hx : a.eval x = .slice (some ad) m c) (hl : news.length = m * size) (hnews : ∀ j u, news[j]? = some u → w.cell? (ad.add j) = some u) (h1 : ∀ u ∈ news, u.oneCell' = true)
    (h63 : n + m ≤ maxLen) (hbytes : (n + m) * bytes ≤ 140737488355328) (hbase : base ≤ w.heap.size)
    (h : ∀ g cap w', w'.ownsRow base e size (.slice (some ⟨g, 0, none⟩) (n + m) cap) (n + m) (xs ++ news) → w.grownBy w' (some g0) → (g = g0 ∨ g = w.heap.size) → K (a.put o.dst (.slice (some ⟨g, 0, none⟩) (n + m) cap)) w') :
    if Region.wanted o (yielded ops a.tmps) = true then Oper.wp P o a w K Q else E := by
  have hw : Region.wanted o (yielded ops a.tmps) = true := by simp [Region.wanted, hgd]
  rw [if_pos hw]
  obtain ⟨v', w', hr, h2, h3, h4, h5⟩ := run_append_own_at (P := P) w base t o.type e i z size bytes ht hi hz hsize hby hzs hsz _ n xs hown ad m c news hl hnews h1 h63 hbytes hbase
  rcases h2.2 with ⟨rfl, _⟩ | ⟨g, cap, cur, rfl, _⟩
  · have := (h4.1 rfl).1; cases this
  · unfold Oper.wp execOp
    simp only [ho, resolve, invoke, builtin, Sem.run_bind, Sem.run_pure, Result.andThen_ok, List.map_toArray, List.map_cons, List.map_nil, hs, hx, hr]
    refine h g cap w' h2 h3 ?_
    simpa [Value.ownBlock] using h5

theorem boxC {W : World} {B : Nat} {x : O} {gone : Bool} (hb : W.heap[B]? = some (.cells #[.int .i64 x.k, .int .i64 x.lk, .int .i64 x.lt, .int .i64 x.lv, .int .i64 x.rk, .int .i64 x.rt, .int .i64 x.rv, .bool x.hl, .bool x.hr, .bool gone] 39)) :
    W.cell? ⟨B, 0, none⟩ = some (.int .i64 x.k) ∧ W.cell? ⟨B, 1, none⟩ = some (.int .i64 x.lk) ∧ W.cell? ⟨B, 2, none⟩ = some (.int .i64 x.lt) ∧ W.cell? ⟨B, 3, none⟩ = some (.int .i64 x.lv) ∧ W.cell? ⟨B, 4, none⟩ = some (.int .i64 x.rk) ∧ W.cell? ⟨B, 5, none⟩ = some (.int .i64 x.rt) ∧ W.cell? ⟨B, 6, none⟩ = some (.int .i64 x.rv) ∧ W.cell? ⟨B, 7, none⟩ = some (.bool x.hl) ∧ W.cell? ⟨B, 8, none⟩ = some (.bool x.hr) := by
  refine ⟨?_, ?_, ?_, ?_, ?_, ?_, ?_, ?_, ?_⟩ <;> (rw [Go.Joins.cell_of_block hb]; rfl)

set_option maxHeartbeats 1000000 in
theorem rnone_any (base b : Nat) (v : Value) (M : List O) (w : World) (h : RefAt w base b v M) (x : O) (hM : M.length ≤ 1000) (hno : x ∉ M) :
    Calls Tryd.prog 7 #[.pointer (some ⟨b, 0, none⟩), vC x true] w fun e w' => e = .returned (.int .i64 8) ∧ Below w.heap.size w w' := by
  have hc := h.cell
  have hlt := h.lt
  simp only [vC]
  rcases Go.Joins.ownsRow_forms h.row with ⟨rfl, h0⟩ | ⟨gs, ck, rfl⟩
  · rw [h0] at *
    clear h h0
    go_enter Tryd.func7, Tryd.ntmps7
    go_wp2
    refine wp_loop_rounds 1 ?_
    rw [rounds_succ]
    go_wp2
    go_ret
    exact ⟨rfl, Go.Joins.below_alloc1 _ _⟩
  · have HR : Hid (w.ownsRow base 37 9 (.slice (some ⟨gs, 0, none⟩) M.length ck) M.length (M.flatMap encO)) := h.row
    have HN : Hid (x ∉ M) := hno
    clear h hno
    go_enter Tryd.func7, Tryd.ntmps7
    go_wp2
    go_loopg [26] M.length (fun g v26 wr => ∃ k : Nat, k ≤ M.length ∧ g = M.length - k ∧ v26 = .int .i64 k ∧ Hid (Below w.heap.size w wr ∧ wr.heap[w.heap.size]? = some (.cells #[.int .i64 x.k, .int .i64 x.lk, .int .i64 x.lt, .int .i64 x.lv, .int .i64 x.rk, .int .i64 x.rt, .int .i64 x.rv, .bool x.hl, .bool x.hr, .bool true] 39)))
    case atStart => exact ⟨0, Nat.zero_le _, rfl, rfl, ⟨Go.Joins.below_alloc1 _ _, heap_alloc_new _ _⟩⟩
    case round =>
      obtain ⟨k, hk, hg, rfl, I⟩ := hrel
      have HG : Hid (gk = M.length - k) := hg
      clear hg
      by_cases hlt2 : k < M.length
      · obtain ⟨y, hy⟩ : ∃ y, M[k]? = some y := ⟨_, List.getElem?_eq_getElem hlt2⟩
        have hcy := ks_cells (kept_below HR.out I.out.1) k y hy
        have hcx := boxC I.out.2
        have hz : w.heap.size < wr.heap.size := (Array.getElem?_eq_some_iff.1 I.out.2).1
        have i1 : (0 : Int) ≤ (k : Int) := by omega
        have i2 : (k : Int) < (M.length : Int) := by omega
        have i3 : (M.length : Int) ≤ 1000 := by omega
        have hne : y ≠ x := fun e => HN.out (by rw [← e]; exact List.mem_of_getElem? hy)
        have heq : ∀ w', (binOp .eql 37 (vO y) (vO x)).run Tryd.prog w' = .ok (.bool false) w' := fun w' => by rw [eq_out, decide_eq_false hne]
        have I2 : Hid (Below w.heap.size w (wr.alloc (.cells #[.int .i64 y.k, .int .i64 y.lk, .int .i64 y.lt, .int .i64 y.lv, .int .i64 y.rk, .int .i64 y.rt, .int .i64 y.rv, .bool y.hl, .bool y.hr] 37)) ∧ (wr.alloc (.cells #[.int .i64 y.k, .int .i64 y.lk, .int .i64 y.lt, .int .i64 y.lv, .int .i64 y.rk, .int .i64 y.rt, .int .i64 y.rv, .bool y.hl, .bool y.hr] 37)).heap[w.heap.size]? = some (.cells #[.int .i64 x.k, .int .i64 x.lk, .int .i64 x.lt, .int .i64 x.lv, .int .i64 x.rk, .int .i64 x.rt, .int .i64 x.rv, .bool x.hl, .bool x.hr, .bool true] 39)) :=
          ⟨I.out.1.alloc I.out.1.size _, (Below.heap_alloc _ _ _ hz).trans I.out.2⟩
        simp only [vO] at heq
        clear hy hne
        go_wp2
        go_roundg (M.length - (k + 1))
        case measure => have := HG.out; omega
        case rel => exact ⟨k + 1, by omega, rfl, by first | rfl | (congr 1; omega) | go_num, I2⟩
      · have i2 : ¬ ((k : Int) < (M.length : Int)) := by omega
        go_wp2
        go_ret
        exact ⟨rfl, I.out.1⟩

end Go.Proofs.YtfldfnphidehlaaDoor
