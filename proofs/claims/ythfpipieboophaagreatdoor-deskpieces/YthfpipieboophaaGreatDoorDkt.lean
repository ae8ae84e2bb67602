/- A session is opened. -/
import Derived.Test.YthfpipieboophaaGreatDoorDknz
import Derived.Laws.EntriesVeiled
import Derived.Carry
import Derived.Lib.SmallJoins
namespace Go.Proofs.YthfpipieboophaaGreatDoor
open Go.RowKit Go.Sort Go.Shelf
set_option maxRecDepth 100000
theorem puts13 (V : World) (bs : Nat) : ∃ v1 v2 v3 v4 v5 v6 v7 v8 v9 v10 v11 v12 v13, ((Instr.mapUpdate 223 (.map (some V.heap.size)) (.string ⟨#[112, 108, 97, 110]⟩) (.agg #[.int .i64 3, .func (.func 132) #[.pointer (some ⟨bs, 0, none⟩)] #[]])).run Tryz.prog (V.alloc (.map #[] 0)) = .ok () v1 ∧ (Instr.mapUpdate 223 (.map (some V.heap.size)) (.string ⟨#[108, 101, 102, 116]⟩) (.agg #[.int .i64 3, .func (.func 133) #[.pointer (some ⟨bs, 0, none⟩)] #[]])).run Tryz.prog v1 = .ok () v2 ∧ (Instr.mapUpdate 223 (.map (some V.heap.size)) (.string ⟨#[114, 105, 103, 104, 116]⟩) (.agg #[.int .i64 3, .func (.func 134) #[.pointer (some ⟨bs, 0, none⟩)] #[]])).run Tryz.prog v2 = .ok () v3 ∧ (Instr.mapUpdate 223 (.map (some V.heap.size)) (.string ⟨#[109, 97, 114, 107]⟩) (.agg #[.int .i64 2, .func (.func 135) #[.pointer (some ⟨bs, 0, none⟩)] #[]])).run Tryz.prog v3 = .ok () v4 ∧ (Instr.mapUpdate 223 (.map (some V.heap.size)) (.string ⟨#[109, 97, 114, 107, 115]⟩) (.agg #[.int .i64 0, .func (.func 136) #[.pointer (some ⟨bs, 0, none⟩)] #[]])).run Tryz.prog v4 = .ok () v5 ∧ (Instr.mapUpdate 223 (.map (some V.heap.size)) (.string ⟨#[104, 101, 108, 100]⟩) (.agg #[.int .i64 0, .func (.func 137) #[.pointer (some ⟨bs, 0, none⟩)] #[]])).run Tryz.prog v5 = .ok () v6 ∧ (Instr.mapUpdate 223 (.map (some V.heap.size)) (.string ⟨#[102, 101, 100]⟩) (.agg #[.int .i64 0, .func (.func 138) #[.pointer (some ⟨bs, 0, none⟩)] #[]])).run Tryz.prog v6 = .ok () v7 ∧ (Instr.mapUpdate 223 (.map (some V.heap.size)) (.string ⟨#[108, 97, 116, 101]⟩) (.agg #[.int .i64 0, .func (.func 139) #[.pointer (some ⟨bs, 0, none⟩)] #[]])).run Tryz.prog v7 = .ok () v8 ∧ (Instr.mapUpdate 223 (.map (some V.heap.size)) (.string ⟨#[118, 105, 101, 119]⟩) (.agg #[.int .i64 0, .func (.func 140) #[.pointer (some ⟨bs, 0, none⟩)] #[]])).run Tryz.prog v8 = .ok () v9 ∧ (Instr.mapUpdate 223 (.map (some V.heap.size)) (.string ⟨#[103, 114, 111, 117, 112, 115]⟩) (.agg #[.int .i64 0, .func (.func 141) #[.pointer (some ⟨bs, 0, none⟩)] #[]])).run Tryz.prog v9 = .ok () v10 ∧ (Instr.mapUpdate 223 (.map (some V.heap.size)) (.string ⟨#[115, 97, 118, 101, 100]⟩) (.agg #[.int .i64 0, .func (.func 142) #[.pointer (some ⟨bs, 0, none⟩)] #[]])).run Tryz.prog v10 = .ok () v11 ∧ (Instr.mapUpdate 223 (.map (some V.heap.size)) (.string ⟨#[114, 101, 108, 111, 97, 100]⟩) (.agg #[.int .i64 0, .func (.func 143) #[.pointer (some ⟨bs, 0, none⟩)] #[]])).run Tryz.prog v11 = .ok () v12 ∧ (Instr.mapUpdate 223 (.map (some V.heap.size)) (.string ⟨#[104, 101, 108, 112]⟩) (.agg #[.int .i64 0, .func (.func 144) #[.pointer (some ⟨bs, 0, none⟩)] #[]])).run Tryz.prog v12 = .ok () v13) ∧ VMap v13 bs V.heap.size ∧ Below V.heap.size V v13 := by
  have h0 := World.ownsMap_made V Tryz.prog 9 vRel
  obtain ⟨v1, r1, h1, g1⟩ := vput (bs := bs) h0 (by omega) [112, 108, 97, 110] (by decide) 132 3
  obtain ⟨v2, r2, h2, g2⟩ := vput (bs := bs) h1 (by omega) [108, 101, 102, 116] (by decide) 133 3
  obtain ⟨v3, r3, h3, g3⟩ := vput (bs := bs) h2 (by omega) [114, 105, 103, 104, 116] (by decide) 134 3
  obtain ⟨v4, r4, h4, g4⟩ := vput (bs := bs) h3 (by omega) [109, 97, 114, 107] (by decide) 135 2
  obtain ⟨v5, r5, h5, g5⟩ := vput (bs := bs) h4 (by omega) [109, 97, 114, 107, 115] (by decide) 136 0
  obtain ⟨v6, r6, h6, g6⟩ := vput (bs := bs) h5 (by omega) [104, 101, 108, 100] (by decide) 137 0
  obtain ⟨v7, r7, h7, g7⟩ := vput (bs := bs) h6 (by omega) [102, 101, 100] (by decide) 138 0
  obtain ⟨v8, r8, h8, g8⟩ := vput (bs := bs) h7 (by omega) [108, 97, 116, 101] (by decide) 139 0
  obtain ⟨v9, r9, h9, g9⟩ := vput (bs := bs) h8 (by omega) [118, 105, 101, 119] (by decide) 140 0
  obtain ⟨v10, r10, h10, g10⟩ := vput (bs := bs) h9 (by omega) [103, 114, 111, 117, 112, 115] (by decide) 141 0
  obtain ⟨v11, r11, h11, g11⟩ := vput (bs := bs) h10 (by omega) [115, 97, 118, 101, 100] (by decide) 142 0
  obtain ⟨v12, r12, h12, g12⟩ := vput (bs := bs) h11 (by omega) [114, 101, 108, 111, 97, 100] (by decide) 143 0
  obtain ⟨v13, r13, h13, g13⟩ := vput (bs := bs) h12 (by omega) [104, 101, 108, 112] (by decide) 144 0
  refine ⟨v1, v2, v3, v4, v5, v6, v7, v8, v9, v10, v11, v12, v13, ⟨r1, r2, r3, r4, r5, r6, r7, r8, r9, r10, r11, r12, r13⟩, h13, ?_⟩
  have hb : ∀ {A B : World}, V.heap.size ≤ A.heap.size → A.grownBy B (some V.heap.size) → Below V.heap.size A B := fun hA hg => (Below.refl _ _).grown hg hA (fun k e => by cases e; exact Nat.le_refl _)
  have s0 : V.heap.size ≤ (V.alloc (.map #[] 0)).heap.size := by simp
  have s1 := Nat.le_trans s0 g1.size
  have s2 := Nat.le_trans s1 g2.size
  have s3 := Nat.le_trans s2 g3.size
  have s4 := Nat.le_trans s3 g4.size
  have s5 := Nat.le_trans s4 g5.size
  have s6 := Nat.le_trans s5 g6.size
  have s7 := Nat.le_trans s6 g7.size
  have s8 := Nat.le_trans s7 g8.size
  have s9 := Nat.le_trans s8 g9.size
  have s10 := Nat.le_trans s9 g10.size
  have s11 := Nat.le_trans s10 g11.size
  have s12 := Nat.le_trans s11 g12.size
  exact (((((((((((((Go.Joins.below_alloc1 V _).trans (hb s0 g1)).trans (hb s1 g2)).trans (hb s2 g3)).trans (hb s3 g4)).trans (hb s4 g5)).trans (hb s5 g6)).trans (hb s6 g7)).trans (hb s7 g8)).trans (hb s8 g9)).trans (hb s9 g10)).trans (hb s10 g11)).trans (hb s11 g12)).trans (hb s12 g13)
section
variable {w0 : World} {bs be : Nat} {mv : Option Nat} {st st' : Sx} {S S' P : Nat → Prop} {W W' w' : World}
theorem first_taken {pv : Value} (hbk : W.heap[bs]? = some (.cells #[pv, .map mv] 225)) (hlo : Below w0.heap.size w0 W) (hge : w0.heap.size ≤ bs) {be' : Nat} (hb : Below W.heap.size W W') (hE : PE st' be' S' W') (hS : ∀ k, S' k → W.heap.size ≤ k) : DNext w0 bs mv st' (fun k => k = bs) W (W'.setCell ⟨bs, 0, none⟩ (.pointer (some ⟨be', 0, none⟩))) := by
  have hlt : bs < W.heap.size := (Array.getElem?_eq_some_iff.1 hbk).1
  have hns : ¬ S' bs := fun e => by have := hS bs e; omega
  have hse : ∀ k, k ≠ bs → (W'.setCell ⟨bs, 0, none⟩ (.pointer (some ⟨be', 0, none⟩))).heap[k]? = W'.heap[k]? := fun k e => Below.heap_setCell _ _ _ _ e
  have hT : Turned (fun k => k = bs) W (W'.setCell ⟨bs, 0, none⟩ (.pointer (some ⟨be', 0, none⟩))) := (Turned.of_below (S := fun k => k = bs) hb).trans (turned_cell (b := bs) (o := 0)) (fun k _ e => e)
  refine ⟨fun k => S' k ∨ k = bs, ⟨be', S', ?_, pe_steady st' be' S' W' _ hE (by simp) (fun k e => hse k (fun e2 => hns (e2 ▸ e))), hns, fun _ => Iff.rfl, low_turned hlo hT (fun k e => by rw [e]; exact hge), fun k e => ?_⟩, hT, fun k e => ?_⟩
  · rw [Go.Joins.block_setCell ((hb.block bs hlt).trans hbk)]; rfl
  · rcases e with e | e
    · have := hS k e; have := hlo.size; omega
    · rw [e]; exact hge
  · rcases e with e | e
    · exact .inr (hS k e)
    · exact .inl e
theorem Dk.mapped (h : Dk w0 bs mv st be S P W) (bm : Nat) : Dk w0 bs (some bm) st be S P (W.setCell ⟨bs, 1, none⟩ (.map (some bm))) := by
  have hse : ∀ k, k ≠ bs → (W.setCell ⟨bs, 1, none⟩ (.map (some bm))).heap[k]? = W.heap[k]? := fun k e => Below.heap_setCell _ _ _ _ e
  refine ⟨?_, pe_steady st be S W _ h.eng (by simp) (fun k e => hse k (fun e2 => h.ns (e2 ▸ e))), h.ns, h.all, ?_, h.ge⟩
  · rw [Go.Joins.block_setCell h.blk]; rfl
  · have := h.ge bs ((h.all bs).2 (.inr rfl))
    exact h.low.trans ((turned_cell (b := bs) (o := 1)).below (by exact h.low.size) (fun k e => by subst e; exact this))
end
set_option maxHeartbeats 4000000 in
theorem v_plan0 {w0 : World} {bs : Nat} {mv : Option Nat} {W : World} (hbk : W.heap[bs]? = some (.cells #[.pointer none, .map mv] 225)) (hlo : Below w0.heap.size w0 W) (hge : w0.heap.size ≤ bs) (a b m : Int) (hp : planOk a b m) (g : Nat) (hg : W.heap[g]? = some (.cells ([a, b, m].map (Value.int .i64)).toArray 3)) :
    Calls Tryz.prog 132 #[.pointer (some ⟨bs, 0, none⟩), .slice (some ⟨g, 0, none⟩) 3 3] W fun e w' => e = .returned (sV [112, 108, 97, 110]) ∧ DNext w0 bs mv (Sx.new a b m) (fun k => k = bs) W w' := by
  have hgl := (Array.getElem?_eq_some_iff.1 hg).1
  have c1 := three_nums hg
  have hlt := (Array.getElem?_eq_some_iff.1 hbk).1
  have HN : Hid (∀ V, Below W.heap.size W V → Calls Tryz.prog 13 #[.agg #[.int .i64 a, .int .i64 b, .int .i64 m]] V fun e w' => ∃ be', e = .returned (.tuple #[.pointer (some ⟨be', 0, none⟩), .nilIface]) ∧ (w'.cell? ⟨g, 0, none⟩ = some (.int .i64 a) ∧ w'.cell? ⟨g, 1, none⟩ = some (.int .i64 b) ∧ w'.cell? ⟨g, 2, none⟩ = some (.int .i64 m)) ∧ (w'.cell? ⟨bs, 0, none⟩ = some (.pointer none) ∧ w'.frozen? ⟨bs, 0, none⟩ = false ∧ bs < w'.heap.size) ∧ Hid (DNext w0 bs mv (Sx.new a b m) (fun k => k = bs) W (w'.setCell ⟨bs, 0, none⟩ (.pointer (some ⟨be', 0, none⟩))))) := by
    intro V hV
    refine (pe_new a b m V hp).mono ?_
    rintro e w' ⟨be', S', rfl, h1, h2, h3⟩
    have hb : Below W.heap.size W w' := hV.trans (h3.mono hV.size)
    have h4 := (hb.block bs hlt).trans hbk
    exact ⟨be', rfl, three_nums ((hb.block g hgl).trans hg), ⟨by rw [Go.Joins.cell_of_block h4]; rfl, Go.Joins.unfrozen_of_block h4 0, (Array.getElem?_eq_some_iff.1 h4).1⟩, first_taken hbk hlo hge hb h1 (fun k e => Nat.le_trans hV.size (h2 k e).1)⟩
  have B1 : Hid (Below W.heap.size W W.drew) := (Below.refl _ _).drew
  clear hbk hp hg
  go_enter Tryz.func132, Tryz.ntmps132
  go_wp2
  go_region_held3 (fun V => V.cell? ⟨g, 0, none⟩ = some (.int .i64 a) ∧ V.cell? ⟨g, 1, none⟩ = some (.int .i64 b) ∧ V.cell? ⟨g, 2, none⟩ = some (.int .i64 m)) (first | exact c1 | exact c2 | fail) (first
    | (go_at_call 13; refine (HN.out _ B1.out).mono ?_; rintro e w2 ⟨be', rfl, c2, c3, h2⟩)
    | fail)
  clear HN c1 c2
  go_wp2_with (first
    | (go_at_call 213; refine (check_nil _).mono ?_; rintro e w3 ⟨rfl, hw⟩; have hw := hw.symm; subst hw)
    | fail)
  go_ret
  exact ⟨rfl, h2.out⟩
set_option maxHeartbeats 4000000 in
theorem open_any (w : World) : Calls Tryz.prog 76 #[] w fun e w' => ∃ bs bm P, e = .returned (.pointer (some ⟨bs, 0, none⟩)) ∧ Dsk w bs (some bm) (Sx.new 0 10 3) P w' ∧ VMap w' bs bm ∧ ¬ P bm ∧ w.heap.size ≤ bm := by
  have hmm := @run_makeMap Tryz.prog
  have hmf : ∀ (fn : Fn) (first cap : Array Value) (w : World), (Instr.makeFunc fn first cap).run Tryz.prog w = .ok (.func fn first cap) w := fun _ _ _ _ => rfl
  have HP : Hid (∀ V, Below (w.heap.size + 1) (w.alloc (.cells #[.pointer none, .map none] 225)) V → ∀ g, V.heap[g]? = some (.cells #[.int .i64 0, .int .i64 10, .int .i64 3] 3) → Calls Tryz.prog 132 #[.pointer (some ⟨w.heap.size, 0, none⟩), .slice (some ⟨g, 0, none⟩) 3 3] V fun e w' => e = .returned (sV [112, 108, 97, 110]) ∧ (∃ v1 v2 v3 v4 v5 v6 v7 v8 v9 v10 v11 v12 v13, ((Instr.mapUpdate 223 (.map (some w'.heap.size)) (.string ⟨#[112, 108, 97, 110]⟩) (.agg #[.int .i64 3, .func (.func 132) #[.pointer (some ⟨w.heap.size, 0, none⟩)] #[]])).run Tryz.prog (w'.alloc (.map #[] 0)) = .ok () v1 ∧ (Instr.mapUpdate 223 (.map (some w'.heap.size)) (.string ⟨#[108, 101, 102, 116]⟩) (.agg #[.int .i64 3, .func (.func 133) #[.pointer (some ⟨w.heap.size, 0, none⟩)] #[]])).run Tryz.prog v1 = .ok () v2 ∧ (Instr.mapUpdate 223 (.map (some w'.heap.size)) (.string ⟨#[114, 105, 103, 104, 116]⟩) (.agg #[.int .i64 3, .func (.func 134) #[.pointer (some ⟨w.heap.size, 0, none⟩)] #[]])).run Tryz.prog v2 = .ok () v3 ∧ (Instr.mapUpdate 223 (.map (some w'.heap.size)) (.string ⟨#[109, 97, 114, 107]⟩) (.agg #[.int .i64 2, .func (.func 135) #[.pointer (some ⟨w.heap.size, 0, none⟩)] #[]])).run Tryz.prog v3 = .ok () v4 ∧ (Instr.mapUpdate 223 (.map (some w'.heap.size)) (.string ⟨#[109, 97, 114, 107, 115]⟩) (.agg #[.int .i64 0, .func (.func 136) #[.pointer (some ⟨w.heap.size, 0, none⟩)] #[]])).run Tryz.prog v4 = .ok () v5 ∧ (Instr.mapUpdate 223 (.map (some w'.heap.size)) (.string ⟨#[104, 101, 108, 100]⟩) (.agg #[.int .i64 0, .func (.func 137) #[.pointer (some ⟨w.heap.size, 0, none⟩)] #[]])).run Tryz.prog v5 = .ok () v6 ∧ (Instr.mapUpdate 223 (.map (some w'.heap.size)) (.string ⟨#[102, 101, 100]⟩) (.agg #[.int .i64 0, .func (.func 138) #[.pointer (some ⟨w.heap.size, 0, none⟩)] #[]])).run Tryz.prog v6 = .ok () v7 ∧ (Instr.mapUpdate 223 (.map (some w'.heap.size)) (.string ⟨#[108, 97, 116, 101]⟩) (.agg #[.int .i64 0, .func (.func 139) #[.pointer (some ⟨w.heap.size, 0, none⟩)] #[]])).run Tryz.prog v7 = .ok () v8 ∧ (Instr.mapUpdate 223 (.map (some w'.heap.size)) (.string ⟨#[118, 105, 101, 119]⟩) (.agg #[.int .i64 0, .func (.func 140) #[.pointer (some ⟨w.heap.size, 0, none⟩)] #[]])).run Tryz.prog v8 = .ok () v9 ∧ (Instr.mapUpdate 223 (.map (some w'.heap.size)) (.string ⟨#[103, 114, 111, 117, 112, 115]⟩) (.agg #[.int .i64 0, .func (.func 141) #[.pointer (some ⟨w.heap.size, 0, none⟩)] #[]])).run Tryz.prog v9 = .ok () v10 ∧ (Instr.mapUpdate 223 (.map (some w'.heap.size)) (.string ⟨#[115, 97, 118, 101, 100]⟩) (.agg #[.int .i64 0, .func (.func 142) #[.pointer (some ⟨w.heap.size, 0, none⟩)] #[]])).run Tryz.prog v10 = .ok () v11 ∧ (Instr.mapUpdate 223 (.map (some w'.heap.size)) (.string ⟨#[114, 101, 108, 111, 97, 100]⟩) (.agg #[.int .i64 0, .func (.func 143) #[.pointer (some ⟨w.heap.size, 0, none⟩)] #[]])).run Tryz.prog v11 = .ok () v12 ∧ (Instr.mapUpdate 223 (.map (some w'.heap.size)) (.string ⟨#[104, 101, 108, 112]⟩) (.agg #[.int .i64 0, .func (.func 144) #[.pointer (some ⟨w.heap.size, 0, none⟩)] #[]])).run Tryz.prog v12 = .ok () v13) ∧ (v13.cell? ⟨w.heap.size, 1, none⟩ = some (.map none) ∧ v13.frozen? ⟨w.heap.size, 1, none⟩ = false ∧ w.heap.size < v13.heap.size) ∧ Hid (∃ P, Dsk w w.heap.size (some w'.heap.size) (Sx.new 0 10 3) P (v13.setCell ⟨w.heap.size, 1, none⟩ (.map (some w'.heap.size))) ∧ VMap (v13.setCell ⟨w.heap.size, 1, none⟩ (.map (some w'.heap.size))) w.heap.size w'.heap.size ∧ ¬ P w'.heap.size ∧ w.heap.size ≤ w'.heap.size))) := by
    intro V hV g hg
    have hbk : V.heap[w.heap.size]? = some (.cells #[.pointer none, .map none] 225) := (hV.block _ (by omega)).trans (World.alloc_heap_new w _)
    have hlo : Below w.heap.size w V := (Go.Joins.below_alloc1 w _).trans (hV.mono (by omega))
    refine (v_plan0 hbk hlo (Nat.le_refl _) 0 10 3 (by unfold planOk; decide) g hg).mono ?_
    rintro e w' ⟨rfl, P, ⟨be, S, hD⟩, hT, hP⟩
    refine ⟨rfl, ?_⟩
    obtain ⟨v1, v2, v3, v4, v5, v6, v7, v8, v9, v10, v11, v12, v13, hr, hF, hB⟩ := puts13 w' w.heap.size
    have hD2 := hD.below hB
    refine ⟨v1, v2, v3, v4, v5, v6, v7, v8, v9, v10, v11, v12, v13, hr, ⟨hD2.cell.2.1, Go.Joins.unfrozen_of_block hD2.blk 1, hD2.lt⟩, P, ⟨be, S, hD2.mapped _⟩, hF.still (Below.heap_setCell _ _ _ _ (by have := hD.lt; show w'.heap.size ≠ w.heap.size; omega)), fun e => ?_, ?_⟩
    · have := hD.plt _ e; omega
    · have := hD.lt; omega
  go_enter Tryz.func76, Tryz.ntmps76
  have B1 : Hid (Below (w.heap.size + 1) (w.alloc (.cells #[.pointer none, .map none] 225)) ((w.alloc (.cells #[.pointer none, .map none] 225)).alloc (.cells #[.int .i64 0, .int .i64 10, .int .i64 3] 3)) ∧ ((w.alloc (.cells #[.pointer none, .map none] 225)).alloc (.cells #[.int .i64 0, .int .i64 10, .int .i64 3] 3)).heap[w.heap.size + 1]? = some (.cells #[.int .i64 0, .int .i64 10, .int .i64 3] 3)) := ⟨by simpa using Go.Joins.below_alloc1 (w.alloc (.cells #[.pointer none, .map none] 225)) (.cells #[.int .i64 0, .int .i64 10, .int .i64 3] 3), by simpa using World.alloc_heap_new (w.alloc (.cells #[.pointer none, .map none] 225)) (.cells #[.int .i64 0, .int .i64 10, .int .i64 3] 3)⟩
  go_wp2_with (first
    | (go_at_call 132; refine (HP.out _ B1.out.1 _ B1.out.2).mono ?_; rintro e w1 ⟨rfl, v1, v2, v3, v4, v5, v6, v7, v8, v9, v10, v11, v12, v13, ⟨r1, r2, r3, r4, r5, r6, r7, r8, r9, r10, r11, r12, r13⟩, c1, hF⟩)
    | fail)
  go_ret
  obtain ⟨P, h1, h2, h3, h4⟩ := hF.out
  exact ⟨_, _, P, rfl, h1, h2, h3, h4⟩
end Go.Proofs.YthfpipieboophaaGreatDoor
