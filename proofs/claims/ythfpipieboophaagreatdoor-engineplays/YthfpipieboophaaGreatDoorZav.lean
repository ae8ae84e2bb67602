import Derived.Lib.AtoiAllCases
import Derived.Test.YthfpipieboophaaGreatDoorZau
import Derived.Test.YthfpipieboophaaGreatDoorZat
namespace Go.Proofs.YthfpipieboophaaGreatDoor
set_option maxRecDepth 100000
set_option maxHeartbeats 40000000
open Go.RowKit
section
open Go.Sort
variable {bm:Nat}
end
section
open Go.Sort
end
section
open Go.Sort
end
section
open Go.Sort
end
section
open Go.Sort Go.Shelf
theorem LD (be bj bm : Nat) (v0 v1 : Value) (f0 f1 : Int) (om : Option Nat) (Sg : Nat -> Prop) (x : J) (L Lg : List O) (s t : Int) (w : World) (h : az w be bj bm v0 v1 f0 f1 om Sg x L Lg) (he : moveE x.m0 x.m1 s t ≠ 0) :
    Calls Tryz.prog 15 #[.pointer (some ⟨be, 0, none⟩), .int .i64 s, .int .i64 t] w fun e w' => e = .returned (.iface 24 (.int .i64 (moveE x.m0 x.m1 s t))) ∧ Below w.heap.size w w' := by
  have HJ : Hid (∀ W, Below w.heap.size w W -> Calls Tryz.prog 51 #[.pointer (some ⟨bj, 0, none⟩), .int .i64 s, .int .i64 t] W fun e w' => e = .returned (.iface 24 (.int .i64 (moveE x.m0 x.m1 s t))) ∧ w'.cell? ⟨be, 3, none⟩ = some (.pointer (some ⟨bj, 0, none⟩)) ∧ Hid (Below w.heap.size w w')) := by
    intro W hW
    refine (Ll 0 bj bm v0 v1 x s t W (h.below hW).join he).mono ?_
    rintro e w' ⟨rfl, hb⟩
    have hb2 := hW.trans (hb.mono hW.size)
    exact ⟨rfl, (h.below hb2).cells.2.2.2.1, hb2⟩
  have hc := h.cells.2.2.2.1
  have hlt := h.blt
  have B0 : Hid (Below w.heap.size w w ∧ Below w.heap.size w w.drew) := ⟨Below.refl _ _, (Below.refl _ _).drew⟩
  generalize moveE x.m0 x.m1 s t = ke at *
  clear h he
  go_enter Tryz.func15, Tryz.ntmps15
  first
    | (go_wp2_with (first
        | (go_at_call 51; refine (HJ.out _ B0.out.1).mono ?_; rintro e w1 ⟨rfl, hc1, h1⟩)
        | fail)
       go_ret
       exact ⟨rfl, h1.out⟩)
    | (go_wp2
       go_region_held3 (fun W => W.cell? ⟨be, 3, none⟩ = some (.pointer (some ⟨bj, 0, none⟩))) (first | (go_keep; done) | fail) (first
        | (go_at_call 51; refine (HJ.out _ B0.out.2).mono ?_; rintro e w1 ⟨rfl, hc1, h1⟩)
        | fail)
       go_wp2
       go_ret
       exact ⟨rfl, h1.out⟩)
structure YU (st : Sx) (i : Nat) : Prop where
  sv : DI st.x st.f0 st.f1
  tell : ∀ o ∈ st.L, iK o
  len : st.L.length <= i
theorem YU.more {st : Sx} {i j : Nat} (h : YU st i) (hj : i <= j) : YU st j := ⟨h.sv, h.tell, Nat.le_trans h.len hj⟩
abbrev YV (i be : Nat) (S : Nat -> Prop) (W w' : World) (e : Ending) : Prop := (e = .returned (.bool false) ∧ Turned S W w') ∨ (e = .returned (.bool true) ∧ ∃ S', (∃ st', PE st' be S' w' ∧ YU st' (i + 1)) ∧ (∀ k, S' k -> (S k ∨ W.heap.size <= k) ∧ k < w'.heap.size) ∧ Turned S W w')
section
variable {st : Sx} {i be g : Nat} {S : Nat -> Prop} {W : World}
end
end
section
open Go.Shelf
def X9 (bs bp bv D l:Nat) (I Ix:World->Prop) (W:World):Exit->Act->World->Prop
 | .normal,_,W'=>I W'∧W.heap.size<=W'.heap.size∧∀k,k=bs∨k=bp∨k=bv∨k=D∨k=l->W'.heap[k]? =W.heap[k]?
 | .ret,_,W'=>Ix W'∧∀k,k=D∨k=l->W'.heap[k]? =W.heap[k]?
 | _,_,_=>False
end
section
open Go.Joins Go.Sort Go.Shelf
attribute [local go_sem] Oper.semAt_some
def Ixs (w:World) (W:World):Prop:=Below w.heap.size w W∧W.heap[w.heap.size]? =some (.cells #[.pointer none] 27)∧W.heap[w.heap.size+1]? =some (.cells #[.bool false] 4)
theorem Bd.leave {w:World} {kb bm:Nat} {ve:Value} {W:World} (h:Bd w kb bm ve W):Ixs w ((W.setCell ⟨w.heap.size,0,none⟩ (.pointer none)).setCell ⟨w.heap.size+1,0,none⟩ (.bool false)):=by
 refine⟨(h.low.setCell (p:=⟨w.heap.size,0,none⟩) (Nat.le_refl _) _).setCell (p:=⟨w.heap.size+1,0,none⟩) (by show w.heap.size<=w.heap.size+1;omega) _,?_,?_⟩
 ·rw[Below.heap_setCell _ _ _ _ (by simp),block_setCell h.r1];rfl
 ·rw[block_setCell ((Below.heap_setCell _ _ _ _ (by simp)).trans h.r2)];rfl
end
section
open Go.Sort Go.Shelf
section
variable {st:Sx} {i be g:Nat} {S:Nat->Prop} {W:World}
end
end
section
open Go.Sort Go.Shelf
def ZN (s:ByteArray) (x:J) (f0 f1:Int) (Z:List O):Prop:=DI x f0 f1∧(∀o∈Z,iK o)∧bJ Z∧Z.length<=5000∧(bN x f0 f1 Z).length<=60000∧s=⟨(bN x f0 f1 Z).toArray⟩
end
section
open Go.Proofs.Tryz Go.Joins Go.Sort Go.Shelf
variable {st:Sx} {be:Nat} {S:Nat->Prop} {W:World}
theorem LF (be bj bm:Nat) (v0 v1:Value) (f0 f1:Int) (om:Option Nat) (Sg:Nat->Prop) (x:J) (L Lg:List O) (s k t v:Int) (w:World) (hg0:w.cell? ⟨2,0,none⟩=some iD) (h:az w be bj bm v0 v1 f0 f1 om Sg x L Lg)
  (hno:bM s=false∨au k t v=false):
  Calls prog 11 #[.pointer (some ⟨be,0,none⟩),.int .i64 s,.agg #[.int .i64 k,.int .i64 t,.int .i64 v]] w fun e w'=>e= .returned (.tuple #[.slice none 0 0,.iface 24 (.int .i64 1)])∧Below w.heap.size w w':=by
 have HJ:Hid (∀W,Below w.heap.size w W->W.heap[w.heap.size]? =some (bu k t v)->Calls prog 45 #[.pointer (some ⟨bj,0,none⟩),.int .i64 s,.agg #[.int .i64 k,.int .i64 t,.int .i64 v]] W fun e w'=>e= .returned (.tuple #[.slice none 0 0,.iface 24 (.int .i64 1)])∧(w'.cell? ⟨be,3,none⟩=some (.pointer (some ⟨bj,0,none⟩))∧w'.cell? ⟨w.heap.size,0,none⟩=some (.int .i64 k)∧w'.cell? ⟨w.heap.size,1,none⟩=some (.int .i64 t)∧w'.cell? ⟨w.heap.size,2,none⟩=some (.int .i64 v))∧Hid (w'.cell? ⟨2,0,none⟩=some iD∧Below w.heap.size w w')):=by
  intro W hW hbx;refine(O9 bj s k t v W hno).mono ?_;rintro e w' ⟨rfl,h3⟩;have hB:Below w.heap.size w w':=hW.trans (h3.mono hW.size);have hE2:=h.below hB;have hz:2 < w.heap.size:=World.block_lt_of_cell? _ _ hg0;exact⟨rfl,⟨hE2.cells.2.2.2.1,bQ ((h3.block _ (Array.getElem?_eq_some_iff.1 hbx).1).trans hbx)⟩,(hB.cell (p:=⟨2,0,none⟩) hz).trans hg0,hB⟩
 have hc0:=h.cells;have hlt:=h.blt;have hq:=ow 1;clear h hno hg0;go_enter func11,ntmps11;go_wp2;have B1:Hid (Below w.heap.size w (w.alloc (bu k t v)).drew∧(w.alloc (bu k t v)).drew.heap[w.heap.size]? =some (bu k t v)):=⟨(below_alloc1 _ _).drew,heap_alloc_new w (bu k t v)⟩;have hc1:(w.alloc (bu k t v)).cell? ⟨be,3,none⟩=some (.pointer (some ⟨bj,0,none⟩))∧(w.alloc (bu k t v)).cell? ⟨w.heap.size,0,none⟩=some (.int .i64 k)∧(w.alloc (bu k t v)).cell? ⟨w.heap.size,1,none⟩=some (.int .i64 t)∧(w.alloc (bu k t v)).cell? ⟨w.heap.size,2,none⟩=some (.int .i64 v):=⟨((below_alloc1 w (bu k t v)).cell (p:=⟨be,3,none⟩) hlt).trans hc0.2.2.2.1,bQ (heap_alloc_new w (bu k t v))⟩;clear hc0
 go_region_held3 (fun W=>W.cell? ⟨be,3,none⟩=some (.pointer (some ⟨bj,0,none⟩))∧W.cell? ⟨w.heap.size,0,none⟩=some (.int .i64 k)∧W.cell? ⟨w.heap.size,1,none⟩=some (.int .i64 t)∧W.cell? ⟨w.heap.size,2,none⟩=some (.int .i64 v)) (first | exact hc1 | exact hc2 | fail) (first
  | (go_at_call 45;refine(HJ.out _ B1.out.1 B1.out.2).mono ?_;rintro e w1 ⟨rfl,hc2,h1⟩)
  | fail)
 clear hc1 hc2 B1 HJ
 go_wp2_with (first
  | (go_at_call 46;refine(lX _ _ h1.out.1).mono ?_;rintro e w2 ⟨rfl,hb2⟩;have E2:Hid (Below w.heap.size w w2):=h1.out.2.trans (hb2.mono h1.out.2.size);clear hb2)
  | fail)
 exact bodyPost_ret (v:= .tuple #[.slice none 0 0,.iface 24 (.int .i64 1)]) (by simp[results,Tryz.results11,go_sem]) rfl ⟨rfl,E2.out⟩
theorem GA (hP:PE st be S W) (hg0:W.cell? ⟨2,0,none⟩=some iD) (s k t v:Int) (hno:bM s=false∨au k t v=false):
  Calls prog 11 #[.pointer (some ⟨be,0,none⟩),.int .i64 s,.agg #[.int .i64 k,.int .i64 t,.int .i64 v]] W fun e w'=>e= .returned (.tuple #[.slice none 0 0,.iface 24 (.int .i64 1)])∧Below W.heap.size W w':=by
 obtain⟨bj,bm,v0,v1,om,Sg,h,hS⟩:=hP;exact LF be bj bm v0 v1 st.f0 st.f1 om Sg st.x st.L st.L s k t v W hg0 h hno
theorem DJ (hP:PE st be S W) (s t:Int) (he:moveE st.x.m0 st.x.m1 s t≠0):
  Calls prog 15 #[.pointer (some ⟨be,0,none⟩),.int .i64 s,.int .i64 t] W fun e w'=>e= .returned (.iface 24 (.int .i64 (moveE st.x.m0 st.x.m1 s t)))∧Below W.heap.size W w':=by
 obtain⟨bj,bm,v0,v1,om,Sg,h,hS⟩:=hP;exact LD be bj bm v0 v1 st.f0 st.f1 om Sg st.x st.L st.L s t W h he
section
variable {be bj bm:Nat} {v0 v1:Value} {f0 f1:Int} {om:Option Nat} {Sg:Nat->Prop} {x:J} {L Lg:List O} {w:World}
theorem Hg (s:Int) (hs:bM s=false) (h:az w be bj bm v0 v1 f0 f1 om Sg x L Lg):Calls prog 19 #[.pointer (some ⟨be,0,none⟩),.int .i64 s] w fun e w'=>e= .returned (.int .i64 0)∧w'=w:=by
 have H:Hid (Calls prog 63 #[.pointer (some ⟨bj,0,none⟩),.int .i64 s] w fun e w'=>e= .returned (.int .i64 0)∧w'=w):=Ig bj s w hs;have hc:=h.cells.2.2.2.1;have hlt:=h.blt;clear h;go_enter func19,ntmps19
 go_wp2_with (first
  | (go_at_call 63;refine H.out.mono ?_;rintro e w' ⟨rfl,hw⟩;have hw:=hw.symm;subst hw)
  | fail)
 go_ret;exact⟨rfl,rfl⟩
end
end
end Go.Proofs.YthfpipieboophaaGreatDoor
