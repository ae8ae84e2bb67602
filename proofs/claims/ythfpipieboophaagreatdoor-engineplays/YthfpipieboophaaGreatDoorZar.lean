import Derived.Test.YthfpipieboophaaGreatDoorZaq
import Derived.Test.YthfpipieboophaaGreatDoorZaj
namespace Go.Proofs.YthfpipieboophaaGreatDoor
set_option maxRecDepth 100000
set_option maxHeartbeats 40000000
open Go.Proofs.Tryz Go.Joins Go.RowKit Go.Sort
section
theorem Po (bm:Nat) (w:World) (hK:nH w bm) (Eu:bm < w.heap.size)
  (M7:∀(s sep:ByteArray) (W:World),Below w.heap.size w W->s.size < 4294967281->1<=sep.size->Calls prog 80 #[.string s,.string sep] W fun e w'=>e= .returned (.slice (some ⟨W.heap.size,0,none⟩) (Lib.countB s sep+1) (Lib.countB s sep+1))∧w'=W.alloc (.cells ((Lib.splitB sep 0 (Lib.countB s sep) s).map Value.string).toArray 9)):
  Calls prog 91 #[.string ⟨#[101,110,100]⟩,.map (some bm)] w fun e w'=>∃g,e= .returned (.tuple #[.agg #[.string ⟨#[101,110,100]⟩,.slice (some ⟨g,0,none⟩) 0 0],.bool true])∧w'.heap[g]? =some (.cells #[] 3)∧w.heap.size<=g∧Below w.heap.size w w':=by
 have hS:=M7 ⟨#[101,110,100]⟩ ⟨#[32]⟩ (w.alloc zL) (below_alloc1 _ _) (by decide) (by decide);have e1:Lib.countB ⟨#[101,110,100]⟩ ⟨#[32]⟩=0:=mR [101,110,100] [] (by decide) (by simp);have e2:Lib.splitB ⟨#[32]⟩ 0 0 ⟨#[101,110,100]⟩=[⟨#[101,110,100]⟩]:=rfl;rw[e1,e2] at hS;obtain⟨zk,DD,hmk⟩:∃zk:Array Value,Hid (zk=(List.replicate 0 (Value.int .i64 0)).toArray)∧∀W:World,(Instr.makeSlice 84 (.int .i64 (0:Nat)) (.int .i64 (0:Nat))).run prog W= .ok (.slice (some ⟨W.heap.size,0,none⟩) 0 0) (W.alloc (.cells zk 3)):=wM 0 (by omega);have hmk':∀W:World,(Instr.makeSlice 84 (.int .i64 0) (.int .i64 0)).run prog W= .ok (.slice (some ⟨W.heap.size,0,none⟩) 0 0) (W.alloc (.cells zk 3)):=hmk;clear hmk e1 e2;go_enter func91,ntmps91;go_wp2_with fail;refine hS.mono ?_;rintro e w1 ⟨rfl,rfl⟩;obtain⟨w1,hw1⟩:∃w1,(w.alloc zL).alloc (.cells (List.map Value.string [(⟨#[101,110,100]⟩:ByteArray)]).toArray 9)=w1:=⟨_,rfl⟩;rw[hw1]
 have hlt1:w.heap.size+1 < w1.heap.size:=by rw[<-hw1];simp
 have pY:w.heap.size < w1.heap.size:=by rw[<-hw1];simp;omega
 have hB1:Below w.heap.size w w1:=by rw[<-hw1];exact below_alloc2 _ _ _
 have hz1:w1.heap[w.heap.size]? =some zL:=by rw[<-hw1];exact(bV _ _ _).1
 have hg1:w1.heap[w.heap.size+1]? =some (.cells (List.map Value.string [(⟨#[101,110,100]⟩:ByteArray)]).toArray 9):=by rw[<-hw1];exact(bV _ _ _).2
 have hc0:w1.cell? ⟨w.heap.size+1,0,none⟩=some (.string ⟨#[101,110,100]⟩):=by rw[cell_of_block hg1];rfl
 have hlk:(Instr.lookup 152 (.map (some bm)) (.string ⟨#[101,110,100]⟩) true).run prog w1= .ok (.tuple #[.int .i64 0,.bool true]) w1:=qI (hK.still (hB1.block bm Eu)) .fin;have HB:Hid (Below w.heap.size w w1∧w1.heap[w.heap.size]? =some zL):=⟨hB1,hz1⟩;clear hw1 hB1 hz1 hg1;simp only[World.size_alloc] at *;clear hS;go_wp2
 go_region
 ·have hb:Below w1.heap.size w1 (((w1.alloc (.cells zk 3)).alloc (.cells #[.string ⟨#[101,110,100]⟩,.slice (some ⟨w1.heap.size,0,none⟩) 0 0] 169)).drew):=(below_alloc2 _ _ _).drew
  have hgs:(((w1.alloc (.cells zk 3)).alloc (.cells #[.string ⟨#[101,110,100]⟩,.slice (some ⟨w1.heap.size,0,none⟩) 0 0] 169)).drew).heap[w1.heap.size]? =some (.cells #[] 3):=by
   show(((w1.alloc (.cells zk 3)).alloc (.cells #[.string ⟨#[101,110,100]⟩,.slice (some ⟨w1.heap.size,0,none⟩) 0 0] 169))).heap[w1.heap.size]? =_;rw[(bV w1 _ _).1,DD.out];rfl
  have hbl:(((w1.alloc (.cells zk 3)).alloc (.cells #[.string ⟨#[101,110,100]⟩,.slice (some ⟨w1.heap.size,0,none⟩) 0 0] 169)).drew).heap[(w1.heap.size+1)]? =some (.cells #[.string ⟨#[101,110,100]⟩,.slice (some ⟨w1.heap.size,0,none⟩) 0 0] 169):=(bV w1 _ _).2;have hres:=(hb.block _ pY).trans HB.out.2;have hlow:=HB.out.1.trans (hb.mono HB.out.1.size)
  have hge:w.heap.size<=w1.heap.size:=by omega
  have hne:w1.heap.size≠w.heap.size:=by omega
  clear HB hlk DD hmk' hc0 hb;revert hgs hbl hres hlow;generalize (((w1.alloc (.cells zk 3)).alloc (.cells #[.string ⟨#[101,110,100]⟩,.slice (some ⟨w1.heap.size,0,none⟩) 0 0] 169)).drew)=w2;generalize (w1.heap.size+1)=bl at *;generalize w1.heap.size=gs at *;intro hgs hbl hres hlow;clear pY hlt1
  have c0:w2.cell? ⟨bl,0,none⟩=some (.string ⟨#[101,110,100]⟩):=by rw[cell_of_block hbl];rfl
  have c1:w2.cell? ⟨bl,1,none⟩=some (.slice (some ⟨gs,0,none⟩) 0 0):=by rw[cell_of_block hbl];rfl
  have d0:w2.cell? ⟨w.heap.size,0,none⟩=some (.string ⟨#[]⟩):=by rw[cell_of_block hres];rfl
  have d1:w2.cell? ⟨w.heap.size,1,none⟩=some (.slice none 0 0):=by rw[cell_of_block hres];rfl
  have f0:w2.frozen? ⟨w.heap.size,0,none⟩=false:=unfrozen_of_block hres 0;have f1:w2.frozen? ⟨w.heap.size,1,none⟩=false:=unfrozen_of_block hres 1
  have HF:Hid (∀u v,(((w2.setCell ⟨w.heap.size,0,none⟩ u).setCell ⟨w.heap.size,1,none⟩ v).heap[gs]? =some (.cells #[] 3))∧w.heap.size<=gs∧Below w.heap.size w ((w2.setCell ⟨w.heap.size,0,none⟩ u).setCell ⟨w.heap.size,1,none⟩ v)):=by
   intro u v;refine⟨?_,hge,(hlow.setCell (p:=⟨w.heap.size,0,none⟩) (Nat.le_refl _) _).setCell (p:=⟨w.heap.size,1,none⟩) (Nat.le_refl _) _⟩;rw[Below.heap_setCell _ _ _ _ hne,Below.heap_setCell _ _ _ _ hne,hgs]
  clear hgs hbl hres hlow hge hne;go_wp2
  go_loopg [60] 0 (fun _ Pp wr=>Pp= .int .i64 0∧wr=w2)
  case atStart=>exact⟨rfl,rfl⟩
  case round=>
   obtain⟨rfl,hw⟩:=hrel;have hw:=hw.symm;subst hw;go_wp2
   have hx0:((w2.setCell ⟨w.heap.size,0,none⟩ (.string ⟨#[101,110,100]⟩)).setCell ⟨w.heap.size,1,none⟩ (.slice (some ⟨gs,0,none⟩) 0 0)).cell? ⟨w.heap.size,0,none⟩=some (.string ⟨#[101,110,100]⟩):=by
    rw[World.cell?_setCell_other _ _ _ _ (by simp)];exact World.cell?_setCell_same' _ _ _ (by rw[d0];rfl)
   have hx1:((w2.setCell ⟨w.heap.size,0,none⟩ (.string ⟨#[101,110,100]⟩)).setCell ⟨w.heap.size,1,none⟩ (.slice (some ⟨gs,0,none⟩) 0 0)).cell? ⟨w.heap.size,1,none⟩=some (.slice (some ⟨gs,0,none⟩) 0 0):=
    World.cell?_setCell_same' _ _ _ (by rw[World.cell?_setCell_other _ _ _ _ (by simp),d1];rfl)
   refine bodyPost_ret (v:= .tuple #[.agg #[.string ⟨#[101,110,100]⟩,.slice (some ⟨gs,0,none⟩) 0 0],.bool true]) (by simp[results,Tryz.results91,go_sem,hx0,hx1]) rfl ⟨gs,rfl,HF.out _ _⟩
 ·have hb:Below w1.heap.size w1 (((w1.alloc (.cells #[.string ⟨#[101,110,100]⟩,.slice (some ⟨w1.heap.size+1,0,none⟩) 0 0] 169)).alloc (.cells zk 3)).drew):=(below_alloc2 _ _ _).drew
  have hgs:(((w1.alloc (.cells #[.string ⟨#[101,110,100]⟩,.slice (some ⟨w1.heap.size+1,0,none⟩) 0 0] 169)).alloc (.cells zk 3)).drew).heap[(w1.heap.size+1)]? =some (.cells #[] 3):=by
   show(((w1.alloc (.cells #[.string ⟨#[101,110,100]⟩,.slice (some ⟨w1.heap.size+1,0,none⟩) 0 0] 169)).alloc (.cells zk 3))).heap[(w1.heap.size+1)]? =_;rw[(bV w1 _ _).2,DD.out];rfl
  have hbl:(((w1.alloc (.cells #[.string ⟨#[101,110,100]⟩,.slice (some ⟨w1.heap.size+1,0,none⟩) 0 0] 169)).alloc (.cells zk 3)).drew).heap[w1.heap.size]? =some (.cells #[.string ⟨#[101,110,100]⟩,.slice (some ⟨(w1.heap.size+1),0,none⟩) 0 0] 169):=(bV w1 _ _).1;have hres:=(hb.block _ pY).trans HB.out.2;have hlow:=HB.out.1.trans (hb.mono HB.out.1.size)
  have hge:w.heap.size<=(w1.heap.size+1):=by omega
  have hne:(w1.heap.size+1)≠w.heap.size:=by omega
  clear HB hlk DD hmk' hc0 hb;revert hgs hbl hres hlow;generalize (((w1.alloc (.cells #[.string ⟨#[101,110,100]⟩,.slice (some ⟨w1.heap.size+1,0,none⟩) 0 0] 169)).alloc (.cells zk 3)).drew)=w2;generalize (w1.heap.size+1)=gs at *;generalize w1.heap.size=bl at *;intro hgs hbl hres hlow;clear pY hlt1
  have c0:w2.cell? ⟨bl,0,none⟩=some (.string ⟨#[101,110,100]⟩):=by rw[cell_of_block hbl];rfl
  have c1:w2.cell? ⟨bl,1,none⟩=some (.slice (some ⟨gs,0,none⟩) 0 0):=by rw[cell_of_block hbl];rfl
  have d0:w2.cell? ⟨w.heap.size,0,none⟩=some (.string ⟨#[]⟩):=by rw[cell_of_block hres];rfl
  have d1:w2.cell? ⟨w.heap.size,1,none⟩=some (.slice none 0 0):=by rw[cell_of_block hres];rfl
  have f0:w2.frozen? ⟨w.heap.size,0,none⟩=false:=unfrozen_of_block hres 0;have f1:w2.frozen? ⟨w.heap.size,1,none⟩=false:=unfrozen_of_block hres 1
  have HF:Hid (∀u v,(((w2.setCell ⟨w.heap.size,0,none⟩ u).setCell ⟨w.heap.size,1,none⟩ v).heap[gs]? =some (.cells #[] 3))∧w.heap.size<=gs∧Below w.heap.size w ((w2.setCell ⟨w.heap.size,0,none⟩ u).setCell ⟨w.heap.size,1,none⟩ v)):=by
   intro u v;refine⟨?_,hge,(hlow.setCell (p:=⟨w.heap.size,0,none⟩) (Nat.le_refl _) _).setCell (p:=⟨w.heap.size,1,none⟩) (Nat.le_refl _) _⟩;rw[Below.heap_setCell _ _ _ _ hne,Below.heap_setCell _ _ _ _ hne,hgs]
  clear hgs hbl hres hlow hge hne;go_wp2
  go_loopg [60] 0 (fun _ Pp wr=>Pp= .int .i64 0∧wr=w2)
  case atStart=>exact⟨rfl,rfl⟩
  case round=>
   obtain⟨rfl,hw⟩:=hrel;have hw:=hw.symm;subst hw;go_wp2
   have hx0:((w2.setCell ⟨w.heap.size,0,none⟩ (.string ⟨#[101,110,100]⟩)).setCell ⟨w.heap.size,1,none⟩ (.slice (some ⟨gs,0,none⟩) 0 0)).cell? ⟨w.heap.size,0,none⟩=some (.string ⟨#[101,110,100]⟩):=by
    rw[World.cell?_setCell_other _ _ _ _ (by simp)];exact World.cell?_setCell_same' _ _ _ (by rw[d0];rfl)
   have hx1:((w2.setCell ⟨w.heap.size,0,none⟩ (.string ⟨#[101,110,100]⟩)).setCell ⟨w.heap.size,1,none⟩ (.slice (some ⟨gs,0,none⟩) 0 0)).cell? ⟨w.heap.size,1,none⟩=some (.slice (some ⟨gs,0,none⟩) 0 0):=
    World.cell?_setCell_same' _ _ _ (by rw[World.cell?_setCell_other _ _ _ _ (by simp),d1];rfl)
   refine bodyPost_ret (v:= .tuple #[.agg #[.string ⟨#[101,110,100]⟩,.slice (some ⟨gs,0,none⟩) 0 0],.bool true]) (by simp[results,Tryz.results91,go_sem,hx0,hx1]) rfl ⟨gs,rfl,HF.out _ _⟩
end
section
theorem Py (g off c:Nat) (a b m:Int) (P:Nat->World->Prop) (w:World) (hg:g < w.heap.size) (h0:w.cell? ⟨g,off,none⟩=some (.int .i64 a)) (h1:w.cell? ⟨g,off+1,none⟩=some (.int .i64 b)) (h2:w.cell? ⟨g,off+2,none⟩=some (.int .i64 m))
  (hP:∀be W W',P be W->Below W.heap.size W W'->P be W')
  (HN:∀W,Below w.heap.size w W->Calls prog 13 #[.agg #[.int .i64 a,.int .i64 b,.int .i64 m]] W fun e w'=>∃be,e= .returned (.tuple #[.pointer (some ⟨be,0,none⟩),.nilIface])∧P be w'∧Below W.heap.size W w'):
  Calls prog 93 #[.agg #[.string ⟨#[112,108,97,110]⟩,.slice (some ⟨g,off,none⟩) 3 c]] w fun e w'=>∃be,e= .returned (.tuple #[.pointer (some ⟨be,0,none⟩),.bool true])∧P be w':=by
 have HN':Hid (∀W,Below w.heap.size w W->W.cell? ⟨w.heap.size,1,none⟩=some (.slice (some ⟨g,off,none⟩) 3 c)->Calls prog 13 #[.agg #[.int .i64 a,.int .i64 b,.int .i64 m]] W fun e w'=>∃be,e= .returned (.tuple #[.pointer (some ⟨be,0,none⟩),.nilIface])∧(w'.cell? ⟨w.heap.size,1,none⟩=some (.slice (some ⟨g,off,none⟩) 3 c)∧w'.cell? ⟨g,off,none⟩=some (.int .i64 a)∧w'.cell? ⟨g,off+1,none⟩=some (.int .i64 b)∧w'.cell? ⟨g,off+2,none⟩=some (.int .i64 m))∧Hid (P be w')):=by
  intro W hW hW1;refine(HN W hW).mono ?_;rintro e w' ⟨be,rfl,hp,hb⟩;have hb2:=hW.trans (hb.mono hW.size);exact⟨be,rfl,⟨(hb.cell (p:=⟨w.heap.size,1,none⟩) (World.block_lt_of_cell? _ _ hW1)).trans hW1,(hb2.cell (p:=⟨g,off,none⟩) hg).trans h0,(hb2.cell (p:=⟨g,off+1,none⟩) hg).trans h1,(hb2.cell (p:=⟨g,off+2,none⟩) hg).trans h2⟩,hp⟩
 have hB:Hid (Below w.heap.size w (w.alloc (.cells #[.string ⟨#[112,108,97,110]⟩,.slice (some ⟨g,off,none⟩) 3 c] 169)).drew):=(below_alloc1 _ _).drew
 have hP':Hid (∀be W,Hid (P be W)->P be W.drew):=fun be W h=>hP be W _ h.out ((Below.refl _ _).drew)
 clear HN hP;go_enter func93,ntmps93;go_wp2_with fail
 go_region_held3 (fun W=>W.cell? ⟨w.heap.size,1,none⟩=some (.slice (some ⟨g,off,none⟩) 3 c)∧W.cell? ⟨g,off,none⟩=some (.int .i64 a)∧W.cell? ⟨g,off+1,none⟩=some (.int .i64 b)∧W.cell? ⟨g,off+2,none⟩=some (.int .i64 m)) (first | (go_keep;done) | fail) (first
  | (go_at_call 13;refine(HN'.out _ hB.out (by go_keep)).mono ?_;rintro e w2 ⟨be,rfl,hc2,h3⟩)
  | fail)
 go_wp2
 go_region
 go_wp2;refine bodyPost_ret (v:= .tuple #[.pointer (some ⟨be,0,none⟩),.bool true]) (by simp[results,Tryz.results93,go_sem]) rfl ⟨be,rfl,hP'.out _ _ h3⟩
def lF:Prop:=∀(g off n c:Nat) (k t v:Int) (w:World),g < w.heap.size->3<=n->n<=1000->w.cell? ⟨g,off,none⟩=some (.int .i64 k)->w.cell? ⟨g,off+1,none⟩=some (.int .i64 t)->w.cell? ⟨g,off+2,none⟩=some (.int .i64 v)->
  Calls prog 165 #[.slice (some ⟨g,off,none⟩) n c] w fun e w'=>e= .returned (.agg #[.int .i64 k,.int .i64 t,.int .i64 v])∧Below w.heap.size w w'
theorem EK (be g off c:Nat) (P:World->Prop) (w:World)
  (H:∀W,Below w.heap.size w W->Calls prog 162 #[.pointer (some ⟨be,0,none⟩),.slice (some ⟨g,off,none⟩) 3 c] W fun e w'=>e= .returned (.bool true)∧P w'):
  Calls prog 92 #[.pointer (some ⟨be,0,none⟩),.agg #[.string ⟨#[102,101,100]⟩,.slice (some ⟨g,off,none⟩) 3 c]] w fun e w'=>e= .returned (.bool true)∧P w':=by
 have HH:Hid (∀W,Below w.heap.size w W->Calls prog 162 #[.pointer (some ⟨be,0,none⟩),.slice (some ⟨g,off,none⟩) 3 c] W fun e w'=>e= .returned (.bool true)∧Hid (P w')):=H;have hB:Hid (Below w.heap.size w (w.alloc (.cells #[.string ⟨#[102,101,100]⟩,.slice (some ⟨g,off,none⟩) 3 c] 169))):=below_alloc1 _ _;clear H;go_enter func92,ntmps92
 go_wp2_with (first
  | (go_at_call 162;refine(HH.out _ hB.out).mono ?_;rintro e w2 ⟨rfl,h2⟩)
  | fail)
 go_ret;exact⟨rfl,h2.out⟩
theorem zS (be g off c:Nat) (P:World->Prop) (w:World)
  (H:∀W,Below w.heap.size w W->Calls prog 163 #[.pointer (some ⟨be,0,none⟩),.slice (some ⟨g,off,none⟩) 2 c] W fun e w'=>e= .returned (.bool true)∧P w'):
  Calls prog 92 #[.pointer (some ⟨be,0,none⟩),.agg #[.string ⟨#[109,97,114,107,115]⟩,.slice (some ⟨g,off,none⟩) 2 c]] w fun e w'=>e= .returned (.bool true)∧P w':=by
 have HH:Hid (∀W,Below w.heap.size w W->Calls prog 163 #[.pointer (some ⟨be,0,none⟩),.slice (some ⟨g,off,none⟩) 2 c] W fun e w'=>e= .returned (.bool true)∧Hid (P w')):=H;have hB:Hid (Below w.heap.size w (w.alloc (.cells #[.string ⟨#[109,97,114,107,115]⟩,.slice (some ⟨g,off,none⟩) 2 c] 169))):=below_alloc1 _ _;clear H;go_enter func92,ntmps92
 go_wp2_with (first
  | (go_at_call 163;refine(HH.out _ hB.out).mono ?_;rintro e w2 ⟨rfl,h2⟩)
  | fail)
 go_ret;exact⟨rfl,h2.out⟩
theorem EL (be g off c:Nat) (P:World->Prop) (w:World) (h:∀W,Below w.heap.size w W->P W):
  Calls prog 92 #[.pointer (some ⟨be,0,none⟩),.agg #[.string ⟨#[101,110,100]⟩,.slice (some ⟨g,off,none⟩) 0 c]] w fun e w'=>e= .returned (.bool true)∧P w':=by
 have hB:Hid (P (w.alloc (.cells #[.string ⟨#[101,110,100]⟩,.slice (some ⟨g,off,none⟩) 0 c] 169))):=h _ (below_alloc1 _ _);clear h;go_enter func92,ntmps92;go_wp2;go_ret;exact⟨rfl,hB.out⟩
end
section
theorem vK (HR:lF) (be bj g off:Nat) (s k t v n:Int) (P:World->Prop) (w:World) (hg:g < w.heap.size) (hbe:be < w.heap.size)
  (h0:w.cell? ⟨g,off,none⟩=some (.int .i64 s)) (h1:w.cell? ⟨g,off+1,none⟩=some (.int .i64 k)) (h2:w.cell? ⟨g,off+2,none⟩=some (.int .i64 t)) (h3:w.cell? ⟨g,off+3,none⟩=some (.int .i64 v)) (h4:w.cell? ⟨g,off+4,none⟩=some (.int .i64 n))
  (hj:w.cell? ⟨be,3,none⟩=some (.pointer (some ⟨bj,0,none⟩)))
  (hPc:∀W,P W->W.cell? ⟨be,3,none⟩=some (.pointer (some ⟨bj,0,none⟩))∧W.cell? ⟨g,off,none⟩=some (.int .i64 s)∧W.cell? ⟨g,off+4,none⟩=some (.int .i64 n))
  (H:∀W,Below w.heap.size w W->Calls prog 164 #[.pointer (some ⟨bj,0,none⟩),.int .i64 s,.agg #[.int .i64 k,.int .i64 t,.int .i64 v],.int .i64 n] W fun e w'=>e= .returned .nilIface∧P w'):
  Calls prog 92 #[.pointer (some ⟨be,0,none⟩),.agg #[.string ⟨#[114,111,119]⟩,.slice (some ⟨g,off,none⟩) 5 5]] w fun e w'=>e= .returned (.bool true)∧P w':=by
 have HH:Hid (∀W,Hid (Below w.heap.size w W)->Calls prog 164 #[.pointer (some ⟨bj,0,none⟩),.int .i64 s,.agg #[.int .i64 k,.int .i64 t,.int .i64 v],.int .i64 n] W fun e w'=>e= .returned .nilIface∧(w'.cell? ⟨be,3,none⟩=some (.pointer (some ⟨bj,0,none⟩))∧w'.cell? ⟨g,off,none⟩=some (.int .i64 s)∧w'.cell? ⟨g,off+4,none⟩=some (.int .i64 n))∧Hid (P w')):=by
  intro W hW;refine(H W hW.out).mono ?_;rintro e w' ⟨rfl,hp⟩;exact⟨rfl,hPc w' hp,hp⟩
 have H8:Hid (∀W,Hid (Below w.heap.size w W)->Calls prog 165 #[.slice (some ⟨g,off+1,none⟩) 4 4] W fun e w'=>e= .returned (.agg #[.int .i64 k,.int .i64 t,.int .i64 v])∧(w'.cell? ⟨be,3,none⟩=some (.pointer (some ⟨bj,0,none⟩))∧w'.cell? ⟨g,off,none⟩=some (.int .i64 s)∧w'.cell? ⟨g,off+4,none⟩=some (.int .i64 n))∧Hid (Below w.heap.size w w')):=by
  intro W hW;have hb:=hW.out;refine(HR g (off+1) 4 4 k t v W (Nat.lt_of_lt_of_le hg hb.size) (by omega) (by omega) ((hb.cell (p:=⟨g,off+1,none⟩) hg).trans h1) ((hb.cell (p:=⟨g,off+1+1,none⟩) hg).trans h2) ((hb.cell (p:=⟨g,off+1+2,none⟩) hg).trans h3)).mono ?_;rintro e w' ⟨rfl,hb2⟩;have hb3:=hb.trans (hb2.mono hb.size);exact⟨rfl,⟨(hb3.cell (p:=⟨be,3,none⟩) hbe).trans hj,(hb3.cell (p:=⟨g,off,none⟩) hg).trans h0,(hb3.cell (p:=⟨g,off+4,none⟩) hg).trans h4⟩,hb3⟩
 have hB:Hid (Below w.heap.size w (w.alloc (.cells #[.string ⟨#[114,111,119]⟩,.slice (some ⟨g,off,none⟩) 5 5] 169))):=below_alloc1 _ _;have hB':Hid (Below w.heap.size w (w.alloc (.cells #[.string ⟨#[114,111,119]⟩,.slice (some ⟨g,off,none⟩) 5 5] 169)).drew):=(below_alloc1 _ _).drew;clear H HR hPc h1 h2 h3;go_enter func92,ntmps92;go_wp2_with fail
 go_region_held3 (fun W=>W.cell? ⟨be,3,none⟩=some (.pointer (some ⟨bj,0,none⟩))∧W.cell? ⟨g,off,none⟩=some (.int .i64 s)∧W.cell? ⟨g,off+4,none⟩=some (.int .i64 n)) (first | (go_keep;done) | fail) (first
  | (go_at_call 164;refine(HH.out _ hb2).mono ?_;rintro e w3 ⟨rfl,hc3,h3⟩)
  | (go_at_call 165;refine(H8.out _ hB').mono ?_;rintro e w2 ⟨rfl,hc2,hb2⟩)
  | fail)
 go_wp2;go_ret;exact⟨rfl,h3.out⟩
theorem CK (HR:lF) (be g off:Nat) (k t v:Int) (P:World->Prop) (w:World) (hg:g < w.heap.size)
  (h0:w.cell? ⟨g,off,none⟩=some (.int .i64 k)) (h1:w.cell? ⟨g,off+1,none⟩=some (.int .i64 t)) (h2:w.cell? ⟨g,off+2,none⟩=some (.int .i64 v))
  (H:∀W,Below w.heap.size w W->Calls prog 166 #[.pointer (some ⟨be,0,none⟩),.agg #[.int .i64 k,.int .i64 k,.int .i64 t,.int .i64 v,.int .i64 0,.int .i64 0,.int .i64 0,.bool true,.bool false]] W fun e w'=>e= .returned (.bool true)∧P w'):
  Calls prog 92 #[.pointer (some ⟨be,0,none⟩),.agg #[.string ⟨#[111,117,116,32,49]⟩,.slice (some ⟨g,off,none⟩) 3 3]] w fun e w'=>e= .returned (.bool true)∧P w':=by
 have HH:Hid (∀W,Hid (Below w.heap.size w W)->Calls prog 166 #[.pointer (some ⟨be,0,none⟩),.agg #[.int .i64 k,.int .i64 k,.int .i64 t,.int .i64 v,.int .i64 0,.int .i64 0,.int .i64 0,.bool true,.bool false]] W fun e w'=>e= .returned (.bool true)∧Hid (P w')):=fun W hW=>H W hW.out
 have H8:Hid (∀W,Hid (Below w.heap.size w W)->Calls prog 165 #[.slice (some ⟨g,off,none⟩) 3 3] W fun e w'=>e= .returned (.agg #[.int .i64 k,.int .i64 t,.int .i64 v])∧Hid (Below w.heap.size w w')):=by
  intro W hW;have hb:=hW.out;refine(HR g off 3 3 k t v W (Nat.lt_of_lt_of_le hg hb.size) (by omega) (by omega) ((hb.cell (p:=⟨g,off,none⟩) hg).trans h0) ((hb.cell (p:=⟨g,off+1,none⟩) hg).trans h1) ((hb.cell (p:=⟨g,off+2,none⟩) hg).trans h2)).mono ?_;rintro e w' ⟨rfl,hb2⟩;exact⟨rfl,hb.trans (hb2.mono hb.size)⟩
 have HL:Hid (∀W,Hid (Below w.heap.size w W)->Calls prog 167 #[.int .i64 0,.agg #[.int .i64 k,.int .i64 t,.int .i64 v]] W fun e w'=>e= .returned (.agg #[.int .i64 k,.int .i64 k,.int .i64 t,.int .i64 v,.int .i64 0,.int .i64 0,.int .i64 0,.bool true,.bool false])∧Hid (Below w.heap.size w w')):=by
  intro W hW;refine(um k t v W).mono ?_;rintro e w' ⟨rfl,hb2⟩;exact⟨rfl,hW.out.trans (hb2.mono hW.out.size)⟩
 have hB:Hid (Below w.heap.size w (w.alloc (.cells #[.string ⟨#[111,117,116,32,49]⟩,.slice (some ⟨g,off,none⟩) 3 3] 169))):=below_alloc1 _ _;clear H HR h0 h1 h2;go_enter func92,ntmps92
 go_wp2_with (first
  | (go_at_call 166;refine(HH.out _ hb3).mono ?_;rintro e w4 ⟨rfl,h4⟩)
  | (go_at_call 167;refine(HL.out _ hb2).mono ?_;rintro e w3 ⟨rfl,hb3⟩)
  | (go_at_call 165;refine(H8.out _ hB).mono ?_;rintro e w2 ⟨rfl,hb2⟩)
  | fail)
 go_ret;exact⟨rfl,h4.out⟩
theorem zT (HR:lF) (be g off:Nat) (k t v:Int) (P:World->Prop) (w:World) (hg:g < w.heap.size)
  (h0:w.cell? ⟨g,off,none⟩=some (.int .i64 k)) (h1:w.cell? ⟨g,off+1,none⟩=some (.int .i64 t)) (h2:w.cell? ⟨g,off+2,none⟩=some (.int .i64 v))
  (H:∀W,Below w.heap.size w W->Calls prog 166 #[.pointer (some ⟨be,0,none⟩),.agg #[.int .i64 k,.int .i64 0,.int .i64 0,.int .i64 0,.int .i64 k,.int .i64 t,.int .i64 v,.bool false,.bool true]] W fun e w'=>e= .returned (.bool true)∧P w'):
  Calls prog 92 #[.pointer (some ⟨be,0,none⟩),.agg #[.string ⟨#[111,117,116,32,50]⟩,.slice (some ⟨g,off,none⟩) 3 3]] w fun e w'=>e= .returned (.bool true)∧P w':=by
 have HH:Hid (∀W,Hid (Below w.heap.size w W)->Calls prog 166 #[.pointer (some ⟨be,0,none⟩),.agg #[.int .i64 k,.int .i64 0,.int .i64 0,.int .i64 0,.int .i64 k,.int .i64 t,.int .i64 v,.bool false,.bool true]] W fun e w'=>e= .returned (.bool true)∧Hid (P w')):=fun W hW=>H W hW.out
 have H8:Hid (∀W,Hid (Below w.heap.size w W)->Calls prog 165 #[.slice (some ⟨g,off,none⟩) 3 3] W fun e w'=>e= .returned (.agg #[.int .i64 k,.int .i64 t,.int .i64 v])∧Hid (Below w.heap.size w w')):=by
  intro W hW;have hb:=hW.out;refine(HR g off 3 3 k t v W (Nat.lt_of_lt_of_le hg hb.size) (by omega) (by omega) ((hb.cell (p:=⟨g,off,none⟩) hg).trans h0) ((hb.cell (p:=⟨g,off+1,none⟩) hg).trans h1) ((hb.cell (p:=⟨g,off+2,none⟩) hg).trans h2)).mono ?_;rintro e w' ⟨rfl,hb2⟩;exact⟨rfl,hb.trans (hb2.mono hb.size)⟩
 have HL:Hid (∀W,Hid (Below w.heap.size w W)->Calls prog 167 #[.int .i64 1,.agg #[.int .i64 k,.int .i64 t,.int .i64 v]] W fun e w'=>e= .returned (.agg #[.int .i64 k,.int .i64 0,.int .i64 0,.int .i64 0,.int .i64 k,.int .i64 t,.int .i64 v,.bool false,.bool true])∧Hid (Below w.heap.size w w')):=by
  intro W hW;refine(qH k t v W).mono ?_;rintro e w' ⟨rfl,hb2⟩;exact⟨rfl,hW.out.trans (hb2.mono hW.out.size)⟩
 have hB:Hid (Below w.heap.size w (w.alloc (.cells #[.string ⟨#[111,117,116,32,50]⟩,.slice (some ⟨g,off,none⟩) 3 3] 169))):=below_alloc1 _ _;clear H HR h0 h1 h2;go_enter func92,ntmps92
 go_wp2_with (first
  | (go_at_call 166;refine(HH.out _ hb3).mono ?_;rintro e w4 ⟨rfl,h4⟩)
  | (go_at_call 167;refine(HL.out _ hb2).mono ?_;rintro e w3 ⟨rfl,hb3⟩)
  | (go_at_call 165;refine(H8.out _ hB).mono ?_;rintro e w2 ⟨rfl,hb2⟩)
  | fail)
 go_ret;exact⟨rfl,h4.out⟩
theorem CL (HR:lF) (be g off:Nat) (k t v k2 t2 v2:Int) (P:World->Prop) (w:World) (hg:g < w.heap.size)
  (h0:w.cell? ⟨g,off,none⟩=some (.int .i64 k)) (h1:w.cell? ⟨g,off+1,none⟩=some (.int .i64 t)) (h2:w.cell? ⟨g,off+2,none⟩=some (.int .i64 v))
  (h3:w.cell? ⟨g,off+3,none⟩=some (.int .i64 k2)) (h4:w.cell? ⟨g,off+4,none⟩=some (.int .i64 t2)) (h5:w.cell? ⟨g,off+5,none⟩=some (.int .i64 v2))
  (H:∀W,Below w.heap.size w W->Calls prog 166 #[.pointer (some ⟨be,0,none⟩),.agg #[.int .i64 k,.int .i64 k,.int .i64 t,.int .i64 v,.int .i64 k2,.int .i64 t2,.int .i64 v2,.bool true,.bool true]] W fun e w'=>e= .returned (.bool true)∧P w'):
  Calls prog 92 #[.pointer (some ⟨be,0,none⟩),.agg #[.string ⟨#[111,117,116,32,51]⟩,.slice (some ⟨g,off,none⟩) 6 6]] w fun e w'=>e= .returned (.bool true)∧P w':=by
 have HH:Hid (∀W,Hid (Below w.heap.size w W)->Calls prog 166 #[.pointer (some ⟨be,0,none⟩),.agg #[.int .i64 k,.int .i64 k,.int .i64 t,.int .i64 v,.int .i64 k2,.int .i64 t2,.int .i64 v2,.bool true,.bool true]] W fun e w'=>e= .returned (.bool true)∧Hid (P w')):=fun W hW=>H W hW.out
 have HR1:Hid (∀W,Hid (Below w.heap.size w W)->Calls prog 165 #[.slice (some ⟨g,off,none⟩) 6 6] W fun e w'=>e= .returned (.agg #[.int .i64 k,.int .i64 t,.int .i64 v])∧Hid (Below w.heap.size w w')):=by
  intro W hW;have hb:=hW.out;refine(HR g off 6 6 k t v W (Nat.lt_of_lt_of_le hg hb.size) (by omega) (by omega) ((hb.cell (p:=⟨g,off,none⟩) hg).trans h0) ((hb.cell (p:=⟨g,off+1,none⟩) hg).trans h1) ((hb.cell (p:=⟨g,off+2,none⟩) hg).trans h2)).mono ?_;rintro e w' ⟨rfl,hb2⟩;exact⟨rfl,hb.trans (hb2.mono hb.size)⟩
 have HR2:Hid (∀W,Hid (Below w.heap.size w W)->Calls prog 165 #[.slice (some ⟨g,off+3,none⟩) 3 3] W fun e w'=>e= .returned (.agg #[.int .i64 k2,.int .i64 t2,.int .i64 v2])∧Hid (Below w.heap.size w w')):=by
  intro W hW;have hb:=hW.out;refine(HR g (off+3) 3 3 k2 t2 v2 W (Nat.lt_of_lt_of_le hg hb.size) (by omega) (by omega) ((hb.cell (p:=⟨g,off+3,none⟩) hg).trans h3) ((hb.cell (p:=⟨g,off+3+1,none⟩) hg).trans h4) ((hb.cell (p:=⟨g,off+3+2,none⟩) hg).trans h5)).mono ?_;rintro e w' ⟨rfl,hb2⟩;exact⟨rfl,hb.trans (hb2.mono hb.size)⟩
 have HL:Hid (∀W,Hid (Below w.heap.size w W)->Calls prog 168 #[.agg #[.int .i64 k,.int .i64 t,.int .i64 v],.agg #[.int .i64 k2,.int .i64 t2,.int .i64 v2]] W fun e w'=>e= .returned (.agg #[.int .i64 k,.int .i64 k,.int .i64 t,.int .i64 v,.int .i64 k2,.int .i64 t2,.int .i64 v2,.bool true,.bool true])∧Hid (Below w.heap.size w w')):=by
  intro W hW;refine(EU k t v k2 t2 v2 W).mono ?_;rintro e w' ⟨rfl,hb2⟩;exact⟨rfl,hW.out.trans (hb2.mono hW.out.size)⟩
 have hB:Hid (Below w.heap.size w (w.alloc (.cells #[.string ⟨#[111,117,116,32,51]⟩,.slice (some ⟨g,off,none⟩) 6 6] 169))):=below_alloc1 _ _;clear H HR h0 h1 h2 h3 h4 h5;go_enter func92,ntmps92;go_wp2_with fail;have hB2:=hid hB.out.drew
 go_region_held3 (fun _=>True) (first | exact trivial | fail) (first
  | (go_at_call 166;refine(HH.out _ hb4).mono ?_;rintro e w5 ⟨rfl,h5⟩)
  | (go_at_call 168;refine(HL.out _ hb3).mono ?_;rintro e w4 ⟨rfl,hb4⟩)
  | (go_at_call 165;refine(HR2.out _ hb2).mono ?_;rintro e w3 ⟨rfl,hb3⟩)
  | (go_at_call 165;refine(HR1.out _ hB2).mono ?_;rintro e w2 ⟨rfl,hb2⟩)
  | fail)
 go_wp2;go_ret;exact⟨rfl,h5.out⟩
end
end Go.Proofs.YthfpipieboophaaGreatDoor
