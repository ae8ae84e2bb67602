import Derived.Test.YthfpipieboophaaGreatDoorZbg
namespace Go.Proofs.YthfpipieboophaaGreatDoor
set_option maxRecDepth 100000
set_option maxHeartbeats 40000000
open Go.Proofs.Tryz Go.Joins Go.Shelf Go.RowKit
section
variable {w w1 W W':World} {b:Nat} {v0 v1 vl:Value} {x:RJ} {L:List Hl}
structure Mv (w w1:World) (b:Nat) (v0 v1:Value) (x:RJ) (L:List Hl) (vl:Value) (W:World):Prop where
 at1:dh W 0 b v0 v1 x
 gr:w.grownBy W (some b)
 row:W.ownsRow w1.heap.size 117 5 vl L.length (L.flatMap bz)
 sz:w1.heap.size<=W.heap.size∧w.heap.size<=w1.heap.size
 old:b < w.heap.size∧(∀g,v0.ownBlock=some g->g < w.heap.size)∧(∀g,v1.ownBlock=some g->g < w.heap.size)
theorem Mv.go (h:Mv w w1 b v0 v1 x L vl W) (hb:Below W.heap.size W W'):Mv w w1 b v0 v1 x L vl W':=
 ⟨h.at1.below hb,h.gr.trans ⟨hb.os,hb.tape,hb.output,hb.size,fun k hk _=>hb.block k hk⟩,ag h.row (fun g e=>hb.block g (h.row.lt g e).2),⟨Nat.le_trans h.sz.1 hb.size,h.sz.2⟩,h.old⟩
theorem Mv.more {y:Hl} {g cap:Nat} (h:Mv w w1 b v0 v1 x L vl W) (hg:W.grownBy W' vl.ownBlock) (ho:W'.ownsRow w1.heap.size 117 5 (.slice (some ⟨g,0,none⟩) (L.length+1) cap) (L.length+1) (L.flatMap bz++bz y)):Mv w w1 b v0 v1 x (L++[y]) (.slice (some ⟨g,0,none⟩) (L.length+1) cap) W':=by
 have z:=h.sz
 have far:∀q,q < w.heap.size->some q≠vl.ownBlock:=fun q hq e=>by have :=(h.row.lt q e.symm).1;omega
 have hk:∀q,q < w.heap.size->W'.heap[q]? =W.heap[q]? :=fun q hq=>hg.block q (by omega) (far q hq)
 refine⟨⟨(hk b h.old.1).trans h.at1.blk,ag h.at1.r0 (fun q e=>hk q (h.old.2.1 q e)),ag h.at1.r1 (fun q e=>hk q (h.old.2.2 q e)),h.at1.apart⟩,⟨hg.os.trans h.gr.os,hg.tape.trans h.gr.tape,hg.output.trans h.gr.output,Nat.le_trans h.gr.size hg.size,fun q hq hne=>(hk q hq).trans (h.gr.block q hq hne)⟩,by simpa using ho,⟨Nat.le_trans z.1 hg.size,z.2⟩,h.old⟩
def sW (h:Hl):Obj:= .cells #[.int .i64 h.k,.int .i64 h.t,.int .i64 h.v,.int .i64 h.met,.int .i64 h.came] 117
theorem sG (h:Hl):∀u∈bz h,u.oneCell'=true:=by
 intro u hu;simp[bz] at hu;rcases hu with rfl | rfl | rfl | rfl | rfl <;>rfl
theorem Bt {m:Nat} {y:RJ} {u:Value} (h:dh w 0 b v0 v1 x) (hy:(#[.int .i64 x.lo,.int .i64 x.hi,.int .i64 x.mode,v0,v1,.int .i64 x.m0,.int .i64 x.m1,.int .i64 x.late,.int .i64 x.came]:Array Value).setIfInBounds m u= #[.int .i64 y.lo,.int .i64 y.hi,.int .i64 y.mode,v0,v1,.int .i64 y.m0,.int .i64 y.m1,.int .i64 y.late,.int .i64 y.came]) (h0:y.R0=x.R0) (h1:y.R1=x.R1):dh (w.setCell ⟨b,m,none⟩ u) 0 b v0 v1 y∧w.grownBy (w.setCell ⟨b,m,none⟩ u) (some b):=by
 have hk:∀q,q≠b->(w.setCell ⟨b,m,none⟩ u).heap[q]? =w.heap[q]? :=fun q hq=>Below.heap_setCell _ _ _ _ hq
 refine⟨⟨?_,?_,?_,h.apart⟩,rfl,rfl,rfl,by simp,fun q _ hne=>hk q (fun e=>hne (by rw[e]))⟩
 ·rw[block_setCell h.blk,hy]
 ·rw[h0];exact ag h.r0 (fun g e=>hk g (fun eb=>gV h.r0 h.blk (by omega) (by rw[e,eb])))
 ·rw[h1];exact ag h.r1 (fun g e=>hk g (fun eb=>gV h.r1 h.blk (by omega) (by rw[e,eb])))
theorem Md (h:Mv w w1 b v0 v1 x L vl W):dh (W.setCell ⟨b,4,none⟩ vl) 0 b v0 vl { x with R1:=L}∧w.grownBy (W.setCell ⟨b,4,none⟩ vl) (some b)∧(∀g,vl.ownBlock=some g->w.heap.size<=g):=by
 have hk:∀q,q≠b->(W.setCell ⟨b,4,none⟩ vl).heap[q]? =W.heap[q]? :=fun q hq=>Below.heap_setCell _ _ _ _ hq
 have z:=h.sz;have hb:=h.old.1;refine⟨⟨?_,ag h.at1.r0 (fun g e=>hk g (fun eb=>gV h.at1.r0 h.at1.blk (by omega) (by rw[e,eb]))),World.ownsRow.mono (ag h.row (fun g e=>hk g (fun eb=>by have :=(h.row.lt g e).1;omega))) (Nat.zero_le _),fun g e1 e2=>by have :=(h.row.lt g e2).1;have :=h.old.2.1 g e1;omega⟩,?_,fun g e=>by have :=(h.row.lt g e).1;omega⟩
 ·rw[block_setCell h.at1.blk];rfl
 ·exact⟨h.gr.os,h.gr.tape,h.gr.output,by simp;exact h.gr.size,fun q hq hne=>(hk q (fun e=>hne (by rw[e]))).trans (h.gr.block q hq hne)⟩
theorem Me (h:Mv w w1 b v0 v1 x L vl W):dh (W.setCell ⟨b,3,none⟩ vl) 0 b vl v1 { x with R0:=L}∧w.grownBy (W.setCell ⟨b,3,none⟩ vl) (some b)∧(∀g,vl.ownBlock=some g->w.heap.size<=g):=by
 have hk:∀q,q≠b->(W.setCell ⟨b,3,none⟩ vl).heap[q]? =W.heap[q]? :=fun q hq=>Below.heap_setCell _ _ _ _ hq
 have z:=h.sz;have hb:=h.old.1;refine⟨⟨?_,World.ownsRow.mono (ag h.row (fun g e=>hk g (fun eb=>by have :=(h.row.lt g e).1;omega))) (Nat.zero_le _),ag h.at1.r1 (fun g e=>hk g (fun eb=>gV h.at1.r1 h.at1.blk (by omega) (by rw[e,eb]))),fun g e1 e2=>by have :=(h.row.lt g e1).1;have :=h.old.2.2 g e2;omega⟩,?_,fun g e=>by have :=(h.row.lt g e).1;omega⟩
 ·rw[block_setCell h.at1.blk];rfl
 ·exact⟨h.gr.os,h.gr.tape,h.gr.output,by simp;exact h.gr.size,fun q hq hne=>(hk q (fun e=>hne (by rw[e]))).trans (h.gr.block q hq hne)⟩
theorem V3 (tm:Int) (w:World) (h:dh w 0 b v0 v1 x) (g1: -1099511627776<=tm) (g2:tm<=1099511627776) (hm:¬tm < x.m0) (p1: -1048576<=x.lo) (p2:x.lo<=1048576) (p3: -1048576<=x.hi) (p4:x.hi<=1048576) (hn:x.R1.length<=1000) (hR:∀y∈x.R1,-1099511627776<=y.t∧y.t<=1099511627776):
  Calls prog 16 #[.pointer (some ⟨b,0,none⟩),.int .i64 0,.int .i64 tm] w fun e w'=>e= .returned (.int .i64 0)∧∃vl,dh w' 0 b v0 vl { x with m0:=tm,R1:=x.R1.filter (fun h:Hl=>decide (tm < h.t -x.lo))}∧w.grownBy w' (some b)∧(∀g,vl.ownBlock=some g->w.heap.size<=g):=by
 obtain⟨i0,hi0,hz0,hz1,hz2⟩:=info_parts Bh;have hlt:=h.lt
 have pW:∀W,Calls prog 52 #[.int .i64 0,.int .i64 0,.int .i64 1] W fun e w'=>e= .returned (.bool true)∧w'=W:=fun W=>bG 0 0 1 W
 have Qn:∀W,Calls prog 52 #[.int .i64 tm,.int .i64 (-1099511627776),.int .i64 1099511627776] W fun e w'=>e= .returned (.bool true)∧w'=W:=fun W=>by
  have :=bG tm (-1099511627776) 1099511627776 W
  rwa [show iG (-1099511627776) 1099511627776 tm=true by simp[iG];omega] at this
 have HJ:=hid h;have s0:=aj h.r0;have s1:=aj h.r1;have cc:=h.cells;have f5:=cc.2.2.2.2.2.2.2.2.2 5;have f4:=cc.2.2.2.2.2.2.2.2.2 4;obtain⟨c0,c1,c2,c3,c4,c5,c6,c7,c8,cf⟩:=cc;clear h cf;obtain⟨q0,d0,rfl⟩:=s0;obtain⟨q1,d1,rfl⟩:=s1;go_enter func16,ntmps16;go_wp2_with fail;refine(pW _).mono ?_;rintro e w2 ⟨rfl,hw2⟩;rw[hw2];clear hw2 w2;go_wp2_with fail;refine(Qn _).mono ?_;rintro e w2 ⟨rfl,hw2⟩;rw[hw2];clear hw2 w2;clear pW Qn
 have M0:Hid (Mv w (w.setCell ⟨b,5,none⟩ (.int .i64 tm)) b (.slice q0 x.R0.length d0) (.slice q1 x.R1.length d1) { x with m0:=tm} [] (.slice none 0 0) (w.setCell ⟨b,5,none⟩ (.int .i64 tm))):=by
  have m:=Bt (m:=5) (u:= .int .i64 tm) (y:={ x with m0:=tm}) HJ.out rfl rfl rfl;exact⟨m.1,m.2,World.ownsRow_nil _ _ _ _,⟨Nat.le_refl _,by simp⟩,hlt,fun g e=>(HJ.out.r0.lt g e).2,fun g e=>(HJ.out.r1.lt g e).2⟩
 go_wp2_with fail;revert M0;generalize w.setCell ⟨b,5,none⟩ (.int .i64 tm)=w1;intro M0;clear c0 c1 c2 c3 c4 c5 c6 c7 c8 f5 f4
 go_loopg [8,42] x.R1.length (fun gg v8 v42 wr=>∃q:Nat,q<=x.R1.length∧gg=x.R1.length -q∧v42= .int .i64 q∧Hid (Mv w w1 b (.slice q0 x.R0.length d0) (.slice q1 x.R1.length d1) { x with m0:=tm} ((x.R1.take q).filter (fun h:Hl=>decide (tm < h.t -x.lo))) v8 wr))
 case atStart=>exact⟨0,Nat.zero_le _,rfl,rfl,M0⟩
 case round=>
  obtain⟨q,hq,hgg,rfl,I⟩:=hrel;have HG:=hid hgg;clear hgg M0
  by_cases uD:q < x.R1.length
  ·obtain⟨g,e1⟩:∃g,q1=some ⟨g,0,none⟩:=by
    obtain⟨g,cg,e⟩:=ownsRow_form HJ.out.r1 (by omega)
    injection e with e1
    exact⟨g,e1⟩
   subst e1;obtain⟨y,hy⟩:∃y,x.R1[q]? =some y:=⟨_,List.getElem?_eq_getElem uD⟩;have Ru:=hR y (List.mem_of_getElem? hy);have t1:=Ru.1;have t2:=Ru.2;have hr:=I.out.at1.r1
   have ey:∀j,j < 5->wr.cell? ⟨g,q * 5+j,none⟩=(bz y)[j]? :=fun j hj=>by
    rw[hr.cellAt (q * 5+j) (by show _ < x.R1.length * 5;omega),cB bz 5 fM x.R1 q j y hy hj]
   have ch:wr.cell? ⟨g,q * 5,none⟩=some (.int .i64 y.k)∧wr.cell? ⟨g,q * 5+1,none⟩=some (.int .i64 y.t)∧wr.cell? ⟨g,q * 5+2,none⟩=some (.int .i64 y.v)∧wr.cell? ⟨g,q * 5+3,none⟩=some (.int .i64 y.met)∧wr.cell? ⟨g,q * 5+4,none⟩=some (.int .i64 y.came):=⟨ey 0 (by omega),ey 1 (by omega),ey 2 (by omega),ey 3 (by omega),ey 4 (by omega)⟩
   have j1:(0:Int)<=(q:Int):=by omega
   have j2:(q:Int) < (x.R1.length:Int):=by omega
   have HK:Hid (x.R1.take (q+1)=x.R1.take q++[y]):=by
    show x.R1.take (q+1)=_;rw[List.take_add_one,hy];rfl
   have RQ:((x.R1.take q).filter (fun h:Hl=>decide (tm < h.t -x.lo))).length<=1000:=by
    have h1:=List.length_filter_le (fun h:Hl=>decide (tm < h.t -x.lo)) (x.R1.take q);have h2:=List.length_take_le q x.R1;omega
   have A1:Hid (Mv w w1 b (.slice q0 x.R0.length d0) (.slice (some ⟨g,0,none⟩) x.R1.length d1) { x with m0:=tm} ((x.R1.take q).filter (fun h:Hl=>decide (tm < h.t -x.lo))) u8 (wr.alloc (sW y))):=I.out.go (below_alloc1 _ _);have hbx:(wr.alloc (sW y)).heap[wr.heap.size]? =some (sW y):=heap_alloc_new _ _;have AJ:=hid hbx;have cc:=A1.out.at1.cells;have hmay:=qL b x.lo x.hi y.t (wr.alloc (sW y)) cc.1 cc.2.1 p1 p2 p3 p4 t1 t2;clear cc hr ey hbx hy Ru I;simp only[sW] at hmay
   by_cases hk:tm < y.t -x.lo
   ·have HP:Hid (decide (tm < y.t -x.lo)=true):=decide_eq_true hk;generalize hX:(x.R1.take q).filter (fun h:Hl=>decide (tm < h.t -x.lo))=X at *;have HX:=hid hX;clear hX;go_wp2_with fail;refine hmay.mono ?_;rintro e w3 ⟨rfl,hb3⟩;have A3:=A1.out.go hb3;have HB3:=(hb3.block wr.heap.size (by simp)).trans AJ.out
    have cb:w3.cell? ⟨wr.heap.size,0,none⟩=some (.int .i64 y.k)∧w3.cell? ⟨wr.heap.size,1,none⟩=some (.int .i64 y.t)∧w3.cell? ⟨wr.heap.size,2,none⟩=some (.int .i64 y.v)∧w3.cell? ⟨wr.heap.size,3,none⟩=some (.int .i64 y.met)∧w3.cell? ⟨wr.heap.size,4,none⟩=some (.int .i64 y.came):=by
     refine⟨?_,?_,?_,?_,?_⟩ <;>(rw[cell_of_block HB3];rfl)
    have A4:=A3.go (below_alloc1 w3 (sW y));have Qo:Hid _:=A4;have N4:Hid (∀j u,(bz y)[j]? =some u->(w3.alloc (sW y)).cell? ((⟨w3.heap.size,0,none⟩:Addr).add j)=some u):=World.news_of_block (heap_alloc_new w3 (sW y));have z3:w1.heap.size<=w3.heap.size:=A3.sz.1;clear hmay A1 A3 A4 HB3 AJ hb3 ch
    go_wp2_with (first
     | (refine wpList_append_lies _ rfl _ _ _ rfl w1.heap.size 117 i0 zH 5 40 underlying62 hi0 hz0 hz1 hz2 rfl (by omega) u8 X.length (X.flatMap bz) rfl Qo.out.row ⟨w3.heap.size,0,none⟩ 1 1 (bz y) rfl rfl N4.out (sG _) (by omega) (by unfold maxLen;omega) (by omega) (by simp;omega) _ rfl ?_;intro g9 IG w9 fQ dO qN qO;have I5:=Qo.out.more dO fQ;have V4:Hid _:=I5;clear fQ dO qN qO I5)
     | fail)
    go_roundg (x.R1.length -(q+1))
    case measure=>have :=HG.out;omega
    case rel=>
     refine⟨q+1,by omega,rfl,by go_num,?_⟩;show Mv _ _ _ _ _ _ _ _ _;rw[HK.out,List.filter_append,HX.out]
     have e:[y].filter (fun h:Hl=>decide (tm < h.t -x.lo))=[y]:=by simp only[List.filter_cons,List.filter_nil,HP.out];rfl
     rw[e];exact V4.out
   ·have HP:Hid (decide (tm < y.t -x.lo)=false):=decide_eq_false hk;go_wp2_with fail;refine hmay.mono ?_;rintro e w3 ⟨rfl,hb3⟩;have A3:=A1.out.go hb3;have Z4:Hid _:=A3;clear hmay A1 A3 AJ hb3 ch;go_wp2
    go_roundg (x.R1.length -(q+1))
    case measure=>have :=HG.out;omega
    case rel=>
     refine⟨q+1,by omega,rfl,by go_num,?_⟩;show Mv _ _ _ _ _ _ _ _ _;rw[HK.out,List.filter_append]
     have e:[y].filter (fun h:Hl=>decide (tm < h.t -x.lo))=[]:=by simp only[List.filter_cons,List.filter_nil,HP.out];rfl
     rw[e,List.append_nil];exact Z4.out
  ·have e1:q=x.R1.length:=by omega
   subst e1
   have i1:¬((x.R1.length:Nat):Int) < (x.R1.length:Int):=by omega
   have I1:Hid (Mv w w1 b (.slice q0 x.R0.length d0) (.slice q1 x.R1.length d1) { x with m0:=tm} (x.R1.filter (fun h:Hl=>decide (tm < h.t -x.lo))) u8 wr):=by
    have :=I.out;rw[List.take_length] at this;exact this
   have sl:=aj I1.out.row;have cc:=I1.out.at1.cells;have c4:wr.cell? ⟨b,4,none⟩=some (.slice q1 x.R1.length d1):=cc.2.2.2.2.1;have f4:=cc.2.2.2.2.2.2.2.2.2 4;have lb:=I1.out.at1.lt;clear I cc HG hq uD i1;obtain⟨pl,cl,rfl⟩:=sl
   have i1:¬((x.R1.length:Nat):Int) < (x.R1.length:Int):=by omega
   go_wp2;go_ret;exact⟨rfl,_,Md I1.out⟩
theorem V5 (tm:Int) (w:World) (h:dh w 0 b v0 v1 x) (g1: -1099511627776<=tm) (g2:tm<=1099511627776) (hm:¬tm < x.m1) (p1: -1048576<=x.lo) (p2:x.lo<=1048576) (p3: -1048576<=x.hi) (p4:x.hi<=1048576) (hn:x.R0.length<=1000) (hR:∀y∈x.R0,-1099511627776<=y.t∧y.t<=1099511627776):
  Calls prog 16 #[.pointer (some ⟨b,0,none⟩),.int .i64 1,.int .i64 tm] w fun e w'=>e= .returned (.int .i64 0)∧∃vl,dh w' 0 b vl v1 { x with m1:=tm,R0:=x.R0.filter (fun h:Hl=>decide (tm < h.t+x.hi))}∧w.grownBy w' (some b)∧(∀g,vl.ownBlock=some g->w.heap.size<=g):=by
 obtain⟨i0,hi0,hz0,hz1,hz2⟩:=info_parts Bh;have hlt:=h.lt
 have pW:∀W,Calls prog 52 #[.int .i64 1,.int .i64 0,.int .i64 1] W fun e w'=>e= .returned (.bool true)∧w'=W:=fun W=>bG 1 0 1 W
 have Qn:∀W,Calls prog 52 #[.int .i64 tm,.int .i64 (-1099511627776),.int .i64 1099511627776] W fun e w'=>e= .returned (.bool true)∧w'=W:=fun W=>by
  have :=bG tm (-1099511627776) 1099511627776 W
  rwa [show iG (-1099511627776) 1099511627776 tm=true by simp[iG];omega] at this
 have HJ:=hid h;have s0:=aj h.r0;have s1:=aj h.r1;have cc:=h.cells;have f6:=cc.2.2.2.2.2.2.2.2.2 6;have f3:=cc.2.2.2.2.2.2.2.2.2 3;obtain⟨c0,c1,c2,c3,c4,c5,c6,c7,c8,cf⟩:=cc;clear h cf;obtain⟨q0,d0,rfl⟩:=s0;obtain⟨q1,d1,rfl⟩:=s1;go_enter func16,ntmps16;go_wp2_with fail;refine(pW _).mono ?_;rintro e w2 ⟨rfl,hw2⟩;rw[hw2];clear hw2 w2;go_wp2_with fail;refine(Qn _).mono ?_;rintro e w2 ⟨rfl,hw2⟩;rw[hw2];clear hw2 w2;clear pW Qn
 have M0:Hid (Mv w (w.setCell ⟨b,6,none⟩ (.int .i64 tm)) b (.slice q0 x.R0.length d0) (.slice q1 x.R1.length d1) { x with m1:=tm} [] (.slice none 0 0) (w.setCell ⟨b,6,none⟩ (.int .i64 tm))):=by
  have m:=Bt (m:=6) (u:= .int .i64 tm) (y:={ x with m1:=tm}) HJ.out rfl rfl rfl;exact⟨m.1,m.2,World.ownsRow_nil _ _ _ _,⟨Nat.le_refl _,by simp⟩,hlt,fun g e=>(HJ.out.r0.lt g e).2,fun g e=>(HJ.out.r1.lt g e).2⟩
 go_wp2_with fail;revert M0;generalize w.setCell ⟨b,6,none⟩ (.int .i64 tm)=w1;intro M0;clear c0 c1 c2 c3 c4 c5 c6 c7 c8 f6 f3
 go_loopg [8,42] x.R0.length (fun gg v8 v42 wr=>∃q:Nat,q<=x.R0.length∧gg=x.R0.length -q∧v42= .int .i64 q∧Hid (Mv w w1 b (.slice q0 x.R0.length d0) (.slice q1 x.R1.length d1) { x with m1:=tm} ((x.R0.take q).filter (fun h:Hl=>decide (tm < h.t+x.hi))) v8 wr))
 case atStart=>exact⟨0,Nat.zero_le _,rfl,rfl,M0⟩
 case round=>
  obtain⟨q,hq,hgg,rfl,I⟩:=hrel;have HG:=hid hgg;clear hgg M0
  by_cases uD:q < x.R0.length
  ·obtain⟨g,e1⟩:∃g,q0=some ⟨g,0,none⟩:=by
    obtain⟨g,cg,e⟩:=ownsRow_form HJ.out.r0 (by omega)
    injection e with e1
    exact⟨g,e1⟩
   subst e1;obtain⟨y,hy⟩:∃y,x.R0[q]? =some y:=⟨_,List.getElem?_eq_getElem uD⟩;have Ru:=hR y (List.mem_of_getElem? hy);have t1:=Ru.1;have t2:=Ru.2;have hr:=I.out.at1.r0
   have ey:∀j,j < 5->wr.cell? ⟨g,q * 5+j,none⟩=(bz y)[j]? :=fun j hj=>by
    rw[hr.cellAt (q * 5+j) (by show _ < x.R0.length * 5;omega),cB bz 5 fM x.R0 q j y hy hj]
   have ch:wr.cell? ⟨g,q * 5,none⟩=some (.int .i64 y.k)∧wr.cell? ⟨g,q * 5+1,none⟩=some (.int .i64 y.t)∧wr.cell? ⟨g,q * 5+2,none⟩=some (.int .i64 y.v)∧wr.cell? ⟨g,q * 5+3,none⟩=some (.int .i64 y.met)∧wr.cell? ⟨g,q * 5+4,none⟩=some (.int .i64 y.came):=⟨ey 0 (by omega),ey 1 (by omega),ey 2 (by omega),ey 3 (by omega),ey 4 (by omega)⟩
   have j1:(0:Int)<=(q:Int):=by omega
   have j2:(q:Int) < (x.R0.length:Int):=by omega
   have HK:Hid (x.R0.take (q+1)=x.R0.take q++[y]):=by
    show x.R0.take (q+1)=_;rw[List.take_add_one,hy];rfl
   have RQ:((x.R0.take q).filter (fun h:Hl=>decide (tm < h.t+x.hi))).length<=1000:=by
    have h1:=List.length_filter_le (fun h:Hl=>decide (tm < h.t+x.hi)) (x.R0.take q);have h2:=List.length_take_le q x.R0;omega
   have A1:Hid (Mv w w1 b (.slice (some ⟨g,0,none⟩) x.R0.length d0) (.slice q1 x.R1.length d1) { x with m1:=tm} ((x.R0.take q).filter (fun h:Hl=>decide (tm < h.t+x.hi))) u8 (wr.alloc (sW y))):=I.out.go (below_alloc1 _ _);have hbx:(wr.alloc (sW y)).heap[wr.heap.size]? =some (sW y):=heap_alloc_new _ _;have AJ:=hid hbx;have cc:=A1.out.at1.cells;have hmay:=uF b x.lo x.hi y.t (wr.alloc (sW y)) cc.1 cc.2.1 p1 p2 p3 p4 t1 t2;clear cc hr ey hbx hy Ru I;simp only[sW] at hmay
   by_cases hk:tm < y.t+x.hi
   ·have HP:Hid (decide (tm < y.t+x.hi)=true):=decide_eq_true hk;generalize hX:(x.R0.take q).filter (fun h:Hl=>decide (tm < h.t+x.hi))=X at *;have HX:=hid hX;clear hX;go_wp2_with fail;refine hmay.mono ?_;rintro e w3 ⟨rfl,hb3⟩;have A3:=A1.out.go hb3;have HB3:=(hb3.block wr.heap.size (by simp)).trans AJ.out
    have cb:w3.cell? ⟨wr.heap.size,0,none⟩=some (.int .i64 y.k)∧w3.cell? ⟨wr.heap.size,1,none⟩=some (.int .i64 y.t)∧w3.cell? ⟨wr.heap.size,2,none⟩=some (.int .i64 y.v)∧w3.cell? ⟨wr.heap.size,3,none⟩=some (.int .i64 y.met)∧w3.cell? ⟨wr.heap.size,4,none⟩=some (.int .i64 y.came):=by
     refine⟨?_,?_,?_,?_,?_⟩ <;>(rw[cell_of_block HB3];rfl)
    have A4:=A3.go (below_alloc1 w3 (sW y));have Qo:Hid _:=A4;have N4:Hid (∀j u,(bz y)[j]? =some u->(w3.alloc (sW y)).cell? ((⟨w3.heap.size,0,none⟩:Addr).add j)=some u):=World.news_of_block (heap_alloc_new w3 (sW y));have z3:w1.heap.size<=w3.heap.size:=A3.sz.1;clear hmay A1 A3 A4 HB3 AJ hb3 ch
    go_wp2_with (first
     | (refine wpList_append_lies _ rfl _ _ _ rfl w1.heap.size 117 i0 zH 5 40 underlying62 hi0 hz0 hz1 hz2 rfl (by omega) u8 X.length (X.flatMap bz) rfl Qo.out.row ⟨w3.heap.size,0,none⟩ 1 1 (bz y) rfl rfl N4.out (sG _) (by omega) (by unfold maxLen;omega) (by omega) (by simp;omega) _ rfl ?_;intro g9 IG w9 fQ dO qN qO;have I5:=Qo.out.more dO fQ;have V4:Hid _:=I5;clear fQ dO qN qO I5)
     | fail)
    go_roundg (x.R0.length -(q+1))
    case measure=>have :=HG.out;omega
    case rel=>
     refine⟨q+1,by omega,rfl,by go_num,?_⟩;show Mv _ _ _ _ _ _ _ _ _;rw[HK.out,List.filter_append,HX.out]
     have e:[y].filter (fun h:Hl=>decide (tm < h.t+x.hi))=[y]:=by simp only[List.filter_cons,List.filter_nil,HP.out];rfl
     rw[e];exact V4.out
   ·have HP:Hid (decide (tm < y.t+x.hi)=false):=decide_eq_false hk;go_wp2_with fail;refine hmay.mono ?_;rintro e w3 ⟨rfl,hb3⟩;have A3:=A1.out.go hb3;have Z4:Hid _:=A3;clear hmay A1 A3 AJ hb3 ch;go_wp2
    go_roundg (x.R0.length -(q+1))
    case measure=>have :=HG.out;omega
    case rel=>
     refine⟨q+1,by omega,rfl,by go_num,?_⟩;show Mv _ _ _ _ _ _ _ _ _;rw[HK.out,List.filter_append]
     have e:[y].filter (fun h:Hl=>decide (tm < h.t+x.hi))=[]:=by simp only[List.filter_cons,List.filter_nil,HP.out];rfl
     rw[e,List.append_nil];exact Z4.out
  ·have e1:q=x.R0.length:=by omega
   subst e1
   have i1:¬((x.R0.length:Nat):Int) < (x.R0.length:Int):=by omega
   have I1:Hid (Mv w w1 b (.slice q0 x.R0.length d0) (.slice q1 x.R1.length d1) { x with m1:=tm} (x.R0.filter (fun h:Hl=>decide (tm < h.t+x.hi))) u8 wr):=by
    have :=I.out;rw[List.take_length] at this;exact this
   have sl:=aj I1.out.row;have cc:=I1.out.at1.cells;have c3:wr.cell? ⟨b,3,none⟩=some (.slice q0 x.R0.length d0):=cc.2.2.2.1;have f3:=cc.2.2.2.2.2.2.2.2.2 3;have lb:=I1.out.at1.lt;clear I cc HG hq uD i1;obtain⟨pl,cl,rfl⟩:=sl
   have i1:¬((x.R0.length:Nat):Int) < (x.R0.length:Int):=by omega
   go_wp2;go_ret;exact⟨rfl,_,Me I1.out⟩
end
section
variable {b:Nat} {v0 v1:Value} {x:RJ}
theorem Fw {w:World} {k t v:Int} {W:World} (h:Fa w b v0 v1 x k t v W):dh (W.setCell ⟨b,7,none⟩ (.int .i64 (x.late+1))) 0 b v0 v1 { x with late:=x.late+1}∧w.grownBy (W.setCell ⟨b,7,none⟩ (.int .i64 (x.late+1))) (some b):=by
 have h2:=h.at1.below h.below
 have hk:∀q,q≠b->(W.setCell ⟨b,7,none⟩ (.int .i64 (x.late+1))).heap[q]? =W.heap[q]? :=fun q hq=>Below.heap_setCell _ _ _ _ hq
 refine⟨⟨?_,ag h2.r0 (fun g e=>hk g (fun eb=>gV h2.r0 h2.blk (by omega) (by rw[e,eb]))),ag h2.r1 (fun g e=>hk g (fun eb=>gV h2.r1 h2.blk (by omega) (by rw[e,eb]))),h2.apart⟩,?_⟩
 ·rw[block_setCell h2.blk];rfl
 ·exact⟨h.below.os,h.below.tape,h.below.output,by simp;exact h.below.size,fun q hq hne=>(hk q (fun e=>hne (by rw[e]))).trans (h.below.block q hq)⟩
theorem IL (k t v:Int) (w:World) (h:dh w 0 b v0 v1 x) (hgd:au k t v=false):
  Calls prog 44 #[.pointer (some ⟨b,0,none⟩),.int .i64 0,.agg #[.int .i64 k,.int .i64 t,.int .i64 v]] w fun e w'=>e= .returned (.tuple #[.slice none 0 0,.int .i64 1])∧Below w.heap.size w w':=by
 have hlt:=h.lt
 have pW:∀W,Calls prog 52 #[.int .i64 0,.int .i64 0,.int .i64 1] W fun e w'=>e= .returned (.bool true)∧w'=W:=fun W=>bG 0 0 1 W
 have yU:∀W,Calls prog 40 #[.agg #[.int .i64 k,.int .i64 t,.int .i64 v]] W fun e w'=>e= .returned (.bool false)∧Below W.heap.size W w':=fun W=>by rw[<-hgd];exact iA k t v W
 have HJ:=hid h;have s0:=aj h.r0;have s1:=aj h.r1;clear h;obtain⟨q0,d0,rfl⟩:=s0;obtain⟨q1,d1,rfl⟩:=s1;clear hgd;go_enter func44,ntmps44;go_wp2_with fail;refine(pW _).mono ?_;rintro e w2 ⟨rfl,rfl⟩;clear pW;go_wp2_with fail;refine(yU _).mono ?_;rintro e w2 ⟨rfl,hb2⟩;clear yU;have A2:Hid (Fa w b (.slice q0 x.R0.length d0) (.slice q1 x.R1.length d1) x k t v w2):=⟨(below_alloc1 w _).trans (hb2.mono (by simp)),(hb2.block _ (by simp)).trans (heap_alloc_new _ _),HJ.out⟩;clear hb2;go_wp2;go_ret2;exact⟨rfl,A2.out.below⟩
theorem Fx (k t v:Int) (w:World) (h:dh w 0 b v0 v1 x) (hgd:au k t v=true) (gN:t<=x.m0) (hl1: -1000000000<=x.late) (hl2:x.late<=1000000000):
  Calls prog 44 #[.pointer (some ⟨b,0,none⟩),.int .i64 0,.agg #[.int .i64 k,.int .i64 t,.int .i64 v]] w fun e w'=>e= .returned (.tuple #[.slice none 0 0,.int .i64 10])∧dh w' 0 b v0 v1 { x with late:=x.late+1}∧w.grownBy w' (some b):=by
 have hlt:=h.lt
 have pW:∀W,Calls prog 52 #[.int .i64 0,.int .i64 0,.int .i64 1] W fun e w'=>e= .returned (.bool true)∧w'=W:=fun W=>bG 0 0 1 W
 have yU:∀W,Calls prog 40 #[.agg #[.int .i64 k,.int .i64 t,.int .i64 v]] W fun e w'=>e= .returned (.bool true)∧Below W.heap.size W w':=fun W=>by rw[<-hgd];exact iA k t v W
 have HJ:=hid h;have s0:=aj h.r0;have s1:=aj h.r1;clear h;obtain⟨q0,d0,rfl⟩:=s0;obtain⟨q1,d1,rfl⟩:=s1;clear hgd;go_enter func44,ntmps44;go_wp2_with fail;refine(pW _).mono ?_;rintro e w2 ⟨rfl,rfl⟩;clear pW;go_wp2_with fail;refine(yU _).mono ?_;rintro e w2 ⟨rfl,hb2⟩;clear yU;have A2:Hid (Fa w b (.slice q0 x.R0.length d0) (.slice q1 x.R1.length d1) x k t v w2):=⟨(below_alloc1 w _).trans (hb2.mono (by simp)),(hb2.block _ (by simp)).trans (heap_alloc_new _ _),HJ.out⟩;clear hb2;obtain⟨⟨c0,c1,c2,c3,c4,c5,c6,c7,c8,cf⟩,⟨r0,r1,r2⟩,l1,l2⟩:=A2.out.cells;clear cf;go_wp2_with fail;go_quiet (fail);have A3:Hid (Fa w b (.slice q0 x.R0.length d0) (.slice q1 x.R1.length d1) x k t v (w2.drewN nq)):=A2.out.go (below_drewN (Below.refl _ _) nq);revert A3;generalize w2.drewN nq=w3;intro A3;clear A2 c0 c1 c2 c3 c4 c5 c6 c7 c8 r0 r1 r2 l1 l2;obtain⟨⟨c0,c1,c2,c3,c4,c5,c6,c7,c8,cf⟩,⟨r0,r1,r2⟩,l1,l2⟩:=A3.out.cells;have f7:=cf 7;clear cf;go_wp2;go_ret2;exact⟨rfl,Fw A3.out⟩
theorem Fy (k t v:Int) (w:World) (h:dh w 0 b v0 v1 x) (hgd:au k t v=true) (gN:¬t<=x.m0) (p1: -1048576<=x.lo) (p2:x.lo<=1048576) (p3: -1048576<=x.hi) (p4:x.hi<=1048576) (hh:x.m1 < t+x.hi) (hf:300<=x.R0.length):
  Calls prog 44 #[.pointer (some ⟨b,0,none⟩),.int .i64 0,.agg #[.int .i64 k,.int .i64 t,.int .i64 v]] w fun e w'=>e= .returned (.tuple #[.slice none 0 0,.int .i64 12])∧Below w.heap.size w w':=by
 have hlt:=h.lt
 have pW:∀W,Calls prog 52 #[.int .i64 0,.int .i64 0,.int .i64 1] W fun e w'=>e= .returned (.bool true)∧w'=W:=fun W=>bG 0 0 1 W
 have yU:∀W,Calls prog 40 #[.agg #[.int .i64 k,.int .i64 t,.int .i64 v]] W fun e w'=>e= .returned (.bool true)∧Below W.heap.size W w':=fun W=>by rw[<-hgd];exact iA k t v W
 have HJ:=hid h;have s0:=aj h.r0;have s1:=aj h.r1;clear h;obtain⟨q0,d0,rfl⟩:=s0;obtain⟨q1,d1,rfl⟩:=s1
 have hg:(-1099511627776<=t∧t<=1099511627776):=by
  simp[au,iG] at hgd;omega
 have hgl:=hg.1;have hgr:=hg.2
 have hfz:(300:Int)<=(x.R0.length:Int):=by omega
 clear hgd;go_enter func44,ntmps44;go_wp2_with fail;refine(pW _).mono ?_;rintro e w2 ⟨rfl,rfl⟩;clear pW;go_wp2_with fail;refine(yU _).mono ?_;rintro e w2 ⟨rfl,hb2⟩;clear yU;have A2:Hid (Fa w b (.slice q0 x.R0.length d0) (.slice q1 x.R1.length d1) x k t v w2):=⟨(below_alloc1 w _).trans (hb2.mono (by simp)),(hb2.block _ (by simp)).trans (heap_alloc_new _ _),HJ.out⟩;clear hb2;obtain⟨⟨c0,c1,c2,c3,c4,c5,c6,c7,c8,cf⟩,⟨r0,r1,r2⟩,l1,l2⟩:=A2.out.cells;clear cf;go_wp2_with fail;go_quiet (fail);have A3:Hid (Fa w b (.slice q0 x.R0.length d0) (.slice q1 x.R1.length d1) x k t v (w2.drewN nq)):=A2.out.go (below_drewN (Below.refl _ _) nq);revert A3;generalize w2.drewN nq=w3;intro A3;clear A2 c0 c1 c2 c3 c4 c5 c6 c7 c8 r0 r1 r2 l1 l2;obtain⟨⟨c0,c1,c2,c3,c4,c5,c6,c7,c8,cf⟩,⟨r0,r1,r2⟩,l1,l2⟩:=A3.out.cells;clear cf;have hmay:=uF b x.lo x.hi t w3 c0 c1 p1 p2 p3 p4 hgl hgr;go_wp2_with fail;refine hmay.mono ?_;rintro e w4 ⟨rfl,hb4⟩;have A4:Hid (Fa w b (.slice q0 x.R0.length d0) (.slice q1 x.R1.length d1) x k t v w4):=A3.out.go hb4;clear hmay A3 c0 c1 c2 c3 c4 c5 c6 c7 c8 r0 r1 r2 l1 l2 hb4;obtain⟨⟨c0,c1,c2,c3,c4,c5,c6,c7,c8,cf⟩,⟨r0,r1,r2⟩,l1,l2⟩:=A4.out.cells;clear cf;go_wp2;go_ret2;exact⟨rfl,A4.out.below⟩
theorem IM (k t v:Int) (w:World) (h:dh w 0 b v0 v1 x) (hgd:au k t v=false):
  Calls prog 44 #[.pointer (some ⟨b,0,none⟩),.int .i64 1,.agg #[.int .i64 k,.int .i64 t,.int .i64 v]] w fun e w'=>e= .returned (.tuple #[.slice none 0 0,.int .i64 1])∧Below w.heap.size w w':=by
 have hlt:=h.lt
 have pW:∀W,Calls prog 52 #[.int .i64 1,.int .i64 0,.int .i64 1] W fun e w'=>e= .returned (.bool true)∧w'=W:=fun W=>bG 1 0 1 W
 have yU:∀W,Calls prog 40 #[.agg #[.int .i64 k,.int .i64 t,.int .i64 v]] W fun e w'=>e= .returned (.bool false)∧Below W.heap.size W w':=fun W=>by rw[<-hgd];exact iA k t v W
 have HJ:=hid h;have s0:=aj h.r0;have s1:=aj h.r1;clear h;obtain⟨q0,d0,rfl⟩:=s0;obtain⟨q1,d1,rfl⟩:=s1;clear hgd;go_enter func44,ntmps44;go_wp2_with fail;refine(pW _).mono ?_;rintro e w2 ⟨rfl,rfl⟩;clear pW;go_wp2_with fail;refine(yU _).mono ?_;rintro e w2 ⟨rfl,hb2⟩;clear yU;have A2:Hid (Fa w b (.slice q0 x.R0.length d0) (.slice q1 x.R1.length d1) x k t v w2):=⟨(below_alloc1 w _).trans (hb2.mono (by simp)),(hb2.block _ (by simp)).trans (heap_alloc_new _ _),HJ.out⟩;clear hb2;go_wp2;go_ret2;exact⟨rfl,A2.out.below⟩
theorem Fz (k t v:Int) (w:World) (h:dh w 0 b v0 v1 x) (hgd:au k t v=true) (gN:t<=x.m1) (hl1: -1000000000<=x.late) (hl2:x.late<=1000000000):
  Calls prog 44 #[.pointer (some ⟨b,0,none⟩),.int .i64 1,.agg #[.int .i64 k,.int .i64 t,.int .i64 v]] w fun e w'=>e= .returned (.tuple #[.slice none 0 0,.int .i64 10])∧dh w' 0 b v0 v1 { x with late:=x.late+1}∧w.grownBy w' (some b):=by
 have hlt:=h.lt
 have pW:∀W,Calls prog 52 #[.int .i64 1,.int .i64 0,.int .i64 1] W fun e w'=>e= .returned (.bool true)∧w'=W:=fun W=>bG 1 0 1 W
 have yU:∀W,Calls prog 40 #[.agg #[.int .i64 k,.int .i64 t,.int .i64 v]] W fun e w'=>e= .returned (.bool true)∧Below W.heap.size W w':=fun W=>by rw[<-hgd];exact iA k t v W
 have HJ:=hid h;have s0:=aj h.r0;have s1:=aj h.r1;clear h;obtain⟨q0,d0,rfl⟩:=s0;obtain⟨q1,d1,rfl⟩:=s1;clear hgd;go_enter func44,ntmps44;go_wp2_with fail;refine(pW _).mono ?_;rintro e w2 ⟨rfl,rfl⟩;clear pW;go_wp2_with fail;refine(yU _).mono ?_;rintro e w2 ⟨rfl,hb2⟩;clear yU;have A2:Hid (Fa w b (.slice q0 x.R0.length d0) (.slice q1 x.R1.length d1) x k t v w2):=⟨(below_alloc1 w _).trans (hb2.mono (by simp)),(hb2.block _ (by simp)).trans (heap_alloc_new _ _),HJ.out⟩;clear hb2;obtain⟨⟨c0,c1,c2,c3,c4,c5,c6,c7,c8,cf⟩,⟨r0,r1,r2⟩,l1,l2⟩:=A2.out.cells;clear cf;go_wp2_with fail;go_quiet (fail);have A3:Hid (Fa w b (.slice q0 x.R0.length d0) (.slice q1 x.R1.length d1) x k t v (w2.drewN nq)):=A2.out.go (below_drewN (Below.refl _ _) nq);revert A3;generalize w2.drewN nq=w3;intro A3;clear A2 c0 c1 c2 c3 c4 c5 c6 c7 c8 r0 r1 r2 l1 l2;obtain⟨⟨c0,c1,c2,c3,c4,c5,c6,c7,c8,cf⟩,⟨r0,r1,r2⟩,l1,l2⟩:=A3.out.cells;have f7:=cf 7;clear cf;go_wp2;go_ret2;exact⟨rfl,Fw A3.out⟩
theorem FB (k t v:Int) (w:World) (h:dh w 0 b v0 v1 x) (hgd:au k t v=true) (gN:¬t<=x.m1) (p1: -1048576<=x.lo) (p2:x.lo<=1048576) (p3: -1048576<=x.hi) (p4:x.hi<=1048576) (hh:x.m0 < t -x.lo) (hf:300<=x.R1.length):
  Calls prog 44 #[.pointer (some ⟨b,0,none⟩),.int .i64 1,.agg #[.int .i64 k,.int .i64 t,.int .i64 v]] w fun e w'=>e= .returned (.tuple #[.slice none 0 0,.int .i64 12])∧Below w.heap.size w w':=by
 have hlt:=h.lt
 have pW:∀W,Calls prog 52 #[.int .i64 1,.int .i64 0,.int .i64 1] W fun e w'=>e= .returned (.bool true)∧w'=W:=fun W=>bG 1 0 1 W
 have yU:∀W,Calls prog 40 #[.agg #[.int .i64 k,.int .i64 t,.int .i64 v]] W fun e w'=>e= .returned (.bool true)∧Below W.heap.size W w':=fun W=>by rw[<-hgd];exact iA k t v W
 have HJ:=hid h;have s0:=aj h.r0;have s1:=aj h.r1;clear h;obtain⟨q0,d0,rfl⟩:=s0;obtain⟨q1,d1,rfl⟩:=s1
 have hg:(-1099511627776<=t∧t<=1099511627776):=by
  simp[au,iG] at hgd;omega
 have hgl:=hg.1;have hgr:=hg.2
 have hfz:(300:Int)<=(x.R1.length:Int):=by omega
 clear hgd;go_enter func44,ntmps44;go_wp2_with fail;refine(pW _).mono ?_;rintro e w2 ⟨rfl,rfl⟩;clear pW;go_wp2_with fail;refine(yU _).mono ?_;rintro e w2 ⟨rfl,hb2⟩;clear yU;have A2:Hid (Fa w b (.slice q0 x.R0.length d0) (.slice q1 x.R1.length d1) x k t v w2):=⟨(below_alloc1 w _).trans (hb2.mono (by simp)),(hb2.block _ (by simp)).trans (heap_alloc_new _ _),HJ.out⟩;clear hb2;obtain⟨⟨c0,c1,c2,c3,c4,c5,c6,c7,c8,cf⟩,⟨r0,r1,r2⟩,l1,l2⟩:=A2.out.cells;clear cf;go_wp2_with fail;go_quiet (fail);have A3:Hid (Fa w b (.slice q0 x.R0.length d0) (.slice q1 x.R1.length d1) x k t v (w2.drewN nq)):=A2.out.go (below_drewN (Below.refl _ _) nq);revert A3;generalize w2.drewN nq=w3;intro A3;clear A2 c0 c1 c2 c3 c4 c5 c6 c7 c8 r0 r1 r2 l1 l2;obtain⟨⟨c0,c1,c2,c3,c4,c5,c6,c7,c8,cf⟩,⟨r0,r1,r2⟩,l1,l2⟩:=A3.out.cells;clear cf;have hmay:=qL b x.lo x.hi t w3 c0 c1 p1 p2 p3 p4 hgl hgr;go_wp2_with fail;refine hmay.mono ?_;rintro e w4 ⟨rfl,hb4⟩;have A4:Hid (Fa w b (.slice q0 x.R0.length d0) (.slice q1 x.R1.length d1) x k t v w4):=A3.out.go hb4;clear hmay A3 c0 c1 c2 c3 c4 c5 c6 c7 c8 r0 r1 r2 l1 l2 hb4;obtain⟨⟨c0,c1,c2,c3,c4,c5,c6,c7,c8,cf⟩,⟨r0,r1,r2⟩,l1,l2⟩:=A4.out.cells;clear cf;go_wp2;go_ret2;exact⟨rfl,A4.out.below⟩
end
section
variable {w w1 W W':World} {vp vl v0 v1:Value} {ps:List Nat} {L:List Hl} {b:Nat} {x:RJ}
structure Al (w w1:World) (vp:Value) (ps:List Nat) (L:List Hl) (vl:Value) (W:World):Prop where
 below:Below w.heap.size w W
 pl:W.ownsRow w.heap.size 3 1 vp ps.length (ps.map lS)
 row:W.ownsRow w1.heap.size 117 5 vl L.length (L.flatMap bz)
 sz:w1.heap.size<=W.heap.size∧w.heap.size<=w1.heap.size
 old:∀g,vp.ownBlock=some g->g < w1.heap.size
theorem Al.go (h:Al w w1 vp ps L vl W) (hb:Below W.heap.size W W'):Al w w1 vp ps L vl W':=
 ⟨h.below.trans (hb.mono h.below.size),ag h.pl (fun g e=>hb.block g (h.pl.lt g e).2),ag h.row (fun g e=>hb.block g (h.row.lt g e).2),⟨Nat.le_trans h.sz.1 hb.size,h.sz.2⟩,h.old⟩
theorem Al.more {y:Hl} {g cap:Nat} (h:Al w w1 vp ps L vl W) (hg:W.grownBy W' vl.ownBlock) (ho:W'.ownsRow w1.heap.size 117 5 (.slice (some ⟨g,0,none⟩) (L.length+1) cap) (L.length+1) (L.flatMap bz++bz y)):Al w w1 vp ps (L++[y]) (.slice (some ⟨g,0,none⟩) (L.length+1) cap) W':=by
 have z:=h.sz
 have far:∀q,q < w1.heap.size->some q≠vl.ownBlock:=fun q hq e=>by have :=(h.row.lt q e.symm).1;omega
 refine⟨h.below.grown hg (by omega) (fun k e=>by have :=(h.row.lt k e).1;omega),ag h.pl (fun q e=>hg.block q (by have :=h.old q e;omega) (far q (h.old q e))),by simpa using ho,⟨Nat.le_trans z.1 hg.size,z.2⟩,h.old⟩
theorem Ug (w:World) (h:dh w 0 b v0 v1 x) (hn:x.R0.length<=1000):
  Calls prog 24 #[.pointer (some ⟨b,0,none⟩),.int .i64 0] w fun e w'=>∃(vl:Value) (E:List Hl),e= .returned vl∧E.Perm x.R0∧E.Pairwise (fun x y=>rY y x=false)∧w'.ownsRow w.heap.size 117 5 vl E.length (E.flatMap bz)∧Below w.heap.size w w':=by
 obtain⟨i0,hi0,hz0,hz1,hz2⟩:=info_parts Bh;have HJ:=hid h;have s0:=aj h.r0;have s1:=aj h.r1
 have hsort:Calls prog 66 #[.pointer (some ⟨b,0,none⟩),.int .i64 0] w fun e w'=>∃(v':Value) (ps:List Nat),e= .returned v'∧w'.ownsRow w.heap.size 3 1 v' x.R0.length (ps.map lS)∧ps.Perm (List.range x.R0.length)∧ps.Pairwise (fun a c=>vQ x.R0.toArray c a=false)∧Below w.heap.size w w':=mX (s:=0) x.R0 w (by omega) h.cells.2.2.2.1 h.r0 hn
 clear h;obtain⟨q0,d0,rfl⟩:=s0;obtain⟨q1,d1,rfl⟩:=s1;go_enter func24,ntmps24;go_wp2_with fail;refine hsort.mono ?_;rintro e w5 ⟨vp,ps,rfl,hown,hperm,hsrt,hb5⟩
 have hpl:ps.length=x.R0.length:=by rw[hperm.length_eq,List.length_range]
 have L0:Hid (Al w w5 vp ps [] (.slice none 0 0) w5):=⟨hb5,by rw[hpl];exact hown,World.ownsRow_nil _ _ _ _,⟨Nat.le_refl _,hb5.size⟩,fun g e=>(hown.lt g e).2⟩;have HP:Hid (ps.Perm (List.range x.R0.length)∧ps.Pairwise (fun a c=>vQ x.R0.toArray c a=false)):=⟨hperm,hsrt⟩;have sp:=aj hown;clear hsort hb5 hperm hsrt hown;obtain⟨qp,dp,rfl⟩:=sp;go_wp2
 go_loopg [5,12] x.R0.length (fun gg vo vi wr=>∃q:Nat,q<=x.R0.length∧gg=x.R0.length -q∧vi= .int .i64 q∧Hid (Al w w5 (.slice qp x.R0.length dp) ps (aY x.R0 ps q) vo wr))
 case atStart=>exact⟨0,Nat.zero_le _,rfl,rfl,L0⟩
 case round=>
  obtain⟨q,hq,hgg,rfl,I⟩:=hrel;have HG:=hid hgg;clear hgg L0
  by_cases uD:q < x.R0.length
  ·obtain⟨g,e1⟩:∃g,q0=some ⟨g,0,none⟩:=by
    obtain⟨g,cg,e⟩:=ownsRow_form HJ.out.r0 (by omega)
    injection e with e1
    exact⟨g,e1⟩
   obtain⟨gp,e2⟩:∃gp,qp=some ⟨gp,0,none⟩:=by
    obtain⟨g,cg,e⟩:=ownsRow_form I.out.pl (by omega)
    injection e with e1
    exact⟨g,e1⟩
   subst e1 e2;obtain⟨i,hi⟩:∃i,ps[q]? =some i:=⟨_,List.getElem?_eq_getElem (by omega)⟩
   have hin:i < x.R0.length:=by
    have :=HP.out.1.mem_iff.1 (List.mem_of_getElem? hi);simpa using this
   obtain⟨y,hy⟩:∃y,x.R0[i]? =some y:=⟨_,List.getElem?_eq_getElem hin⟩;have HK:Hid (aY x.R0 ps (q+1)=aY x.R0 ps q++[y]):=mY hi hy;have JJ:=HJ.out.below I.out.below;have cc:=JJ.cells;have c3:wr.cell? ⟨b,3,none⟩=some (.slice (some ⟨g,0,none⟩) x.R0.length d0):=cc.2.2.2.1
   have cp:wr.cell? ⟨gp,q,none⟩=some (.int .i64 (i:Nat)):=by
    have hp:=I.out.pl;rw[hpl] at hp;rw[hp.cellAt q (by omega),List.getElem?_map,hi];rfl
   have hr:=JJ.r0
   have ey:∀j,j < 5->wr.cell? ⟨g,i * 5+j,none⟩=(bz y)[j]? :=fun j hj=>by
    rw[hr.cellAt (i * 5+j) (by omega),cB bz 5 fM x.R0 i j y hy hj]
   have ch:wr.cell? ⟨g,i * 5,none⟩=some (.int .i64 y.k)∧wr.cell? ⟨g,i * 5+1,none⟩=some (.int .i64 y.t)∧wr.cell? ⟨g,i * 5+2,none⟩=some (.int .i64 y.v)∧wr.cell? ⟨g,i * 5+3,none⟩=some (.int .i64 y.met)∧wr.cell? ⟨g,i * 5+4,none⟩=some (.int .i64 y.came):=⟨ey 0 (by omega),ey 1 (by omega),ey 2 (by omega),ey 3 (by omega),ey 4 (by omega)⟩
   have j1:(0:Int)<=(i:Int):=by omega
   have j2:(i:Int) < (x.R0.length:Int):=by omega
   have j3:(q:Int) < (x.R0.length:Int):=by omega
   have j4:(0:Int)<=(q:Int):=by omega
   have RQ:(aY x.R0 ps q).length<=1000:=by
    have :=kQ x.R0 ps q;omega
   have Qo:Hid (Al w w5 (.slice (some ⟨gp,0,none⟩) x.R0.length dp) ps (aY x.R0 ps q) u5 (wr.alloc (sW y))):=I.out.go (below_alloc1 wr (sW y));have N4:Hid (∀j u,(bz y)[j]? =some u->(wr.alloc (sW y)).cell? ((⟨wr.heap.size,0,none⟩:Addr).add j)=some u):=World.news_of_block (heap_alloc_new wr (sW y));have z3:w5.heap.size<=wr.heap.size:=I.out.sz.1;generalize hX:aY x.R0 ps q=X at *;have HX:=hid hX;clear hX I JJ cc hr ey hi hin hy
   go_wp2_with (first
    | (refine wpList_append_lies _ rfl _ _ _ rfl w5.heap.size 117 i0 zH 5 40 underlying62 hi0 hz0 hz1 hz2 rfl (by omega) u5 X.length (X.flatMap bz) rfl Qo.out.row ⟨wr.heap.size,0,none⟩ 1 1 (bz y) rfl rfl N4.out (sG _) (by omega) (by unfold maxLen;omega) (by omega) (by simp;omega) _ rfl ?_;intro g9 IG w9 fQ dO qN qO;have I5:=Qo.out.more dO fQ;have V4:Hid _:=I5;clear fQ dO qN qO I5)
    | fail)
   go_roundg (x.R0.length -(q+1))
   case measure=>have :=HG.out;omega
   case rel=>
    refine⟨q+1,by omega,rfl,by go_num,?_⟩;show Al _ _ _ _ _ _ _;rw[HK.out];exact V4.out
  ·have e1:q=x.R0.length:=by omega
   subst e1
   have i1:¬((x.R0.length:Nat):Int) < (x.R0.length:Int):=by omega
   go_wp2;go_ret;exact⟨_,rfl,aY x.R0 ps x.R0.length,ko HP.out.1,gF HP.out.1 HP.out.2,World.ownsRow.mono I.out.row I.out.sz.2,I.out.below⟩
theorem Uh (w:World) (h:dh w 0 b v0 v1 x) (hn:x.R1.length<=1000):
  Calls prog 24 #[.pointer (some ⟨b,0,none⟩),.int .i64 1] w fun e w'=>∃(vl:Value) (E:List Hl),e= .returned vl∧E.Perm x.R1∧E.Pairwise (fun x y=>rY y x=false)∧w'.ownsRow w.heap.size 117 5 vl E.length (E.flatMap bz)∧Below w.heap.size w w':=by
 obtain⟨i0,hi0,hz0,hz1,hz2⟩:=info_parts Bh;have HJ:=hid h;have s0:=aj h.r0;have s1:=aj h.r1
 have hsort:Calls prog 66 #[.pointer (some ⟨b,0,none⟩),.int .i64 1] w fun e w'=>∃(v':Value) (ps:List Nat),e= .returned v'∧w'.ownsRow w.heap.size 3 1 v' x.R1.length (ps.map lS)∧ps.Perm (List.range x.R1.length)∧ps.Pairwise (fun a c=>vQ x.R1.toArray c a=false)∧Below w.heap.size w w':=mX (s:=1) x.R1 w (by omega) h.cells.2.2.2.2.1 h.r1 hn
 clear h;obtain⟨q0,d0,rfl⟩:=s0;obtain⟨q1,d1,rfl⟩:=s1;go_enter func24,ntmps24;go_wp2_with fail;refine hsort.mono ?_;rintro e w5 ⟨vp,ps,rfl,hown,hperm,hsrt,hb5⟩
 have hpl:ps.length=x.R1.length:=by rw[hperm.length_eq,List.length_range]
 have L0:Hid (Al w w5 vp ps [] (.slice none 0 0) w5):=⟨hb5,by rw[hpl];exact hown,World.ownsRow_nil _ _ _ _,⟨Nat.le_refl _,hb5.size⟩,fun g e=>(hown.lt g e).2⟩;have HP:Hid (ps.Perm (List.range x.R1.length)∧ps.Pairwise (fun a c=>vQ x.R1.toArray c a=false)):=⟨hperm,hsrt⟩;have sp:=aj hown;clear hsort hb5 hperm hsrt hown;obtain⟨qp,dp,rfl⟩:=sp;go_wp2
 go_loopg [5,12] x.R1.length (fun gg vo vi wr=>∃q:Nat,q<=x.R1.length∧gg=x.R1.length -q∧vi= .int .i64 q∧Hid (Al w w5 (.slice qp x.R1.length dp) ps (aY x.R1 ps q) vo wr))
 case atStart=>exact⟨0,Nat.zero_le _,rfl,rfl,L0⟩
 case round=>
  obtain⟨q,hq,hgg,rfl,I⟩:=hrel;have HG:=hid hgg;clear hgg L0
  by_cases uD:q < x.R1.length
  ·obtain⟨g,e1⟩:∃g,q1=some ⟨g,0,none⟩:=by
    obtain⟨g,cg,e⟩:=ownsRow_form HJ.out.r1 (by omega)
    injection e with e1
    exact⟨g,e1⟩
   obtain⟨gp,e2⟩:∃gp,qp=some ⟨gp,0,none⟩:=by
    obtain⟨g,cg,e⟩:=ownsRow_form I.out.pl (by omega)
    injection e with e1
    exact⟨g,e1⟩
   subst e1 e2;obtain⟨i,hi⟩:∃i,ps[q]? =some i:=⟨_,List.getElem?_eq_getElem (by omega)⟩
   have hin:i < x.R1.length:=by
    have :=HP.out.1.mem_iff.1 (List.mem_of_getElem? hi);simpa using this
   obtain⟨y,hy⟩:∃y,x.R1[i]? =some y:=⟨_,List.getElem?_eq_getElem hin⟩;have HK:Hid (aY x.R1 ps (q+1)=aY x.R1 ps q++[y]):=mY hi hy;have JJ:=HJ.out.below I.out.below;have cc:=JJ.cells;have c4:wr.cell? ⟨b,4,none⟩=some (.slice (some ⟨g,0,none⟩) x.R1.length d1):=cc.2.2.2.2.1
   have cp:wr.cell? ⟨gp,q,none⟩=some (.int .i64 (i:Nat)):=by
    have hp:=I.out.pl;rw[hpl] at hp;rw[hp.cellAt q (by omega),List.getElem?_map,hi];rfl
   have hr:=JJ.r1
   have ey:∀j,j < 5->wr.cell? ⟨g,i * 5+j,none⟩=(bz y)[j]? :=fun j hj=>by
    rw[hr.cellAt (i * 5+j) (by omega),cB bz 5 fM x.R1 i j y hy hj]
   have ch:wr.cell? ⟨g,i * 5,none⟩=some (.int .i64 y.k)∧wr.cell? ⟨g,i * 5+1,none⟩=some (.int .i64 y.t)∧wr.cell? ⟨g,i * 5+2,none⟩=some (.int .i64 y.v)∧wr.cell? ⟨g,i * 5+3,none⟩=some (.int .i64 y.met)∧wr.cell? ⟨g,i * 5+4,none⟩=some (.int .i64 y.came):=⟨ey 0 (by omega),ey 1 (by omega),ey 2 (by omega),ey 3 (by omega),ey 4 (by omega)⟩
   have j1:(0:Int)<=(i:Int):=by omega
   have j2:(i:Int) < (x.R1.length:Int):=by omega
   have j3:(q:Int) < (x.R1.length:Int):=by omega
   have j4:(0:Int)<=(q:Int):=by omega
   have RQ:(aY x.R1 ps q).length<=1000:=by
    have :=kQ x.R1 ps q;omega
   have Qo:Hid (Al w w5 (.slice (some ⟨gp,0,none⟩) x.R1.length dp) ps (aY x.R1 ps q) u5 (wr.alloc (sW y))):=I.out.go (below_alloc1 wr (sW y));have N4:Hid (∀j u,(bz y)[j]? =some u->(wr.alloc (sW y)).cell? ((⟨wr.heap.size,0,none⟩:Addr).add j)=some u):=World.news_of_block (heap_alloc_new wr (sW y));have z3:w5.heap.size<=wr.heap.size:=I.out.sz.1;generalize hX:aY x.R1 ps q=X at *;have HX:=hid hX;clear hX I JJ cc hr ey hi hin hy
   go_wp2_with (first
    | (refine wpList_append_lies _ rfl _ _ _ rfl w5.heap.size 117 i0 zH 5 40 underlying62 hi0 hz0 hz1 hz2 rfl (by omega) u5 X.length (X.flatMap bz) rfl Qo.out.row ⟨wr.heap.size,0,none⟩ 1 1 (bz y) rfl rfl N4.out (sG _) (by omega) (by unfold maxLen;omega) (by omega) (by simp;omega) _ rfl ?_;intro g9 IG w9 fQ dO qN qO;have I5:=Qo.out.more dO fQ;have V4:Hid _:=I5;clear fQ dO qN qO I5)
    | fail)
   go_roundg (x.R1.length -(q+1))
   case measure=>have :=HG.out;omega
   case rel=>
    refine⟨q+1,by omega,rfl,by go_num,?_⟩;show Al _ _ _ _ _ _ _;rw[HK.out];exact V4.out
  ·have e1:q=x.R1.length:=by omega
   subst e1
   have i1:¬((x.R1.length:Nat):Int) < (x.R1.length:Int):=by omega
   go_wp2;go_ret;exact⟨_,rfl,aY x.R1 ps x.R1.length,ko HP.out.1,gF HP.out.1 HP.out.2,World.ownsRow.mono I.out.row I.out.sz.2,I.out.below⟩
end
end Go.Proofs.YthfpipieboophaaGreatDoor
