import Derived.Test.YthfpipieboophaaGreatDoorZRjc
namespace Go.Proofs.YthfpipieboophaaGreatDoor
set_option maxRecDepth 100000
set_option maxHeartbeats 40000000
open Go.Proofs.Tryz Go.Joins Go.Shelf Go.RowKit
section
variable{w i W o:World}{b:Nat}{n l d:Value}{x:RJ}{L:List Hl}
structure Mv(w i:World)(b:Nat)(n l:Value)(x:RJ)(L:List Hl)(d:Value)(W:World):Prop where
 at1:dh W 0 b n l x
 gr:w.grownBy W (some b)
 row:W.ownsRow i.heap.size 117 5 d L.length (L.flatMap bz)
 sz:i.heap.size<=W.heap.size/\w.heap.size<=i.heap.size
 old:b<w.heap.size/\(∀g,n.ownBlock=some g->g<w.heap.size)/\(∀g,l.ownBlock=some g->g<w.heap.size)
theorem Mv.go(h:Mv w i b n l x L d W)(a:Below W.heap.size W o):Mv w i b n l x L d o:=
 ⟨h.at1.below a,h.gr.trans ⟨a.os,a.tape,a.output,a.size,λk c _=>a.block k c⟩,ag h.row (λg e=>a.block g (h.row.lt g e).2),⟨aH h.sz.1 a.size,h.sz.2⟩,h.old⟩
theorem Mv.more{y:Hl}{g cap:Nat}(h:Mv w i b n l x L d W)(a:W.grownBy o d.ownBlock)(k:o.ownsRow i.heap.size 117 5 (.slice (some ⟨g,0,none⟩) (L.length+1) cap) (L.length+1) (L.flatMap bz++bz y)):Mv w i b n l x (L++[y]) (.slice (some ⟨g,0,none⟩) (L.length+1) cap) o:=by
 have z:=h.sz
 have far:∀q,q<w.heap.size->some q≠d.ownBlock:=λq c e=>by have:=(h.row.lt q e.symm).1;omega
 have f:∀q,q<w.heap.size->o.heap[q]?=W.heap[q]? :=λq c=>a.block q (by omega) (far q c)
 refine⟨⟨(f b h.old.1).trans h.at1.blk,ag h.at1.r0 (λq e=>f q (h.old.2.1 q e)),ag h.at1.r1 (λq e=>f q (h.old.2.2 q e)),h.at1.apart⟩,⟨a.os.trans h.gr.os,a.tape.trans h.gr.tape,a.output.trans h.gr.output,aH h.gr.size a.size,λq c j=>(f q c).trans (h.gr.block q c j)⟩,by simpa using k,⟨aH z.1 a.size,z.2⟩,h.old⟩
def sW(h:Hl):Obj:= .cells #[.int .i64 h.k,.int .i64 h.t,.int .i64 h.v,.int .i64 h.met,.int .i64 h.came] 117
theorem sG(h:Hl):∀u∈bz h,u.oneCell'=true:=by
 intro u a;simp[bz]at a;rcases a with rfl|rfl|rfl|rfl|rfl <;>rfl
theorem Bt{m:Nat}{y:RJ}{u:Value}(h:dh w 0 b n l x)(k:(#[.int .i64 x.lo,.int .i64 x.hi,.int .i64 x.mode,n,l,.int .i64 x.m0,.int .i64 x.m1,.int .i64 x.late,.int .i64 x.came]:Array Value).setIfInBounds m u=#[.int .i64 y.lo,.int .i64 y.hi,.int .i64 y.mode,n,l,.int .i64 y.m0,.int .i64 y.m1,.int .i64 y.late,.int .i64 y.came])(r:y.R0=x.R0)(p:y.R1=x.R1):dh (w.setCell ⟨b,m,none⟩ u) 0 b n l y/\w.grownBy (w.setCell ⟨b,m,none⟩ u) (some b):=by
 have a:∀q,q≠b->(w.setCell ⟨b,m,none⟩ u).heap[q]?=w.heap[q]? :=λq j=>iJ _ _ _ _ j
 refine⟨⟨?_,?_,?_,h.apart⟩,rfl,rfl,rfl,by simp,λq _ c=>a q (λe=>c (by rw[e]))⟩
 .rw[fZ h.blk,k]
 .rw[r];exact ag h.r0 (λg e=>a g (λf=>gV h.r0 h.blk (by omega) (by rw[e,f])))
 .rw[p];exact ag h.r1 (λg e=>a g (λf=>gV h.r1 h.blk (by omega) (by rw[e,f])))
theorem Md(h:Mv w i b n l x L d W):dh (W.setCell ⟨b,4,none⟩ d) 0 b n d { x with R1:=L}/\w.grownBy (W.setCell ⟨b,4,none⟩ d) (some b)/\(∀g,d.ownBlock=some g->w.heap.size<=g):=by
 have c:∀q,q≠b->(W.setCell ⟨b,4,none⟩ d).heap[q]?=W.heap[q]? :=λq f=>iJ _ _ _ _ f
 have z:=h.sz;have hb:=h.old.1;refine⟨⟨?_,ag h.at1.r0 (λg e=>c g (λj=>gV h.at1.r0 h.at1.blk (by omega) (by rw[e,j]))),World.ownsRow.mono (ag h.row (λg e=>c g (λj=>by have:=(h.row.lt g e).1;omega))) (aW _),λg k m=>by have:=(h.row.lt g m).1;have:=h.old.2.1 g k;omega⟩,?_,λg e=>by have:=(h.row.lt g e).1;omega⟩
 .rw[fZ h.at1.blk];rfl
 .exact⟨h.gr.os,h.gr.tape,h.gr.output,by simp;exact h.gr.size,λq f a=>(c q (λe=>a (by rw[e]))).trans (h.gr.block q f a)⟩
theorem Me(h:Mv w i b n l x L d W):dh (W.setCell ⟨b,3,none⟩ d) 0 b d l { x with R0:=L}/\w.grownBy (W.setCell ⟨b,3,none⟩ d) (some b)/\(∀g,d.ownBlock=some g->w.heap.size<=g):=by
 have c:∀q,q≠b->(W.setCell ⟨b,3,none⟩ d).heap[q]?=W.heap[q]? :=λq f=>iJ _ _ _ _ f
 have z:=h.sz;have hb:=h.old.1;refine⟨⟨?_,World.ownsRow.mono (ag h.row (λg e=>c g (λj=>by have:=(h.row.lt g e).1;omega))) (aW _),ag h.at1.r1 (λg e=>c g (λj=>gV h.at1.r1 h.at1.blk (by omega) (by rw[e,j]))),λg k m=>by have:=(h.row.lt g k).1;have:=h.old.2.2 g m;omega⟩,?_,λg e=>by have:=(h.row.lt g e).1;omega⟩
 .rw[fZ h.at1.blk];rfl
 .exact⟨h.gr.os,h.gr.tape,h.gr.output,by simp;exact h.gr.size,λq f a=>(c q (λe=>a (by rw[e]))).trans (h.gr.block q f a)⟩
theorem aaL(tm:Int)(w:World)(h:dh w 0 b n l x)(g1: -1099511627776<=tm)(g2:tm<=1099511627776)(p1: -1048576<=x.lo)(p2:x.lo<=1048576)(p3: -1048576<=x.hi)(p4:x.hi<=1048576):
  (¬tm<x.m0->x.R1.length<=1000->(∀y∈x.R1,-1099511627776<=y.t/\y.t<=1099511627776)->Calls prog 16 #[.pointer (some ⟨b,0,none⟩),.int .i64 0,.int .i64 tm] w λe E=>e=.returned (.int .i64 0)/\∃d,dh E 0 b n d { x with m0:=tm,R1:=x.R1.filter (λh:Hl=>decide (tm<h.t -x.lo))}/\w.grownBy E (some b)/\(∀g,d.ownBlock=some g->w.heap.size<=g))/\
  (¬tm<x.m1->x.R0.length<=1000->(∀y∈x.R0,-1099511627776<=y.t/\y.t<=1099511627776)->Calls prog 16 #[.pointer (some ⟨b,0,none⟩),.int .i64 1,.int .i64 tm] w λe E=>e=.returned (.int .i64 0)/\∃d,dh E 0 b d l { x with m1:=tm,R0:=x.R0.filter (λh:Hl=>decide (tm<h.t+x.hi))}/\w.grownBy E (some b)/\(∀g,d.ownBlock=some g->w.heap.size<=g)):=by
 obtain⟨i0,hi0,hz0,hz1,hz2⟩:=je Bh;have hlt:=h.lt
 have pW:∀s W,iG 0 1 s=true->Calls prog 52 #[.int .i64 s,.int .i64 0,.int .i64 1] W λe E=>e=.returned (.bool true)/\E=W:=λs W hs=>by
  have:=bG s 0 1 W
  rwa [hs]at this
 have Qn:∀W,Calls prog 52 #[.int .i64 tm,.int .i64 (-1099511627776),.int .i64 1099511627776] W λe E=>e=.returned (.bool true)/\E=W:=λW=>by
  have:=bG tm (-1099511627776) 1099511627776 W
  rwa [show iG (-1099511627776) 1099511627776 tm=true by simp[iG];omega]at this
 have HJ:=hid h;have h0:=h.r0;have U:=h.r1;have z:=h.cells;have f3:=z.2.2.2.2.2.2.2.2.2 3;have f4:=z.2.2.2.2.2.2.2.2.2 4;have f5:=z.2.2.2.2.2.2.2.2.2 5;have f6:=z.2.2.2.2.2.2.2.2.2 6;obtain⟨c0,c1,c2,c3,c4,c5,c6,c7,c8,cf⟩:=z;clear h cf
 have Y:∀(m:Nat) (y:RJ),(#[.int .i64 x.lo,.int .i64 x.hi,.int .i64 x.mode,n,l,.int .i64 x.m0,.int .i64 x.m1,.int .i64 x.late,.int .i64 x.came]:Array Value).setIfInBounds m (.int .i64 tm)=#[.int .i64 y.lo,.int .i64 y.hi,.int .i64 y.mode,n,l,.int .i64 y.m0,.int .i64 y.m1,.int .i64 y.late,.int .i64 y.came]->y.R0=x.R0->y.R1=x.R1->Mv w (w.setCell ⟨b,m,none⟩ (.int .i64 tm)) b n l y [] (.slice none 0 0) (w.setCell ⟨b,m,none⟩ (.int .i64 tm)):=λm y a1 a2 a3=>by
  have q:=Bt (m:=m) (u:= .int .i64 tm) (y:=y) HJ.out a1 a2 a3;exact⟨q.1,q.2,iR _ _ _ _,⟨aC _,by simp⟩,hlt,λg e=>(HJ.out.r0.lt g e).2,λg e=>(HJ.out.r1.lt g e).2⟩
 constructor
 case' left=>
  intro hm hn V;obtain⟨C,R,f,HE⟩:∃(C:RJ) (R:List Hl) (f:Hl->Bool),Hid (C={ x with m0:=tm}/\x.R1=R/\f=λh:Hl=>decide (tm<h.t -x.lo)):=⟨_,_,_,rfl,rfl,rfl⟩;rw[HE.out.2.1]at U hn V;obtain⟨H,d1,G⟩:=aj U
  have T:Hid (∀i W L d,Mv w i b n l C L d W->W.ownsRow 0 117 5 (.slice H R.length d1) R.length (R.flatMap bz)/\W.cell? ⟨b,4,none⟩=some (.slice H R.length d1)/\W.frozen? ⟨b,4,none⟩=false/\W.cell? ⟨b,0,none⟩=some (.int .i64 x.lo)/\W.cell? ⟨b,1,none⟩=some (.int .i64 x.hi)):=λi W L d m=>by
   have a:=m.at1.r1;have c:=m.at1.cells;rw[HE.out.1]at a c;rw[G]at a c;exact⟨by rw[<-HE.out.2.1];rw[<-HE.out.2.1]at a;exact a,c.2.2.2.2.1,c.2.2.2.2.2.2.2.2.2 4,c.1,c.2.1⟩
  rw[G]at c4
  have HC:=hid λt=>Classical.em (tm<t -x.lo)
  have M:=hid (Y 5 C (by rw[HE.out.1];rfl) (by rw[HE.out.1]) (by rw[HE.out.1]));have Pe:=trivial
 case' right=>
  intro hm hn V;obtain⟨C,R,f,HE⟩:∃(C:RJ) (R:List Hl) (f:Hl->Bool),Hid (C={ x with m1:=tm}/\x.R0=R/\f=λh:Hl=>decide (tm<h.t+x.hi)):=⟨_,_,_,rfl,rfl,rfl⟩;rw[HE.out.2.1]at h0 hn V;obtain⟨H,d1,G⟩:=aj h0
  have T:Hid (∀i W L d,Mv w i b n l C L d W->W.ownsRow 0 117 5 (.slice H R.length d1) R.length (R.flatMap bz)/\W.cell? ⟨b,3,none⟩=some (.slice H R.length d1)/\W.frozen? ⟨b,3,none⟩=false/\W.cell? ⟨b,0,none⟩=some (.int .i64 x.lo)/\W.cell? ⟨b,1,none⟩=some (.int .i64 x.hi)):=λi W L d m=>by
   have a:=m.at1.r0;have c:=m.at1.cells;rw[HE.out.1]at a c;rw[G]at a c;exact⟨by rw[<-HE.out.2.1];rw[<-HE.out.2.1]at a;exact a,c.2.2.2.1,c.2.2.2.2.2.2.2.2.2 3,c.1,c.2.1⟩
  rw[G]at c3
  have HC:=hid λt=>Classical.em (tm<t+x.hi)
  have M:=hid (Y 6 C (by rw[HE.out.1];rfl) (by rw[HE.out.1]) (by rw[HE.out.1]))
 all_goals
  clear G h0 U Y;go_enter func16,ntmps16;go_wp2_with fail;refine(pW _ _ (by decide)).mono ?_;rintro e w2 ⟨rfl,B⟩;rw[B];clear B w2;go_wp2_with fail;refine(Qn _).mono ?_;rintro e w2 ⟨rfl,B⟩;rw[B];clear B w2;clear pW Qn;go_wp2_with fail;revert M
  (first|(have _:=Pe;generalize w.setCell ⟨b,5,none⟩ (.int .i64 tm)=i)|generalize w.setCell ⟨b,6,none⟩ (.int .i64 tm)=i)
  intro M;clear c0 c1 c2 c3 c4 c5 c6 c7 c8 f3 f4 f5 f6
  go_loopg [8,42] R.length (λgg v8 v42 wr=>∃q:Nat,q<=R.length/\gg=R.length -q/\v42=.int .i64 q/\Hid (Mv w i b n l C ((R.take q).filter f) v8 wr))
  case atStart=>exact⟨0,aW _,rfl,rfl,M⟩
  case round=>
   obtain⟨q,hq,S,rfl,I⟩:=hrel;have HG:=hid S;clear S M
   by_cases uD:q<R.length
   .obtain⟨g,N⟩:∃g,H=some ⟨g,0,none⟩:=by
     obtain⟨g,cg,e⟩:=gy (T.out _ _ _ _ I.out).1 (by omega)
     injection e with N
     exact⟨g,N⟩
    subst N;obtain⟨y,hy⟩:∃y,R[q]?=some y:=⟨_,aO uD⟩;have Ru:=V y (cZ hy);have t1:=Ru.1;have t2:=Ru.2;have hr:=(T.out _ _ _ _ I.out).1
    have F:∀j,j<5->wr.cell? ⟨g,q*5+j,none⟩=(bz y)[j]? :=λj hj=>by
     rw[hr.cellAt (q*5+j) (by show _<R.length*5;omega),cB bz 5 fM R q j y hy hj]
    have ch:wr.cell? ⟨g,q*5,none⟩=some (.int .i64 y.k)/\wr.cell? ⟨g,q*5+1,none⟩=some (.int .i64 y.t)/\wr.cell? ⟨g,q*5+2,none⟩=some (.int .i64 y.v)/\wr.cell? ⟨g,q*5+3,none⟩=some (.int .i64 y.met)/\wr.cell? ⟨g,q*5+4,none⟩=some (.int .i64 y.came):=⟨F 0 (by omega),F 1 (by omega),F 2 (by omega),F 3 (by omega),F 4 (by omega)⟩
    have j1:(0:Int)<=(q:Int):=by omega
    have j2:(q:Int)<(R.length:Int):=by omega
    have HK:Hid (R.take (q+1)=R.take q++[y]):=by
     show R.take (q+1)=_;rw[List.take_add_one,hy];rfl
    have RQ:((R.take q).filter f).length<=1000:=by
     have U:=dG f (R.take q);have h2:=eG q R;omega
    have K:=hid (I.out.go (fC wr (sW y)));have Z:=hid (eZ wr (sW y));have z:=(T.out _ _ _ _ K.out).2.2.2
    (first|(have _:=Pe;have p:=qL b x.lo x.hi y.t (wr.alloc (sW y)) z.1 z.2 p1 p2 p3 p4 t1 t2)|have p:=uF b x.lo x.hi y.t (wr.alloc (sW y)) z.1 z.2 p1 p2 p3 p4 t1 t2)
    clear z hr F hy Ru I;simp only[sW]at p
    rcases HC.out y.t with hk|hk
    .have HP:Hid (f y=true):=by rw[HE.out.2.2];exact eu hk
     generalize hX:(R.take q).filter f=X at *;have HX:=hid hX;clear hX;go_wp2_with fail;refine p.mono ?_;rintro e A ⟨rfl,r⟩;have A3:=K.out.go r;have Q:=(r.block wr.heap.size (by simp)).trans Z.out
     have cb:A.cell? ⟨wr.heap.size,0,none⟩=some (.int .i64 y.k)/\A.cell? ⟨wr.heap.size,1,none⟩=some (.int .i64 y.t)/\A.cell? ⟨wr.heap.size,2,none⟩=some (.int .i64 y.v)/\A.cell? ⟨wr.heap.size,3,none⟩=some (.int .i64 y.met)/\A.cell? ⟨wr.heap.size,4,none⟩=some (.int .i64 y.came):=by
      refine⟨?_,?_,?_,?_,?_⟩ <;>(rw[fq Q];rfl)
     have Qo:=hid (A3.go (fC A (sW y)));have N4:Hid (∀j u,(bz y)[j]?=some u->(A.alloc (sW y)).cell? ((⟨A.heap.size,0,none⟩:Addr).add j)=some u):=World.news_of_block (eZ A (sW y));have z3:i.heap.size<=A.heap.size:=A3.sz.1;clear p K A3 Q Z r ch
     go_wp2_with (first
      |(refine wpList_append_lies _ rfl _ _ _ rfl i.heap.size 117 i0 zH 5 40 underlying62 hi0 hz0 hz1 hz2 rfl (by omega) u8 X.length (X.flatMap bz) rfl Qo.out.row ⟨A.heap.size,0,none⟩ 1 1 (bz y) rfl rfl N4.out (sG _) (by omega) (by unfold maxLen;omega) (by omega) (by simp;omega) _ rfl ?_;intro g9 IG w9 fQ dO qN qO;have V4:=hid (Qo.out.more dO fQ);clear fQ dO qN qO)
      |fail)
     go_roundg (R.length -(q+1))
     case measure=>have:=HG.out;omega
     case rel=>
      refine⟨q+1,by omega,rfl,by go_num,?_⟩;show Mv _ _ _ _ _ _ _ _ _;rw[HK.out,List.filter_append,HX.out,show[y].filter f=[y] by simp only[List.filter_cons,List.filter_nil,HP.out];rfl];exact V4.out
    .have HP:Hid (f y=false):=by rw[HE.out.2.2];exact dJ (by omega)
     try replace hk:=Int.not_lt.2 hk
     go_wp2_with fail;refine p.mono ?_;rintro e A ⟨rfl,r⟩;have Z4:=hid (K.out.go r);clear p K Z r ch;go_wp2
     go_roundg (R.length -(q+1))
     case measure=>have:=HG.out;omega
     case rel=>
      refine⟨q+1,by omega,rfl,by go_num,?_⟩;show Mv _ _ _ _ _ _ _ _ _;rw[HK.out,List.filter_append,show[y].filter f=[] by simp only[List.filter_cons,List.filter_nil,HP.out];rfl,List.append_nil];exact Z4.out
   .have N:q=R.length:=by omega
    subst N
    have P:Hid (Mv w i b n l C (R.filter f) u8 wr):=by
     have:=I.out;rw[List.take_length]at this;exact this
    have sl:=aj P.out.row;have z:=(T.out _ _ _ _ P.out).2;have lb:=P.out.at1.lt;clear I HG hq uD;obtain⟨pl,cl,rfl⟩:=sl
    have i1:¬((R.length:Nat):Int)<(R.length:Int):=by omega
    go_wp2;go_ret;obtain⟨rfl,rfl,rfl⟩:=HE.out
    first|(have _:=Pe;exact⟨rfl,_,Md P.out⟩)|exact⟨rfl,_,Me P.out⟩
end
section
variable{b:Nat}{c a:Value}{x:RJ}
theorem Fw{w:World}{k t v:Int}{W:World}{F:Int}(h:Fa w b c a x k t v W):dh (W.setCell ⟨b,7,none⟩ (.int .i64 F)) 0 b c a { x with late:=F}/\w.grownBy (W.setCell ⟨b,7,none⟩ (.int .i64 F)) (some b):=by
 have d:=h.at1.below h.below
 have f:∀q,q≠b->(W.setCell ⟨b,7,none⟩ (.int .i64 F)).heap[q]?=W.heap[q]? :=λq j=>iJ _ _ _ _ j
 refine⟨⟨?_,ag d.r0 (λg e=>f g (λi=>gV d.r0 d.blk (by omega) (by rw[e,i]))),ag d.r1 (λg e=>f g (λi=>gV d.r1 d.blk (by omega) (by rw[e,i]))),d.apart⟩,?_⟩
 .rw[fZ d.blk];rfl
 .exact⟨h.below.os,h.below.tape,h.below.output,by simp;exact h.below.size,λq j l=>(f q (λe=>l (by rw[e]))).trans (h.below.block q j)⟩
theorem aat(s:Int)(p:iG 0 1 s=true)(k t v:Int)(w:World)(h:dh w 0 b c a x)(f:au k t v=false):
  Calls prog 44 #[.pointer (some ⟨b,0,none⟩),.int .i64 s,.agg #[.int .i64 k,.int .i64 t,.int .i64 v]] w λe g=>e=.returned (.tuple #[.slice none 0 0,.int .i64 1])/\Below w.heap.size w g:=by
 have hlt:=h.lt
 have i:∀W,Calls prog 52 #[.int .i64 s,.int .i64 0,.int .i64 1] W λe g=>e=.returned (.bool true)/\g=W:=λW=>by rw[<-p];exact bG s 0 1 W
 have j:∀W,Calls prog 40 #[.agg #[.int .i64 k,.int .i64 t,.int .i64 v]] W λe g=>e=.returned (.bool false)/\Below W.heap.size W g:=λW=>by rw[<-f];exact iA k t v W
 have n:=hid h;have u:=aj h.r0;have o:=aj h.r1;clear h;obtain⟨m,d0,rfl⟩:=u;obtain⟨r,d1,rfl⟩:=o;clear f;go_enter func44,ntmps44;go_wp2_with fail;refine(i _).mono ?_;rintro e l ⟨rfl,rfl⟩;clear i;go_wp2_with fail;refine(j _).mono ?_;rintro e l ⟨rfl,d⟩;clear j;have q:Hid (Fa w b (.slice m x.R0.length d0) (.slice r x.R1.length d1) x k t v l):=⟨(fC w _).trans (d.mono (by simp)),(d.block _ (by simp)).trans (eZ _ _),n.out⟩;clear d;go_wp2;go_ret2;exact⟨rfl,q.out.below⟩
theorem aaQ(s k t v:Int)(w:World)(h:dh w 0 b c a x)(g:au k t v=true):
  (s=0/\t<=x.m0∨s=1/\t<=x.m1->Calls prog 44 #[.pointer (some ⟨b,0,none⟩),.int .i64 s,.agg #[.int .i64 k,.int .i64 t,.int .i64 v]] w λe f=>e=.returned (.tuple #[.slice none 0 0,.int .i64 10])/\dh f 0 b c a { x with late:=wrap64 (x.late+1)}/\w.grownBy f (some b))/\
  (-1048576<=x.lo->x.lo<=1048576-> -1048576<=x.hi->x.hi<=1048576->s=0/\¬t<=x.m0/\x.m1<t+x.hi/\(300:Int)<=(x.R0.length:Int)∨s=1/\¬t<=x.m1/\x.m0<t -x.lo/\(300:Int)<=(x.R1.length:Int)->Calls prog 44 #[.pointer (some ⟨b,0,none⟩),.int .i64 s,.agg #[.int .i64 k,.int .i64 t,.int .i64 v]] w λe f=>e=.returned (.tuple #[.slice none 0 0,.int .i64 12])/\Below w.heap.size w f):=by
 have hlt:=h.lt
 have S:∀s W,iG 0 1 s=true->Calls prog 52 #[.int .i64 s,.int .i64 0,.int .i64 1] W λe f=>e=.returned (.bool true)/\f=W:=λs W F=>by rw[<-F];exact bG s 0 1 W
 have P:∀W,Calls prog 40 #[.agg #[.int .i64 k,.int .i64 t,.int .i64 v]] W λe f=>e=.returned (.bool true)/\Below W.heap.size W f:=λW=>by rw[<-g];exact iA k t v W
 have U:=hid h;have X:=aj h.r0;have s1:=aj h.r1;clear h;obtain⟨T,d0,rfl⟩:=X;obtain⟨V,d1,rfl⟩:=s1
 have C:(-1099511627776<=t/\t<=1099511627776):=by
  simp[au,iG]at g;omega
 have m:=C.1;have l:=C.2;clear g C
 constructor
 case' left=>(rintro(⟨rfl,E⟩|⟨rfl,E⟩) <;>have G:=trivial)
 case' right=>(rintro R N L M F;rcases F with⟨rfl,E,Y,K⟩|⟨rfl,E,Y,K⟩;have Z:=trivial)
 all_goals
  go_enter func44,ntmps44;go_wp2_with fail;refine(S _ _ (by decide)).mono ?_;rintro e I ⟨rfl,rfl⟩;clear S;go_wp2_with fail;refine(P _).mono ?_;rintro e I ⟨rfl,i⟩;clear P;have H:Hid (Fa w b (.slice T x.R0.length d0) (.slice V x.R1.length d1) x k t v I):=⟨(fC w _).trans (i.mono (by simp)),(i.block _ (by simp)).trans (eZ _ _),U.out⟩;clear i;obtain⟨⟨c0,c1,r,c3,c4,u,B,p,c8,cf⟩,⟨q,o,y⟩,z,A⟩:=H.out.cells;clear cf;go_wp2_with fail;go_quiet (fail);have j:=hid (H.out.go (below_drewN (iL _ _) nq));revert j;generalize I.drewN nq=w3;intro j;clear H c0 c1 r c3 c4 u B p c8 q o y z A;obtain⟨⟨c0,c1,r,c3,c4,u,B,p,c8,cf⟩,⟨q,o,y⟩,z,A⟩:=j.out.cells;have f7:=cf 7;clear cf
  first
   |(have _:=G;go_wp2;go_ret2;exact⟨rfl,Fw j.out⟩)
   |skip
 all_goals
  clear f7
  (first|(have _:=Z;have d:=uF b x.lo x.hi t w3 c0 c1 R N L M m l;go_wp2_with fail;refine d.mono ?_)|(have d:=qL b x.lo x.hi t w3 c0 c1 R N L M m l;go_wp2_with fail;refine d.mono ?_))
  rintro e w4 ⟨rfl,n⟩;have Q:=hid (j.out.go n);clear d j c0 c1 r c3 c4 u B p c8 q o y z A n;obtain⟨⟨c0,c1,r,c3,c4,u,B,p,c8,cf⟩,⟨q,o,y⟩,z,A⟩:=Q.out.cells;clear cf;go_wp2;go_ret2;exact⟨rfl,Q.out.below⟩
end
section
variable{w d W m:World}{l f:Value}{ps:List Nat}{L:List Hl}
structure Al(w d:World)(l:Value)(ps:List Nat)(L:List Hl)(f:Value)(W:World):Prop where
 below:Below w.heap.size w W
 pl:W.ownsRow w.heap.size 3 1 l ps.length (ps.map lS)
 row:W.ownsRow d.heap.size 117 5 f L.length (L.flatMap bz)
 sz:d.heap.size<=W.heap.size/\w.heap.size<=d.heap.size
 old:∀g,l.ownBlock=some g->g<d.heap.size
theorem Al.go(h:Al w d l ps L f W)(a:Below W.heap.size W m):Al w d l ps L f m:=
 ⟨h.below.trans (a.mono h.below.size),ag h.pl (λg e=>a.block g (h.pl.lt g e).2),ag h.row (λg e=>a.block g (h.row.lt g e).2),⟨aH h.sz.1 a.size,h.sz.2⟩,h.old⟩
theorem Al.more{y:Hl}{g cap:Nat}(h:Al w d l ps L f W)(a:W.grownBy m f.ownBlock)(b:m.ownsRow d.heap.size 117 5 (.slice (some ⟨g,0,none⟩) (L.length+1) cap) (L.length+1) (L.flatMap bz++bz y)):Al w d l ps (L++[y]) (.slice (some ⟨g,0,none⟩) (L.length+1) cap) m:=by
 have z:=h.sz
 have far:∀q,q<d.heap.size->some q≠f.ownBlock:=λq hq e=>by have:=(h.row.lt q e.symm).1;omega
 refine⟨h.below.grown a (by omega) (λk e=>by have:=(h.row.lt k e).1;omega),ag h.pl (λq e=>a.block q (by have:=h.old q e;omega) (far q (h.old q e))),by simpa using b,⟨aH z.1 a.size,z.2⟩,h.old⟩
abbrev aaJ(w:World)(R:List Hl)(e:Ending)(w':World):Prop:=∃(v':Value) (ps:List Nat),e=.returned v'/\w'.ownsRow w.heap.size 3 1 v' R.length (ps.map lS)/\ps.Perm (List.range R.length)/\ps.Pairwise (λa c=>vQ R.toArray c a=false)/\Below w.heap.size w w'
theorem aaK{b:Nat}{v0 v1:Value}{x:RJ}(s:Int)(R:List Hl)(hs:s=0/\x.R0=R∨s=1/\x.R1=R)(w:World)(h:dh w 0 b v0 v1 x)(hn:R.length<=1000):
  Calls prog 24 #[.pointer (some ⟨b,0,none⟩),.int .i64 s] w λe w'=>∃(f:Value) (E:List Hl),e=.returned f/\E.Perm R/\E.Pairwise (λx y=>rY y x=false)/\w'.ownsRow w.heap.size 117 5 f E.length (E.flatMap bz)/\Below w.heap.size w w':=by
 obtain⟨i0,Z,V,hz1,Y⟩:=je Bh;have P:=h.r0;have S:=h.r1
 rcases hs with⟨rfl,e⟩|⟨rfl,e⟩
 case' inl=>
  rw[e]at P;have o:Calls prog 66 #[.pointer (some ⟨b,0,none⟩),.int .i64 0] w (aaJ w R):=mX (s:=0) R w (by omega) h.cells.2.2.2.1 P hn;obtain⟨F,d0,C⟩:=aj P
  have T:Hid (∀W,Below w.heap.size w W->W.cell? ⟨b,3,none⟩=some (.slice F R.length d0)/\W.ownsRow 0 117 5 (.slice F R.length d0) R.length (R.flatMap bz)):=λW M=>by
   have c:=(h.below M).cells.2.2.2.1;have a:=(h.below M).r0;rw[e,C]at a;rw[C]at c;exact⟨c,a⟩
 case' inr=>
  rw[e]at S;have o:Calls prog 66 #[.pointer (some ⟨b,0,none⟩),.int .i64 1] w (aaJ w R):=mX (s:=1) R w (by omega) h.cells.2.2.2.2.1 S hn;obtain⟨F,d0,C⟩:=aj S
  have T:Hid (∀W,Below w.heap.size w W->W.cell? ⟨b,4,none⟩=some (.slice F R.length d0)/\W.ownsRow 0 117 5 (.slice F R.length d0) R.length (R.flatMap bz)):=λW M=>by
   have c:=(h.below M).cells.2.2.2.2.1;have a:=(h.below M).r1;rw[e,C]at a;rw[C]at c;exact⟨c,a⟩
 all_goals
  clear h P S e C;go_enter func24,ntmps24;go_wp2_with fail;refine o.mono ?_;rintro e G ⟨l,ps,rfl,p,n,r,A⟩
  have H:ps.length=R.length:=by rw[n.length_eq,List.length_range]
  have L0:Hid (Al w G l ps [] (.slice none 0 0) G):=⟨A,by rw[H];exact p,iR _ _ _ _,⟨aC _,A.size⟩,λg e=>(p.lt g e).2⟩;have U:=hid (And.intro n r);have sp:=aj p;clear o A n r p;obtain⟨qp,dp,rfl⟩:=sp;go_wp2
  go_loopg [5,12] R.length (λgg vo vi wr=>∃q:Nat,q<=R.length/\gg=R.length -q/\vi=.int .i64 q/\Hid (Al w G (.slice qp R.length dp) ps (aY R ps q) vo wr))
  case atStart=>exact⟨0,aW _,rfl,rfl,L0⟩
  case round=>
   obtain⟨q,hq,K,rfl,I⟩:=hrel;have HG:=hid K;clear K L0
   by_cases uD:q<R.length
   .obtain⟨g,z⟩:∃g,F=some ⟨g,0,none⟩:=by
     obtain⟨g,cg,e⟩:=gy (T.out _ I.out.below).2 (by omega)
     injection e with z
     exact⟨g,z⟩
    obtain⟨Q,e2⟩:∃Q,qp=some ⟨Q,0,none⟩:=by
     obtain⟨g,cg,e⟩:=gy I.out.pl (by omega)
     injection e with z
     exact⟨g,z⟩
    subst z e2;obtain⟨i,hi⟩:∃i,ps[q]?=some i:=⟨_,aO (by omega)⟩
    have N:i<R.length:=by
     have:=U.out.1.mem_iff.1 (cZ hi);simpa using this
    obtain⟨y,hy⟩:∃y,R[i]?=some y:=⟨_,aO N⟩;have HK:Hid (aY R ps (q+1)=aY R ps q++[y]):=mY hi hy;have c3:=(T.out _ I.out.below).1
    have cp:wr.cell? ⟨Q,q,none⟩=some (.int .i64 (i:Nat)):=by
     have hp:=I.out.pl;rw[H]at hp;rw[hp.cellAt q (by omega),List.getElem?_map,hi];rfl
    have hr:=(T.out _ I.out.below).2
    have B:∀j,j<5->wr.cell? ⟨g,i*5+j,none⟩=(bz y)[j]? :=λj hj=>by
     rw[hr.cellAt (i*5+j) (by omega),cB bz 5 fM R i j y hy hj]
    have ch:wr.cell? ⟨g,i*5,none⟩=some (.int .i64 y.k)/\wr.cell? ⟨g,i*5+1,none⟩=some (.int .i64 y.t)/\wr.cell? ⟨g,i*5+2,none⟩=some (.int .i64 y.v)/\wr.cell? ⟨g,i*5+3,none⟩=some (.int .i64 y.met)/\wr.cell? ⟨g,i*5+4,none⟩=some (.int .i64 y.came):=⟨B 0 (by omega),B 1 (by omega),B 2 (by omega),B 3 (by omega),B 4 (by omega)⟩
    have j1:(0:Int)<=(i:Int):=by omega
    have j2:(i:Int)<(R.length:Int):=by omega
    have j3:(q:Int)<(R.length:Int):=by omega
    have j4:(0:Int)<=(q:Int):=by omega
    have RQ:(aY R ps q).length<=1000:=by
     have:=kQ R ps q;omega
    have Qo:Hid (Al w G (.slice (some ⟨Q,0,none⟩) R.length dp) ps (aY R ps q) u5 (wr.alloc (sW y))):=I.out.go (fC wr (sW y));have N4:Hid (∀j u,(bz y)[j]?=some u->(wr.alloc (sW y)).cell? ((⟨wr.heap.size,0,none⟩:Addr).add j)=some u):=World.news_of_block (eZ wr (sW y));have z3:G.heap.size<=wr.heap.size:=I.out.sz.1;generalize hX:aY R ps q=X at *;have HX:=hid hX;clear hX I hr B hi N hy
    go_wp2_with (first
     |(refine wpList_append_lies _ rfl _ _ _ rfl G.heap.size 117 i0 zH 5 40 underlying62 Z V hz1 Y rfl (by omega) u5 X.length (X.flatMap bz) rfl Qo.out.row ⟨wr.heap.size,0,none⟩ 1 1 (bz y) rfl rfl N4.out (sG _) (by omega) (by unfold maxLen;omega) (by omega) (by simp;omega) _ rfl ?_;intro g9 IG w9 fQ dO qN qO;have I5:=Qo.out.more dO fQ;have V4:Hid _:=I5;clear fQ dO qN qO I5)
     |fail)
    go_roundg (R.length -(q+1))
    case measure=>have:=HG.out;omega
    case rel=>
     refine⟨q+1,by omega,rfl,by go_num,?_⟩;show Al _ _ _ _ _ _ _;rw[HK.out];exact V4.out
   .have z:q=R.length:=by omega
    subst z
    have i1:¬((R.length:Nat):Int)<(R.length:Int):=by omega
    go_wp2;go_ret;exact⟨_,rfl,aY R ps R.length,ko U.out.1,gF U.out.1 U.out.2,World.ownsRow.mono I.out.row I.out.sz.2,I.out.below⟩
end
end Go.Proofs.YthfpipieboophaaGreatDoor
