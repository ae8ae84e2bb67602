import Derived.Test.YthfpipieboophaaGreatDoorZRls
namespace Go.Proofs.YthfpipieboophaaGreatDoor
set_option maxRecDepth 100000
set_option maxHeartbeats 40000000
open Go.Joins Go.RowKit Go.Sort Go.Shelf
variable{t hd:List UInt8}{g:List (List UInt8)}{w f wr:World}{o:Option RS}{i A n8 dw b L d9 d:Nat}{a:Nat->Int}{rs:RS}{P:Nat->Prop}
theorem ldF(h:Arm t g w f o i hd a A n8 b L wr)(X:RE d rs P wr)(p:∀k,P k->f.heap.size<=k)(R:RvQ i rs)(U:¬P b)(Z:o=some rs)(F:hd≠ab8)(G:hd=adH):Rest t g w f i (.pointer (some ⟨d,0,none⟩)) A n8 dw b L d9 wr:=by
 have HNo:=hid h.no;have N:=hid h.st;have HBD:=hid h.bd;have B:=hid h.vs;have I:=hid h.low;have HLw:=hid h.lw;have HN:=hid h.n7;have X5:Hid (True/\b<wr.heap.size):=⟨trivial,h.lt9⟩;have hg9:=h.lt9;have HIi:=hid h.ile;have aeY:=h.nin;have cA:=h.ca
 have i3:(1:Int)<=(n8:Int):=by have:=h.n8;omega
 have b6:(6:Int)<(L:Int):=by have:=h.m7;omega
 have b5:(5:Int)<(L:Int):=by omega
 have b4:(4:Int)<(L:Int):=by omega
 have b3:(3:Int)<(L:Int):=by omega
 have b2:(2:Int)<(L:Int):=by omega
 have b1:(1:Int)<(L:Int):=by omega
 have b0:(0:Int)<(L:Int):=by omega
 have b00:0<L:=by omega
 have B1:Hid (Below wr.heap.size wr wr.drew):=(iL _ _).drew;obtain⟨Y,n1,V,W,n4,n5,n6⟩:=h.n7;clear h;have E:=hid p;have HVV:=hid R;have z:=hid U;obtain⟨bj,v,v0,v1,j,Q⟩:=X;have m:=hid j;have r:=hid Q;have cj:=oC j;have hbe:=j.bag.lt;have hbj:=j.join.lt;clear p R Q U
 have q1:(hd==[112,108,97,110])=false:=by simpa using F
 have q2:(hd !=[112,108,97,110])=true:=by simpa using F
 intro K5 K6 Kz7
 intros
 rename_i hK
 conv=>arg 2;whnf
 have H:vv o hd a=some (some ⟨{ rs.x with late:=max 0 (a 2)},rs.M,max 0 (a 0),max 0 (a 1)⟩):=by rw[Z,G,Gl _ _ _ (by decide),if_pos rfl]
 have K:=hid (N.out _ H);have C:=hid (B.out _ H _ rfl)
 have r1:(hd==[102,101,100])=true:=by rw[G];rfl
 have f2:wr.cell? ⟨d,2,none⟩=some (.int .i64 rs.f0)/\wr.cell? ⟨d,3,none⟩=some (.int .i64 rs.f1):=⟨by rw[fq j.bag.blk];rfl,by rw[fq j.bag.blk];rfl⟩;have z2:=fV j.bag.blk 2;have z3:=fV j.bag.blk 3;clear F H G j;have c:=(adk m.out (max 0 (a 0)) (max 0 (a 1))).below (iL _ _).drew;have l:=hid (acw I.out E.out (aeO m.out r.out (max 0 (a 0)) (max 0 (a 1)) (max 0 (a 2))) C.out);have c1:=oC c;have T:=c.join.cells.2.2.2.2.2.2.2.1;have S:=c.join.cells.2.2.2.2.2.2.2.2.2 7;have q:=c.bag.lt;have u:=c.join.lt
 have y:b<((wr.setCell ⟨d,2,none⟩ (.int .i64 (max 0 (a 0)))).setCell ⟨d,3,none⟩ (.int .i64 (max 0 (a 1)))).drew.heap.size:=by simp;exact X5.out.2
 have s:((wr.setCell ⟨d,2,none⟩ (.int .i64 (max 0 (a 0)))).setCell ⟨d,3,none⟩ (.int .i64 (max 0 (a 1)))).drew.cell? ⟨b,2,none⟩=some (.int .i64 (a 2)):=by
  have n:b≠d:=λe=>z.out ((r.out b).2 (.inl e))
  exact(K7 ((iJ _ _ _ _ n).trans (iJ _ _ _ _ n)) 2).trans V
 clear c;go_wp2_with fail
 go_region
 clear f2 z2 z3 Y n1 V W n4 n5 n6 cj;revert l c1 T S q u y s;generalize((wr.setCell ⟨d,2,none⟩ (.int .i64 (max 0 (a 0)))).setCell ⟨d,3,none⟩ (.int .i64 (max 0 (a 1)))).drew=W1;intro l c1 T S q u y s;go_wp2_with fail
 go_region
 go_wp2_with fail;exact⟨_,K.out,l.out⟩
theorem ldM(h:Arm t g w f o i hd a A n8 b L wr)(Y5:RE d rs P wr)(I:∀k,P k->f.heap.size<=k)(hV:RvQ i rs)(h9:¬P b)(eo:o=some rs)(hp:hd≠ab8)(hf:hd≠adH)(X:hd=abp):Rest t g w f i (.pointer (some ⟨d,0,none⟩)) A n8 dw b L d9 wr:=by
 have HNo:=hid h.no;have HST:=hid h.st;have HBD:=hid h.bd;have Y:=hid h.vs;have q:=hid h.low;have HLw:=hid h.lw;have HN:=hid h.n7;have N:Hid (True/\b<wr.heap.size):=⟨trivial,h.lt9⟩;have hg9:=h.lt9;have HIi:=hid h.ile;have aeY:=h.nin;have cA:=h.ca
 have i3:(1:Int)<=(n8:Int):=by have:=h.n8;omega
 have b6:(6:Int)<(L:Int):=by have:=h.m7;omega
 have b5:(5:Int)<(L:Int):=by omega
 have b4:(4:Int)<(L:Int):=by omega
 have b3:(3:Int)<(L:Int):=by omega
 have b2:(2:Int)<(L:Int):=by omega
 have b1:(1:Int)<(L:Int):=by omega
 have b0:(0:Int)<(L:Int):=by omega
 have b00:0<L:=by omega
 have B1:Hid (Below wr.heap.size wr wr.drew):=(iL _ _).drew;obtain⟨n0,n1,n2,n3,n4,n5,n6⟩:=h.n7;clear h;have E:=hid I;have C:=hid hV;have s:=hid h9;obtain⟨bj,v,v0,v1,G,hP⟩:=Y5;have Q:=hid G;have HPP:=hid hP;have cj:=oC G;have hbe:=G.bag.lt;have hbj:=G.join.lt;clear I hV hP h9
 have q1:(hd==[112,108,97,110])=false:=by simpa using hp
 have q2:(hd !=[112,108,97,110])=true:=by simpa using hp
 intro K5 K6 Kz7
 intros
 rename_i hK
 conv=>arg 2;whnf
 have U:vv o hd a=some (some ⟨mv1 (mv0 rs.x (a 0)) (a 1),rs.M,rs.f0,rs.f1⟩):=by rw[eo,X,Gl _ _ _ (by decide),if_neg (by decide),if_pos rfl]
 have W:=hid (HST.out _ U);have HV1:=hid (Y.out _ U _ rfl)
 have r1:(hd==[102,101,100])=false:=by simpa using hf
 have r2:(hd==[109,97,114,107,115])=true:=by rw[X];rfl
 have z:Hid (Calls Tryz.prog 16 #[.pointer (some ⟨bj,0,none⟩),.int .i64 0,.int .i64 (a 0)] wr.drew λe j=>∃c:Int,e=.returned (.int .i64 c)/\(j.cell? ⟨d,0,none⟩=some (.pointer (some ⟨bj,0,none⟩))/\j.cell? ⟨b,0,none⟩=some (.int .i64 (a 0)))/\j.cell? ⟨b,1,none⟩=some (.int .i64 (a 1))/\d<j.heap.size/\b<j.heap.size/\Hid (Calls Tryz.prog 16 #[.pointer (some ⟨bj,0,none⟩),.int .i64 1,.int .i64 (a 1)] j.drew λe p=>∃c:Int,e=.returned (.int .i64 c)/\(p.cell? ⟨d,0,none⟩=some (.pointer (some ⟨bj,0,none⟩))/\p.cell? ⟨b,1,none⟩=some (.int .i64 (a 1)))/\Hid (Rk f (some ⟨mv1 (mv0 rs.x (a 0)) (a 1),rs.M,rs.f0,rs.f1⟩) (i+1) (.pointer (some ⟨d,0,none⟩)) p))):=by
  refine(aeQ (Q.out.below B1.out) HPP.out C.out (a 0)).mono ?_;rintro e j ⟨⟨c,rfl⟩,K,rs',P',r,hq,n,H⟩;subst hq;have F:j.heap[b]?=wr.heap[b]? :=n.block b N.out.2 s.out;have hc:=abm HN.out F;have l:Below f.heap.size f j:=rO (q.out.trans (B1.out.mono q.out.size)) n E.out
  have af2:∀k,P' k->f.heap.size<=k:=λk e=>by
   have:=q.out.size
   rcases H k e with e|e
   .exact E.out k e
   .have e:wr.heap.size<=k:=e;omega
  have S:¬P' b:=λe=>by
   rcases H b e with e|e
   .exact s.out e
   .have e:wr.heap.size<=b:=e;have:=N.out.2;omega
  refine⟨c,rfl,⟨K,hc.1⟩,hc.2.1,r.plt d r.pbe,aR N.out.2 n.size,?_⟩;obtain⟨Z,u,u0,u1,B,hP2⟩:=r
  have e2:Z=bj:=by
   have m:=oC B;rw[K]at m
   injection m with m
   injection m with m
   injection m with m
   injection m with m
   exact m.symm
  subst e2;have b4:Below j.heap.size j j.drew:=(iL _ _).drew;have hq:=aeR (rs:=⟨mv0 rs.x (a 0),rs.M,rs.f0,rs.f1⟩) (B.below b4) hP2 (C.out.mv0 (a 0)) (a 1);refine hq.mono ?_;rintro e p ⟨⟨y,rfl⟩,cj2,hR⟩;have xV:=hR;obtain⟨_,_,_,_,R,_⟩:=xV;have T:=abm HN.out ((R.block b (aR N.out.2 n.size) S).trans F);exact⟨y,rfl,⟨cj2,T.2.1⟩,acw (l.trans (b4.mono l.size)) af2 hR HV1.out⟩
 have c3:wr.cell? ⟨d,0,none⟩=some (.pointer (some ⟨bj,0,none⟩))/\wr.cell? ⟨b,0,none⟩=some (.int .i64 (a 0)):=⟨cj,n0⟩;clear hp U hf X G;go_wp2_with fail
 go_region_held3 (λV=>V.cell? ⟨d,0,none⟩=some (.pointer (some ⟨bj,0,none⟩))/\V.cell? ⟨b,0,none⟩=some (.int .i64 (a 0))) (first|exact c3|exact y|fail) (first
  |(go_at_call 16;refine z.out.mono ?_;rintro e w4 ⟨c,rfl,y,c5,l4,l5,h4⟩)
  |fail)
 clear n0 n1 n2 n3 n4 n5 n6 cj c3 z;have c6:w4.cell? ⟨d,0,none⟩=some (.pointer (some ⟨bj,0,none⟩))/\w4.cell? ⟨b,1,none⟩=some (.int .i64 (a 1)):=⟨y.1,c5⟩;clear y c5;go_wp2_with fail
 go_region_held3 (λV=>V.cell? ⟨d,0,none⟩=some (.pointer (some ⟨bj,0,none⟩))/\V.cell? ⟨b,1,none⟩=some (.int .i64 (a 1))) (first|exact c6|exact c7|fail) (first
  |(go_at_call 16;refine h4.out.mono ?_;rintro e w5 ⟨c',rfl,c7,h5⟩)
  |fail)
 go_wp2_with fail;exact⟨_,W.out,h5.out⟩
theorem ldR(h:Arm t g w f o i hd a A n8 b L wr)(Z:RE d rs P wr)(p:∀k,P k->f.heap.size<=k)(W:RvQ i rs)(X:¬P b)(eo:o=some rs)(K:hd≠ab8)(S:hd≠adH)(T:hd≠abp)(N:hd=aby):Rest t g w f i (.pointer (some ⟨d,0,none⟩)) A n8 dw b L d9 wr:=by
 have HNo:=hid h.no;have Q:=hid h.st;have HBD:=hid h.bd;have C:=hid h.vs;have n:=hid h.low;have HLw:=hid h.lw;have HN:=hid h.n7;have X5:Hid (True/\b<wr.heap.size):=⟨trivial,h.lt9⟩;have hg9:=h.lt9;have F:=hid h.ile;have aeY:=h.nin;have cA:=h.ca
 have i3:(1:Int)<=(n8:Int):=by have:=h.n8;omega
 have b6:(6:Int)<(L:Int):=by have:=h.m7;omega
 have b5:(5:Int)<(L:Int):=by omega
 have b4:(4:Int)<(L:Int):=by omega
 have b3:(3:Int)<(L:Int):=by omega
 have b2:(2:Int)<(L:Int):=by omega
 have b1:(1:Int)<(L:Int):=by omega
 have b0:(0:Int)<(L:Int):=by omega
 have b00:0<L:=by omega
 have R:Hid (Below wr.heap.size wr wr.drew):=(iL _ _).drew;obtain⟨n0,n1,n2,n3,n4,n5,n6⟩:=h.n7;clear h;have u:=hid p;have s:=hid W;have q:=hid X;obtain⟨bj,v,v0,v1,m,U⟩:=Z;have r:=hid m;have G:=hid U;have cj:=oC m;have hbe:=m.bag.lt;have hbj:=m.join.lt;clear p W U X
 have q1:(hd==[112,108,97,110])=false:=by simpa using K
 have q2:(hd !=[112,108,97,110])=true:=by simpa using K
 intro K5 K6 Kz7
 intros
 rename_i hK
 conv=>arg 2;whnf
 have z:vv o hd a=some (some ⟨ptS rs.x (a 0) (a 1) (a 2) (a 3) (a 4),rs.M,rs.f0,rs.f1⟩):=by rw[eo,N,Gl _ _ _ (by decide),if_neg (by decide),if_neg (by decide),if_pos rfl]
 have B:=hid (Q.out _ z);have H:=hid (C.out _ z _ rfl)
 have y:Hid (Calls Tryz.prog 37 #[.pointer (some ⟨bj,0,none⟩),.int .i64 (a 0),.agg #[.int .i64 (a 1),.int .i64 (a 2),.int .i64 (a 3)],.int .i64 (a 4)] wr.drew λe j=>∃c:Int,e=.returned (.int .i64 c)/\(j.cell? ⟨d,0,none⟩=some (.pointer (some ⟨bj,0,none⟩))/\j.cell? ⟨b,0,none⟩=some (.int .i64 (a 0))/\j.cell? ⟨b,1,none⟩=some (.int .i64 (a 1))/\j.cell? ⟨b,2,none⟩=some (.int .i64 (a 2))/\j.cell? ⟨b,3,none⟩=some (.int .i64 (a 3))/\j.cell? ⟨b,4,none⟩=some (.int .i64 (a 4)))/\Hid (Rk f (some ⟨ptS rs.x (a 0) (a 1) (a 2) (a 3) (a 4),rs.M,rs.f0,rs.f1⟩) (i+1) (.pointer (some ⟨d,0,none⟩)) j)):=by
  refine(aeP (r.out.below R.out) G.out s.out (by have:=F.out;omega) (a 0) (a 1) (a 2) (a 3) (a 4)).mono ?_;rintro e j ⟨⟨c,rfl⟩,I,Y⟩;have hT:=Y;obtain⟨_,_,_,_,E,_⟩:=hT;have l:=abm HN.out (E.block b X5.out.2 q.out);exact⟨c,rfl,⟨I,l.1,l.2.1,l.2.2.1,l.2.2.2.1,l.2.2.2.2.1⟩,acw (n.out.trans (R.out.mono n.out.size)) u.out Y H.out⟩
 have c3:wr.cell? ⟨d,0,none⟩=some (.pointer (some ⟨bj,0,none⟩))/\wr.cell? ⟨b,0,none⟩=some (.int .i64 (a 0))/\wr.cell? ⟨b,1,none⟩=some (.int .i64 (a 1))/\wr.cell? ⟨b,2,none⟩=some (.int .i64 (a 2))/\wr.cell? ⟨b,3,none⟩=some (.int .i64 (a 3))/\wr.cell? ⟨b,4,none⟩=some (.int .i64 (a 4)):=⟨cj,n0,n1,n2,n3,n4⟩
 have r1:(hd==[102,101,100])=false:=by simpa using S
 have r2:(hd==[109,97,114,107,115])=false:=by simpa using T
 have r3:(hd==[114,111,119])=true:=by rw[N];rfl
 clear K z S T N m;go_wp2_with fail
 go_region_held3 (λV=>V.cell? ⟨d,0,none⟩=some (.pointer (some ⟨bj,0,none⟩))/\V.cell? ⟨b,0,none⟩=some (.int .i64 (a 0))/\V.cell? ⟨b,1,none⟩=some (.int .i64 (a 1))/\V.cell? ⟨b,2,none⟩=some (.int .i64 (a 2))/\V.cell? ⟨b,3,none⟩=some (.int .i64 (a 3))/\V.cell? ⟨b,4,none⟩=some (.int .i64 (a 4))) (first|exact c3|exact c2|fail) (first
  |(go_at_call 37;refine y.out.mono ?_;rintro e w4 ⟨c,rfl,c2,h4⟩)
  |fail)
 go_wp2_with fail;exact⟨_,B.out,h4.out⟩
end Go.Proofs.YthfpipieboophaaGreatDoor
