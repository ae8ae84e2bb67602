import Derived.Test.YthfpipieboophaaGreatDoorZRls
namespace Go.Proofs.YthfpipieboophaaGreatDoor
set_option maxRecDepth 100000
set_option maxHeartbeats 40000000
open Go.RowKit Go.Sort Go.Shelf
variable{t hd:List UInt8}{d:List (List UInt8)}{w c wr:World}{o:Option RS}{i A n8 dw b L d9:Nat}{a:Nat->Int}{f:Value}
theorem ldY(h:Arm t d w c o i hd a A n8 b L wr)(u:f=.pointer none∨∃be,f=.pointer (some ⟨be,0,none⟩))(n:hd=ab8)(g:aS (a 0) (a 1) (a 2)=0):Rest t d w c i f A n8 dw b L d9 wr:=by
 have HNo:=hid h.no;have x:=hid h.st;have HBD:=hid h.bd;have p:=hid h.vs;have l:=hid h.low;have HLw:=hid h.lw;have E:=hid h.n7;have I:Hid (True/\b<wr.heap.size):=⟨trivial,h.lt9⟩;have hg9:=h.lt9;have HIi:=hid h.ile;have aeY:=h.nin;have cA:=h.ca
 have i3:(1:Int)<=(n8:Int):=by have:=h.n8;omega
 have b6:(6:Int)<(L:Int):=by have:=h.m7;omega
 have b5:(5:Int)<(L:Int):=by omega
 have b4:(4:Int)<(L:Int):=by omega
 have b3:(3:Int)<(L:Int):=by omega
 have b2:(2:Int)<(L:Int):=by omega
 have b1:(1:Int)<(L:Int):=by omega
 have b0:(0:Int)<(L:Int):=by omega
 have b00:0<L:=by omega
 have G:Hid (Below wr.heap.size wr wr.drew):=(iL _ _).drew;obtain⟨B,K,M,n3,n4,n5,n6⟩:=h.n7;clear h
 have q1:(hd==[112,108,97,110])=true:=by rw[n];rfl
 have q2:(hd !=[112,108,97,110])=false:=by rw[n];rfl
 intro K5 K6 Kz7
 intros
 rename_i hK
 conv=>arg 2;whnf
 have v:vv o hd a=some (some ⟨yh (a 0) (a 1) (a 2),[],0,0⟩):=by rw[n];unfold vv;rw[if_pos rfl,if_pos g]
 have q:Hid (∀V,Below wr.heap.size wr V->Calls Tryz.prog 14 #[.agg #[.int .i64 (a 0),.int .i64 (a 1),.int .i64 (a 2)]] V λe j=>∃k,e=.returned (.tuple #[.pointer (some ⟨k,0,none⟩),.int .i64 0])/\(j.cell? ⟨b,0,none⟩=some (.int .i64 (a 0))/\j.cell? ⟨b,1,none⟩=some (.int .i64 (a 1))/\j.cell? ⟨b,2,none⟩=some (.int .i64 (a 2)))/\Hid (u6 none d=u6 (some ⟨yh (a 0) (a 1) (a 2),[],0,0⟩) (d.drop (i+1))/\Rk c (some ⟨yh (a 0) (a 1) (a 2),[],0,0⟩) (i+1) (.pointer (some ⟨k,0,none⟩)) j)):=by
  intro V r;refine(lN _ _ _ V g).mono ?_;rintro e j ⟨k,bj',rfl,H,y,F,m⟩;have z:Below wr.heap.size wr j:=r.trans (m.mono r.size);have s:=abm E.out (z.block b I.out.2);exact⟨k,rfl,⟨s.1,s.2.1,s.2.2.1⟩,x.out _ v,aeu (l.out.trans (r.mono l.out.size)) (p.out _ v _ rfl) H y F m⟩
 have c3:wr.cell? ⟨b,0,none⟩=some (.int .i64 (a 0))/\wr.cell? ⟨b,1,none⟩=some (.int .i64 (a 1))/\wr.cell? ⟨b,2,none⟩=some (.int .i64 (a 2)):=⟨B,K,M⟩;clear n g v
 rcases u with e5|⟨be,e5⟩
 all_goals
  subst e5;go_wp2_with fail
  go_region_held3 (λV=>V.cell? ⟨b,0,none⟩=some (.int .i64 (a 0))/\V.cell? ⟨b,1,none⟩=some (.int .i64 (a 1))/\V.cell? ⟨b,2,none⟩=some (.int .i64 (a 2))) (first|exact c3|exact C|fail) (first
   |(go_at_call 14;refine(q.out _ G.out).mono ?_;rintro e w4 ⟨k,rfl,C,m⟩)
   |fail)
  go_wp2_with fail;exact⟨_,m⟩
theorem ldN(h:Arm t d w c o i hd a A n8 b L wr)(r:f=.pointer none∨∃be,f=.pointer (some ⟨be,0,none⟩))(l:hd=ab8)(g:aS (a 0) (a 1) (a 2)≠0):Rest t d w c i f A n8 dw b L d9 wr:=by
 have u:=hid h.no;have HST:=hid h.st;have s:=hid h.bd;have HVS:=hid h.vs;have abz:=hid h.low;have k:=hid h.lw;have C:=hid h.n7;have F:Hid (True/\b<wr.heap.size):=⟨trivial,h.lt9⟩;have hg9:=h.lt9;have HIi:=hid h.ile;have aeY:=h.nin;have cA:=h.ca
 have i3:(1:Int)<=(n8:Int):=by have:=h.n8;omega
 have b6:(6:Int)<(L:Int):=by have:=h.m7;omega
 have b5:(5:Int)<(L:Int):=by omega
 have b4:(4:Int)<(L:Int):=by omega
 have b3:(3:Int)<(L:Int):=by omega
 have b2:(2:Int)<(L:Int):=by omega
 have b1:(1:Int)<(L:Int):=by omega
 have b0:(0:Int)<(L:Int):=by omega
 have b00:0<L:=by omega
 have E:Hid (Below wr.heap.size wr wr.drew):=(iL _ _).drew;obtain⟨z,G,H,n3,n4,n5,n6⟩:=h.n7;clear h
 have q1:(hd==[112,108,97,110])=true:=by rw[l];rfl
 have q2:(hd !=[112,108,97,110])=false:=by rw[l];rfl
 intro K5 K6 Kz7
 intros
 rename_i hK
 conv=>arg 2;whnf
 have y:vv o hd a=none:=by rw[l];unfold vv;rw[if_pos rfl,if_neg g]
 have m:=hid (s.out y)
 have p:Hid (∀V,Below wr.heap.size wr V->Calls Tryz.prog 14 #[.agg #[.int .i64 (a 0),.int .i64 (a 1),.int .i64 (a 2)]] V λe j=>e=.returned (.tuple #[.pointer none,.int .i64 (aS (a 0) (a 1) (a 2))])/\(j.cell? ⟨b,0,none⟩=some (.int .i64 (a 0))/\j.cell? ⟨b,1,none⟩=some (.int .i64 (a 1))/\j.cell? ⟨b,2,none⟩=some (.int .i64 (a 2)))/\Hid (Below w.heap.size w j)):=by
  intro V x;refine(oF _ _ _ V g).mono ?_;rintro e j ⟨rfl,n⟩;have v:Below wr.heap.size wr j:=x.trans (n.mono x.size);have q:=abm C.out (v.block b F.out.2);exact⟨rfl,⟨q.1,q.2.1,q.2.2.1⟩,k.out.trans (v.mono k.out.size)⟩
 have c3:wr.cell? ⟨b,0,none⟩=some (.int .i64 (a 0))/\wr.cell? ⟨b,1,none⟩=some (.int .i64 (a 1))/\wr.cell? ⟨b,2,none⟩=some (.int .i64 (a 2)):=⟨z,G,H⟩;clear l g y;generalize aS (a 0) (a 1) (a 2)=cc at *
 rcases r with e5|⟨be,e5⟩
 all_goals
  subst e5;go_wp2_with fail
  go_region_held3 (λV=>V.cell? ⟨b,0,none⟩=some (.int .i64 (a 0))/\V.cell? ⟨b,1,none⟩=some (.int .i64 (a 1))/\V.cell? ⟨b,2,none⟩=some (.int .i64 (a 2))) (first|exact c3|exact B|fail) (first
   |(go_at_call 14;refine(p.out _ E.out).mono ?_;rintro e w4 ⟨rfl,B,n⟩)
   |fail)
  go_wp2_with fail;go_ret2;exact u.out _ n.out m.out
theorem ldI(h:Arm t d w c o i hd a A n8 b L wr)(m:o=none)(e:hd≠ab8):Rest t d w c i (.pointer none) A n8 dw b L d9 wr:=by
 have k:=hid h.no;have HST:=hid h.st;have g:=hid h.bd;have HVS:=hid h.vs;have abz:=hid h.low;have l:=hid h.lw;have HN:=hid h.n7;have X5:Hid (True/\b<wr.heap.size):=⟨trivial,h.lt9⟩;have hg9:=h.lt9;have HIi:=hid h.ile;have aeY:=h.nin;have cA:=h.ca
 have i3:(1:Int)<=(n8:Int):=by have:=h.n8;omega
 have b6:(6:Int)<(L:Int):=by have:=h.m7;omega
 have b5:(5:Int)<(L:Int):=by omega
 have b4:(4:Int)<(L:Int):=by omega
 have b3:(3:Int)<(L:Int):=by omega
 have b2:(2:Int)<(L:Int):=by omega
 have b1:(1:Int)<(L:Int):=by omega
 have b0:(0:Int)<(L:Int):=by omega
 have b00:0<L:=by omega
 have B1:Hid (Below wr.heap.size wr wr.drew):=(iL _ _).drew;obtain⟨n0,n1,n2,n3,n4,n5,n6⟩:=h.n7;clear h
 have q1:(hd==[112,108,97,110])=false:=by simpa using e
 have q2:(hd !=[112,108,97,110])=true:=by simpa using e
 intro K5 K6 Kz7
 intros
 rename_i hK
 conv=>arg 2;whnf
 have j:Hid (u6 none d=none):=g.out (by rw[m];unfold vv;rw[if_neg e]);clear e;go_wp2_with fail;go_ret2;exact k.out _ l.out j.out
theorem ldO{be:Nat}{rs:RS}{P:Nat->Prop}(h:Arm t d w c o i hd a A n8 b L wr)(I:RE be rs P wr)(e:∀k,P k->c.heap.size<=k)(E:RvQ i rs)(G:¬P b)(K:o=some rs)(j:hd≠ab8)(s:hd≠adH)(z:hd≠abp)(u:hd≠aby)(n:hd≠acy):Rest t d w c i (.pointer (some ⟨be,0,none⟩)) A n8 dw b L d9 wr:=by
 have HNo:=hid h.no;have B:=hid h.st;have HBD:=hid h.bd;have HVS:=hid h.vs;have x:=hid h.low;have HLw:=hid h.lw;have HN:=hid h.n7;have X5:Hid (True/\b<wr.heap.size):=⟨trivial,h.lt9⟩;have hg9:=h.lt9;have HIi:=hid h.ile;have aeY:=h.nin;have cA:=h.ca
 have i3:(1:Int)<=(n8:Int):=by have:=h.n8;omega
 have b6:(6:Int)<(L:Int):=by have:=h.m7;omega
 have b5:(5:Int)<(L:Int):=by omega
 have b4:(4:Int)<(L:Int):=by omega
 have b3:(3:Int)<(L:Int):=by omega
 have b2:(2:Int)<(L:Int):=by omega
 have b1:(1:Int)<(L:Int):=by omega
 have b0:(0:Int)<(L:Int):=by omega
 have b00:0<L:=by omega
 have B1:Hid (Below wr.heap.size wr wr.drew):=(iL _ _).drew;obtain⟨n0,n1,n2,n3,n4,n5,n6⟩:=h.n7;clear h;have r:=hid e;have p:=hid E;have HP9:=hid G;obtain⟨bj,v,M,H,g,C⟩:=I;have l:=hid g;have q:=hid C;have cj:=oC g;have hbe:=g.bag.lt;have hbj:=g.join.lt;clear e E C G
 have q1:(hd==[112,108,97,110])=false:=by simpa using j
 have q2:(hd !=[112,108,97,110])=true:=by simpa using j
 intro K5 K6 Kz7
 intros
 rename_i hK
 conv=>arg 2;whnf
 have F:vv o hd a=some (some rs):=by rw[K,Gl _ _ _ j,if_neg s,if_neg z,if_neg u,if_neg n]
 have r1:(hd==[102,101,100])=false:=by simpa using s
 have r2:(hd==[109,97,114,107,115])=false:=by simpa using z
 have r3:(hd==[114,111,119])=false:=by simpa using u
 have r4:(hd==[111,117,116])=false:=by simpa using n
 have y:=hid (B.out _ F);have m:Hid (Rk c (some rs) (i+1) (.pointer (some ⟨be,0,none⟩)) wr):=⟨x.out,Or.inr ⟨be,rs,P,rfl,rfl,⟨bj,v,M,H,l.out,q.out⟩,r.out,p.out.more (by omega)⟩⟩;clear j F s z u n g;go_wp2_with fail;exact⟨_,y.out,m.out⟩
end Go.Proofs.YthfpipieboophaaGreatDoor
