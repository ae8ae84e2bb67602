import Derived.Test.YthfpipieboophaaGreatDoorZRls
namespace Go.Proofs.YthfpipieboophaaGreatDoor
set_option maxRecDepth 100000
set_option maxHeartbeats 40000000
open Go.RowKit Go.Sort Go.Shelf
theorem ldU{t:List UInt8}{pc:List (List UInt8)}{w w2:World}{o:Option RS}{i:Nat}{hd:List UInt8}{a:Nat->Int}{A n8 dw f L d9:Nat}{wr:World}{be:Nat}{rs:RS}{P:Nat->Prop}(h:Arm t pc w w2 o i hd a A n8 f L wr)(Y5:RE be rs P wr)(hPk:∀k,P k->w2.heap.size<=k)(z:RvQ i rs)(h9:¬P f)(eo:o=some rs)(hp:hd≠ab8)(hf:hd≠adH)(hm:hd≠abp)(hr:hd≠aby)(ho:hd=acy):Rest t pc w w2 i (.pointer (some ⟨be,0,none⟩)) A n8 dw f L d9 wr:=by
 have HNo:=hid h.no;have HST:=hid h.st;have HBD:=hid h.bd;have HVS:=hid h.vs;have abz:=hid h.low;have HLw:=hid h.lw;have HN:=hid h.n7;have X5:Hid (True/\f<wr.heap.size):=⟨trivial,h.lt9⟩;have hg9:=h.lt9;have HIi:=hid h.ile;have aeY:=h.nin;have cA:=h.ca
 have i3:(1:Int)<=(n8:Int):=by have:=h.n8;omega
 have b6:(6:Int)<(L:Int):=by have:=h.m7;omega
 have b5:(5:Int)<(L:Int):=by omega
 have b4:(4:Int)<(L:Int):=by omega
 have b3:(3:Int)<(L:Int):=by omega
 have b2:(2:Int)<(L:Int):=by omega
 have b1:(1:Int)<(L:Int):=by omega
 have b0:(0:Int)<(L:Int):=by omega
 have b00:0<L:=by omega
 have B1:Hid (Below wr.heap.size wr wr.drew):=(iL _ _).drew;obtain⟨n0,n1,n2,n3,n4,n5,n6⟩:=h.n7;clear h;have HPk:=hid hPk;have HVV:=hid z;have W:=hid h9;obtain⟨bj,v,v0,v1,hA,hP⟩:=Y5;have R:=hid hA;have HPP:=hid hP;have cj:=oC hA;have hbe:=hA.bag.lt;have hbj:=hA.join.lt;clear hPk z hP h9
 have q1:(hd==[112,108,97,110])=false:=by simpa using hp
 have q2:(hd !=[112,108,97,110])=true:=by simpa using hp
 intro K5 K6 Kz7
 intros
 rename_i hK
 conv=>arg 2;whnf
 have r1:(hd==[102,101,100])=false:=by simpa using hf
 have r2:(hd==[109,97,114,107,115])=false:=by simpa using hm
 have r3:(hd==[114,111,119])=false:=by simpa using hr
 have r4:(hd==[111,117,116])=true:=by rw[ho];rfl
 have hs:vv o hd a=(match zG a with|none=>none|some y=>some (some ⟨rs.x,rs.M++[y],rs.f0,rs.f1⟩)):=by
  rw[eo,ho,Gl _ _ _ (by decide),if_neg (by decide),if_neg (by decide),if_neg (by decide),if_pos rfl]
  cases zG a <;>rfl
 have K:Hid (∀V,Below wr.heap.size wr V->zG a=none->aaU t w (.returned (.tuple #[.pointer none,.int .i64 3])) V):=λV z h=>HNo.out V (HLw.out.trans (z.mono HLw.out.size)) (HBD.out (by rw[hs,h]))
 have r9:Hid (∀y,zG a=some y->u6 none pc=u6 (some ⟨rs.x,rs.M++[y],rs.f0,rs.f1⟩) (pc.drop (i+1))/\RvQ (i+1) ⟨rs.x,rs.M++[y],rs.f0,rs.f1⟩):=λy h=>⟨HST.out _ (by rw[hs,h]),HVS.out _ (by rw[hs,h]) _ rfl⟩
 have Z:a 0=1↔IntKind.i64.wrap (a 0 -1)=0:=by
  have h1:=(aeY 0).1;have h2:=(aeY 0).2;have e:IntKind.i64.wrap (a 0 -1)=wrap64 (a 0 -1):=aex _;rw[e];unfold wrap64;omega
 obtain⟨lo,hlo,afC⟩:∃lo:O,lo=bn (if a 0=1 then 0 else 1) (a 1) (a 2) (a 3)/\∀V,Calls Tryz.prog 38 #[.int .i64 (IntKind.i64.wrap (a 0 -1)),.agg #[.int .i64 (a 1),.int .i64 (a 2),.int .i64 (a 3)]] V λe Q=>e=.returned (.agg #[.int .i64 lo.k,.int .i64 lo.lk,.int .i64 lo.lt,.int .i64 lo.lv,.int .i64 lo.rk,.int .i64 lo.rt,.int .i64 lo.rv,.bool lo.hl,.bool lo.hr])/\Below V.heap.size V Q:=by
  by_cases h1:a 0=1
  .refine⟨_,rfl,λV=>?_⟩;rw[if_pos h1,Z.1 h1];exact yP _ _ _ V
  .refine⟨_,rfl,λV=>?_⟩;rw[if_neg h1];exact vS _ _ _ _ (λe=>h1 (Z.2 e)) V
 have HLO:=hid hlo
 have n:Hid (∀V,Calls Tryz.prog 40 #[.agg #[.int .i64 (a 1),.int .i64 (a 2),.int .i64 (a 3)]] V λe Q=>e=.returned (.bool (au (a 1) (a 2) (a 3)))/\Below V.heap.size V Q):=λV=>iA _ _ _ V
 have F:Hid (∀V,Calls Tryz.prog 40 #[.agg #[.int .i64 (a 4),.int .i64 (a 5),.int .i64 (a 6)]] V λe Q=>e=.returned (.bool (au (a 4) (a 5) (a 6)))/\Below V.heap.size V Q):=λV=>iA _ _ _ V
 have HAp:Hid (∀y b V,Below wr.heap.size wr V->wr.heap.size<=b->b<V.heap.size->zG a=some y->Calls Tryz.prog 41 #[.pointer (some ⟨be,1,none⟩),vC y false] V λe Q=>∃c:Int,e=.returned (.int .i64 c)/\Q.heap[b]?=V.heap[b]? /\Hid (u6 none pc=u6 (some ⟨rs.x,rs.M++[y],rs.f0,rs.f1⟩) (pc.drop (i+1))/\Rk w2 (some ⟨rs.x,rs.M++[y],rs.f0,rs.f1⟩) (i+1) (.pointer (some ⟨be,0,none⟩)) Q)):=by
  intro y b V z hg1 hg2 hy;obtain⟨h1,h2⟩:=r9.out y hy;refine(ad5 (R.out.below z) HPP.out (by have:=HVV.out.ml;have:=HIi.out;omega) y).mono ?_;rintro e Q ⟨⟨c,rfl⟩,hR⟩;have hT:=hR;obtain⟨_,_,_,_,hTu,_⟩:=hT;refine⟨c,rfl,hTu.block b hg2 (λe=>?_),h1,acw (abz.out.trans (z.mono abz.out.size)) HPk.out hR h2⟩;have:=RE.plt (rs:=rs) ⟨bj,v,v0,v1,R.out,HPP.out⟩ b e;omega
 clear hp hs hf hm hr ho hA Z hlo
 go_upto_region 33 with fail
 go_cut [14,15] (λs14 s15 V=>∃q Y:Nat,s14=.pointer (some ⟨q,0,none⟩)/\s15=.pointer (some ⟨Y,0,none⟩)/\Hid (V.heap[q]?=some (bu (a 1) (a 2) (a 3))/\V.heap[Y]?=some (bu (a 4) (a 5) (a 6))/\wr.heap.size<=q/\wr.heap.size<=Y/\Below wr.heap.size wr V))
 case first=>
  have HC7:Hid (∀V,Below wr.heap.size wr V->V.cell? ⟨f,1,none⟩=some (.int .i64 (a 1))/\V.cell? ⟨f,2,none⟩=some (.int .i64 (a 2))/\V.cell? ⟨f,3,none⟩=some (.int .i64 (a 3))/\V.cell? ⟨f,4,none⟩=some (.int .i64 (a 4))/\V.cell? ⟨f,5,none⟩=some (.int .i64 (a 5))/\V.cell? ⟨f,6,none⟩=some (.int .i64 (a 6))):=λV z=>(abm HN.out (z.block f X5.out.2)).2
  clear n0 n1 n2 n3 n4 n5 n6 cj
  go_region_held3 (λV=>V.cell? ⟨f,1,none⟩=some (.int .i64 (a 1))/\V.cell? ⟨f,2,none⟩=some (.int .i64 (a 2))/\V.cell? ⟨f,3,none⟩=some (.int .i64 (a 3))/\V.cell? ⟨f,4,none⟩=some (.int .i64 (a 4))/\V.cell? ⟨f,5,none⟩=some (.int .i64 (a 5))/\V.cell? ⟨f,6,none⟩=some (.int .i64 (a 6))) ((refine HC7.out _ ?_;repeat' (first|with_reducible exact iL _ _|(with_reducible refine Below.drew ?_)|(with_reducible refine Below.alloc ?_ ?_ _)|(simp;done)|(simp;omega)))) (fail)
  all_goals (try go_wp2_with fail)
  all_goals go_meet
  all_goals
   have h2:=acf wr (bu (a 1) (a 2) (a 3)) (bu (a 4) (a 5) (a 6));have j:=acf wr (bu (a 4) (a 5) (a 6)) (bu (a 1) (a 2) (a 3))
   first
    |exact⟨_,_,rfl,rfl,h2.1,h2.2.1,by omega,by omega,h2.2.2⟩
    |exact⟨_,_,rfl,rfl,j.2.1,j.1,by omega,by omega,j.2.2⟩
 case rest=>
  obtain⟨q,Y,rfl,rfl,r⟩:=hcut;have u:=bQ r.out.1;have E:=(ax.1 r.out.1).1;have U:=(r.out.2.2.2.2.cell (p:=⟨f,0,none⟩) hg9).trans n0;have N:=aR hg9 r.out.2.2.2.2.size;revert r u E U N;clear n0 n1 n2 n3 n4 n5 n6 cj hbe hbj;generalize wc=w8;intro r u E U N
  have HC:Hid (∀V,Below w8.heap.size w8 V->V.cell? ⟨f,0,none⟩=some (.int .i64 (a 0))/\V.cell? ⟨q,0,none⟩=some (.int .i64 (a 1))/\V.cell? ⟨q,1,none⟩=some (.int .i64 (a 2))/\V.cell? ⟨q,2,none⟩=some (.int .i64 (a 3))):=λV z=>⟨(z.cell (p:=⟨f,0,none⟩) N).trans U,(z.cell (p:=⟨q,0,none⟩) E).trans u.1,(z.cell (p:=⟨q,1,none⟩) E).trans u.2.1,(z.cell (p:=⟨q,2,none⟩) E).trans u.2.2⟩
  clear u U
  go_upto_region 34 with fail
  go_cut [16] (λs16 V=>∃b:Nat,s16=.pointer (some ⟨b,0,none⟩)/\V.heap[b]?=some (.cells #[.int .i64 lo.k,.int .i64 lo.lk,.int .i64 lo.lt,.int .i64 lo.lv,.int .i64 lo.rk,.int .i64 lo.rt,.int .i64 lo.rv,.bool lo.hl,.bool lo.hr] 89)/\w8.heap.size<=b/\Below w8.heap.size w8 V)
  case first=>
   have c6:=HC.out _ (iL _ _)
   go_region_held3 (λV=>V.cell? ⟨f,0,none⟩=some (.int .i64 (a 0))/\V.cell? ⟨q,0,none⟩=some (.int .i64 (a 1))/\V.cell? ⟨q,1,none⟩=some (.int .i64 (a 2))/\V.cell? ⟨q,2,none⟩=some (.int .i64 (a 3))) ((refine HC.out _ ?_;repeat' (first|with_reducible exact iL _ _|with_reducible exact B8.out|with_reducible exact B8.out.size|(with_reducible refine Below.drew ?_)|(with_reducible refine Below.alloc ?_ ?_ _)|(with_reducible refine Below.setCell ?_ ?_ _)|(simp;done)|(simp;omega)))) (first
    |(go_at_call 38;refine(afC _).mono ?_;rintro e IJ ⟨rfl,Qe⟩;have B8:Hid (Below w8.heap.size w8 IJ):=Below.trans (by repeat' (first|with_reducible exact iL _ _|(with_reducible refine Below.drew ?_)|(with_reducible refine Below.alloc ?_ ?_ _)|(with_reducible refine Below.setCell ?_ ?_ _)|(simp;done)|(simp;omega))) (Qe.mono (by simp));try (have Yj:IJ.heap[w8.heap.size]?=some (.cells #[.int .i64 0,.int .i64 0,.int .i64 0,.int .i64 0,.int .i64 0,.int .i64 0,.int .i64 0,.bool false,.bool false] 89):=(Qe.block w8.heap.size (by simp)).trans (eZ _ _);have z9:=Bp Yj))
    |fail)
   all_goals (try go_wp2_with fail)
   all_goals go_meet
   all_goals
    refine⟨_,rfl,?_,?_,?_⟩
    .first
      |with_reducible exact eZ _ _
      |with_reducible exact yS Yj _ _ _ _ _ _ _ _ _
    .first|with_reducible exact B8.out.size|with_reducible exact aC _
    .repeat' (first|with_reducible exact B8.out|with_reducible exact B8.out.size|(with_reducible refine Below.drew ?_)|(with_reducible refine Below.alloc ?_ ?_ _)|(with_reducible refine Below.setCell ?_ ?_ _)|(simp;done)|(simp;omega))
  case rest=>
   obtain⟨b,rfl,hgx,hgl,B⟩:=hcut;have S:Hid (Bx wr q Y b a lo wc):=⟨r.out.2.2.2.2.trans (B.mono r.out.2.2.2.2.size),(B.block _ (ax.1 r.out.1).1).trans r.out.1,(B.block _ (ax.1 r.out.2.1).1).trans r.out.2.1,hgx,aH r.out.2.2.2.2.size hgl⟩;have U:=(HC.out _ B).1;have HNE:Hid (q≠b/\Y≠b):=⟨by have:=(ax.1 r.out.1).1;omega,by have:=(ax.1 r.out.2.1).1;omega⟩;have hg7:=aR N B.size;revert S U hg7;clear HC B hgx hgl E N afC r;generalize wc=w9;intro S U hg7;obtain⟨u,cb,la,lb,T⟩:=S.out.cells
   by_cases j:a 0=3
   .have q3:(a 0==3)=true:=by simpa using j
    have W:=λV=>oM (a 1) (a 2) (a 3) (a 4) (a 5) (a 6) V
    go_upto_region 37 with(first
     |(go_at_call 39;refine(W _).mono ?_;rintro e IJ ⟨rfl,Qe⟩;have XT:=hid (S.out.go Qe);have z10:=CR XT.out.x;have l10:=XT.out.cells.2.2.2.2;clear Qe)
     |fail)
    have s:Hid (Bx wr q Y b a ⟨a 1,a 1,a 2,a 3,a 4,a 5,a 6,true,true⟩ (((((((((IJ.setCell ⟨b,0,none⟩ (.int .i64 (a 1))).setCell ⟨b,1,none⟩ (.int .i64 (a 1))).setCell ⟨b,2,none⟩ (.int .i64 (a 2))).setCell ⟨b,3,none⟩ (.int .i64 (a 3))).setCell ⟨b,4,none⟩ (.int .i64 (a 4))).setCell ⟨b,5,none⟩ (.int .i64 (a 5))).setCell ⟨b,6,none⟩ (.int .i64 (a 6))).setCell ⟨b,7,none⟩ (.bool true)).setCell ⟨b,8,none⟩ (.bool true))):=aeW XT.out HNE.out ⟨a 1,a 1,a 2,a 3,a 4,a 5,a 6,true,true⟩;clear S XT z10 l10 u cb la lb T W U hg7;revert s;generalize(((((((((IJ.setCell ⟨b,0,none⟩ (.int .i64 (a 1))).setCell ⟨b,1,none⟩ (.int .i64 (a 1))).setCell ⟨b,2,none⟩ (.int .i64 (a 2))).setCell ⟨b,3,none⟩ (.int .i64 (a 3))).setCell ⟨b,4,none⟩ (.int .i64 (a 4))).setCell ⟨b,5,none⟩ (.int .i64 (a 5))).setCell ⟨b,6,none⟩ (.int .i64 (a 6))).setCell ⟨b,7,none⟩ (.bool true)).setCell ⟨b,8,none⟩ (.bool true))=w12;intro s;obtain⟨u,cb,la,lb,T⟩:=s.out.cells
    by_cases hk:a 1=a 4
    .have k1:(a 1==a 4)=true:=by simpa using hk
     have k2:(a 1 !=a 4)=false:=by simpa using hk
     have HK:=hid hk;clear hk
     cases hgb:au (a 4) (a 5) (a 6)with
     |false=>
      have I:Hid (zG a=none):=by show zG a=none;unfold zG;rw[if_pos j,if_neg (λe=>by rw[hgb]at e;cases e.2.1)]
      rw[hgb]at F;clear j hgb
      go_wp2_with (first
       |(go_at_call 40;refine(F.out _).mono ?_;rintro e C ⟨rfl,d⟩;have l:=hid (s.out.go d);clear d)
       |fail)
      go_ret2;exact K.out _ l.out.low I.out
     |true=>
      cases hga:au (a 1) (a 2) (a 3)with
      |false=>
       have I:Hid (zG a=none):=by show zG a=none;unfold zG;rw[if_pos j,if_neg (λe=>by rw[hga]at e;cases e.2.2)]
       rw[hgb]at F;rw[hga]at n;clear j hgb hga
       go_wp2_with (first
        |(go_at_call 40;have _:=l;refine(n.out _).mono ?_;rintro e G ⟨rfl,Ms⟩;have m:=hid (l.out.go Ms);clear Ms)
        |(go_at_call 40;refine(F.out _).mono ?_;rintro e C ⟨rfl,d⟩;have l:=hid (s.out.go d);clear d u cb la lb T;obtain⟨u,cb,la,lb,T⟩:=l.out.cells)
        |fail)
       go_ret2;exact K.out _ m.out.low I.out
      |true=>
       have I:Hid (zG a=some ⟨a 1,a 1,a 2,a 3,a 4,a 5,a 6,true,true⟩):=by show zG a=some _;unfold zG;rw[if_pos j,if_pos ⟨HK.out,hgb,hga⟩]
       rw[hgb]at F;rw[hga]at n;clear j hgb hga
       go_upto_region 41 with(first
        |(go_at_call 40;have _:=l;refine(n.out _).mono ?_;rintro e G ⟨rfl,Ms⟩;have m:=hid (l.out.go Ms);clear Ms)
        |(go_at_call 40;refine(F.out _).mono ?_;rintro e C ⟨rfl,d⟩;have l:=hid (s.out.go d);clear d u cb la lb T;obtain⟨u,cb,la,lb,T⟩:=l.out.cells)
        |fail)
       have nx:G.cell? ⟨b,0,none⟩=some (.int .i64 (a 1))/\G.cell? ⟨b,1,none⟩=some (.int .i64 (a 1))/\G.cell? ⟨b,2,none⟩=some (.int .i64 (a 2))/\G.cell? ⟨b,3,none⟩=some (.int .i64 (a 3))/\G.cell? ⟨b,4,none⟩=some (.int .i64 (a 4))/\G.cell? ⟨b,5,none⟩=some (.int .i64 (a 5))/\G.cell? ⟨b,6,none⟩=some (.int .i64 (a 6))/\G.cell? ⟨b,7,none⟩=some (.bool true)/\G.cell? ⟨b,8,none⟩=some (.bool true):=(CR m.out.x).1;have X:=m.out.cells.2.2.2.2;have af8:be<G.heap.size:=aR R.out.bag.lt m.out.low.size;have g:=HAp.out ⟨a 1,a 1,a 2,a 3,a 4,a 5,a 6,true,true⟩ b G.drew (m.out.low.drew) m.out.lx X I.out;simp only[vC]at g;have g:=hid g;have HXX:=hid m.out.x;clear u cb la lb T
       go_region_held3 (λV=>V.cell? ⟨b,0,none⟩=some (.int .i64 (a 1))/\V.cell? ⟨b,1,none⟩=some (.int .i64 (a 1))/\V.cell? ⟨b,2,none⟩=some (.int .i64 (a 2))/\V.cell? ⟨b,3,none⟩=some (.int .i64 (a 3))/\V.cell? ⟨b,4,none⟩=some (.int .i64 (a 4))/\V.cell? ⟨b,5,none⟩=some (.int .i64 (a 5))/\V.cell? ⟨b,6,none⟩=some (.int .i64 (a 6))/\V.cell? ⟨b,7,none⟩=some (.bool true)/\V.cell? ⟨b,8,none⟩=some (.bool true)) (first|exact nx|exact c2|fail) (first
        |(go_at_call 41;refine g.out.mono ?_;rintro e w4 ⟨c,rfl,H,h4⟩;have c2:=(CR (H.trans HXX.out)).1;clear H)
        |fail)
       go_wp2_with fail;exact⟨_,h4⟩
    .have k1:(a 1==a 4)=false:=by simpa using hk
     have k2:(a 1 !=a 4)=true:=by simpa using hk
     have I:Hid (zG a=none):=by show zG a=none;unfold zG;rw[if_pos j,if_neg (λe=>hk e.1)]
     clear j hk;go_wp2_with fail;go_ret2;exact K.out _ s.out.low I.out
   .have q3:(a 0==3)=false:=by simpa using j
    cases hga:au (a 1) (a 2) (a 3)with
    |false=>
     have HBa:=K.out
     have I:Hid (zG a=none):=by show zG a=none;unfold zG;rw[if_neg j,if_neg (by rw[hga];decide)]
     rw[hga]at n;clear j hga
     go_wp2_with (first
      |(go_at_call 40;refine(n.out _).mono ?_;rintro e C ⟨rfl,d⟩;have l:=hid (S.out.go d);clear d)
      |fail)
     go_ret2;exact K.out _ l.out.low I.out
    |true=>
     have I:Hid (zG a=some lo):=by show zG a=some lo;unfold zG;rw[if_neg j,if_pos hga,HLO.out]
     rw[hga]at n;clear j hga
     go_upto_region 41 with(first
      |(go_at_call 40;refine(n.out _).mono ?_;rintro e C ⟨rfl,d⟩;have l:=hid (S.out.go d);clear d)
      |fail)
     have nx:=(CR l.out.x).1;have X:=l.out.cells.2.2.2.2;have af8:be<C.heap.size:=aR R.out.bag.lt l.out.low.size;have g:=HAp.out lo b C.drew (l.out.low.drew) l.out.lx X I.out;simp only[vC]at g;have g:=hid g;have HXX:=hid l.out.x;clear u cb la lb T S
     go_region_held3 (λV=>V.cell? ⟨b,0,none⟩=some (.int .i64 lo.k)/\V.cell? ⟨b,1,none⟩=some (.int .i64 lo.lk)/\V.cell? ⟨b,2,none⟩=some (.int .i64 lo.lt)/\V.cell? ⟨b,3,none⟩=some (.int .i64 lo.lv)/\V.cell? ⟨b,4,none⟩=some (.int .i64 lo.rk)/\V.cell? ⟨b,5,none⟩=some (.int .i64 lo.rt)/\V.cell? ⟨b,6,none⟩=some (.int .i64 lo.rv)/\V.cell? ⟨b,7,none⟩=some (.bool lo.hl)/\V.cell? ⟨b,8,none⟩=some (.bool lo.hr)) (first|exact nx|exact c2|fail) (first
      |(go_at_call 41;refine g.out.mono ?_;rintro e w4 ⟨c,rfl,H,h4⟩;have c2:=(CR (H.trans HXX.out)).1;clear H)
      |fail)
     go_wp2_with fail;exact⟨_,h4⟩
end Go.Proofs.YthfpipieboophaaGreatDoor
