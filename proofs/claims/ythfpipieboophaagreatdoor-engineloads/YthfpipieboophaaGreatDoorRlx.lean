import Derived.Test.YthfpipieboophaaGreatDoorRlv
import Derived.Test.YthfpipieboophaaGreatDoorRlw
import Derived.Test.YthfpipieboophaaGreatDoorRly
namespace Go.Proofs.YthfpipieboophaaGreatDoor
set_option maxRecDepth 100000
set_option maxHeartbeats 40000000
open Go.Proofs.Tryz Go.Joins Go.RowKit Go.Sort Go.Shelf
theorem ads(t:List UInt8)(ht:t.length<=3000)(w:World)(hG:aa3 w):Calls prog 7 #[.string ⟨t.toArray⟩] w (aaU t w):=by
 obtain⟨m,hm⟩:=hG.g.g.max;have H1:=abL t (by omega) w m hm;have s:(BB t).length<=3001:=aH (ad7 t) (by omega)
 have hpx:∀x∈BB t,x.length<=3000:=λx L=>aH (abl t x L) ht
 have HNo:Hid (∀d,Below w.heap.size w d->u6 none (BB t)=none->aaU t w (.returned (.tuple #[.pointer none,.int .i64 3])) d):=λd Y hn=>Or.inl ⟨rfl,Y,Or.inl hn⟩
 have afr:Hid (∀d,Below w.heap.size w d->u6 none (BB t)=some none->aaU t w (.returned (.tuple #[.pointer none,.int .i64 3])) d):=λd Y hn=>Or.inl ⟨rfl,Y,Or.inr (Or.inl hn)⟩
 have HSv:Hid (∀be rs P W,RE be rs P W->RvQ 3001 rs->(∀k,P k->w.heap.size<=k)->Below w.heap.size w W->u6 none (BB t)=some (some rs)->Calls prog 17 #[.pointer (some ⟨be,0,none⟩)] W λe d=>(e=.returned (.tuple #[.string ⟨#[]⟩,.int .i64 4])/\Hid (aaU t w (.returned (.tuple #[.pointer none,.int .i64 3])) d))∨∃u:List UInt8,e=.returned (.tuple #[.string ⟨u.toArray⟩,.int .i64 0])/\Hid (u≠t->aaU t w (.returned (.tuple #[.pointer none,.int .i64 3])) d)/\Hid (u=t->aaU t w (.returned (.tuple #[.pointer (some ⟨be,0,none⟩),.int .i64 0])) d)):=by
  intro be rs P W B c hk Y hl;obtain⟨bj,v,v0,v1,hA,hP⟩:=B;refine(IQ W hA (hG.g.g.below Y).tab (c.fit (by omega))).mono ?_;rintro e d ⟨E0,E1,Z,p0,o0,p1,o1,pz,oz,rfl,C⟩;have hb3:Below w.heap.size w d:=Y.trans (C.mono Y.size);unfold Bv
  by_cases h6:60000<(FI rs.x rs.f0 rs.f1 E0 E1 Z).length
  .rw[if_pos h6];exact Or.inl ⟨rfl,Or.inl ⟨rfl,hb3,Or.inr (Or.inr ⟨rs,E0,E1,Z,hl,c,p0,o0,p1,o1,pz,oz,Or.inl h6⟩)⟩⟩
  .rw[if_neg h6];refine Or.inr ⟨_,rfl,λhne=>Or.inl ⟨rfl,hb3,Or.inr (Or.inr ⟨rs,E0,E1,Z,hl,c,p0,o0,p1,o1,pz,oz,Or.inr hne⟩)⟩,λhe=>Or.inr ⟨be,rs,P,E0,E1,Z,rfl,RE.below ⟨bj,v,v0,v1,hA,hP⟩ C,c,p0,o0,p1,o1,pz,oz,he,hk,hb3⟩⟩
 obtain⟨pc,hpc⟩:∃pc,BB t=pc:=⟨_,rfl⟩;rw[hpc]at H1 s hpx HNo afr HSv;have H1:=hid H1;have HG:=hid hG;clear hm hG hpc;go_enter func7,ntmps7
 go_upto_block 0 with(first
  |(go_at_call 34;refine H1.out.mono ?_;rintro e z ⟨rfl,hw2⟩;have HW2:=hid hw2;clear hw2)
  |fail)
 have C:Below w.heap.size w z:=by rw[HW2.out];exact fC _ _
 have hgp:z.heap[w.heap.size]?=some (.cells (pc.map sV).toArray 9):=by rw[HW2.out];exact eZ _ _
 have HLN:Hid (∀i x V,pc[i]?=some x->Below z.heap.size z V->V.cell? ⟨w.heap.size,i,none⟩=some (.string ⟨x.toArray⟩)):=λi x V N c=>by
  rw[c.cell (p:=⟨w.heap.size,i,none⟩) (ax.1 hgp).1,fq hgp];simp[N]
 have HG2:Hid (aa3 z):=HG.out.below C;have r:=hid C;clear HW2 C hgp H1
 go_cut [5] (λs5 V=>∃o,Hid (u6 none pc=some o/\Rk z o 3001 s5 V))
 case first=>
  go_wp2_with fail;have S0:Hid (u6 none pc=u6 none (pc.drop 0)/\Rk z none 0 (.pointer none) z):=⟨by rw[List.drop_zero],⟨iL _ _,Or.inl ⟨rfl,rfl⟩⟩⟩
  go_loopg [5,23] pc.length (λgg v5 v23 wr=>∃(i:Nat) (o:Option RS),i<=pc.length/\gg=pc.length -i/\v23=.int .i64 i/\Hid (u6 none pc=u6 o (pc.drop i)/\Rk z o i v5 wr))
  case atStart=>exact⟨0,none,aW _,rfl,rfl,S0⟩
  case round=>
   obtain⟨i,o,hi,hgg,rfl,I⟩:=hrel;have HGm:=hid hgg;clear hgg S0
   by_cases hil:i<pc.length
   .obtain⟨x,L⟩:∃x,pc[i]?=some x:=⟨_,aO hil⟩;have hxl:=hpx x (cZ L);have hcx:=HLN.out i x wr L I.out.2.low
    have E:pc.drop i=x::pc.drop (i+1):=by rw[List.drop_eq_getElem_cons hil];rw[aO hil]at L;injection L with L;rw[L]
    obtain⟨F,hF⟩:∃F,Lib.fieldsD x=F:=⟨_,rfl⟩;obtain⟨dw,hdw⟩:∃dw,F.length=dw:=⟨_,rfl⟩
    have R:Hid (Calls prog 35 #[.string ⟨x.toArray⟩] wr λe d=>∃A,e=.returned (.slice (some ⟨A,0,none⟩) F.length dw)/\Hid (d.ownsRow wr.heap.size 9 1 (.slice (some ⟨A,0,none⟩) F.length dw) F.length (F.map sV)/\Below wr.heap.size wr d)):=by
     have:=ac9 (HG2.out.below I.out.2.low) x (by omega);rw[hF]at this;refine this.mono ?_;rintro e d ⟨A,rfl,h1,h2,U⟩;rw[<-hdw];exact⟨A,rfl,h2,U⟩
    have T:F.length<=3000/\∀y∈F,y.length<=3000:=by
     rw[<-hF];exact acW x hxl
    have j1:(0:Int)<=(i:Int):=by omega
    have j2:(i:Int)<(pc.length:Int):=by omega
    have HDW:=hid hdw;clear hdw
    go_upto_block 1 with fail
    go_cut [5] (λs5 V=>Hid (Nx pc z i s5 V))
    case rest=>
     have N:=hcut;clear hcut I hcx R T E L hF;go_wp2_with fail
     go_roundg (pc.length -(i+1))
     case measure=>have:=HGm.out;omega
     case rel=>
      obtain⟨o2,h1,h2⟩:=N.out;exact⟨i+1,o2,by omega,rfl,by go_num,h1,h2⟩
    case first=>
     rename_i JJ KK hJJ hKK
     by_cases hFe:F=[]
     .have HS:Hid (u6 none pc=some o):=by
       show u6 none pc=some o;rw[I.out.1,E,adi (by rw[hF,hFe])]
      have hbz:((F.length:Int)==0)=true:=by rw[hFe];rfl
      have hfz:(F.length:Int)=0:=by rw[hFe];rfl
      have I5:=hid I.out.2;clear I E L hF hFe
      go_wp2_with (first
       |(go_at_call 35;refine R.out.mono ?_;rintro e f ⟨A,rfl,U⟩)
       |fail)
      go_meet
      case rel=>exact⟨o,HS.out,(I5.out.go U.out.2).more (by omega)⟩
     .obtain⟨hd,ws,Yw⟩:∃hd ws,F=hd::ws:=by
       cases F with
       |nil=>exact absurd rfl hFe
       |cons hd ws=>exact⟨hd,ws,rfl⟩
      have Y9:=hid Yw
      have H:F.length=ws.length+1:=by rw[Yw];rfl
      have YJ:=hid H
      have hbz:((F.length:Int)==0)=false:=by rw[H];simp;omega
      have i2:¬(F.length:Int)=0:=by omega
      have i3:(1:Int)<=(F.length:Int):=by omega
      have HST:Hid (∀o',vv o hd (nwQ ws)=some o'->u6 none pc=u6 o' (pc.drop (i+1))):=λo' ho=>by
       rw[I.out.1,E,acv (by rw[hF,Yw]),ho]
      have HBD:Hid (vv o hd (nwQ ws)=none->u6 none pc=none):=λho=>by
       rw[I.out.1,E,acv (by rw[hF,Yw]),ho]
      have hwl:∀y∈ws,y.length<=3000:=λy hy=>T.2 y (by rw[Yw];simp[hy])
      have aaq:ws.length<=3000:=by have:=T.1;omega
      have I5:=hid I.out.2;obtain⟨iI,hiI,aaj,aak,aal⟩:=je IE;clear I E L hF hFe Yw H T
      go_upto_if 31 with(first
       |(go_at_call 35;refine R.out.mono ?_;rintro e f ⟨A,rfl,U⟩)
       |fail)
      have I6:Hid (Rk z o i u5 f):=I5.out.go U.out.2;have hgw:=(U.out.1.lt A rfl).2
      have HCW:Hid (∀V,Below f.heap.size f V->V.cell? ⟨A,0,none⟩=some (.string ⟨hd.toArray⟩)/\∀q y,ws[q]?=some y->V.cell? ⟨A,1+q,none⟩=some (.string ⟨y.toArray⟩)):=by
       intro V c;have hr:=U.out.1;refine⟨?_,λq y N=>?_⟩
       .rw[c.cell (p:=⟨A,0,none⟩) hgw];have:=hr.cells (g:=A) rfl 0 (.string ⟨hd.toArray⟩) (by rw[Y9.out];rfl)
        rwa [bZ]at this
       .rw[c.cell (p:=⟨A,1+q,none⟩) hgw];have:=hr.cells (g:=A) rfl (1+q) (.string ⟨y.toArray⟩) (by rw[Y9.out,Nat.add_comm];simp[N])
        rwa [bZ]at this
      obtain⟨ao,hA,hao⟩:∃ao:Nat,(if dw=1 then some (⟨A,0,none⟩:Addr)else some ⟨A,1,none⟩)=some ⟨A,ao,none⟩/\∀V,Below f.heap.size f V->∀q y,ws[q]?=some y->V.cell? ⟨A,ao+q,none⟩=some (.string ⟨y.toArray⟩):=by
       by_cases hd1:dw=1
       .refine⟨0,by rw[if_pos hd1],λV c q y N=>?_⟩;have:=(bP.1 N).1;have:=YJ.out;have:=HDW.out;omega
       .exact⟨1,by rw[if_neg hd1],λV c q y N=>(HCW.out V c).2 q y N⟩
      have HAO:=hid hao
      have i4:F.length<=dw:=by have:=HDW.out;omega
      have i5:(1:Int)<=(dw:Int):=by have:=HDW.out;omega
      have i6:F.length -1=ws.length:=by have:=YJ.out;omega
      have HGW:Hid (aU f):=((HG2.out.below I6.out.low)).g;have H3:=hid I6.out.low;clear hao I5 U hcx R;go_wp2_with fail;have L0:Hid (Lr f (vwQ (ws.take 0)) (.slice none 0 0) f):=⟨iL _ _,iR _ _ _ _⟩;clear i6
      go_loopg [9,35] ws.length (λgg v9 v35 wr3=>∃q:Nat,q<=ws.length/\gg=ws.length -q/\v35=.int .i64 q/\Hid (Lr f (vwQ (ws.take q)) v9 wr3))
      case atStart=>exact⟨0,aW _,rfl,rfl,L0⟩
      case round=>
       obtain⟨q,N,sK,rfl,S⟩:=hrel;have Zg:=hid sK;clear sK L0
       by_cases uD:q<ws.length
       .obtain⟨y,hy⟩:∃y,ws[q]?=some y:=⟨_,aO uD⟩;have hcy:=HAO.out _ S.out.low q y hy;have X:Hid (vwQ (ws.take (q+1))=vwQ (ws.take q)++[(numOf y).getD 0]):=aet ws q y hy
        have hvl:(vwQ (ws.take q)).length<=3000:=by unfold vwQ;rw[List.length_map];exact aH (eG _ _) (by omega)
        have HNm:Hid (Calls prog 36 #[.string ⟨y.toArray⟩] wr λe d=>e=.returned (.tuple #[.int .i64 ((numOf y).getD 0),.bool (numOf y).isSome])/\Hid (Below wr.heap.size wr d)):=FT y wr (HGW.out.below S.out.low) (by have:=hwl y (cZ hy);omega)
        have j3:(0:Int)<=(q:Int):=by omega
        have j4:(q:Int)<(ws.length:Int):=by omega
        revert X hvl S;generalize vwQ (ws.take q)=V;intro S X hvl;clear hy;generalize(numOf y).isSome=fy at *;generalize(numOf y).getD 0=vy at *
        go_wp2_with (first
         |(go_at_call 36;refine HNm.out.mono ?_;rintro e w6 ⟨rfl,hb6⟩;have C4:Hid (Lr _ V u9 (w6.alloc (.cells #[.int .i64 vy] 3))):=S.out.go (hb6.out.trans ((fC w6 _).mono hb6.out.size));have N4:Hid (∀j u,([(.int .i64 vy:Value)])[j]?=some u->(w6.alloc (.cells #[.int .i64 vy] 3)).cell? ((⟨w6.heap.size,0,none⟩:Addr).add j)=some u):=World.news_of_block (eZ w6 (.cells #[.int .i64 vy] 3));have zz:=(S.out.low.trans (hb6.out.mono S.out.low.size)).size)
         |(at_builtin;refine wpList_append_lies _ rfl _ _ _ rfl _ 3 iI (.int .i64 0) 1 8 underlying84 hiI aaj aak aal rfl (by omega) u9 V.length (V.map (Value.int .i64)) rfl C4.out.row ⟨w6.heap.size,0,none⟩ 1 1 [.int .i64 vy] rfl rfl N4.out (oU (ns:=[vy])) (by omega) (by unfold maxLen;omega) (by omega) (by simp;omega) _ rfl ?_;intro g5 cap5 w5 a aK gI gJ;have C5:=ado C4.out a aK;have HC5:Hid _:=C5;clear a aK gI gJ C5)
         |fail)
        go_roundg (ws.length -(q+1))
        case measure=>have:=Zg.out;omega
        case rel=>
         refine⟨q+1,by omega,rfl,by go_num,?_⟩;show Lr _ _ _ _;rw[X.out];exact HC5.out
       .have Q:q=ws.length:=by omega
        subst Q
        have i1:¬((ws.length:Nat):Int)<(ws.length:Int):=by omega
        rw[List.take_length]at S;have NZ:Hid (NzQ ws (vwQ ws)/\(vwQ ws).length<=3000):=⟨λj=>rfl,by unfold vwQ;rw[List.length_map];omega⟩;clear Zg HAO
        go_upto_block 4 with fail
        go_cut [9] (λs9 V=>∃l M d9:Nat,s9=.slice (some ⟨l,0,none⟩) M d9/\Hid (7<=M/\N7 l (nwQ ws) V/\f.heap.size<=l/\l<V.heap.size/\Below f.heap.size f V))
        case first=>
         go_wp2_with fail
         go_loopg [9] (7 -(vwQ ws).length) (λgg v9 wr4=>∃ns:List Int,gg=7 -ns.length/\Hid (NzQ ws ns/\ns.length<=3007/\Lr f ns v9 wr4))
         case atStart=>exact⟨vwQ ws,rfl,NZ.out.1,by have:=NZ.out.2;omega,S.out⟩
         case round=>
          obtain⟨ns,afs,G⟩:=hrel;have HG4:=hid afs;clear afs NZ;have hnl:=G.out.2.1;obtain⟨p9,d9,rfl⟩:=aj G.out.2.2.row
          by_cases hn7:ns.length<7
          .have k1:(ns.length:Int)<7:=by omega
           have C4:Hid (Lr f ns (.slice p9 ns.length d9) (wr.alloc (.cells #[.int .i64 0] 3))):=G.out.2.2.go (fC wr _);have N4:Hid (∀j u,([(.int .i64 0:Value)])[j]?=some u->(wr.alloc (.cells #[.int .i64 0] 3)).cell? ((⟨wr.heap.size,0,none⟩:Addr).add j)=some u):=World.news_of_block (eZ wr (.cells #[.int .i64 0] 3));have zz:=G.out.2.2.low.size;have HZ:=hid G.out.1.more;clear G
           go_wp2_with (first
            |(at_builtin;refine wpList_append_lies _ rfl _ _ _ rfl _ 3 iI (.int .i64 0) 1 8 underlying84 hiI aaj aak aal rfl (by omega) (.slice p9 ns.length d9) ns.length (ns.map (Value.int .i64)) rfl C4.out.row ⟨wr.heap.size,0,none⟩ 1 1 [.int .i64 0] rfl rfl N4.out (oU (ns:=[0])) (by omega) (by unfold maxLen;omega) (by omega) (by simp;omega) _ rfl ?_;intro g5 cap5 w5 a aK gI gJ;have C5:=ado C4.out a aK;have HC5:Hid _:=C5;clear a aK gI gJ C5)
            |fail)
           go_roundg (7 -(ns.length+1))
           case measure=>have:=HG4.out;omega
           case rel=>exact⟨ns++[0],by simp,HZ.out,by simp;omega,HC5.out⟩
          .have k1:¬(ns.length:Int)<7:=by omega
           obtain⟨l,e9⟩:∃l,p9=some ⟨l,0,none⟩:=by
            obtain⟨g,cg,e⟩:=gy G.out.2.2.row (by omega)
            injection e with Q
            exact⟨g,Q⟩
           subst e9;have H9:Hid (7<=ns.length/\N7 l (nwQ ws) wr/\f.heap.size<=l/\l<wr.heap.size/\Below f.heap.size f wr):=⟨by omega,afq G.out.2.2 G.out.1 (by omega),(G.out.2.2.row.lt l rfl).1,(G.out.2.2.row.lt l rfl).2,G.out.2.2.low⟩;clear G HG4;generalize ns.length=M at *;go_wp2_with fail
           go_meet
           case rel=>exact⟨l,M,d9,rfl,H9⟩
        case rest=>
         obtain⟨l,M,d9,rfl,H9⟩:=hcut
         go_step
         have hni:=afm ws;have HB3:=hid (H9.out.2.2.2.2);have cA:=(HCW.out wc HB3.out).1
         have HOV:∀rs,o=some rs->RvQ i rs:=by
          intro rs e
          rcases I6.out.e with⟨Q,_⟩|⟨be,rs',P,Q,_,_,_,h⟩
          .rw[Q]at e;cases e
          .rw[Q]at e;cases e;exact h
         have abz:Below z.heap.size z wc:=H3.out.trans (HB3.out.mono H3.out.size);have b:Arm t pc w z o i hd (nwQ ws) A F.length l M wc:=⟨HNo.out,HST.out,HBD.out,λo' h=>RvQ.step HOV (λj=>(hni j).2) h,abz,r.out.trans (abz.mono r.out.size),H9.out.2.1,H9.out.2.2.2.1,H9.out.1,by omega,by omega,hni,cA⟩
         have hR:Rest t pc w z i u5 A F.length dw l M d9 wc:=by
          rcases I6.out.e with⟨K,e5⟩|⟨be,rs,P,K,e5,B,n,c⟩
          .subst e5
           by_cases hp:hd=ab8
           .by_cases s:aS (nwQ ws 0) (nwQ ws 1) (nwQ ws 2)=0
            .exact ldY b (Or.inl rfl) hp s
            .exact ldN b (Or.inl rfl) hp s
           .exact ldI b K hp
          .subst e5
           have h9:¬P l:=λe=>by have:=B.plt l e;have:=H9.out.2.2.1;omega
           have B:=B.below HB3.out
           by_cases hp:hd=ab8
           .by_cases s:aS (nwQ ws 0) (nwQ ws 1) (nwQ ws 2)=0
            .exact ldY b (Or.inr ⟨be,rfl⟩) hp s
            .exact ldN b (Or.inr ⟨be,rfl⟩) hp s
           by_cases hf:hd=adH
           .exact ldF b B n c h9 K hp hf
           by_cases hm:hd=abp
           .exact ldM b B n c h9 K hp hf hm
           by_cases hr:hd=aby
           .exact ldR b B n c h9 K hp hf hm hr
           by_cases ho:hd=acy
           .exact ldU b B n c h9 K hp hf hm hr ho
           exact ldO b B n c h9 K hp hf hm hr ho
         refine hR KK _ _ _ _ _ _ _ _ _ _ _ _ _ _ _ _ _ _ _ _ _ _ _ _ _ _ _ _ _ _ _ _ _ _ _ _ _ _ _ _ _ _ _ _ _ _ _ _ _ _ _ _ _ _ _ _ _ _ _ _ _ _ _ _ _ _ _ _ _ _ _ _ _ _ _ _ _ _ _ _ _ _ _ _ _ _ _ _ _ _ _ _ _ _ _ _ _ _ _ _ _ _ _ _ _ _ _ _ _ _ _ _ _ _ _ _ _ _ _ _ _ _ _ _ _ _ _ _ _ _ _ _ _ _ _ _ _ _ _ _ _ _ _ _ _ _ _ _ _ _ _ _ _ _ _ _ _ _ _ _ _ _ _ _ _ _ _ _ _ _ _ _ _ _ _ _ _ _ _ _ _ _ _ _ _ _ _ _ _ _ _ _ _ _ _ _ _ _ _ _ _ _ _ _ _ _ _ _ _ _ _ _ _ _ _ _ _ _ (λ_ _ _ _ _ _ _ _ _ _ _ _ _ _ _ _ _ _ _ _ _ _ _ _ _ _ _ _ _ _ _ _ _ _ _ _ _ _ _ _ _ _ _ _ _ _ _ _ _ _ _ _ _ _ _ _ _ _ _ _ _ _ _ _ _ _ _ _ _ _ _ _ _ _ _ _ _ _ _ _ _ _ _ _ _ _ _ _ _ _ _ _ _ _ _ _ _ _ _ _ _ _ _ _ _ _ _ _ _ _ _ _ _ _ _ _ _ _ _ _ _ _ _ _ _ _ _ _ _ _ _ _ _ _ _ _ _ _ _ _ _ _ _ _ _ _ _ _ _ _ _ _ _ _ _ _ _ _ _ _ _ _ _ _ _ _ _ _ _ _ _ _ _ _ _ _ _ _ _ _ _ _ _ _ _ _ _ _ _ _ _ _ V hN=>hKK _ _ (Met.intro (hJJ _ _ ?_)))
         (repeat apply Exists.intro)
         exact⟨hN,rfl⟩
   .have Q:i=pc.length:=by omega
    subst Q
    have i1:¬((pc.length:Nat):Int)<(pc.length:Int):=by omega
    have HS:Hid (u6 none pc=some o):=by
     show u6 none pc=some o;rw[I.out.1,List.drop_length];rfl
    have I5:=hid I.out.2;clear I;go_wp2_with fail
    go_meet
    case rel=>exact⟨o,HS.out,I5.out.more (by omega)⟩
 case rest=>
  obtain⟨o,I⟩:=hcut
  rcases I.out.2.e with⟨K,e5⟩|⟨be,rs,P,K,e5,B,n,c⟩
  .subst e5;have H2:=hid (afr.out _ (r.out.trans (I.out.2.low.mono r.out.size)) (by rw[I.out.1,K]));clear I;go_wp2_with fail;go_ret2;exact H2.out
  .subst e5;have HS:=HSv.out be rs P wc B c (λk e=>aH r.out.size (n k e)) (r.out.trans (I.out.2.low.mono r.out.size)) (by rw[I.out.1,K]);clear I B n c;go_wp2_with fail;refine HS.mono ?_;rintro e w4 (⟨rfl,h4⟩|⟨u,rfl,h4,h5⟩)
   .clear HS;go_wp2_with fail;go_ret2;exact h4.out
   .clear HS
    by_cases hu:u=t
    .have H5:=hid (h5.out hu)
     have r1:(u==t)=true:=by simpa using hu
     have r2:(u !=t)=false:=by simpa using hu
     clear hu h4 h5;go_wp2_with fail;go_ret2;exact H5.out
    .have H5:=hid (h4.out hu)
     have r1:(u==t)=false:=by simpa using hu
     have r2:(u !=t)=true:=by simpa using hu
     clear hu h4 h5;go_wp2_with fail;go_ret2;exact H5.out
end Go.Proofs.YthfpipieboophaaGreatDoor
