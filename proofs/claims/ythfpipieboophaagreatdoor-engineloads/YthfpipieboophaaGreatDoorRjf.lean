import Derived.Test.YthfpipieboophaaGreatDoorZRjc
namespace Go.Proofs.YthfpipieboophaaGreatDoor
set_option maxRecDepth 100000
set_option maxHeartbeats 40000000
open Go.Proofs.Tryz Go.Joins Go.Shelf Go.RowKit
theorem jM{p:Prop}(h:p):Hid p:=h
theorem Qd{b:Nat}{v0 v1:Value}{x:RJ}(k t v:Int)(w:World)(h:dh w 0 b v0 v1 x)(hgd:au k t v=true)(gN:¬t<=x.m0)(p1: -1048576<=x.lo)(p2:x.lo<=1048576)(p3: -1048576<=x.hi)(p4:x.hi<=1048576)(hc: -1000000000<=x.came/\x.came<=1000000000)(hn0:x.R0.length<=300)(hn1:x.R1.length<=300):
  (x.m1<t+x.hi->x.R0.length<300->Calls prog 44 #[.pointer (some ⟨b,0,none⟩),.int .i64 0,.agg #[.int .i64 k,.int .i64 t,.int .i64 v]] w λe n=>∃(vx bA N:Value) (E:List Hl),e=.returned (.tuple #[vx,.int .i64 0])/\E.Perm x.R1/\E.Pairwise (λx y=>rY y x=false)/\n.ownsRow w.heap.size 95 10 vx (bU x.mode 0 k t v ((E.filter (eF k (t+x.lo) (t+x.hi))).map fE)).length ((bU x.mode 0 k t v ((E.filter (eF k (t+x.lo) (t+x.hi))).map fE)).flatMap aQ)/\dh n 0 b bA N { x with R1:=x.R1.map λh=>if eF k (t+x.lo) (t+x.hi) h=true then kN h else h,R0:=x.R0++[⟨k,t,v,(E.filter (eF k (t+x.lo) (t+x.hi))).length,x.came+1⟩],came:=x.came+1}/\Turned (λg=>g=b∨v1.ownBlock=some g) w n/\N=v1/\dF w v0 bA)/\(¬x.m1<t+x.hi->Calls prog 44 #[.pointer (some ⟨b,0,none⟩),.int .i64 0,.agg #[.int .i64 k,.int .i64 t,.int .i64 v]] w λe n=>∃(vx bA N:Value) (E:List Hl),e=.returned (.tuple #[vx,.int .i64 0])/\E.Perm x.R1/\E.Pairwise (λx y=>rY y x=false)/\n.ownsRow w.heap.size 95 10 vx (bU x.mode 0 k t v ((E.filter (eF k (t+x.lo) (t+x.hi))).map fE)).length ((bU x.mode 0 k t v ((E.filter (eF k (t+x.lo) (t+x.hi))).map fE)).flatMap aQ)/\dh n 0 b bA N { x with R1:=x.R1.map λh=>if eF k (t+x.lo) (t+x.hi) h=true then kN h else h}/\Turned (λg=>g=b∨v1.ownBlock=some g) w n/\N=v1/\dF w v0 bA):=by
 have hlt:=h.lt
 have hg:(-1099511627776<=t/\t<=1099511627776):=by
  simp[au,iG]at hgd;omega
 have hgl:=hg.1;have hgr:=hg.2
 have pW:∀W,Calls prog 52 #[.int .i64 0,.int .i64 0,.int .i64 1] W λe n=>e=.returned (.bool true)/\n=W:=λW=>bG 0 0 1 W
 have yU:∀W,Calls prog 40 #[.agg #[.int .i64 k,.int .i64 t,.int .i64 v]] W λe n=>e=.returned (.bool true)/\Below W.heap.size W n:=λW=>by rw[<-hgd];exact iA k t v W
 have HJ:=hid h;have s0:=aj h.r0;have s1:=aj h.r1;clear hgd h;obtain⟨Q,d0,rfl⟩:=s0;obtain⟨F,d1,rfl⟩:=s1;refine⟨λhh hfull=>?_,λhh=>?_⟩
 all_goals
 try have hfz:(x.R0.length:Int)<300:=by omega
 go_enter func44,ntmps44;go_wp2_with fail;refine(pW _).mono ?_;rintro e w2 ⟨rfl,rfl⟩;clear pW;go_wp2_with fail;refine(yU _).mono ?_;rintro e w2 ⟨rfl,hb2⟩;clear yU;have A2:Hid (Fa w b (.slice Q x.R0.length d0) (.slice F x.R1.length d1) x k t v w2):=⟨(fC w _).trans (hb2.mono (by simp)),(hb2.block _ (by simp)).trans (eZ _ _),HJ.out⟩;clear hb2;obtain⟨⟨c0,c1,c2,c3,c4,c5,c6,c7,c8,cf⟩,⟨r0,r1,r2⟩,l1,l2⟩:=A2.out.cells;clear cf;go_wp2_with fail;go_quiet (fail);have A3:Hid (Fa w b (.slice Q x.R0.length d0) (.slice F x.R1.length d1) x k t v (w2.drewN nq)):=A2.out.go (below_drewN (iL _ _) nq);revert A3;generalize w2.drewN nq=w3;intro A3;clear A2 c0 c1 c2 c3 c4 c5 c6 c7 c8 r0 r1 r2 l1 l2;obtain⟨⟨c0,c1,c2,c3,c4,c5,c6,c7,c8,cf⟩,⟨r0,r1,r2⟩,l1,l2⟩:=A3.out.cells;clear cf;have hmay:=uF b x.lo x.hi t w3 c0 c1 p1 p2 p3 p4 hgl hgr;go_wp2_with fail;refine hmay.mono ?_;rintro e w4 ⟨rfl,hb4⟩;have A4:Hid (Fa w b (.slice Q x.R0.length d0) (.slice F x.R1.length d1) x k t v w4):=A3.out.go hb4;clear hmay A3 c0 c1 c2 c3 c4 c5 c6 c7 c8 r0 r1 r2 l1 l2 hb4;obtain⟨⟨c0,c1,c2,c3,c4,c5,c6,c7,c8,cf⟩,⟨r0,r1,r2⟩,l1,l2⟩:=A4.out.cells;clear cf;obtain⟨fr,hfr⟩:∃fr,fr=t+x.lo:=⟨_,rfl⟩;obtain⟨av,CS⟩:∃av,av=t+x.hi:=⟨_,rfl⟩
 have L:Calls prog 66 #[.pointer (some ⟨b,0,none⟩),.int .i64 1] w4 λe n=>∃(v':Value) (ps:List Nat),e=.returned v'/\n.ownsRow w4.heap.size 3 1 v' x.R1.length (ps.map lS)/\ps.Perm (List.range x.R1.length)/\ps.Pairwise (λa c=>vQ x.R1.toArray c a=false)/\Below w4.heap.size w4 n:=mX (s:=1) x.R1 w4 (by omega) c4 (A4.out.at1.below A4.out.below).r1 (by omega)
 rw[<-hfr,<-CS];have HF:=hid hfr;have HT:=hid CS;rw[<-CS]at hh;clear hfr CS;go_wp2_with fail;refine L.mono ?_;rintro e G ⟨vp,ps,rfl,C,B,hsrt,hb5⟩
 have hpl:ps.length=x.R1.length:=by rw[B.length_eq,List.length_range]
 have A5:Hid (Fa w b (.slice Q x.R0.length d0) (.slice F x.R1.length d1) x k t v G):=A4.out.go hb5
 have L0:Hid (mD w G b (.slice Q x.R0.length d0) (.slice F x.R1.length d1) (Value.slice F x.R1.length d1).ownBlock x k t v vp ps [] (.slice none 0 0) G):=by
  have a5:=A5.out;have z:=(ax.1 a5.rb).1;have z4:=(ax.1 A4.out.rb).1;refine⟨a5.at1.below a5.below,Turned.of_below a5.below,by rw[hpl];exact World.ownsRow.mono C (by omega),a5.rb,iR _ _ _ _,⟨aC _,z⟩,a5.at1.lt,λg e=>(a5.at1.r0.lt g e).2,λg e=>(a5.at1.r1.lt g e).2,λg e=>(C.lt g e).2⟩
 have HP:Hid (ps.Perm (List.range x.R1.length)/\ps.Pairwise (λa c=>vQ x.R1.toArray c a=false)):=⟨B,hsrt⟩;have sp:=aj C;clear L A4 A5 hb5 B hsrt C c0 c1 c2 c3 c4 c5 c6 c7 c8 r0 r1 r2 l1 l2;obtain⟨qp,dp,rfl⟩:=sp;go_wp2;obtain⟨T,hT⟩:∃T,T=bf x.mode 1:=⟨_,rfl⟩;obtain⟨i0,hi0,hz0,hz1,hz2⟩:=je Ib;have Yf:=hid hT;clear hT
 go_loopg [12,13,75] x.R1.length (λgg v12 v13 v75 wr=>∃q:Nat,q<=x.R1.length/\gg=x.R1.length -q/\v75=.int .i64 q/\v13=.int .i64 (kP k fr av x.R1 ps q:Nat)/\Hid (mD w G b (.slice Q x.R0.length d0) (.slice F x.R1.length d1) (Value.slice F x.R1.length d1).ownBlock { x with R1:=jr k fr av (ps.take q) x.R1} k t v (.slice qp x.R1.length dp) ps (wX T 0 1 k t v fr av (aY x.R1 ps q)) v12 wr))
 case atStart=>exact⟨0,aW _,rfl,rfl,rfl,by show mD _ _ _ _ _ _ _ _ _ _ _ _ _ _ _;rw[List.take_zero,Fp];exact L0.out⟩
 case round=>
  obtain⟨q,hq,hgg,rfl,rfl,I⟩:=hrel;have HG:=hid hgg;clear hgg L0
  by_cases uD:q<x.R1.length
  .obtain⟨g,e1⟩:∃g,F=some ⟨g,0,none⟩:=by
    obtain⟨g,cg,e⟩:=gy HJ.out.r1 (by omega)
    injection e with e1
    exact⟨g,e1⟩
   obtain⟨gp,e2⟩:∃gp,qp=some ⟨gp,0,none⟩:=by
    obtain⟨g,cg,e⟩:=gy I.out.pl (by omega)
    injection e with e1
    exact⟨g,e1⟩
   subst e1 e2;obtain⟨i,hi⟩:∃i,ps[q]?=some i:=⟨_,aO (by omega)⟩
   have A:i<x.R1.length:=by
    have:=HP.out.1.mem_iff.1 (cZ hi);simpa using this
   obtain⟨j,Rp⟩:∃j,x.R1[i]?=some j:=⟨_,aO A⟩;have hnd:i∉ps.take q:=yR (HP.out.1.nodup_iff.2 List.nodup_range) q i hi;have hup:(jr k fr av (ps.take q) x.R1)[i]?=some j:=Fq k fr av _ _ i j Rp hnd;have htk:=qM hi;have Yg:=mY (R:=x.R1) hi Rp;have HK:Hid (ps.take (q+1)=ps.take q++[i]/\(aY x.R1 ps (q+1))=(aY x.R1 ps q)++[j]/\x.R1[i]?=some j/\(jr k fr av (ps.take q) x.R1)[i]?=some j):=⟨htk,Yg,Rp,hup⟩;have cc:=I.out.cells;have cp:=I.out.place hpl q i hi;have ch:=I.out.hcells1 (fA _ _ _ _ _) hup
   have j1:(0:Int)<=(i:Int):=by omega
   have j2:(i:Int)<(x.R1.length:Int):=by omega
   have j3:(q:Int)<(x.R1.length:Int):=by omega
   have j4:(0:Int)<=(q:Int):=by omega
   clear hi A Rp hnd hup htk Yg
   by_cases hk:j.k=k
   .cases A:iG fr av j.t
    .have H:Hid (eF k fr av j=false):=by show eF k fr av j=false;simp[eF,A]
     have uH:=λW=>bG j.t fr av W
     rw[A]at uH;have P:wr.cell? ⟨g,i*5,none⟩=some (.int .i64 k)/\wr.cell? ⟨g,i*5+1,none⟩=some (.int .i64 j.t)/\wr.cell? ⟨w.heap.size,0,none⟩=some (.int .i64 k):=⟨by rw[<-hk];exact ch.1.1,ch.1.2.1,cc.2.1.1⟩;have ZX:=hid hk;clear hk ch;go_wp2_with fail
     go_region_held3 (λW=>W.cell? ⟨g,i*5,none⟩=some (.int .i64 k)/\W.cell? ⟨g,i*5+1,none⟩=some (.int .i64 j.t)/\W.cell? ⟨w.heap.size,0,none⟩=some (.int .i64 k)) (exact P) (first|(go_at_call 52;refine(uH _).mono ?_;rintro e n ⟨rfl,rfl⟩)|fail)
     go_wp2
     go_roundg (x.R1.length -(q+1))
     case measure=>have:=HG.out;omega
     case rel=>
      have u:=HK.out;refine⟨q+1,by omega,rfl,by go_num,?_,?_⟩
      .rw[pQ u.2.1 H.out]
      .show mD _ _ _ _ _ _ _ _ _ _ _ _ _ _ _;rw[u.2.1,sD _ _ _ _ _ _ _ _ _ _ H.out,u.1,pO _ _ _ _ _ _ _ u.2.2.1 H.out];exact I.out.go (iL _ _).drew
    .have H:Hid (eF k fr av j=true):=by show eF k fr av j=true;simp[eF,A,hk]
     have uH:=λW=>bG j.t fr av W
     rw[A]at uH;obtain⟨X,hX⟩:∃X,X=(wX T 0 1 k t v fr av (aY x.R1 ps q)):=⟨_,rfl⟩;have HX:=hid hX
     have wL:X.length<=2000:=by
      rw[hX];have h1:=wY T 0 1 k t v fr av (aY x.R1 ps q);have h2:=kQ x.R1 ps q;omega
     have IX:Hid (mD w G b (.slice Q x.R0.length d0) (.slice (some ⟨g,0,none⟩) x.R1.length d1) (some g) { x with R1:=jr k fr av (ps.take q) x.R1} k t v (.slice (some ⟨gp,0,none⟩) x.R1.length dp) ps X u12 wr):=by rw[hX];exact I
     clear hX I;have P:wr.cell? ⟨g,i*5,none⟩=some (.int .i64 k)/\wr.cell? ⟨g,i*5+1,none⟩=some (.int .i64 j.t)/\wr.cell? ⟨w.heap.size,0,none⟩=some (.int .i64 k):=⟨by rw[<-hk];exact ch.1.1,ch.1.2.1,cc.2.1.1⟩;have ZX:=hid hk;clear hk ch;go_wp2_with fail
     go_region_held3 (λW=>W.cell? ⟨g,i*5,none⟩=some (.int .i64 k)/\W.cell? ⟨g,i*5+1,none⟩=some (.int .i64 j.t)/\W.cell? ⟨w.heap.size,0,none⟩=some (.int .i64 k)) (exact P) (first|(go_at_call 52;refine(uH _).mono ?_;rintro e n ⟨rfl,rfl⟩)|fail)
     have p:=jM (IX.out.go (iL _ _).drew);clear P cc cp uH IX;revert p;generalize wr.drew=r;intro p;have S:r.cell? ⟨b,2,none⟩=some (.int .i64 x.mode):=p.out.cells.1.1;have cr:=p.out.cells.2;have ch:=p.out.hcells1 (fA _ _ _ _ _) HK.out.2.2.2
     have l:Calls prog 94 #[.pointer (some ⟨b,0,none⟩),.int .i64 1] r λe n=>e=.returned (.bool T)/\Below r.heap.size r n:=by rw[Yf.out];exact pM b x.mode 1 r S (by omega)
     by_cases hm0:j.met=0
     case' pos=>
      have Yh:r.cell? ⟨g,i*5+3,none⟩=some (.int .i64 0):=by rw[<-hm0];exact ch.1.2.2.2
      have Yi:=ch.2;clear ch;cases T
      case' true=>
       have VC:Hid (dU true 0 1 k t v (fE j)=[(Ch.mk (bn 1 j.k j.t j.v) true)]++[(Ch.mk (bY 0 k t v j.k j.t j.v) false)]):=by
        show dU true 0 1 k t v (fE j)=_;unfold dU;rw[if_pos ⟨hm0,rfl⟩];rfl
       clear hm0;go_wp2_with fail;refine l.mono ?_;rintro e K ⟨rfl,M⟩;have Z:=jM (p.out.go M);clear l M p S cr Yh Yi;have S:K.cell? ⟨b,2,none⟩=some (.int .i64 x.mode):=Z.out.cells.1.1;have cr:=Z.out.cells.2;have ch:=Z.out.hcells1 (fA _ _ _ _ _) HK.out.2.2.2
       have kR:Calls prog 38 #[.int .i64 1,.agg #[.int .i64 j.k,.int .i64 j.t,.int .i64 j.v]] K λe n=>e=.returned (.agg #[.int .i64 j.k,.int .i64 0,.int .i64 0,.int .i64 0,.int .i64 j.k,.int .i64 j.t,.int .i64 j.v,.bool false,.bool true])/\Below K.heap.size K n:=vS 1 j.k j.t j.v (by omega) K
       go_wp2_with fail;refine kR.mono ?_;rintro e U ⟨rfl,Ep⟩;have I3:=jM (Z.out.go Ep);have I4:=jM (I3.out.go (fC U (qZ (Ch.mk (bn 1 j.k j.t j.v) true))));have N4:=jM (World.news_of_block (eZ U (qZ (Ch.mk (bn 1 j.k j.t j.v) true))));have z8:G.heap.size<=U.heap.size:=I3.out.sz.1;clear kR Ep Z I3 S cr ch
       go_wp2_with (first
        |(refine wpList_append_lies _ rfl _ _ _ rfl G.heap.size 95 i0 zC 10 72 underlying33 hi0 hz0 hz1 hz2 rfl (by omega) u12 X.length (X.flatMap aQ) rfl I4.out.ox ⟨U.heap.size,0,none⟩ 1 1 (aQ (Ch.mk (bn 1 j.k j.t j.v) true)) rfl rfl N4.out (gQ _) (by omega) (by unfold maxLen;omega) (by omega) (by simp;omega) _ rfl ?_;intro g9 IG r fQ dO qN qO;have o:=jM (I4.out.more dO fQ);clear fQ dO qN qO)
        |fail)
       obtain⟨Y,hY⟩:∃Y,Y=X++[(Ch.mk (bn 1 j.k j.t j.v) true)]:=⟨_,rfl⟩
       have VD:Y.length=X.length+1:=by rw[hY];simp
       rw[<-hY,<-VD]at o;rw[<-VD]
       have hYl:Y.length<=2001:=by omega
       clear VD;have HY:=jM hY;clear hY
      case' false=>
       have VC:Hid (dU false 0 1 k t v (fE j)=[]++[(Ch.mk (bY 0 k t v j.k j.t j.v) false)]):=by
        show dU false 0 1 k t v (fE j)=_;unfold dU;rw[if_neg (λe=>Bool.false_ne_true e.2)];rfl
       clear hm0;go_wp2_with fail;refine l.mono ?_;rintro e r ⟨rfl,M⟩;have o:=jM (p.out.go M);clear l M p S cr Yh Yi;go_wp2_with fail;obtain⟨Y,hY⟩:∃Y,Y=X++[]:=⟨_,rfl⟩
       have II:Y=X:=by simpa using hY
       rw[<-II]at o;have HY:=jM hY
       have hYl:Y.length<=2001:=by rw[II];omega
       clear hY II
     case' neg=>
      have VE:(j.met==0)=false:=by simp[hm0]
      have VC:Hid (dU T 0 1 k t v (fE j)=[]++[(Ch.mk (bY 0 k t v j.k j.t j.v) false)]):=by
       show dU T 0 1 k t v (fE j)=_;unfold dU;rw[if_neg (λe=>hm0 e.1)];rfl
      clear l S cr;have o:=p;clear p;go_wp2_with fail;clear hm0 VE ch;obtain⟨Y,hY⟩:∃Y,Y=X++[]:=⟨_,rfl⟩
      have II:Y=X:=by simpa using hY
      rw[<-II]at o;have HY:=jM hY
      have hYl:Y.length<=2001:=by rw[II];omega
      clear hY II
     all_goals
      have HC:Hid (∀V,Below r.heap.size r V->V.cell? ⟨w.heap.size,0,none⟩=some (.int .i64 k)/\V.cell? ⟨w.heap.size,1,none⟩=some (.int .i64 t)/\V.cell? ⟨w.heap.size,2,none⟩=some (.int .i64 v)/\V.cell? ⟨g,i*5,none⟩=some (.int .i64 j.k)/\V.cell? ⟨g,i*5+1,none⟩=some (.int .i64 j.t)/\V.cell? ⟨g,i*5+2,none⟩=some (.int .i64 j.v)):=λV hV=>by
       have c:=(o.out.go hV).cells.2.1;have d:=((o.out.go hV).hcells1 (fA _ _ _ _ _) HK.out.2.2.2).1;exact⟨c.1,c.2.1,c.2.2,d.1,d.2.1,d.2.2.1⟩
      have Fv:=λV=>oM k t v j.k j.t j.v V
      go_cut [17,155,156,157,158,159,160,161,162,163,164,165,166,167,168,169,170,171,172,173,174,175]from 76 (λWU VF VG VH VI VJ VK VL VM VN VO VP VQ VR VS VT VU VV VW VX VY VZ wc=>VF=undef/\VG=undef/\VH=undef/\VI=undef/\VJ=undef/\VK=undef/\VL=undef/\VM=undef/\VN=undef/\VO=undef/\VP=undef/\VQ=undef/\VR=undef/\VS=undef/\VT=undef/\VU=undef/\VV=undef/\VW=undef/\VX=undef/\VY=undef/\VZ=undef/\∃gx:Nat,WU=.pointer (some ⟨gx,0,none⟩)/\wc.heap[gx]?=some (.cells #[.int .i64 k,.int .i64 k,.int .i64 t,.int .i64 v,.int .i64 j.k,.int .i64 j.t,.int .i64 j.v,.bool true,.bool true] 89)/\r.heap.size<=gx/\Below r.heap.size r wc)
      case first=>
       have c6:=HC.out _ (iL _ _)
       go_region_held3 (λV=>V.cell? ⟨w.heap.size,0,none⟩=some (.int .i64 k)/\V.cell? ⟨w.heap.size,1,none⟩=some (.int .i64 t)/\V.cell? ⟨w.heap.size,2,none⟩=some (.int .i64 v)/\V.cell? ⟨g,i*5,none⟩=some (.int .i64 j.k)/\V.cell? ⟨g,i*5+1,none⟩=some (.int .i64 j.t)/\V.cell? ⟨g,i*5+2,none⟩=some (.int .i64 j.v)) ((refine HC.out _ ?_;repeat' (first|with_reducible exact iL _ _|with_reducible exact B11.out|with_reducible exact B11.out.size|with_reducible exact B8.out|with_reducible exact B8.out.size|(with_reducible refine Below.drew ?_)|(with_reducible refine Below.alloc ?_ ?_ _)|(with_reducible refine Below.setCell ?_ ?_ _)|(simp;done)|(simp;omega)))) (first
        |(go_at_call 39;refine(Fv _).mono ?_;rintro e IJ ⟨rfl,Qe⟩;have B8:Hid (Below r.heap.size r IJ):=Below.trans (by repeat' (first|with_reducible exact iL _ _|(with_reducible refine Below.drew ?_)|(with_reducible refine Below.alloc ?_ ?_ _)|(with_reducible refine Below.setCell ?_ ?_ _)|(simp;done)|(simp;omega))) (Qe.mono (by simp));try (have Yj:IJ.heap[r.heap.size]?=some (.cells #[.int .i64 0,.int .i64 0,.int .i64 0,.int .i64 0,.int .i64 0,.int .i64 0,.int .i64 0,.bool false,.bool false] 89):=(Qe.block r.heap.size (by simp)).trans (eZ _ _);have z9:=Bp Yj))
        |fail)
       all_goals (try go_wp2_with fail)
       all_goals go_meet
       all_goals
        refine⟨rfl,rfl,rfl,rfl,rfl,rfl,rfl,rfl,rfl,rfl,rfl,rfl,rfl,rfl,rfl,rfl,rfl,rfl,rfl,rfl,rfl,_,rfl,?_,?_,?_⟩
        .first
          |with_reducible exact eZ _ _
          |with_reducible exact yS Yj _ _ _ _ _ _ _ _ _
        .first|with_reducible exact B8.out.size|with_reducible exact aC _
        .repeat' (first|with_reducible exact B8.out|with_reducible exact B8.out.size|(with_reducible refine Below.drew ?_)|(with_reducible refine Below.alloc ?_ ?_ _)|(with_reducible refine Below.setCell ?_ ?_ _)|(simp;done)|(simp;omega))
      case rest=>
       obtain⟨rfl,rfl,rfl,rfl,rfl,rfl,rfl,rfl,rfl,rfl,rfl,rfl,rfl,rfl,rfl,rfl,rfl,rfl,rfl,rfl,rfl,gx,rfl,hgx,hgl,hbc⟩:=hcut;have Te:=jM (o.out.go hbc);have ZY:=CR (x:=(O.mk k k t v j.k j.t j.v true true)) hgx;have WZ:gx<wc.heap.size:=(ax.1 hgx).1;revert Te ZY WZ;clear HC Fv hbc o hgx hgl;generalize wc=Qf;intro Te ZY WZ;have I7:=jM (Te.out.go (fC Qf (qZ (Ch.mk (bY 0 k t v j.k j.t j.v) false))));have N7:=jM (World.news_of_block (eZ Qf (qZ (Ch.mk (bY 0 k t v j.k j.t j.v) false))));have z13:G.heap.size<=Qf.heap.size:=Te.out.sz.1
       have hmc:((kP k fr av x.R1 ps q:Nat):Int)<=1000:=by
        have h1:=wW k fr av x.R1 ps q;omega
       clear Te
       go_wp2_with (first
        |(refine wpList_append_lies _ rfl _ _ _ rfl G.heap.size 95 i0 zC 10 72 underlying33 hi0 hz0 hz1 hz2 rfl (by omega) _ Y.length (Y.flatMap aQ) rfl I7.out.ox ⟨Qf.heap.size,0,none⟩ 1 1 (aQ (Ch.mk (bY 0 k t v j.k j.t j.v) false)) rfl rfl N7.out (gQ _) (by omega) (by unfold maxLen;omega) (by omega) (by simp;omega) _ rfl ?_;intro g14 Yk w14 yV sF Qg Qh;have I8:=jM (I7.out.more sF yV);have ch8:=I8.out.hcells1 (fA _ _ _ _ _) HK.out.2.2.2;clear yV sF Qg Qh)
        |fail)
       have hIx:(jr k fr av (ps.take q) x.R1).length=x.R1.length:=fA _ _ _ _ _
       go_roundg (x.R1.length -(q+1))
       case measure=>have:=HG.out;omega
       case rel=>
        have u:=HK.out;refine⟨q+1,by omega,rfl,by go_num,?_,?_⟩
        .rw[Bn u.2.1 H.out];first|rfl|go_num|(congr 1;omega)
        .show mD _ _ _ _ _ _ _ _ _ _ _ _ _ _ _;rw[u.2.1,Fs _ _ _ _ _ _ _ _ _ _ H.out,u.1,Bl _ _ _ _ _ _ _ u.2.2.1 H.out,VC.out,<-HX.out];have I9:=I8.out;rw[<-hIx]at I9;have f:=mD.met1 (x:={ x with R1:=jr k fr av (ps.take q) x.R1}) (i:=i) (h:=j) (m:=wrap64 (j.met+1)) I9 u.2.2.2;rw[hIx]at f;simpa[kN,Value.ownBlock,HY.out]using f
   .have H:Hid (eF k fr av j=false):=by show eF k fr av j=false;simp[eF,hk]
    have P:wr.cell? ⟨g,i*5,none⟩=some (.int .i64 j.k)/\wr.cell? ⟨g,i*5+1,none⟩=some (.int .i64 j.t)/\wr.cell? ⟨w.heap.size,0,none⟩=some (.int .i64 k):=⟨ch.1.1,ch.1.2.1,cc.2.1.1⟩
    have hne1:(j.k==k)=false:=by simp[hk]
    have ZZ:(j.k !=k)=true:=by simp[hk]
    clear ch;go_wp2_with fail;go_quiet (fail);go_wp2
    go_roundg (x.R1.length -(q+1))
    case measure=>have:=HG.out;omega
    case rel=>
     have u:=HK.out;refine⟨q+1,by omega,rfl,by go_num,?_,?_⟩
     .rw[pQ u.2.1 H.out]
     .show mD _ _ _ _ _ _ _ _ _ _ _ _ _ _ _;rw[u.2.1,sD _ _ _ _ _ _ _ _ _ _ H.out,u.1,pO _ _ _ _ _ _ _ u.2.2.1 H.out];exact I.out.go (below_drewN (iL _ _) nq)
  .have e1:q=x.R1.length:=by omega
   subst e1
   have CU:bU x.mode 0 k t v (((aY x.R1 ps x.R1.length).filter (eF k fr av)).map fE)=if kP k fr av x.R1 ps x.R1.length=0 then(if bf x.mode 0=true then[(Ch.mk (bn 0 k t v) false)]else[])else(wX T 0 1 k t v fr av (aY x.R1 ps x.R1.length)):=Ka (T:=T) (s:=0) Yf.out
   have p:Hid (mD w G b (.slice Q x.R0.length d0) (.slice F x.R1.length d1) (Value.slice F x.R1.length d1).ownBlock { x with R1:=x.R1.map λh=>if eF k fr av h=true then kN h else h} k t v (.slice qp x.R1.length dp) ps (wX T 0 1 k t v fr av (aY x.R1 ps x.R1.length)) u12 wr):=by
    have:=I.out;rw[Bq HP.out.1]at this;exact this
   have wL:(wX T 0 1 k t v fr av (aY x.R1 ps x.R1.length)).length<=2000:=by
    have h1:=wY T 0 1 k t v fr av (aY x.R1 ps x.R1.length);have h2:=kQ x.R1 ps x.R1.length;omega
   have hml:((kP k fr av x.R1 ps x.R1.length:Nat):Int)<=1000:=by
    have h1:=wW k fr av x.R1 ps x.R1.length;omega
   clear I HG hq uD
   by_cases hz:kP k fr av x.R1 ps x.R1.length=0
   case' pos=>
    have hX0:(wX T 0 1 k t v fr av (aY x.R1 ps x.R1.length))=[]:=Fu (di hz);rw[hX0]at p;rw[if_pos hz]at CU
    have hzb:(((kP k fr av x.R1 ps x.R1.length:Nat):Int)==0)=true:=by rw[hz];rfl
    have Hz:=jM hz;clear hz hX0 wL;have S:wr.cell? ⟨b,2,none⟩=some (.int .i64 x.mode):=p.out.cells.1.1;obtain⟨T2,xV⟩:∃T2,T2=bf x.mode 0:=⟨_,rfl⟩
    have l:Calls prog 94 #[.pointer (some ⟨b,0,none⟩),.int .i64 0] wr λe n=>e=.returned (.bool T2)/\Below wr.heap.size wr n:=by rw[xV];exact pM b x.mode 0 wr S (by omega)
    rw[<-xV]at CU;cases T2
    case' true=>
     have HQ:=hid CU;clear CU xV;go_wp2_with fail;refine l.mono ?_;rintro e K ⟨rfl,M⟩;have Z:=jM (p.out.go M);clear l M p S hzb;have cr:=Z.out.cells.2
     have kR:Calls prog 38 #[.int .i64 0,.agg #[.int .i64 k,.int .i64 t,.int .i64 v]] K λe n=>e=.returned (.agg #[.int .i64 k,.int .i64 k,.int .i64 t,.int .i64 v,.int .i64 0,.int .i64 0,.int .i64 0,.bool true,.bool false])/\Below K.heap.size K n:=yP k t v K
     go_wp2_with fail;refine kR.mono ?_;rintro e U ⟨rfl,Ep⟩;have I3:=jM (Z.out.go Ep);have I4:=jM (I3.out.go (fC U (qZ (Ch.mk (bn 0 k t v) false))));have N4:=jM (World.news_of_block (eZ U (qZ (Ch.mk (bn 0 k t v) false))));have z8:G.heap.size<=U.heap.size:=I3.out.sz.1;clear kR Ep Z I3 cr
     go_wp2_with (first
      |(refine wpList_append_lies _ rfl _ _ _ rfl G.heap.size 95 i0 zC 10 72 underlying33 hi0 hz0 hz1 hz2 rfl (by omega) u12 0 [] rfl I4.out.ox ⟨U.heap.size,0,none⟩ 1 1 (aQ (Ch.mk (bn 0 k t v) false)) rfl rfl N4.out (gQ _) (by omega) (by unfold maxLen;omega) (by omega) (by simp;omega) _ rfl ?_;intro g9 IG r fQ dO qN qO;have o:=jM (I4.out.more dO fQ);have cr:=o.out.cells.2;clear fQ dO qN qO)
      |fail)
    case' false=>
     have HQ:=hid CU;clear CU xV;go_wp2_with fail;refine l.mono ?_;rintro e K ⟨rfl,M⟩;have o:=jM (p.out.go M);clear l M p S hzb
   case' neg=>
    rw[if_neg hz]at CU;have HQ:=hid CU
    have hzb:(((kP k fr av x.R1 ps x.R1.length:Nat):Int)==0)=false:=by simp;omega
    have o:=p;clear CU p hz
   all_goals
    first
     |(have _:=hfz;have hput:=(aav k t v (kP k fr av x.R1 ps x.R1.length:Nat) _ o.out.at1 hc).1 (by show x.R0.length<=1000;omega);have cr:=o.out.cells.2;(try go_wp2_with fail);refine hput.mono ?_;rintro e w20 ⟨rfl,v20,hJ,Qi,Qj⟩;have uI:=jM (Br (vs:=(.slice Q x.R0.length d0)) (vs':=v20) o.out Qi Qj);have IK:=jM hJ;clear hput hJ Qi Qj o;go_wp2;go_ret2;rw[<-HF.out,<-HT.out];refine⟨_,v20,(.slice F x.R1.length d1),(aY x.R1 ps x.R1.length),rfl,ko HP.out.1,gF HP.out.1 HP.out.2,?_,IK.out,uI.out.2.1,rfl,uI.out.2.2⟩;rw[HQ.out];exact uI.out.1)
     |(have uI:=jM (yT o.out);have IK:=jM o.out.at1;clear o;(try go_wp2);go_ret2;rw[<-HF.out,<-HT.out];refine⟨_,(.slice Q x.R0.length d0),(.slice F x.R1.length d1),(aY x.R1 ps x.R1.length),rfl,ko HP.out.1,gF HP.out.1 HP.out.2,?_,IK.out,uI.out.2,rfl,Or.inl rfl⟩;rw[HQ.out];exact uI.out.1)
end Go.Proofs.YthfpipieboophaaGreatDoor
