import Derived.Test.YthfpipieboophaaGreatDoorZRjc
namespace Go.Proofs.YthfpipieboophaaGreatDoor
set_option maxRecDepth 100000
set_option maxHeartbeats 40000000
open Go.Proofs.Tryz Go.Joins Go.Shelf Go.RowKit
theorem jv{p:Prop}(h:p):Hid p:=h
theorem Qk{b:Nat}{v0 v1:Value}{x:RJ}(k t v:Int)(w:World)(h:dh w 0 b v0 v1 x)(hgd:au k t v=true)(gN:¬t<=x.m1)(p1: -1048576<=x.lo)(p2:x.lo<=1048576)(p3: -1048576<=x.hi)(p4:x.hi<=1048576)(hc: -1000000000<=x.came/\x.came<=1000000000)(hn0:x.R0.length<=300)(hn1:x.R1.length<=300):
  (x.m0<t -x.lo->x.R1.length<300->Calls prog 44 #[.pointer (some ⟨b,0,none⟩),.int .i64 1,.agg #[.int .i64 k,.int .i64 t,.int .i64 v]] w λe o=>∃(vx bA P:Value) (E:List Hl),e=.returned (.tuple #[vx,.int .i64 0])/\E.Perm x.R0/\E.Pairwise (λx y=>rY y x=false)/\o.ownsRow w.heap.size 95 10 vx (bU x.mode 1 k t v ((E.filter (eF k (t -x.hi) (t -x.lo))).map fE)).length ((bU x.mode 1 k t v ((E.filter (eF k (t -x.hi) (t -x.lo))).map fE)).flatMap aQ)/\dh o 0 b bA P { x with R0:=x.R0.map λh=>if eF k (t -x.hi) (t -x.lo) h=true then kN h else h,R1:=x.R1++[⟨k,t,v,(E.filter (eF k (t -x.hi) (t -x.lo))).length,x.came+1⟩],came:=x.came+1}/\Turned (λg=>g=b∨v0.ownBlock=some g) w o/\bA=v0/\dF w v1 P)/\(¬x.m0<t -x.lo->Calls prog 44 #[.pointer (some ⟨b,0,none⟩),.int .i64 1,.agg #[.int .i64 k,.int .i64 t,.int .i64 v]] w λe o=>∃(vx bA P:Value) (E:List Hl),e=.returned (.tuple #[vx,.int .i64 0])/\E.Perm x.R0/\E.Pairwise (λx y=>rY y x=false)/\o.ownsRow w.heap.size 95 10 vx (bU x.mode 1 k t v ((E.filter (eF k (t -x.hi) (t -x.lo))).map fE)).length ((bU x.mode 1 k t v ((E.filter (eF k (t -x.hi) (t -x.lo))).map fE)).flatMap aQ)/\dh o 0 b bA P { x with R0:=x.R0.map λh=>if eF k (t -x.hi) (t -x.lo) h=true then kN h else h}/\Turned (λg=>g=b∨v0.ownBlock=some g) w o/\bA=v0/\dF w v1 P):=by
 have hlt:=h.lt
 have hg:(-1099511627776<=t/\t<=1099511627776):=by
  simp[au,iG]at hgd;omega
 have hgl:=hg.1;have hgr:=hg.2
 have pW:∀W,Calls prog 52 #[.int .i64 1,.int .i64 0,.int .i64 1] W λe o=>e=.returned (.bool true)/\o=W:=λW=>bG 1 0 1 W
 have yU:∀W,Calls prog 40 #[.agg #[.int .i64 k,.int .i64 t,.int .i64 v]] W λe o=>e=.returned (.bool true)/\Below W.heap.size W o:=λW=>by rw[<-hgd];exact iA k t v W
 have HJ:=hid h;have s0:=aj h.r0;have s1:=aj h.r1;clear hgd h;obtain⟨G,d0,rfl⟩:=s0;obtain⟨U,d1,rfl⟩:=s1;refine⟨λhh hfull=>?_,λhh=>?_⟩
 all_goals
 try have hfz:(x.R1.length:Int)<300:=by omega
 go_enter func44,ntmps44;go_wp2_with fail;refine(pW _).mono ?_;rintro e w2 ⟨rfl,rfl⟩;clear pW;go_wp2_with fail;refine(yU _).mono ?_;rintro e w2 ⟨rfl,hb2⟩;clear yU;have A2:Hid (Fa w b (.slice G x.R0.length d0) (.slice U x.R1.length d1) x k t v w2):=⟨(fC w _).trans (hb2.mono (by simp)),(hb2.block _ (by simp)).trans (eZ _ _),HJ.out⟩;clear hb2;obtain⟨⟨c0,c1,c2,c3,c4,c5,c6,c7,c8,cf⟩,⟨r0,r1,r2⟩,l1,l2⟩:=A2.out.cells;clear cf;go_wp2_with fail;go_quiet (fail);have A3:Hid (Fa w b (.slice G x.R0.length d0) (.slice U x.R1.length d1) x k t v (w2.drewN nq)):=A2.out.go (below_drewN (iL _ _) nq);revert A3;generalize w2.drewN nq=w3;intro A3;clear A2 c0 c1 c2 c3 c4 c5 c6 c7 c8 r0 r1 r2 l1 l2;obtain⟨⟨c0,c1,c2,c3,c4,c5,c6,c7,c8,cf⟩,⟨r0,r1,r2⟩,l1,l2⟩:=A3.out.cells;clear cf;have hmay:=qL b x.lo x.hi t w3 c0 c1 p1 p2 p3 p4 hgl hgr;go_wp2_with fail;refine hmay.mono ?_;rintro e w4 ⟨rfl,hb4⟩;have A4:Hid (Fa w b (.slice G x.R0.length d0) (.slice U x.R1.length d1) x k t v w4):=A3.out.go hb4;clear hmay A3 c0 c1 c2 c3 c4 c5 c6 c7 c8 r0 r1 r2 l1 l2 hb4;obtain⟨⟨c0,c1,c2,c3,c4,c5,c6,c7,c8,cf⟩,⟨r0,r1,r2⟩,l1,l2⟩:=A4.out.cells;clear cf;obtain⟨fr,hfr⟩:∃fr,fr=t -x.hi:=⟨_,rfl⟩;obtain⟨av,CS⟩:∃av,av=t -x.lo:=⟨_,rfl⟩
 have M:Calls prog 66 #[.pointer (some ⟨b,0,none⟩),.int .i64 0] w4 λe o=>∃(v':Value) (ps:List Nat),e=.returned v'/\o.ownsRow w4.heap.size 3 1 v' x.R0.length (ps.map lS)/\ps.Perm (List.range x.R0.length)/\ps.Pairwise (λa c=>vQ x.R0.toArray c a=false)/\Below w4.heap.size w4 o:=mX (s:=0) x.R0 w4 (by omega) c3 (A4.out.at1.below A4.out.below).r0 (by omega)
 rw[<-hfr,<-CS];have HF:=hid hfr;have HT:=hid CS;rw[<-CS]at hh;clear hfr CS;go_wp2_with fail;refine M.mono ?_;rintro e H ⟨vp,ps,rfl,F,C,hsrt,hb5⟩
 have hpl:ps.length=x.R0.length:=by rw[C.length_eq,List.length_range]
 have A5:Hid (Fa w b (.slice G x.R0.length d0) (.slice U x.R1.length d1) x k t v H):=A4.out.go hb5
 have L0:Hid (mD w H b (.slice G x.R0.length d0) (.slice U x.R1.length d1) (Value.slice G x.R0.length d0).ownBlock x k t v vp ps [] (.slice none 0 0) H):=by
  have a5:=A5.out;have z:=(ax.1 a5.rb).1;have z4:=(ax.1 A4.out.rb).1;refine⟨a5.at1.below a5.below,Turned.of_below a5.below,by rw[hpl];exact World.ownsRow.mono F (by omega),a5.rb,iR _ _ _ _,⟨aC _,z⟩,a5.at1.lt,λg e=>(a5.at1.r0.lt g e).2,λg e=>(a5.at1.r1.lt g e).2,λg e=>(F.lt g e).2⟩
 have HP:Hid (ps.Perm (List.range x.R0.length)/\ps.Pairwise (λa c=>vQ x.R0.toArray c a=false)):=⟨C,hsrt⟩;have sp:=aj F;clear M A4 A5 hb5 C hsrt F c0 c1 c2 c3 c4 c5 c6 c7 c8 r0 r1 r2 l1 l2;obtain⟨qp,dp,rfl⟩:=sp;go_wp2;obtain⟨T,hT⟩:∃T,T=bf x.mode 0:=⟨_,rfl⟩;obtain⟨i0,hi0,hz0,hz1,hz2⟩:=je Ib;have Yf:=hid hT;clear hT
 go_loopg [12,13,75] x.R0.length (λgg v12 v13 v75 wr=>∃q:Nat,q<=x.R0.length/\gg=x.R0.length -q/\v75=.int .i64 q/\v13=.int .i64 (kP k fr av x.R0 ps q:Nat)/\Hid (mD w H b (.slice G x.R0.length d0) (.slice U x.R1.length d1) (Value.slice G x.R0.length d0).ownBlock { x with R0:=jr k fr av (ps.take q) x.R0} k t v (.slice qp x.R0.length dp) ps (wX T 1 0 k t v fr av (aY x.R0 ps q)) v12 wr))
 case atStart=>exact⟨0,aW _,rfl,rfl,rfl,by show mD _ _ _ _ _ _ _ _ _ _ _ _ _ _ _;rw[List.take_zero,Fp];exact L0.out⟩
 case round=>
  obtain⟨q,hq,hgg,rfl,rfl,I⟩:=hrel;have HG:=hid hgg;clear hgg L0
  by_cases uD:q<x.R0.length
  .obtain⟨g,e1⟩:∃g,G=some ⟨g,0,none⟩:=by
    obtain⟨g,cg,e⟩:=gy HJ.out.r0 (by omega)
    injection e with e1
    exact⟨g,e1⟩
   obtain⟨gp,e2⟩:∃gp,qp=some ⟨gp,0,none⟩:=by
    obtain⟨g,cg,e⟩:=gy I.out.pl (by omega)
    injection e with e1
    exact⟨g,e1⟩
   subst e1 e2;obtain⟨i,hi⟩:∃i,ps[q]?=some i:=⟨_,aO (by omega)⟩
   have B:i<x.R0.length:=by
    have:=HP.out.1.mem_iff.1 (cZ hi);simpa using this
   obtain⟨j,Rp⟩:∃j,x.R0[i]?=some j:=⟨_,aO B⟩;have hnd:i∉ps.take q:=yR (HP.out.1.nodup_iff.2 List.nodup_range) q i hi;have hup:(jr k fr av (ps.take q) x.R0)[i]?=some j:=Fq k fr av _ _ i j Rp hnd;have htk:=qM hi;have Yg:=mY (R:=x.R0) hi Rp;have HK:Hid (ps.take (q+1)=ps.take q++[i]/\(aY x.R0 ps (q+1))=(aY x.R0 ps q)++[j]/\x.R0[i]?=some j/\(jr k fr av (ps.take q) x.R0)[i]?=some j):=⟨htk,Yg,Rp,hup⟩;have cc:=I.out.cells;have cp:=I.out.place hpl q i hi;have ch:=I.out.hcells0 (fA _ _ _ _ _) hup
   have j1:(0:Int)<=(i:Int):=by omega
   have j2:(i:Int)<(x.R0.length:Int):=by omega
   have j3:(q:Int)<(x.R0.length:Int):=by omega
   have j4:(0:Int)<=(q:Int):=by omega
   clear hi B Rp hnd hup htk Yg
   by_cases hk:j.k=k
   .cases B:iG fr av j.t
    .have K:Hid (eF k fr av j=false):=by show eF k fr av j=false;simp[eF,B]
     have uH:=λW=>bG j.t fr av W
     rw[B]at uH;have Q:wr.cell? ⟨g,i*5,none⟩=some (.int .i64 k)/\wr.cell? ⟨g,i*5+1,none⟩=some (.int .i64 j.t)/\wr.cell? ⟨w.heap.size,0,none⟩=some (.int .i64 k):=⟨by rw[<-hk];exact ch.1.1,ch.1.2.1,cc.2.1.1⟩;have ZX:=hid hk;clear hk ch;go_wp2_with fail
     go_region_held3 (λW=>W.cell? ⟨g,i*5,none⟩=some (.int .i64 k)/\W.cell? ⟨g,i*5+1,none⟩=some (.int .i64 j.t)/\W.cell? ⟨w.heap.size,0,none⟩=some (.int .i64 k)) (exact Q) (first|(go_at_call 52;refine(uH _).mono ?_;rintro e o ⟨rfl,rfl⟩)|fail)
     go_wp2
     go_roundg (x.R0.length -(q+1))
     case measure=>have:=HG.out;omega
     case rel=>
      have A:=HK.out;refine⟨q+1,by omega,rfl,by go_num,?_,?_⟩
      .rw[pQ A.2.1 K.out]
      .show mD _ _ _ _ _ _ _ _ _ _ _ _ _ _ _;rw[A.2.1,sD _ _ _ _ _ _ _ _ _ _ K.out,A.1,pO _ _ _ _ _ _ _ A.2.2.1 K.out];exact I.out.go (iL _ _).drew
    .have K:Hid (eF k fr av j=true):=by show eF k fr av j=true;simp[eF,B,hk]
     have uH:=λW=>bG j.t fr av W
     rw[B]at uH;obtain⟨X,hX⟩:∃X,X=(wX T 1 0 k t v fr av (aY x.R0 ps q)):=⟨_,rfl⟩;have HX:=hid hX
     have wL:X.length<=2000:=by
      rw[hX];have h1:=wY T 1 0 k t v fr av (aY x.R0 ps q);have h2:=kQ x.R0 ps q;omega
     have IX:Hid (mD w H b (.slice (some ⟨g,0,none⟩) x.R0.length d0) (.slice U x.R1.length d1) (some g) { x with R0:=jr k fr av (ps.take q) x.R0} k t v (.slice (some ⟨gp,0,none⟩) x.R0.length dp) ps X u12 wr):=by rw[hX];exact I
     clear hX I;have Q:wr.cell? ⟨g,i*5,none⟩=some (.int .i64 k)/\wr.cell? ⟨g,i*5+1,none⟩=some (.int .i64 j.t)/\wr.cell? ⟨w.heap.size,0,none⟩=some (.int .i64 k):=⟨by rw[<-hk];exact ch.1.1,ch.1.2.1,cc.2.1.1⟩;have ZX:=hid hk;clear hk ch;go_wp2_with fail
     go_region_held3 (λW=>W.cell? ⟨g,i*5,none⟩=some (.int .i64 k)/\W.cell? ⟨g,i*5+1,none⟩=some (.int .i64 j.t)/\W.cell? ⟨w.heap.size,0,none⟩=some (.int .i64 k)) (exact Q) (first|(go_at_call 52;refine(uH _).mono ?_;rintro e o ⟨rfl,rfl⟩)|fail)
     have u:=jv (IX.out.go (iL _ _).drew);clear Q cc cp uH IX;revert u;generalize wr.drew=p;intro u;have S:p.cell? ⟨b,2,none⟩=some (.int .i64 x.mode):=u.out.cells.1.1;have cr:=u.out.cells.2;have ch:=u.out.hcells0 (fA _ _ _ _ _) HK.out.2.2.2
     have l:Calls prog 94 #[.pointer (some ⟨b,0,none⟩),.int .i64 0] p λe o=>e=.returned (.bool T)/\Below p.heap.size p o:=by rw[Yf.out];exact pM b x.mode 0 p S (by omega)
     by_cases hm0:j.met=0
     case' pos=>
      have Yh:p.cell? ⟨g,i*5+3,none⟩=some (.int .i64 0):=by rw[<-hm0];exact ch.1.2.2.2
      have Yi:=ch.2;clear ch;cases T
      case' true=>
       have VC:Hid (dU true 1 0 k t v (fE j)=[(Ch.mk (bn 0 j.k j.t j.v) true)]++[(Ch.mk (bY 1 k t v j.k j.t j.v) false)]):=by
        show dU true 1 0 k t v (fE j)=_;unfold dU;rw[if_pos ⟨hm0,rfl⟩];rfl
       clear hm0;go_wp2_with fail;refine l.mono ?_;rintro e L ⟨rfl,N⟩;have I2:=jv (u.out.go N);clear l N u S cr Yh Yi;have S:L.cell? ⟨b,2,none⟩=some (.int .i64 x.mode):=I2.out.cells.1.1;have cr:=I2.out.cells.2;have ch:=I2.out.hcells0 (fA _ _ _ _ _) HK.out.2.2.2
       have kR:Calls prog 38 #[.int .i64 0,.agg #[.int .i64 j.k,.int .i64 j.t,.int .i64 j.v]] L λe o=>e=.returned (.agg #[.int .i64 j.k,.int .i64 j.k,.int .i64 j.t,.int .i64 j.v,.int .i64 0,.int .i64 0,.int .i64 0,.bool true,.bool false])/\Below L.heap.size L o:=yP j.k j.t j.v L
       go_wp2_with fail;refine kR.mono ?_;rintro e Z ⟨rfl,Ep⟩;have I3:=jv (I2.out.go Ep);have I4:=jv (I3.out.go (fC Z (qZ (Ch.mk (bn 0 j.k j.t j.v) true))));have N4:=jv (World.news_of_block (eZ Z (qZ (Ch.mk (bn 0 j.k j.t j.v) true))));have z8:H.heap.size<=Z.heap.size:=I3.out.sz.1;clear kR Ep I2 I3 S cr ch
       go_wp2_with (first
        |(refine wpList_append_lies _ rfl _ _ _ rfl H.heap.size 95 i0 zC 10 72 underlying33 hi0 hz0 hz1 hz2 rfl (by omega) u12 X.length (X.flatMap aQ) rfl I4.out.ox ⟨Z.heap.size,0,none⟩ 1 1 (aQ (Ch.mk (bn 0 j.k j.t j.v) true)) rfl rfl N4.out (gQ _) (by omega) (by unfold maxLen;omega) (by omega) (by simp;omega) _ rfl ?_;intro g9 IG p fQ dO qN qO;have r:=jv (I4.out.more dO fQ);clear fQ dO qN qO)
        |fail)
       obtain⟨Y,hY⟩:∃Y,Y=X++[(Ch.mk (bn 0 j.k j.t j.v) true)]:=⟨_,rfl⟩
       have VD:Y.length=X.length+1:=by rw[hY];simp
       rw[<-hY,<-VD]at r;rw[<-VD]
       have hYl:Y.length<=2001:=by omega
       clear VD;have HY:=jv hY;clear hY
      case' false=>
       have VC:Hid (dU false 1 0 k t v (fE j)=[]++[(Ch.mk (bY 1 k t v j.k j.t j.v) false)]):=by
        show dU false 1 0 k t v (fE j)=_;unfold dU;rw[if_neg (λe=>Bool.false_ne_true e.2)];rfl
       clear hm0;go_wp2_with fail;refine l.mono ?_;rintro e p ⟨rfl,N⟩;have r:=jv (u.out.go N);clear l N u S cr Yh Yi;go_wp2_with fail;obtain⟨Y,hY⟩:∃Y,Y=X++[]:=⟨_,rfl⟩
       have II:Y=X:=by simpa using hY
       rw[<-II]at r;have HY:=jv hY
       have hYl:Y.length<=2001:=by rw[II];omega
       clear hY II
     case' neg=>
      have VE:(j.met==0)=false:=by simp[hm0]
      have VC:Hid (dU T 1 0 k t v (fE j)=[]++[(Ch.mk (bY 1 k t v j.k j.t j.v) false)]):=by
       show dU T 1 0 k t v (fE j)=_;unfold dU;rw[if_neg (λe=>hm0 e.1)];rfl
      clear l S cr;have r:=u;clear u;go_wp2_with fail;clear hm0 VE ch;obtain⟨Y,hY⟩:∃Y,Y=X++[]:=⟨_,rfl⟩
      have II:Y=X:=by simpa using hY
      rw[<-II]at r;have HY:=jv hY
      have hYl:Y.length<=2001:=by rw[II];omega
      clear hY II
     all_goals
      have HC:Hid (∀V,Below p.heap.size p V->V.cell? ⟨w.heap.size,0,none⟩=some (.int .i64 k)/\V.cell? ⟨w.heap.size,1,none⟩=some (.int .i64 t)/\V.cell? ⟨w.heap.size,2,none⟩=some (.int .i64 v)/\V.cell? ⟨g,i*5,none⟩=some (.int .i64 j.k)/\V.cell? ⟨g,i*5+1,none⟩=some (.int .i64 j.t)/\V.cell? ⟨g,i*5+2,none⟩=some (.int .i64 j.v)):=λV hV=>by
       have c:=(r.out.go hV).cells.2.1;have d:=((r.out.go hV).hcells0 (fA _ _ _ _ _) HK.out.2.2.2).1;exact⟨c.1,c.2.1,c.2.2,d.1,d.2.1,d.2.2.1⟩
      have Fv:=λV=>oM k t v j.k j.t j.v V
      go_cut [17,155,156,157,158,159,160,161,162,163,164,165,166,167,168,169,170,171,172,173,174,175]from 76 (λWU VF VG VH VI VJ VK VL VM VN VO VP VQ VR VS VT VU VV VW VX VY VZ wc=>VF=undef/\VG=undef/\VH=undef/\VI=undef/\VJ=undef/\VK=undef/\VL=undef/\VM=undef/\VN=undef/\VO=undef/\VP=undef/\VQ=undef/\VR=undef/\VS=undef/\VT=undef/\VU=undef/\VV=undef/\VW=undef/\VX=undef/\VY=undef/\VZ=undef/\∃n:Nat,WU=.pointer (some ⟨n,0,none⟩)/\wc.heap[n]?=some (.cells #[.int .i64 k,.int .i64 k,.int .i64 t,.int .i64 v,.int .i64 j.k,.int .i64 j.t,.int .i64 j.v,.bool true,.bool true] 89)/\p.heap.size<=n/\Below p.heap.size p wc)
      case first=>
       have c6:=HC.out _ (iL _ _)
       go_region_held3 (λV=>V.cell? ⟨w.heap.size,0,none⟩=some (.int .i64 k)/\V.cell? ⟨w.heap.size,1,none⟩=some (.int .i64 t)/\V.cell? ⟨w.heap.size,2,none⟩=some (.int .i64 v)/\V.cell? ⟨g,i*5,none⟩=some (.int .i64 j.k)/\V.cell? ⟨g,i*5+1,none⟩=some (.int .i64 j.t)/\V.cell? ⟨g,i*5+2,none⟩=some (.int .i64 j.v)) ((refine HC.out _ ?_;repeat' (first|with_reducible exact iL _ _|with_reducible exact B11.out|with_reducible exact B11.out.size|with_reducible exact B8.out|with_reducible exact B8.out.size|(with_reducible refine Below.drew ?_)|(with_reducible refine Below.alloc ?_ ?_ _)|(with_reducible refine Below.setCell ?_ ?_ _)|(simp;done)|(simp;omega)))) (first
        |(go_at_call 39;refine(Fv _).mono ?_;rintro e IJ ⟨rfl,Qe⟩;have B8:Hid (Below p.heap.size p IJ):=Below.trans (by repeat' (first|with_reducible exact iL _ _|(with_reducible refine Below.drew ?_)|(with_reducible refine Below.alloc ?_ ?_ _)|(with_reducible refine Below.setCell ?_ ?_ _)|(simp;done)|(simp;omega))) (Qe.mono (by simp));try (have Yj:IJ.heap[p.heap.size]?=some (.cells #[.int .i64 0,.int .i64 0,.int .i64 0,.int .i64 0,.int .i64 0,.int .i64 0,.int .i64 0,.bool false,.bool false] 89):=(Qe.block p.heap.size (by simp)).trans (eZ _ _);have z9:=Bp Yj))
        |fail)
       all_goals (try go_wp2_with fail)
       all_goals go_meet
       all_goals
        refine⟨rfl,rfl,rfl,rfl,rfl,rfl,rfl,rfl,rfl,rfl,rfl,rfl,rfl,rfl,rfl,rfl,rfl,rfl,rfl,rfl,rfl,_,rfl,?_,?_,?_⟩
        .first
          |with_reducible exact eZ _ _
          |with_reducible exact yS Yj _ _ _ _ _ _ _ _ _
        .first|with_reducible exact B8.out.size|with_reducible exact aC _
        .repeat' (first|with_reducible exact B8.out|with_reducible exact B8.out.size|(with_reducible refine Below.drew ?_)|(with_reducible refine Below.alloc ?_ ?_ _)|(with_reducible refine Below.setCell ?_ ?_ _)|(simp;done)|(simp;omega))
      case rest=>
       obtain⟨rfl,rfl,rfl,rfl,rfl,rfl,rfl,rfl,rfl,rfl,rfl,rfl,rfl,rfl,rfl,rfl,rfl,rfl,rfl,rfl,rfl,n,rfl,hgx,hgl,hbc⟩:=hcut
       have Ql:=λV=>oM j.k j.t j.v k t v V
       have BC:=jv hbc;have WZ:n<wc.heap.size:=(ax.1 hgx).1;have c6:=HC.out _ BC.out;clear Fv;go_wp2_with fail
       go_region_held3 (λV=>V.cell? ⟨w.heap.size,0,none⟩=some (.int .i64 k)/\V.cell? ⟨w.heap.size,1,none⟩=some (.int .i64 t)/\V.cell? ⟨w.heap.size,2,none⟩=some (.int .i64 v)/\V.cell? ⟨g,i*5,none⟩=some (.int .i64 j.k)/\V.cell? ⟨g,i*5+1,none⟩=some (.int .i64 j.t)/\V.cell? ⟨g,i*5+2,none⟩=some (.int .i64 j.v)) ((refine HC.out _ ?_;repeat' (first|with_reducible exact iL _ _|with_reducible exact BC.out|with_reducible exact BC.out.size|with_reducible exact W9.out|with_reducible exact W9.out.size|with_reducible exact Y0.out|with_reducible exact Y0.out.size|(with_reducible refine Below.drew ?_)|(with_reducible refine Below.alloc ?_ ?_ _)|(with_reducible refine Below.setCell ?_ ?_ _)|(simp;done)|(simp;omega)))) (first
        |(go_at_call 39;refine(Ql _).mono ?_;rintro e Z0 ⟨rfl,Yl⟩;have Tf:=(Yl.block n (by simpa using WZ)).trans hgx;have z15:=CR (x:=(O.mk k k t v j.k j.t j.v true true)) Tf;have l15:n<Z0.heap.size:=(ax.1 Tf).1;have Y0:=jv (BC.out.drew.trans (Yl.mono BC.out.size)))
        |fail)
       have Qm:=yS Tf (.int .i64 j.k) (.int .i64 j.k) (.int .i64 j.t) (.int .i64 j.v) (.int .i64 k) (.int .i64 t) (.int .i64 v) (.bool true) (.bool true)
       have W9:Hid (Below p.heap.size p (((((((((Z0.setCell ⟨n,0,none⟩ (.int .i64 j.k)).setCell ⟨n,1,none⟩ (.int .i64 j.k)).setCell ⟨n,2,none⟩ (.int .i64 j.t)).setCell ⟨n,3,none⟩ (.int .i64 j.v)).setCell ⟨n,4,none⟩ (.int .i64 k)).setCell ⟨n,5,none⟩ (.int .i64 t)).setCell ⟨n,6,none⟩ (.int .i64 v)).setCell ⟨n,7,none⟩ (.bool true)).setCell ⟨n,8,none⟩ (.bool true))):=by
        show Below p.heap.size p _
        repeat' (first|with_reducible exact Y0.out|(with_reducible refine Below.setCell ?_ ?_ _)|(show p.heap.size<=n;exact hgl))
       revert Qm W9;clear Tf z15 l15 Y0 BC hgx WZ c6 Ql HC;generalize(((((((((Z0.setCell ⟨n,0,none⟩ (.int .i64 j.k)).setCell ⟨n,1,none⟩ (.int .i64 j.k)).setCell ⟨n,2,none⟩ (.int .i64 j.t)).setCell ⟨n,3,none⟩ (.int .i64 j.v)).setCell ⟨n,4,none⟩ (.int .i64 k)).setCell ⟨n,5,none⟩ (.int .i64 t)).setCell ⟨n,6,none⟩ (.int .i64 v)).setCell ⟨n,7,none⟩ (.bool true)).setCell ⟨n,8,none⟩ (.bool true))=Qf;intro Qm W9;have Te:=jv (r.out.go W9.out);have ZY:=CR (x:=(O.mk j.k j.k j.t j.v k t v true true)) Qm;have WZ:n<Qf.heap.size:=(ax.1 Qm).1;clear Qm W9 r;have I7:=jv (Te.out.go (fC Qf (qZ (Ch.mk (bY 1 k t v j.k j.t j.v) false))));have N7:=jv (World.news_of_block (eZ Qf (qZ (Ch.mk (bY 1 k t v j.k j.t j.v) false))));have z13:H.heap.size<=Qf.heap.size:=Te.out.sz.1
       have hmc:((kP k fr av x.R0 ps q:Nat):Int)<=1000:=by
        have h1:=wW k fr av x.R0 ps q;omega
       clear Te
       go_wp2_with (first
        |(refine wpList_append_lies _ rfl _ _ _ rfl H.heap.size 95 i0 zC 10 72 underlying33 hi0 hz0 hz1 hz2 rfl (by omega) _ Y.length (Y.flatMap aQ) rfl I7.out.ox ⟨Qf.heap.size,0,none⟩ 1 1 (aQ (Ch.mk (bY 1 k t v j.k j.t j.v) false)) rfl rfl N7.out (gQ _) (by omega) (by unfold maxLen;omega) (by omega) (by simp;omega) _ rfl ?_;intro g14 Yk w14 yV sF Qg Qh;have I8:=jv (I7.out.more sF yV);have ch8:=I8.out.hcells0 (fA _ _ _ _ _) HK.out.2.2.2;clear yV sF Qg Qh)
        |fail)
       have hIx:(jr k fr av (ps.take q) x.R0).length=x.R0.length:=fA _ _ _ _ _
       go_roundg (x.R0.length -(q+1))
       case measure=>have:=HG.out;omega
       case rel=>
        have A:=HK.out;refine⟨q+1,by omega,rfl,by go_num,?_,?_⟩
        .rw[Bn A.2.1 K.out];first|rfl|go_num|(congr 1;omega)
        .show mD _ _ _ _ _ _ _ _ _ _ _ _ _ _ _;rw[A.2.1,Fs _ _ _ _ _ _ _ _ _ _ K.out,A.1,Bl _ _ _ _ _ _ _ A.2.2.1 K.out,VC.out,<-HX.out];have I9:=I8.out;rw[<-hIx]at I9;have f:=mD.met0 (x:={ x with R0:=jr k fr av (ps.take q) x.R0}) (i:=i) (h:=j) (m:=wrap64 (j.met+1)) I9 A.2.2.2;rw[hIx]at f;simpa[kN,Value.ownBlock,HY.out]using f
   .have K:Hid (eF k fr av j=false):=by show eF k fr av j=false;simp[eF,hk]
    have Q:wr.cell? ⟨g,i*5,none⟩=some (.int .i64 j.k)/\wr.cell? ⟨g,i*5+1,none⟩=some (.int .i64 j.t)/\wr.cell? ⟨w.heap.size,0,none⟩=some (.int .i64 k):=⟨ch.1.1,ch.1.2.1,cc.2.1.1⟩
    have hne1:(j.k==k)=false:=by simp[hk]
    have ZZ:(j.k !=k)=true:=by simp[hk]
    clear ch;go_wp2_with fail;go_quiet (fail);go_wp2
    go_roundg (x.R0.length -(q+1))
    case measure=>have:=HG.out;omega
    case rel=>
     have A:=HK.out;refine⟨q+1,by omega,rfl,by go_num,?_,?_⟩
     .rw[pQ A.2.1 K.out]
     .show mD _ _ _ _ _ _ _ _ _ _ _ _ _ _ _;rw[A.2.1,sD _ _ _ _ _ _ _ _ _ _ K.out,A.1,pO _ _ _ _ _ _ _ A.2.2.1 K.out];exact I.out.go (below_drewN (iL _ _) nq)
  .have e1:q=x.R0.length:=by omega
   subst e1
   have CU:bU x.mode 1 k t v (((aY x.R0 ps x.R0.length).filter (eF k fr av)).map fE)=if kP k fr av x.R0 ps x.R0.length=0 then(if bf x.mode 1=true then[(Ch.mk (bn 1 k t v) false)]else[])else(wX T 1 0 k t v fr av (aY x.R0 ps x.R0.length)):=Ka (T:=T) (s:=1) Yf.out
   have u:Hid (mD w H b (.slice G x.R0.length d0) (.slice U x.R1.length d1) (Value.slice G x.R0.length d0).ownBlock { x with R0:=x.R0.map λh=>if eF k fr av h=true then kN h else h} k t v (.slice qp x.R0.length dp) ps (wX T 1 0 k t v fr av (aY x.R0 ps x.R0.length)) u12 wr):=by
    have:=I.out;rw[Bq HP.out.1]at this;exact this
   have wL:(wX T 1 0 k t v fr av (aY x.R0 ps x.R0.length)).length<=2000:=by
    have h1:=wY T 1 0 k t v fr av (aY x.R0 ps x.R0.length);have h2:=kQ x.R0 ps x.R0.length;omega
   have hml:((kP k fr av x.R0 ps x.R0.length:Nat):Int)<=1000:=by
    have h1:=wW k fr av x.R0 ps x.R0.length;omega
   clear I HG hq uD
   by_cases hz:kP k fr av x.R0 ps x.R0.length=0
   case' pos=>
    have hX0:(wX T 1 0 k t v fr av (aY x.R0 ps x.R0.length))=[]:=Fu (di hz);rw[hX0]at u;rw[if_pos hz]at CU
    have hzb:(((kP k fr av x.R0 ps x.R0.length:Nat):Int)==0)=true:=by rw[hz];rfl
    have Hz:=jv hz;clear hz hX0 wL;have S:wr.cell? ⟨b,2,none⟩=some (.int .i64 x.mode):=u.out.cells.1.1;obtain⟨T2,xV⟩:∃T2,T2=bf x.mode 1:=⟨_,rfl⟩
    have l:Calls prog 94 #[.pointer (some ⟨b,0,none⟩),.int .i64 1] wr λe o=>e=.returned (.bool T2)/\Below wr.heap.size wr o:=by rw[xV];exact pM b x.mode 1 wr S (by omega)
    rw[<-xV]at CU;cases T2
    case' true=>
     have HQ:=hid CU;clear CU xV;go_wp2_with fail;refine l.mono ?_;rintro e L ⟨rfl,N⟩;have I2:=jv (u.out.go N);clear l N u S hzb;have cr:=I2.out.cells.2
     have kR:Calls prog 38 #[.int .i64 1,.agg #[.int .i64 k,.int .i64 t,.int .i64 v]] L λe o=>e=.returned (.agg #[.int .i64 k,.int .i64 0,.int .i64 0,.int .i64 0,.int .i64 k,.int .i64 t,.int .i64 v,.bool false,.bool true])/\Below L.heap.size L o:=vS 1 k t v (by omega) L
     go_wp2_with fail;refine kR.mono ?_;rintro e Z ⟨rfl,Ep⟩;have I3:=jv (I2.out.go Ep);have I4:=jv (I3.out.go (fC Z (qZ (Ch.mk (bn 1 k t v) false))));have N4:=jv (World.news_of_block (eZ Z (qZ (Ch.mk (bn 1 k t v) false))));have z8:H.heap.size<=Z.heap.size:=I3.out.sz.1;clear kR Ep I2 I3 cr
     go_wp2_with (first
      |(refine wpList_append_lies _ rfl _ _ _ rfl H.heap.size 95 i0 zC 10 72 underlying33 hi0 hz0 hz1 hz2 rfl (by omega) u12 0 [] rfl I4.out.ox ⟨Z.heap.size,0,none⟩ 1 1 (aQ (Ch.mk (bn 1 k t v) false)) rfl rfl N4.out (gQ _) (by omega) (by unfold maxLen;omega) (by omega) (by simp;omega) _ rfl ?_;intro g9 IG p fQ dO qN qO;have r:=jv (I4.out.more dO fQ);have cr:=r.out.cells.2;clear fQ dO qN qO)
      |fail)
    case' false=>
     have HQ:=hid CU;clear CU xV;go_wp2_with fail;refine l.mono ?_;rintro e L ⟨rfl,N⟩;have r:=jv (u.out.go N);clear l N u S hzb
   case' neg=>
    rw[if_neg hz]at CU;have HQ:=hid CU
    have hzb:(((kP k fr av x.R0 ps x.R0.length:Nat):Int)==0)=false:=by simp;omega
    have r:=u;clear CU u hz
   all_goals
    first
     |(have _:=hfz;have hput:=(aav k t v (kP k fr av x.R0 ps x.R0.length:Nat) _ r.out.at1 hc).2 (by show x.R1.length<=1000;omega);have cr:=r.out.cells.2;(try go_wp2_with fail);refine hput.mono ?_;rintro e w20 ⟨rfl,v20,hJ,Qi,Qj⟩;have uI:=jv (Br (vs:=(.slice U x.R1.length d1)) (vs':=v20) r.out Qi Qj);have IK:=jv hJ;clear hput hJ Qi Qj r;go_wp2;go_ret2;rw[<-HF.out,<-HT.out];refine⟨_,(.slice G x.R0.length d0),v20,(aY x.R0 ps x.R0.length),rfl,ko HP.out.1,gF HP.out.1 HP.out.2,?_,IK.out,uI.out.2.1,rfl,uI.out.2.2⟩;rw[HQ.out];exact uI.out.1)
     |(have uI:=jv (yT r.out);have IK:=jv r.out.at1;clear r;(try go_wp2);go_ret2;rw[<-HF.out,<-HT.out];refine⟨_,(.slice G x.R0.length d0),(.slice U x.R1.length d1),(aY x.R0 ps x.R0.length),rfl,ko HP.out.1,gF HP.out.1 HP.out.2,?_,IK.out,uI.out.2,rfl,Or.inl rfl⟩;rw[HQ.out];exact uI.out.1)
end Go.Proofs.YthfpipieboophaaGreatDoor
