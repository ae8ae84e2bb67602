import Derived.Test.YthfpipieboophaaGreatDoorZbg
namespace Go.Proofs.YthfpipieboophaaGreatDoor
set_option maxRecDepth 100000
set_option maxHeartbeats 40000000
open Go.Proofs.Tryz Go.Joins Go.Shelf Go.RowKit
theorem jM {p:Prop} (h:p):Hid p:=h
theorem Qd {b:Nat} {v0 v1:Value} {x:RJ} (k t v:Int) (w:World) (h:dh w 0 b v0 v1 x) (hgd:au k t v=true) (gN:¬t<=x.m0) (p1: -1048576<=x.lo) (p2:x.lo<=1048576) (p3: -1048576<=x.hi) (p4:x.hi<=1048576) (hc: -1000000000<=x.came∧x.came<=1000000000) (hn0:x.R0.length<=300) (hn1:x.R1.length<=300):
  (x.m1 < t+x.hi->x.R0.length < 300->Calls prog 44 #[.pointer (some ⟨b,0,none⟩),.int .i64 0,.agg #[.int .i64 k,.int .i64 t,.int .i64 v]] w fun e w'=>∃(vx bA v1':Value) (E:List Hl),e= .returned (.tuple #[vx,.int .i64 0])∧E.Perm x.R1∧E.Pairwise (fun x y=>rY y x=false)∧w'.ownsRow w.heap.size 95 10 vx (bU x.mode 0 k t v ((E.filter (eF k (t+x.lo) (t+x.hi))).map fE)).length ((bU x.mode 0 k t v ((E.filter (eF k (t+x.lo) (t+x.hi))).map fE)).flatMap aQ)∧dh w' 0 b bA v1' { x with R1:=x.R1.map fun h=>if eF k (t+x.lo) (t+x.hi) h=true then kN h else h,R0:=x.R0++[⟨k,t,v,(E.filter (eF k (t+x.lo) (t+x.hi))).length,x.came+1⟩],came:=x.came+1}∧Turned (fun g=>g=b∨v1.ownBlock=some g) w w'∧v1'=v1∧dF w v0 bA)∧(¬x.m1 < t+x.hi->Calls prog 44 #[.pointer (some ⟨b,0,none⟩),.int .i64 0,.agg #[.int .i64 k,.int .i64 t,.int .i64 v]] w fun e w'=>∃(vx bA v1':Value) (E:List Hl),e= .returned (.tuple #[vx,.int .i64 0])∧E.Perm x.R1∧E.Pairwise (fun x y=>rY y x=false)∧w'.ownsRow w.heap.size 95 10 vx (bU x.mode 0 k t v ((E.filter (eF k (t+x.lo) (t+x.hi))).map fE)).length ((bU x.mode 0 k t v ((E.filter (eF k (t+x.lo) (t+x.hi))).map fE)).flatMap aQ)∧dh w' 0 b bA v1' { x with R1:=x.R1.map fun h=>if eF k (t+x.lo) (t+x.hi) h=true then kN h else h}∧Turned (fun g=>g=b∨v1.ownBlock=some g) w w'∧v1'=v1∧dF w v0 bA):=by
 have hlt:=h.lt
 have hg:(-1099511627776<=t∧t<=1099511627776):=by
  simp[au,iG] at hgd;omega
 have hgl:=hg.1;have hgr:=hg.2
 have pW:∀W,Calls prog 52 #[.int .i64 0,.int .i64 0,.int .i64 1] W fun e w'=>e= .returned (.bool true)∧w'=W:=fun W=>bG 0 0 1 W
 have yU:∀W,Calls prog 40 #[.agg #[.int .i64 k,.int .i64 t,.int .i64 v]] W fun e w'=>e= .returned (.bool true)∧Below W.heap.size W w':=fun W=>by rw[<-hgd];exact iA k t v W
 have HJ:=hid h;have s0:=aj h.r0;have s1:=aj h.r1;clear hgd h;obtain⟨q0,d0,rfl⟩:=s0;obtain⟨q1,d1,rfl⟩:=s1;refine⟨fun hh hfull=> ?_,fun hh=> ?_⟩
 all_goals
 try have hfz:(x.R0.length:Int) < 300:=by omega
 go_enter func44,ntmps44;go_wp2_with fail;refine(pW _).mono ?_;rintro e w2 ⟨rfl,rfl⟩;clear pW;go_wp2_with fail;refine(yU _).mono ?_;rintro e w2 ⟨rfl,hb2⟩;clear yU;have A2:Hid (Fa w b (.slice q0 x.R0.length d0) (.slice q1 x.R1.length d1) x k t v w2):=⟨(below_alloc1 w _).trans (hb2.mono (by simp)),(hb2.block _ (by simp)).trans (heap_alloc_new _ _),HJ.out⟩;clear hb2;obtain⟨⟨c0,c1,c2,c3,c4,c5,c6,c7,c8,cf⟩,⟨r0,r1,r2⟩,l1,l2⟩:=A2.out.cells;clear cf;go_wp2_with fail;go_quiet (fail);have A3:Hid (Fa w b (.slice q0 x.R0.length d0) (.slice q1 x.R1.length d1) x k t v (w2.drewN nq)):=A2.out.go (below_drewN (Below.refl _ _) nq);revert A3;generalize w2.drewN nq=w3;intro A3;clear A2 c0 c1 c2 c3 c4 c5 c6 c7 c8 r0 r1 r2 l1 l2;obtain⟨⟨c0,c1,c2,c3,c4,c5,c6,c7,c8,cf⟩,⟨r0,r1,r2⟩,l1,l2⟩:=A3.out.cells;clear cf;have hmay:=uF b x.lo x.hi t w3 c0 c1 p1 p2 p3 p4 hgl hgr;go_wp2_with fail;refine hmay.mono ?_;rintro e w4 ⟨rfl,hb4⟩;have A4:Hid (Fa w b (.slice q0 x.R0.length d0) (.slice q1 x.R1.length d1) x k t v w4):=A3.out.go hb4;clear hmay A3 c0 c1 c2 c3 c4 c5 c6 c7 c8 r0 r1 r2 l1 l2 hb4;obtain⟨⟨c0,c1,c2,c3,c4,c5,c6,c7,c8,cf⟩,⟨r0,r1,r2⟩,l1,l2⟩:=A4.out.cells;clear cf;obtain⟨fr,hfr⟩:∃fr,fr=t+x.lo:=⟨_,rfl⟩;obtain⟨av,CS⟩:∃av,av=t+x.hi:=⟨_,rfl⟩
 have hsort:Calls prog 66 #[.pointer (some ⟨b,0,none⟩),.int .i64 1] w4 fun e w'=>∃(v':Value) (ps:List Nat),e= .returned v'∧w'.ownsRow w4.heap.size 3 1 v' x.R1.length (ps.map lS)∧ps.Perm (List.range x.R1.length)∧ps.Pairwise (fun a c=>vQ x.R1.toArray c a=false)∧Below w4.heap.size w4 w':=mX (s:=1) x.R1 w4 (by omega) c4 (A4.out.at1.below A4.out.below).r1 (by omega)
 rw[<-hfr,<-CS];have HF:=hid hfr;have HT:=hid CS;rw[<-CS] at hh;clear hfr CS;go_wp2_with fail;refine hsort.mono ?_;rintro e w5 ⟨vp,ps,rfl,hown,hperm,hsrt,hb5⟩
 have hpl:ps.length=x.R1.length:=by rw[hperm.length_eq,List.length_range]
 have A5:Hid (Fa w b (.slice q0 x.R0.length d0) (.slice q1 x.R1.length d1) x k t v w5):=A4.out.go hb5
 have L0:Hid (mD w w5 b (.slice q0 x.R0.length d0) (.slice q1 x.R1.length d1) (Value.slice q1 x.R1.length d1).ownBlock x k t v vp ps [] (.slice none 0 0) w5):=by
  have a5:=A5.out;have z:=(Array.getElem?_eq_some_iff.1 a5.rb).1;have z4:=(Array.getElem?_eq_some_iff.1 A4.out.rb).1;refine⟨a5.at1.below a5.below,Turned.of_below a5.below,by rw[hpl];exact World.ownsRow.mono hown (by omega),a5.rb,World.ownsRow_nil _ _ _ _,⟨Nat.le_refl _,z⟩,a5.at1.lt,fun g e=>(a5.at1.r0.lt g e).2,fun g e=>(a5.at1.r1.lt g e).2,fun g e=>(hown.lt g e).2⟩
 have HP:Hid (ps.Perm (List.range x.R1.length)∧ps.Pairwise (fun a c=>vQ x.R1.toArray c a=false)):=⟨hperm,hsrt⟩;have sp:=aj hown;clear hsort A4 A5 hb5 hperm hsrt hown c0 c1 c2 c3 c4 c5 c6 c7 c8 r0 r1 r2 l1 l2;obtain⟨qp,dp,rfl⟩:=sp;go_wp2;obtain⟨T,hT⟩:∃T,T=bf x.mode 1:=⟨_,rfl⟩;obtain⟨i0,hi0,hz0,hz1,hz2⟩:=info_parts Ib;have Yf:=hid hT;clear hT
 go_loopg [12,13,75] x.R1.length (fun gg v12 v13 v75 wr=>∃q:Nat,q<=x.R1.length∧gg=x.R1.length -q∧v75= .int .i64 q∧v13= .int .i64 (kP k fr av x.R1 ps q:Nat)∧Hid (mD w w5 b (.slice q0 x.R0.length d0) (.slice q1 x.R1.length d1) (Value.slice q1 x.R1.length d1).ownBlock { x with R1:=jr k fr av (ps.take q) x.R1} k t v (.slice qp x.R1.length dp) ps (wX T 0 1 k t v fr av (aY x.R1 ps q)) v12 wr))
 case atStart=>exact⟨0,Nat.zero_le _,rfl,rfl,rfl,by show mD _ _ _ _ _ _ _ _ _ _ _ _ _ _ _;rw[List.take_zero,Fp];exact L0.out⟩
 case round=>
  obtain⟨q,hq,hgg,rfl,rfl,I⟩:=hrel;have HG:=hid hgg;clear hgg L0
  by_cases uD:q < x.R1.length
  ·obtain⟨g,e1⟩:∃g,q1=some ⟨g,0,none⟩:=by
    obtain⟨g,cg,e⟩:=ownsRow_form HJ.out.r1 (by omega)
    injection e with e1
    exact⟨g,e1⟩
   obtain⟨gp,e2⟩:∃gp,qp=some ⟨gp,0,none⟩:=by
    obtain⟨g,cg,e⟩:=ownsRow_form I.out.pl (by omega)
    injection e with e1
    exact⟨g,e1⟩
   subst e1 e2;obtain⟨i,hi⟩:∃i,ps[q]? =some i:=⟨_,List.getElem?_eq_getElem (by omega)⟩
   have hin:i < x.R1.length:=by
    have :=HP.out.1.mem_iff.1 (List.mem_of_getElem? hi);simpa using this
   obtain⟨hl,Rp⟩:∃hl,x.R1[i]? =some hl:=⟨_,List.getElem?_eq_getElem hin⟩;have hnd:i∉ps.take q:=yR (HP.out.1.nodup_iff.2 List.nodup_range) q i hi;have hup:(jr k fr av (ps.take q) x.R1)[i]? =some hl:=Fq k fr av _ _ i hl Rp hnd;have htk:=qM hi;have Yg:=mY (R:=x.R1) hi Rp;have HK:Hid (ps.take (q+1)=ps.take q++[i]∧(aY x.R1 ps (q+1))=(aY x.R1 ps q)++[hl]∧x.R1[i]? =some hl∧(jr k fr av (ps.take q) x.R1)[i]? =some hl):=⟨htk,Yg,Rp,hup⟩;have cc:=I.out.cells;have cp:=I.out.place hpl q i hi;have ch:=I.out.hcells1 (fA _ _ _ _ _) hup
   have j1:(0:Int)<=(i:Int):=by omega
   have j2:(i:Int) < (x.R1.length:Int):=by omega
   have j3:(q:Int) < (x.R1.length:Int):=by omega
   have j4:(0:Int)<=(q:Int):=by omega
   clear hi hin Rp hnd hup htk Yg
   by_cases hk:hl.k=k
   ·cases hin:iG fr av hl.t
    ·have HM:Hid (eF k fr av hl=false):=by show eF k fr av hl=false;simp[eF,hin]
     have uH:=fun W=>bG hl.t fr av W
     rw[hin] at uH;have k17:wr.cell? ⟨g,i * 5,none⟩=some (.int .i64 k)∧wr.cell? ⟨g,i * 5+1,none⟩=some (.int .i64 hl.t)∧wr.cell? ⟨w.heap.size,0,none⟩=some (.int .i64 k):=⟨by rw[<-hk];exact ch.1.1,ch.1.2.1,cc.2.1.1⟩;have ZX:=hid hk;clear hk ch;go_wp2_with fail
     go_region_held3 (fun W=>W.cell? ⟨g,i * 5,none⟩=some (.int .i64 k)∧W.cell? ⟨g,i * 5+1,none⟩=some (.int .i64 hl.t)∧W.cell? ⟨w.heap.size,0,none⟩=some (.int .i64 k)) (exact k17) (first | (go_at_call 52;refine(uH _).mono ?_;rintro e w' ⟨rfl,rfl⟩) | fail)
     go_wp2
     go_roundg (x.R1.length -(q+1))
     case measure=>have :=HG.out;omega
     case rel=>
      have hK:=HK.out;refine⟨q+1,by omega,rfl,by go_num,?_,?_⟩
      ·rw[pQ hK.2.1 HM.out]
      ·show mD _ _ _ _ _ _ _ _ _ _ _ _ _ _ _;rw[hK.2.1,sD _ _ _ _ _ _ _ _ _ _ HM.out,hK.1,pO _ _ _ _ _ _ _ hK.2.2.1 HM.out];exact I.out.go (Below.refl _ _).drew
    ·have HM:Hid (eF k fr av hl=true):=by show eF k fr av hl=true;simp[eF,hin,hk]
     have uH:=fun W=>bG hl.t fr av W
     rw[hin] at uH;obtain⟨X,hX⟩:∃X,X=(wX T 0 1 k t v fr av (aY x.R1 ps q)):=⟨_,rfl⟩;have HX:=hid hX
     have wL:X.length<=2000:=by
      rw[hX];have h1:=wY T 0 1 k t v fr av (aY x.R1 ps q);have h2:=kQ x.R1 ps q;omega
     have IX:Hid (mD w w5 b (.slice q0 x.R0.length d0) (.slice (some ⟨g,0,none⟩) x.R1.length d1) (some g) { x with R1:=jr k fr av (ps.take q) x.R1} k t v (.slice (some ⟨gp,0,none⟩) x.R1.length dp) ps X u12 wr):=by rw[hX];exact I
     clear hX I;have k17:wr.cell? ⟨g,i * 5,none⟩=some (.int .i64 k)∧wr.cell? ⟨g,i * 5+1,none⟩=some (.int .i64 hl.t)∧wr.cell? ⟨w.heap.size,0,none⟩=some (.int .i64 k):=⟨by rw[<-hk];exact ch.1.1,ch.1.2.1,cc.2.1.1⟩;have ZX:=hid hk;clear hk ch;go_wp2_with fail
     go_region_held3 (fun W=>W.cell? ⟨g,i * 5,none⟩=some (.int .i64 k)∧W.cell? ⟨g,i * 5+1,none⟩=some (.int .i64 hl.t)∧W.cell? ⟨w.heap.size,0,none⟩=some (.int .i64 k)) (exact k17) (first | (go_at_call 52;refine(uH _).mono ?_;rintro e w' ⟨rfl,rfl⟩) | fail)
     have I1:=jM (IX.out.go (Below.refl _ _).drew);clear k17 cc cp uH IX;revert I1;generalize wr.drew=w9;intro I1;have cm:w9.cell? ⟨b,2,none⟩=some (.int .i64 x.mode):=I1.out.cells.1.1;have cr:=I1.out.cells.2;have ch:=I1.out.hcells1 (fA _ _ _ _ _) HK.out.2.2.2
     have htold:Calls prog 94 #[.pointer (some ⟨b,0,none⟩),.int .i64 1] w9 fun e w'=>e= .returned (.bool T)∧Below w9.heap.size w9 w':=by rw[Yf.out];exact pM b x.mode 1 w9 cm (by omega)
     by_cases hm0:hl.met=0
     case' pos=>
      have Yh:w9.cell? ⟨g,i * 5+3,none⟩=some (.int .i64 0):=by rw[<-hm0];exact ch.1.2.2.2
      have Yi:=ch.2;clear ch;cases T
      case' true=>
       have VC:Hid (dU true 0 1 k t v (fE hl)=[(Ch.mk (bn 1 hl.k hl.t hl.v) true)]++[(Ch.mk (bY 0 k t v hl.k hl.t hl.v) false)]):=by
        show dU true 0 1 k t v (fE hl)=_;unfold dU;rw[if_pos ⟨hm0,rfl⟩];rfl
       clear hm0;go_wp2_with fail;refine htold.mono ?_;rintro e w7 ⟨rfl,qh⟩;have I2:=jM (I1.out.go qh);clear htold qh I1 cm cr Yh Yi;have cm:w7.cell? ⟨b,2,none⟩=some (.int .i64 x.mode):=I2.out.cells.1.1;have cr:=I2.out.cells.2;have ch:=I2.out.hcells1 (fA _ _ _ _ _) HK.out.2.2.2
       have kR:Calls prog 38 #[.int .i64 1,.agg #[.int .i64 hl.k,.int .i64 hl.t,.int .i64 hl.v]] w7 fun e w'=>e= .returned (.agg #[.int .i64 hl.k,.int .i64 0,.int .i64 0,.int .i64 0,.int .i64 hl.k,.int .i64 hl.t,.int .i64 hl.v,.bool false,.bool true])∧Below w7.heap.size w7 w':=vS 1 hl.k hl.t hl.v (by omega) w7
       go_wp2_with fail;refine kR.mono ?_;rintro e w8 ⟨rfl,Ep⟩;have I3:=jM (I2.out.go Ep);have I4:=jM (I3.out.go (below_alloc1 w8 (qZ (Ch.mk (bn 1 hl.k hl.t hl.v) true))));have N4:=jM (World.news_of_block (heap_alloc_new w8 (qZ (Ch.mk (bn 1 hl.k hl.t hl.v) true))));have z8:w5.heap.size<=w8.heap.size:=I3.out.sz.1;clear kR Ep I2 I3 cm cr ch
       go_wp2_with (first
        | (refine wpList_append_lies _ rfl _ _ _ rfl w5.heap.size 95 i0 zC 10 72 underlying33 hi0 hz0 hz1 hz2 rfl (by omega) u12 X.length (X.flatMap aQ) rfl I4.out.ox ⟨w8.heap.size,0,none⟩ 1 1 (aQ (Ch.mk (bn 1 hl.k hl.t hl.v) true)) rfl rfl N4.out (gQ _) (by omega) (by unfold maxLen;omega) (by omega) (by simp;omega) _ rfl ?_;intro g9 IG w9 fQ dO qN qO;have I5:=jM (I4.out.more dO fQ);clear fQ dO qN qO)
        | fail)
       obtain⟨Y,hY⟩:∃Y,Y=X++[(Ch.mk (bn 1 hl.k hl.t hl.v) true)]:=⟨_,rfl⟩
       have VD:Y.length=X.length+1:=by rw[hY];simp
       rw[<-hY,<-VD] at I5;rw[<-VD]
       have hYl:Y.length<=2001:=by omega
       clear VD;have HY:=jM hY;clear hY
      case' false=>
       have VC:Hid (dU false 0 1 k t v (fE hl)=[]++[(Ch.mk (bY 0 k t v hl.k hl.t hl.v) false)]):=by
        show dU false 0 1 k t v (fE hl)=_;unfold dU;rw[if_neg (fun e=>Bool.false_ne_true e.2)];rfl
       clear hm0;go_wp2_with fail;refine htold.mono ?_;rintro e w9 ⟨rfl,qh⟩;have I5:=jM (I1.out.go qh);clear htold qh I1 cm cr Yh Yi;go_wp2_with fail;obtain⟨Y,hY⟩:∃Y,Y=X++[]:=⟨_,rfl⟩
       have II:Y=X:=by simpa using hY
       rw[<-II] at I5;have HY:=jM hY
       have hYl:Y.length<=2001:=by rw[II];omega
       clear hY II
     case' neg=>
      have VE:(hl.met==0)=false:=by simp[hm0]
      have VC:Hid (dU T 0 1 k t v (fE hl)=[]++[(Ch.mk (bY 0 k t v hl.k hl.t hl.v) false)]):=by
       show dU T 0 1 k t v (fE hl)=_;unfold dU;rw[if_neg (fun e=>hm0 e.1)];rfl
      clear htold cm cr;have I5:=I1;clear I1;go_wp2_with fail;clear hm0 VE ch;obtain⟨Y,hY⟩:∃Y,Y=X++[]:=⟨_,rfl⟩
      have II:Y=X:=by simpa using hY
      rw[<-II] at I5;have HY:=jM hY
      have hYl:Y.length<=2001:=by rw[II];omega
      clear hY II
     all_goals
      have HC:Hid (∀V,Below w9.heap.size w9 V->V.cell? ⟨w.heap.size,0,none⟩=some (.int .i64 k)∧V.cell? ⟨w.heap.size,1,none⟩=some (.int .i64 t)∧V.cell? ⟨w.heap.size,2,none⟩=some (.int .i64 v)∧V.cell? ⟨g,i * 5,none⟩=some (.int .i64 hl.k)∧V.cell? ⟨g,i * 5+1,none⟩=some (.int .i64 hl.t)∧V.cell? ⟨g,i * 5+2,none⟩=some (.int .i64 hl.v)):=fun V hV=>by
       have c:=(I5.out.go hV).cells.2.1;have d:=((I5.out.go hV).hcells1 (fA _ _ _ _ _) HK.out.2.2.2).1;exact⟨c.1,c.2.1,c.2.2,d.1,d.2.1,d.2.2.1⟩
      have Fv:=fun V=>oM k t v hl.k hl.t hl.v V
      go_cut [17,155,156,157,158,159,160,161,162,163,164,165,166,167,168,169,170,171,172,173,174,175] from 76 (fun WU VF VG VH VI VJ VK VL VM VN VO VP VQ VR VS VT VU VV VW VX VY VZ wc=>VF=undef∧VG=undef∧VH=undef∧VI=undef∧VJ=undef∧VK=undef∧VL=undef∧VM=undef∧VN=undef∧VO=undef∧VP=undef∧VQ=undef∧VR=undef∧VS=undef∧VT=undef∧VU=undef∧VV=undef∧VW=undef∧VX=undef∧VY=undef∧VZ=undef∧∃gx:Nat,WU= .pointer (some ⟨gx,0,none⟩)∧wc.heap[gx]? =some (.cells #[.int .i64 k,.int .i64 k,.int .i64 t,.int .i64 v,.int .i64 hl.k,.int .i64 hl.t,.int .i64 hl.v,.bool true,.bool true] 89)∧w9.heap.size<=gx∧Below w9.heap.size w9 wc)
      case first=>
       have c6:=HC.out _ (Below.refl _ _)
       go_region_held3 (fun V=>V.cell? ⟨w.heap.size,0,none⟩=some (.int .i64 k)∧V.cell? ⟨w.heap.size,1,none⟩=some (.int .i64 t)∧V.cell? ⟨w.heap.size,2,none⟩=some (.int .i64 v)∧V.cell? ⟨g,i * 5,none⟩=some (.int .i64 hl.k)∧V.cell? ⟨g,i * 5+1,none⟩=some (.int .i64 hl.t)∧V.cell? ⟨g,i * 5+2,none⟩=some (.int .i64 hl.v)) ((refine HC.out _ ?_;repeat' (first | with_reducible exact Below.refl _ _ | with_reducible exact B11.out | with_reducible exact B11.out.size | with_reducible exact B8.out | with_reducible exact B8.out.size | (with_reducible refine Below.drew ?_) | (with_reducible refine Below.alloc ?_ ?_ _) | (with_reducible refine Below.setCell ?_ ?_ _) | (simp;done) | (simp;omega)))) (first
        | (go_at_call 39;refine(Fv _).mono ?_;rintro e IJ ⟨rfl,Qe⟩;have B8:Hid (Below w9.heap.size w9 IJ):=Below.trans (by repeat' (first | with_reducible exact Below.refl _ _ | (with_reducible refine Below.drew ?_) | (with_reducible refine Below.alloc ?_ ?_ _) | (with_reducible refine Below.setCell ?_ ?_ _) | (simp;done) | (simp;omega))) (Qe.mono (by simp));try (have Yj:IJ.heap[w9.heap.size]? =some (.cells #[.int .i64 0,.int .i64 0,.int .i64 0,.int .i64 0,.int .i64 0,.int .i64 0,.int .i64 0,.bool false,.bool false] 89):=(Qe.block w9.heap.size (by simp)).trans (heap_alloc_new _ _);have z9:=Bp Yj))
        | fail)
       all_goals (try go_wp2_with fail)
       all_goals go_meet
       all_goals
        refine⟨rfl,rfl,rfl,rfl,rfl,rfl,rfl,rfl,rfl,rfl,rfl,rfl,rfl,rfl,rfl,rfl,rfl,rfl,rfl,rfl,rfl,_,rfl,?_,?_,?_⟩
        ·first
          | with_reducible exact heap_alloc_new _ _
          | with_reducible exact yS Yj _ _ _ _ _ _ _ _ _
        ·first | with_reducible exact B8.out.size | with_reducible exact Nat.le_refl _
        ·repeat' (first | with_reducible exact B8.out | with_reducible exact B8.out.size | (with_reducible refine Below.drew ?_) | (with_reducible refine Below.alloc ?_ ?_ _) | (with_reducible refine Below.setCell ?_ ?_ _) | (simp;done) | (simp;omega))
      case rest=>
       obtain⟨rfl,rfl,rfl,rfl,rfl,rfl,rfl,rfl,rfl,rfl,rfl,rfl,rfl,rfl,rfl,rfl,rfl,rfl,rfl,rfl,rfl,gx,rfl,hgx,hgl,hbc⟩:=hcut;have Te:=jM (I5.out.go hbc);have ZY:=CR (x:=(O.mk k k t v hl.k hl.t hl.v true true)) hgx;have WZ:gx < wc.heap.size:=(Array.getElem?_eq_some_iff.1 hgx).1;revert Te ZY WZ;clear HC Fv hbc I5 hgx hgl;generalize wc=Qf;intro Te ZY WZ;have I7:=jM (Te.out.go (below_alloc1 Qf (qZ (Ch.mk (bY 0 k t v hl.k hl.t hl.v) false))));have N7:=jM (World.news_of_block (heap_alloc_new Qf (qZ (Ch.mk (bY 0 k t v hl.k hl.t hl.v) false))));have z13:w5.heap.size<=Qf.heap.size:=Te.out.sz.1
       have hmc:((kP k fr av x.R1 ps q:Nat):Int)<=1000:=by
        have h1:=wW k fr av x.R1 ps q;omega
       clear Te
       go_wp2_with (first
        | (refine wpList_append_lies _ rfl _ _ _ rfl w5.heap.size 95 i0 zC 10 72 underlying33 hi0 hz0 hz1 hz2 rfl (by omega) _ Y.length (Y.flatMap aQ) rfl I7.out.ox ⟨Qf.heap.size,0,none⟩ 1 1 (aQ (Ch.mk (bY 0 k t v hl.k hl.t hl.v) false)) rfl rfl N7.out (gQ _) (by omega) (by unfold maxLen;omega) (by omega) (by simp;omega) _ rfl ?_;intro g14 Yk w14 yV sF Qg Qh;have I8:=jM (I7.out.more sF yV);have ch8:=I8.out.hcells1 (fA _ _ _ _ _) HK.out.2.2.2;clear yV sF Qg Qh)
        | fail)
       have hIx:(jr k fr av (ps.take q) x.R1).length=x.R1.length:=fA _ _ _ _ _
       go_roundg (x.R1.length -(q+1))
       case measure=>have :=HG.out;omega
       case rel=>
        have hK:=HK.out;refine⟨q+1,by omega,rfl,by go_num,?_,?_⟩
        ·rw[Bn hK.2.1 HM.out];first | rfl | go_num | (congr 1;omega)
        ·show mD _ _ _ _ _ _ _ _ _ _ _ _ _ _ _;rw[hK.2.1,Fs _ _ _ _ _ _ _ _ _ _ HM.out,hK.1,Bl _ _ _ _ _ _ _ hK.2.2.1 HM.out,VC.out,<-HX.out];have I9:=I8.out;rw[<-hIx] at I9;have f:=mD.met1 (x:={ x with R1:=jr k fr av (ps.take q) x.R1}) (i:=i) (h:=hl) (m:=wrap64 (hl.met+1)) I9 hK.2.2.2;rw[hIx] at f;simpa[kN,Value.ownBlock,HY.out] using f
   ·have HM:Hid (eF k fr av hl=false):=by show eF k fr av hl=false;simp[eF,hk]
    have k17:wr.cell? ⟨g,i * 5,none⟩=some (.int .i64 hl.k)∧wr.cell? ⟨g,i * 5+1,none⟩=some (.int .i64 hl.t)∧wr.cell? ⟨w.heap.size,0,none⟩=some (.int .i64 k):=⟨ch.1.1,ch.1.2.1,cc.2.1.1⟩
    have hne1:(hl.k==k)=false:=by simp[hk]
    have ZZ:(hl.k !=k)=true:=by simp[hk]
    clear ch;go_wp2_with fail;go_quiet (fail);go_wp2
    go_roundg (x.R1.length -(q+1))
    case measure=>have :=HG.out;omega
    case rel=>
     have hK:=HK.out;refine⟨q+1,by omega,rfl,by go_num,?_,?_⟩
     ·rw[pQ hK.2.1 HM.out]
     ·show mD _ _ _ _ _ _ _ _ _ _ _ _ _ _ _;rw[hK.2.1,sD _ _ _ _ _ _ _ _ _ _ HM.out,hK.1,pO _ _ _ _ _ _ _ hK.2.2.1 HM.out];exact I.out.go (below_drewN (Below.refl _ _) nq)
  ·have e1:q=x.R1.length:=by omega
   subst e1
   have CU:bU x.mode 0 k t v (((aY x.R1 ps x.R1.length).filter (eF k fr av)).map fE)=if kP k fr av x.R1 ps x.R1.length=0 then(if bf x.mode 0=true then[(Ch.mk (bn 0 k t v) false)] else[]) else(wX T 0 1 k t v fr av (aY x.R1 ps x.R1.length)):=Ka (T:=T) (s:=0) Yf.out
   have I1:Hid (mD w w5 b (.slice q0 x.R0.length d0) (.slice q1 x.R1.length d1) (Value.slice q1 x.R1.length d1).ownBlock { x with R1:=x.R1.map fun h=>if eF k fr av h=true then kN h else h} k t v (.slice qp x.R1.length dp) ps (wX T 0 1 k t v fr av (aY x.R1 ps x.R1.length)) u12 wr):=by
    have :=I.out;rw[Bq HP.out.1] at this;exact this
   have wL:(wX T 0 1 k t v fr av (aY x.R1 ps x.R1.length)).length<=2000:=by
    have h1:=wY T 0 1 k t v fr av (aY x.R1 ps x.R1.length);have h2:=kQ x.R1 ps x.R1.length;omega
   have hml:((kP k fr av x.R1 ps x.R1.length:Nat):Int)<=1000:=by
    have h1:=wW k fr av x.R1 ps x.R1.length;omega
   clear I HG hq uD
   by_cases hz:kP k fr av x.R1 ps x.R1.length=0
   case' pos=>
    have hX0:(wX T 0 1 k t v fr av (aY x.R1 ps x.R1.length))=[]:=Fu (List.eq_nil_of_length_eq_zero hz);rw[hX0] at I1;rw[if_pos hz] at CU
    have hzb:(((kP k fr av x.R1 ps x.R1.length:Nat):Int)==0)=true:=by rw[hz];rfl
    have Hz:=jM hz;clear hz hX0 wL;have cm:wr.cell? ⟨b,2,none⟩=some (.int .i64 x.mode):=I1.out.cells.1.1;obtain⟨T2,xV⟩:∃T2,T2=bf x.mode 0:=⟨_,rfl⟩
    have htold:Calls prog 94 #[.pointer (some ⟨b,0,none⟩),.int .i64 0] wr fun e w'=>e= .returned (.bool T2)∧Below wr.heap.size wr w':=by rw[xV];exact pM b x.mode 0 wr cm (by omega)
    rw[<-xV] at CU;cases T2
    case' true=>
     have HQ:=hid CU;clear CU xV;go_wp2_with fail;refine htold.mono ?_;rintro e w7 ⟨rfl,qh⟩;have I2:=jM (I1.out.go qh);clear htold qh I1 cm hzb;have cr:=I2.out.cells.2
     have kR:Calls prog 38 #[.int .i64 0,.agg #[.int .i64 k,.int .i64 t,.int .i64 v]] w7 fun e w'=>e= .returned (.agg #[.int .i64 k,.int .i64 k,.int .i64 t,.int .i64 v,.int .i64 0,.int .i64 0,.int .i64 0,.bool true,.bool false])∧Below w7.heap.size w7 w':=yP k t v w7
     go_wp2_with fail;refine kR.mono ?_;rintro e w8 ⟨rfl,Ep⟩;have I3:=jM (I2.out.go Ep);have I4:=jM (I3.out.go (below_alloc1 w8 (qZ (Ch.mk (bn 0 k t v) false))));have N4:=jM (World.news_of_block (heap_alloc_new w8 (qZ (Ch.mk (bn 0 k t v) false))));have z8:w5.heap.size<=w8.heap.size:=I3.out.sz.1;clear kR Ep I2 I3 cr
     go_wp2_with (first
      | (refine wpList_append_lies _ rfl _ _ _ rfl w5.heap.size 95 i0 zC 10 72 underlying33 hi0 hz0 hz1 hz2 rfl (by omega) u12 0 [] rfl I4.out.ox ⟨w8.heap.size,0,none⟩ 1 1 (aQ (Ch.mk (bn 0 k t v) false)) rfl rfl N4.out (gQ _) (by omega) (by unfold maxLen;omega) (by omega) (by simp;omega) _ rfl ?_;intro g9 IG w9 fQ dO qN qO;have I5:=jM (I4.out.more dO fQ);have cr:=I5.out.cells.2;clear fQ dO qN qO)
      | fail)
    case' false=>
     have HQ:=hid CU;clear CU xV;go_wp2_with fail;refine htold.mono ?_;rintro e w7 ⟨rfl,qh⟩;have I5:=jM (I1.out.go qh);clear htold qh I1 cm hzb
   case' neg=>
    rw[if_neg hz] at CU;have HQ:=hid CU
    have hzb:(((kP k fr av x.R1 ps x.R1.length:Nat):Int)==0)=false:=by simp;omega
    have I5:=I1;clear CU I1 hz
   all_goals
    first
     | (have _:=hfz;have hput:=Yd k t v (kP k fr av x.R1 ps x.R1.length:Nat) _ I5.out.at1 hc (by show x.R0.length<=1000;omega);have cr:=I5.out.cells.2;(try go_wp2_with fail);refine hput.mono ?_;rintro e w20 ⟨rfl,v20,hJ,Qi,Qj⟩;have uI:=jM (Br (vs:=(.slice q0 x.R0.length d0)) (vs':=v20) I5.out Qi Qj);have IK:=jM hJ;clear hput hJ Qi Qj I5;go_wp2;go_ret2;rw[<-HF.out,<-HT.out];refine⟨_,v20,(.slice q1 x.R1.length d1),(aY x.R1 ps x.R1.length),rfl,ko HP.out.1,gF HP.out.1 HP.out.2,?_,IK.out,uI.out.2.1,rfl,uI.out.2.2⟩;rw[HQ.out];exact uI.out.1)
     | (have uI:=jM (yT I5.out);have IK:=jM I5.out.at1;clear I5;(try go_wp2);go_ret2;rw[<-HF.out,<-HT.out];refine⟨_,(.slice q0 x.R0.length d0),(.slice q1 x.R1.length d1),(aY x.R1 ps x.R1.length),rfl,ko HP.out.1,gF HP.out.1 HP.out.2,?_,IK.out,uI.out.2,rfl,Or.inl rfl⟩;rw[HQ.out];exact uI.out.1)
end Go.Proofs.YthfpipieboophaaGreatDoor
