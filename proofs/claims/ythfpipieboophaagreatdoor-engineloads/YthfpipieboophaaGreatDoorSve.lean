import Derived.Test.YthfpipieboophaaGreatDoorZBld
namespace Go.Proofs.YthfpipieboophaaGreatDoor
set_option maxRecDepth 100000
set_option maxHeartbeats 40000000
open Go.Proofs.Tryz Go.Joins Go.RowKit Go.Sort Go.Shelf
theorem Jn(be bj bm:Nat)(v0 v1:Value)(f0 f1:Int)(om:Option Nat)(Sg:Nat->Prop)(x:J)(L Lg:List O)(w:World)(h:az w be bj bm v0 v1 f0 f1 om Sg x L Lg)(tab:Lib.TabIs prog w "internal/strconv.uint64pow10" .u64 Lib.pow10Tab)(h64:SL x)
  (hR0:x.R0.length<=300) (hR1:x.R1.length<=300) (hL:L.length<=5000) (hwf:∀o∈L,o.wf):
  Calls prog 18 #[.pointer (some ⟨be,0,none⟩)] w λe w'=>∃Z,Z.Perm L/\bJ Z/\e=.returned (if 60000<(bN x f0 f1 Z).length then .tuple #[.string ⟨#[]⟩,.iface 24 (.int .i64 4)]else .tuple #[.string ⟨(bN x f0 f1 Z).toArray⟩,.nilIface])/\Below w.heap.size w w':=by
 have HE:=hid h;have HT:=hid tab;have Rx:Hid (SL x/\In64 f0/\In64 f1):=⟨h64,⟨by have:=h.r0;omega,h.r0.2⟩,⟨by have:=h.r1;omega,h.r1.2⟩⟩
 have Xd:Hid (∀W,Below w.heap.size w W->Calls prog 57 #[.pointer (some ⟨be,6,none⟩)] W λe w'=>e=.returned (.int .i64 L.length)/\w'=W):=λW hW=>BI be 6 L.length om L W (h.below hW).bag
 have i0:¬(5000:Int)<(L.length:Int):=by omega
 have hlt:=h.blt;obtain⟨bb,hbb⟩:∃bb,bb=w.heap.size:=⟨_,rfl⟩;have W2:=WJ w;have B0:Hid (Below w.heap.size w w):=iL _ _;clear h tab h64;go_enter func18,ntmps18
 go_wp2_with (first
  |(go_at_call 57;refine(Xd.out _ B0.out).mono ?_;rintro e w' ⟨rfl,hw⟩;have hw:=hw.symm;subst hw)
  |(go_at_call 58;refine(Jl _ _).mono ?_;rintro e w' ⟨rfl,hw⟩;have hw:=hw.symm;subst hw)
  |fail)
 obtain⟨bw,hbw⟩:∃bw,bw=w.heap.size+1:=⟨_,rfl⟩;rw[<-hbw]at W2⊢;rw[<-hbb]at W2⊢;have Y1:=hid W2;clear W2 hbb hbw;revert Y1;generalize((w.alloc (.cells #[.pointer none,.slice none 0 0] 126)).alloc (.cells #[.pointer (some ⟨bb,0,none⟩)] 123))=w2;intro Y1
 have aaE:bb<w2.heap.size:=by
  obtain⟨p,v,h1⟩:=Y1.out.blk;exact(ax.1 h1).1
 have aaF:be<w2.heap.size:=(HE.out.below Y1.out.low).blt
 have hc2:w2.cell? ⟨be,0,none⟩=some (.int .i64 x.lo)/\w2.cell? ⟨be,1,none⟩=some (.int .i64 x.hi)/\w2.cell? ⟨be,2,none⟩=some (.int .i64 x.mode)/\w2.cell? ⟨be,4,none⟩=some (.int .i64 f0)/\w2.cell? ⟨be,5,none⟩=some (.int .i64 f1):=by
  have hc:=(HE.out.below Y1.out.low).cells;exact⟨hc.1,hc.2.1,hc.2.2.1,hc.2.2.2.2.1,hc.2.2.2.2.2.1⟩
 have Q1:Hid (∀W',Below w2.heap.size w2 W'->W'.heap[w2.heap.size]?=some (.cells (vI [x.lo,x.hi,x.mode]).toArray 3)->Calls prog 115 #[.string nI,.slice (some ⟨w2.heap.size,0,none⟩) 3 3,.pointer (some ⟨bw,0,none⟩)] W' λe w'=>e=.returned (.tuple #[])/\(w'.cell? ⟨be,0,none⟩=some (.int .i64 x.lo)/\w'.cell? ⟨be,1,none⟩=some (.int .i64 x.hi)/\w'.cell? ⟨be,2,none⟩=some (.int .i64 x.mode)/\w'.cell? ⟨be,4,none⟩=some (.int .i64 f0)/\w'.cell? ⟨be,5,none⟩=some (.int .i64 f1))/\Hid (Wr w bb bw ([]++dB nI.data.toList [x.lo,x.hi,x.mode]) w')):=by
  intro W' hb hg;refine(sQ Y1.out HT.out nI [x.lo,x.hi,x.mode] (by have H:=Rx.out;have H1:=H.1;intro n hn;simp only[List.mem_cons,List.mem_nil_iff,or_false]at hn;rcases hn with rfl|rfl|rfl;exact H1.lo;exact H1.hi;exact H1.mode) (by have e:nI.size=4:=rfl;rw[e];simp) (by simp) hb hg).mono ?_;rintro e w' ⟨rfl,h2,_⟩;have hc:=(HE.out.below h2.low).cells;exact⟨rfl,⟨hc.1,hc.2.1,hc.2.2.1,hc.2.2.2.2.1,hc.2.2.2.2.2.1⟩,h2⟩
 have X1:Hid (Below w2.heap.size w2 (w2.alloc (.cells #[.int .i64 x.lo,.int .i64 x.hi,.int .i64 x.mode] 3)).drew/\((w2.alloc (.cells #[.int .i64 x.lo,.int .i64 x.hi,.int .i64 x.mode] 3)).drew).heap[w2.heap.size]?=some (.cells (vI [x.lo,x.hi,x.mode]).toArray 3)):=⟨((iL _ _).alloc (aC _) _).drew,eZ w2 _⟩
 go_region_held3 (λW=>W.cell? ⟨be,0,none⟩=some (.int .i64 x.lo)/\W.cell? ⟨be,1,none⟩=some (.int .i64 x.hi)/\W.cell? ⟨be,2,none⟩=some (.int .i64 x.mode)/\W.cell? ⟨be,4,none⟩=some (.int .i64 f0)/\W.cell? ⟨be,5,none⟩=some (.int .i64 f1)) (first|(go_keep;done)|fail) (first
  |(go_at_call 115;refine(Q1.out _ X1.out.1 X1.out.2).mono ?_;rintro e w3 ⟨rfl,hc3,Y2⟩)
  |fail)
 clear hc2 Q1 X1 Y1 aaE aaF
 have T2:Hid ((([]:List UInt8)++dB nI.data.toList [x.lo,x.hi,x.mode]).length<=1000):=by
  have H:=Rx.out.1;have h1:(dB nI.data.toList [x.lo,x.hi,x.mode]).length<=4+3*22+1:=o6 nI.data.toList [x.lo,x.hi,x.mode] (by intro n hn;simp only[List.mem_cons,List.mem_nil_iff,or_false]at hn;rcases hn with rfl|rfl|rfl;exact H.lo;exact H.hi;exact H.mode);show _<=(1000:Nat);rw[List.nil_append];omega
 revert T2 Y2;generalize ht2:([]:List UInt8)++dB nI.data.toList [x.lo,x.hi,x.mode]=t2;have K2:=hid ht2;clear ht2;intro Y2 T2
 have Q2:Hid (∀W',Below w3.heap.size w3 W'->W'.heap[w3.heap.size]?=some (.cells (vI [f0,f1,x.late]).toArray 3)->Calls prog 115 #[.string wC,.slice (some ⟨w3.heap.size,0,none⟩) 3 3,.pointer (some ⟨bw,0,none⟩)] W' λe w'=>e=.returned (.tuple #[])/\(w'.cell? ⟨be,0,none⟩=some (.int .i64 x.lo)/\w'.cell? ⟨be,1,none⟩=some (.int .i64 x.hi)/\w'.cell? ⟨be,2,none⟩=some (.int .i64 x.mode)/\w'.cell? ⟨be,4,none⟩=some (.int .i64 f0)/\w'.cell? ⟨be,5,none⟩=some (.int .i64 f1))/\Hid (Wr w bb bw (t2++dB wC.data.toList [f0,f1,x.late]) w')):=by
  intro W' hb hg;refine(sQ Y2.out HT.out wC [f0,f1,x.late] (by have H:=Rx.out;have H1:=H.1;intro n hn;simp only[List.mem_cons,List.mem_nil_iff,or_false]at hn;rcases hn with rfl|rfl|rfl;exact H.2.1;exact H.2.2;exact H1.late) (by have e:wC.size=3:=rfl;rw[e];have:=T2.out;omega) (by simp) hb hg).mono ?_;rintro e w' ⟨rfl,h2,_⟩;have hc:=(HE.out.below h2.low).cells;exact⟨rfl,⟨hc.1,hc.2.1,hc.2.2.1,hc.2.2.2.2.1,hc.2.2.2.2.2.1⟩,h2⟩
 have X2:Hid (Below w3.heap.size w3 (w3.alloc (.cells #[.int .i64 f0,.int .i64 f1,.int .i64 x.late] 3)).drew/\((w3.alloc (.cells #[.int .i64 f0,.int .i64 f1,.int .i64 x.late] 3)).drew).heap[w3.heap.size]?=some (.cells (vI [f0,f1,x.late]).toArray 3)):=⟨((iL _ _).alloc (aC _) _).drew,eZ w3 _⟩;have aaG:be<w3.heap.size:=(HE.out.below Y2.out.low).blt;have Gj:Hid (Calls prog 25 #[.pointer (some ⟨be,0,none⟩)] w3.drew λe w'=>e=.returned (.int .i64 x.late)/\w'=w3.drew):=MR be bj bm v0 v1 f0 f1 om Sg x L Lg w3.drew (HE.out.below (Y2.out.below ((iL _ _).drew)).low);go_wp2
 go_region_held3 (λW=>W.cell? ⟨be,0,none⟩=some (.int .i64 x.lo)/\W.cell? ⟨be,1,none⟩=some (.int .i64 x.hi)/\W.cell? ⟨be,2,none⟩=some (.int .i64 x.mode)/\W.cell? ⟨be,4,none⟩=some (.int .i64 f0)/\W.cell? ⟨be,5,none⟩=some (.int .i64 f1)) (first|(go_keep;done)|fail) (first
  |(go_at_call 115;refine(Q2.out _ X2.out.1 X2.out.2).mono ?_;rintro e w4 ⟨rfl,hc4,Y3⟩)
  |(go_at_call 25;refine Gj.out.mono ?_;rintro e w' ⟨rfl,hw⟩;have hw:=hw.symm;subst hw)
  |fail)
 clear hc3 Q2 X2 Y2 Gj aaG
 have T3:Hid ((t2++dB wC.data.toList [f0,f1,x.late]).length<=2000):=by
  have H:=Rx.out;have h1:(dB wC.data.toList [f0,f1,x.late]).length<=3+3*22+1:=o6 wC.data.toList [f0,f1,x.late] (by intro n hn;simp only[List.mem_cons,List.mem_nil_iff,or_false]at hn;rcases hn with rfl|rfl|rfl;exact H.2.1;exact H.2.2;exact H.1.late);have h2:=T2.out;show _<=(2000:Nat);rw[List.length_append];omega
 revert T3 Y3;generalize ht3:t2++dB wC.data.toList [f0,f1,x.late]=t3;have K3:=hid ht3;clear ht3;intro Y3 T3
 have Q3:Hid (∀W',Below w4.heap.size w4 W'->W'.heap[w4.heap.size]?=some (.cells (vI [x.m0,x.m1]).toArray 3)->Calls prog 115 #[.string jL,.slice (some ⟨w4.heap.size,0,none⟩) 2 2,.pointer (some ⟨bw,0,none⟩)] W' λe w'=>e=.returned (.tuple #[])/\(w'.cell? ⟨be,0,none⟩=some (.int .i64 x.lo)/\w'.cell? ⟨be,1,none⟩=some (.int .i64 x.hi)/\w'.cell? ⟨be,2,none⟩=some (.int .i64 x.mode)/\w'.cell? ⟨be,4,none⟩=some (.int .i64 f0)/\w'.cell? ⟨be,5,none⟩=some (.int .i64 f1))/\Hid (Wr w bb bw (t3++dB jL.data.toList [x.m0,x.m1]) w')):=by
  intro W' hb hg;refine(sQ Y3.out HT.out jL [x.m0,x.m1] (by have H:=Rx.out;have H1:=H.1;intro n hn;simp only[List.mem_cons,List.mem_nil_iff,or_false]at hn;rcases hn with rfl|rfl;exact H1.m0;exact H1.m1) (by have e:jL.size=5:=rfl;rw[e];have:=T3.out;omega) (by simp) hb hg).mono ?_;rintro e w' ⟨rfl,h2,_⟩;have hc:=(HE.out.below h2.low).cells;exact⟨rfl,⟨hc.1,hc.2.1,hc.2.2.1,hc.2.2.2.2.1,hc.2.2.2.2.2.1⟩,h2⟩
 have X3:Hid (Below w4.heap.size w4 (w4.alloc (.cells #[.int .i64 x.m0,.int .i64 x.m1] 3))/\((w4.alloc (.cells #[.int .i64 x.m0,.int .i64 x.m1] 3))).heap[w4.heap.size]?=some (.cells (vI [x.m0,x.m1]).toArray 3)):=⟨((iL _ _).alloc (aC _) _),eZ w4 _⟩;have YO:Hid (Calls prog 20 #[.pointer (some ⟨be,0,none⟩),.int .i64 0] w4 λe w'=>e=.returned (.int .i64 x.m0)/\w'=w4):=jd be bj bm v0 v1 f0 f1 om Sg x L Lg w4 0 (HE.out.below Y3.out.low);have HM1:Hid (Calls prog 20 #[.pointer (some ⟨be,0,none⟩),.int .i64 1] w4 λe w'=>e=.returned (.int .i64 x.m1)/\w'=w4):=jd be bj bm v0 v1 f0 f1 om Sg x L Lg w4 1 (HE.out.below Y3.out.low);go_wp2_with fail;refine YO.out.mono ?_;rintro e w' ⟨rfl,hw⟩;have hw:=hw.symm;subst hw;go_wp2_with fail;refine HM1.out.mono ?_;rintro e w' ⟨rfl,hw⟩;have hw:=hw.symm;subst hw;go_wp2_with fail;refine(Q3.out _ X3.out.1 X3.out.2).mono ?_;rintro e w5 ⟨rfl,hc5,Y4⟩;clear hc4 hc5 Q3 X3 Y3 YO HM1
 have T4:Hid ((t3++dB jL.data.toList [x.m0,x.m1]).length<=3000):=by
  have H:=Rx.out.1;have h1:(dB jL.data.toList [x.m0,x.m1]).length<=5+2*22+1:=o6 jL.data.toList [x.m0,x.m1] (by intro n hn;simp only[List.mem_cons,List.mem_nil_iff,or_false]at hn;rcases hn with rfl|rfl;exact H.m0;exact H.m1);have h2:=T3.out;show _<=(3000:Nat);rw[List.length_append];omega
 revert T4 Y4;generalize ht4:t3++dB jL.data.toList [x.m0,x.m1]=t4;have K4:=hid ht4;clear ht4;intro Y4 T4
 have HRw:Hid (∀(i:Nat) (W:World),i<2->Below w.heap.size w W->Calls prog 23 #[.pointer (some ⟨be,0,none⟩),.int .i64 i] W λe w'=>∃v,e=.returned v/\w'.ownsRow W.heap.size 130 4 v (Rs x i).length ((Rs x i).flatMap ak)/\Below W.heap.size W w'):=by
  intro i W hi hW
  have h01:i=0∨i=1:=by omega
  rcases h01 with rfl|rfl
  .exact Ot be bj bm v0 v1 f0 f1 om Sg x L Lg W (HE.out.below hW) (by omega)
  .exact Ou be bj bm v0 v1 f0 f1 om Sg x L Lg W (HE.out.below hW) (by omega)
 have og:Hid (∀(i:Nat) (y:D),y∈Rs x i->In64 y.k/\In64 y.t/\In64 y.v/\In64 y.n):=by
  intro i y hy;unfold Rs at hy
  split at hy
  .exact Rx.out.1.r0 y hy
  .exact Rx.out.1.r1 y hy
 have YC:Hid (∀i:Nat,(Rs x i).length<=300/\(iT x i).length<=72000):=by
  intro i;have a0:=zh 0 (by unfold In64;omega) x.R0 Rx.out.1.r0;have a1:=zh 1 (by unfold In64;omega) x.R1 Rx.out.1.r1;refine⟨by unfold Rs;split <;>assumption,?_⟩;unfold iT
  split
  .simp
  .split
   .omega
   .rw[List.length_append];omega
 have HLn:Hid (∀(i k:Nat) (y:D) (wq:World) (base gs c:Nat),i<2->(Rs x i)[k]?=some y->Wr w bb bw (t4++iT x i++iw (i:Int) ((Rs x i).take k)) wq->wq.ownsRow base 130 4 (.slice (some ⟨gs,0,none⟩) (Rs x i).length c) (Rs x i).length ((Rs x i).flatMap ak)->Calls prog 115 #[.string pX,.slice (some ⟨wq.heap.size+1,0,none⟩) 5 5,.pointer (some ⟨bw,0,none⟩)] ((wq.alloc (.cells #[.int .i64 y.k,.int .i64 y.t,.int .i64 y.v,.int .i64 y.n] 130)).alloc (.cells #[.int .i64 i,.int .i64 y.k,.int .i64 y.t,.int .i64 y.v,.int .i64 y.n] 3)) λe w'=>e=.returned (.tuple #[])/\Hid (Wr w bb bw (t4++iT x i++iw (i:Int) ((Rs x i).take (k+1))) w'/\w'.ownsRow base 130 4 (.slice (some ⟨gs,0,none⟩) (Rs x i).length c) (Rs x i).length ((Rs x i).flatMap ak))):=by
  intro i k y wq base gs c hi hy hW ho;obtain⟨a1,a2,a3,a4⟩:=og.out i y (cZ hy);have hb1:=fC wq (.cells #[.int .i64 y.k,.int .i64 y.t,.int .i64 y.v,.int .i64 y.n] 130)
  have hlen:(t4++iT x i++iw (i:Int) ((Rs x i).take k)).length<=200000:=by
   have b1:=zh (i:Int) (by unfold In64;omega) ((Rs x i).take k) (λz hz=>og.out i z (List.mem_of_mem_take hz))
   have b2:((Rs x i).take k).length<=300:=by have:=(YC.out i).1;rw[List.length_take];omega
   have b3:=(YC.out i).2;have b4:=T4.out;rw[List.length_append,List.length_append];omega
  have e3:pX.size=3:=rfl;have hq:=sQ (hW.below hb1) HT.out pX [(i:Int),y.k,y.t,y.v,y.n] (by intro n hn;simp only[List.mem_cons,List.mem_nil_iff,or_false]at hn;rcases hn with rfl|rfl|rfl|rfl|rfl;(unfold In64;omega);exact a1;exact a2;exact a3;exact a4) (by rw[e3];omega) (by simp) (fC _ (.cells #[.int .i64 i,.int .i64 y.k,.int .i64 y.t,.int .i64 y.v,.int .i64 y.n] 3)) (eZ _ _);simp only[World.size_alloc]at hq;refine hq.mono ?_;rintro e w' ⟨rfl,h1,h2⟩;refine⟨rfl,by rw[MS (i:Int) _ k y hy,<-List.append_assoc];exact h1,?_⟩;have ho1:=ho.alloc (.cells #[.int .i64 y.k,.int .i64 y.t,.int .i64 y.v,.int .i64 y.n] 130);refine ag ho1 (λg eg=>?_)
  rcases ho1.2 with⟨e0,_⟩|⟨g',cap,cur,e0,_,hg,_⟩
  .cases e0
  .cases e0;cases eg;refine(h2 gs _ hg (λe=>?_) ?_).trans hg.symm
   .obtain⟨p,v,hbk⟩:=(hW.below hb1).blk
    have e5:gs=bb:=by injection e
    rw[e5,hbk]at hg;simp at hg
   .intro c' fz e
    injection e with _ e2 _
    exact absurd e2 (by decide)
 clear Xd og;go_wp2
 go_loopg [58] 2 (λgg s58 wr=>∃i:Nat,i<=2/\gg=2 -i/\s58=.int .i64 i/\Hid (Wr w bb bw (t4++iT x i) wr))
 case atStart=>exact⟨0,by omega,rfl,rfl,(show Wr w bb bw (t4++iT x 0) _ from by simpa[iT]using Y4.out)⟩
 case round=>
  obtain⟨i,hile,iU,rfl,I⟩:=hrel;have HG:=hid iU;clear iU Y4
  by_cases hlt2:i<2
  .have HR:=HRw.out i wr hlt2 I.out.low;have H8:=hid HR;clear HR
   have j1:(0:Int)<=(i:Int):=by omega
   have j2:(i:Int)<2:=by omega
   have j3:((Rs x i).length:Int)<=300:=by have:=(YC.out i).1;omega
   go_wp2_with (first
    |(go_at_call 23;refine H8.out.mono ?_;rintro e w6 ⟨v6,rfl,h6,hb6⟩;obtain⟨oa6,c6,e6⟩:=lC h6;subst e6)
    |fail)
   obtain⟨base,hbase⟩:∃base,base=wr.heap.size:=⟨_,rfl⟩;rw[<-hbase]at h6;have I6:Hid (Wr w bb bw (t4++iT x i) w6):=I.out.below hb6;clear hbase hb6 H8 I
   go_loopg [65] (Rs x i).length (λgg s65 wq=>∃k:Nat,k<=(Rs x i).length/\gg=(Rs x i).length -k/\s65=.int .i64 k/\Hid (Wr w bb bw (t4++iT x i++iw (i:Int) ((Rs x i).take k)) wq/\wq.ownsRow base 130 4 (.slice oa6 (Rs x i).length c6) (Rs x i).length ((Rs x i).flatMap ak)))
   case atStart=>exact⟨0,aW _,rfl,rfl,(show Wr w bb bw (t4++iT x i++iw (i:Int) ((Rs x i).take 0)) w6 from by simpa[iw]using I6.out),h6⟩
   case round=>
    obtain⟨k,hk1,xC,rfl,I2⟩:=hrel;have HG2:=hid xC;clear xC
    by_cases hlt3:k<(Rs x i).length
    .obtain⟨y,hy⟩:∃y,(Rs x i)[k]?=some y:=⟨_,aO hlt3⟩;obtain⟨gs,ck,U1⟩:=gy I2.out.2 (show 0<(Rs x i).length by omega);cases U1;have hcd:=jo I2.out.2 k y hy;have hgl:gs<wr.heap.size:=(I2.out.2.lt gs rfl).2;have HQ:=HLn.out i k y wr base gs c6 hlt2 hy I2.out.1 I2.out.2
     have j4:(0:Int)<=(k:Int):=by omega
     have j5:(k:Int)<((Rs x i).length:Int):=by omega
     clear hy I2 h6 I6;go_wp2_with fail;refine HQ.mono ?_;rintro e w7 ⟨rfl,I3⟩;clear HQ hcd;go_wp2
     go_roundg ((Rs x i).length -(k+1))
     all_goals first
      |(have:=HG2.out;omega)
      |exact⟨k+1,by omega,rfl,by first|rfl|(congr 1;omega)|go_num,I3⟩
    .have j5:¬((k:Int)<((Rs x i).length:Int)):=by omega
     have I4:Hid (Wr w bb bw (t4++iT x (i+1)) wr):=by
      have h1:=I2.out.1
      have hk:k=(Rs x i).length:=by omega
      rw[hk,List.take_length,List.append_assoc,<-Jm x i hlt2]at h1;exact h1
     clear I2 h6 I6;go_wp2
     go_roundg (2 -(i+1))
     all_goals first
      |(have:=HG.out;omega)
      |exact⟨i+1,by omega,rfl,by first|rfl|(congr 1;omega)|go_num,I4⟩
  .have j2:¬((i:Int)<2):=by omega
   have hi2:i=2:=by omega
   have I5:Hid (Wr w bb bw (t4++iT x 2) wr):=by
    have h1:=I.out;rw[hi2]at h1;exact h1
   clear I;have HV:Hid (Calls prog 27 #[.pointer (some ⟨be,0,none⟩)] wr λe w'=>∃v Z,e=.returned v/\Z.Perm L/\bJ Z/\w'.ownsRow wr.heap.size 89 9 v Z.length (Z.flatMap ah)/\Below wr.heap.size wr w'):=tJ (nP xS) be bj bm v0 v1 f0 f1 om Sg x L Lg wr (HE.out.below I5.out.low) (by omega)
   go_wp2_with (first
    |(go_at_call 27;refine HV.out.mono ?_;rintro e w8 ⟨v8,Z,rfl,Zd,hZo,h8,Ep⟩;obtain⟨oa8,c8,e8⟩:=lC h8;subst e8)
    |fail)
   obtain⟨base,hbase⟩:∃base,base=wr.heap.size:=⟨_,rfl⟩;rw[<-hbase]at h8;obtain⟨t6,Ze⟩:∃t6,t6=t4++iT x 2:=⟨_,rfl⟩;have K6:=hid Ze
   have I8:Hid (Wr w bb bw t6 w8):=by
    have h1:=I5.out.below Ep;rw[<-Ze]at h1;exact h1
   have T6:Hid (t6.length<=80000):=by
    have a1:=(YC.out 2).2;have a2:=T4.out;show _<=(80000:Nat);rw[Ze,List.length_append];omega
   have HZ:Hid (Z.Perm L/\bJ Z/\(∀o∈Z,o.wf)):=⟨Zd,hZo,λo ho=>hwf o (Zd.mem_iff.1 ho)⟩
   have YT:Z.length<=5000:=by rw[Zd.length_eq];exact hL
   have HOl:Hid (∀(k:Nat) (o:O) (wq W:World) (v:Value) (gs:Nat),Z[k]?=some o->Wr w bb bw (t6++iy (Z.take k)) wq->wq.ownsRow base 89 9 (.slice (some ⟨gs,0,none⟩) Z.length c8) Z.length (Z.flatMap ah)->Below wq.heap.size wq W->W.heap[wq.heap.size]?=some (kY o)->W.ownsRow wq.heap.size 3 1 v (dV o).length (vI (dV o))->Calls prog 115 #[.string (fu o),v,.pointer (some ⟨bw,0,none⟩)] W λe w'=>e=.returned (.tuple #[])/\w'.heap[wq.heap.size]?=some (kY o)/\Hid (Wr w bb bw (t6++iy (Z.take (k+1))) w'/\w'.ownsRow base 89 9 (.slice (some ⟨gs,0,none⟩) Z.length c8) Z.length (Z.flatMap ah))):=by
    intro k o wq W v gs hk hW ho hb hbx hv;have how:=HZ.out.2.2 o (cZ hk)
    have hbl:bb<wq.heap.size:=by
     obtain⟨p,v',h1⟩:=hW.blk;exact(ax.1 h1).1
    have hlen:(t6++iy (Z.take k)).length<=1000000:=by
     have b1:=Gf (Z.take k) (λz hz=>HZ.out.2.2 z (List.mem_of_mem_take hz))
     have b2:(Z.take k).length<=5000:=by rw[List.length_take];omega
     have b3:=T6.out;rw[List.length_append];omega
    have hn6:=BJ o;have hs5:=zi o;refine(yG w bb bw _ (fu o) (dV o) v W (hW.below hb) HT.out (Gd hv (λk' e=>by have:=(hv.lt k' e).1;omega)) (yD o how) (by omega) (by omega)).mono ?_;rintro e w' ⟨rfl,h1,h2⟩;have ho1:=aL ho hb;refine⟨rfl,h2 _ _ hbx (λe=>by injection e with e;omega) (by intro c fz e;injection e with _ e2 _;exact absurd e2 (by decide)),by rw[MV Z k o hk,<-List.append_assoc];exact h1,?_⟩;refine ag ho1 (λg eg=>?_)
    rcases ho1.2 with⟨e0,_⟩|⟨g',cap,cur,e0,_,hg,_⟩
    .cases e0
    .cases e0;cases eg;refine(h2 gs _ hg (λe=>?_) ?_).trans hg.symm
     .obtain⟨p,v',hbk⟩:=(hW.below hb).blk
      have e5:gs=bb:=by injection e
      rw[e5,hbk]at hg;simp at hg
     .intro c' fz e
      injection e with _ e2 _
      exact absurd e2 (by decide)
   have j6:(Z.length:Int)<=5000:=by omega
   clear hbase Ze Ep Zd hZo I5 HV HRw HLn YC hi2
   go_loopg [89] Z.length (λgg s89 wq=>∃k:Nat,k<=Z.length/\gg=Z.length -k/\s89=.int .i64 k/\Hid (Wr w bb bw (t6++iy (Z.take k)) wq/\wq.ownsRow base 89 9 (.slice oa8 Z.length c8) Z.length (Z.flatMap ah)))
   case atStart=>exact⟨0,aW _,rfl,rfl,(show Wr w bb bw (t6++iy (Z.take 0)) w8 from by simpa[iy]using I8.out),h8⟩
   case round=>
    obtain⟨k,hk1,xC,rfl,I2⟩:=hrel;have HG2:=hid xC;clear xC h8 I8
    by_cases hlt3:k<Z.length
    .obtain⟨o,ho⟩:∃o,Z[k]?=some o:=⟨_,aO hlt3⟩;obtain⟨gs,ck,U1⟩:=gy I2.out.2 (show 0<Z.length by omega);cases U1;have hcd:=nQ I2.out.2 k o ho;have hgl:gs<wr.heap.size:=(I2.out.2.lt gs rfl).2
     have j4:(0:Int)<=(k:Int):=by omega
     have j5:(k:Int)<(Z.length:Int):=by omega
     have B1:Hid (Below wr.heap.size wr (wr.alloc (kY o)).drew/\(wr.alloc (kY o)).drew.heap[wr.heap.size]?=some (kY o)):=⟨(fC _ _).drew,eZ wr (kY o)⟩
     have HH:Hid (∀W,Below wr.heap.size wr W/\W.heap[wr.heap.size]?=some (kY o)->Calls prog 59 #[vO o] W λe w'=>e=.returned (.string (fu o))/\(w'.cell? ⟨wr.heap.size,0,none⟩=some (.int .i64 o.k)/\w'.cell? ⟨wr.heap.size,1,none⟩=some (.int .i64 o.lk)/\w'.cell? ⟨wr.heap.size,2,none⟩=some (.int .i64 o.lt)/\w'.cell? ⟨wr.heap.size,3,none⟩=some (.int .i64 o.lv)/\w'.cell? ⟨wr.heap.size,4,none⟩=some (.int .i64 o.rk)/\w'.cell? ⟨wr.heap.size,5,none⟩=some (.int .i64 o.rt)/\w'.cell? ⟨wr.heap.size,6,none⟩=some (.int .i64 o.rv)/\w'.cell? ⟨wr.heap.size,7,none⟩=some (.bool o.hl)/\w'.cell? ⟨wr.heap.size,8,none⟩=some (.bool o.hr))/\Hid (Below wr.heap.size wr w'/\w'.heap[wr.heap.size]?=some (kY o))):=by
      rintro W ⟨b1,b2⟩;refine(Gc o W).mono ?_;rintro e w' ⟨rfl,hb⟩;have hx:=(hb.block _ (ax.1 b2).1).trans b2;exact⟨rfl,jy hx,b1.trans (hb.mono b1.size),hx⟩
     have HN:Hid (∀W,Below wr.heap.size wr W/\W.heap[wr.heap.size]?=some (kY o)->Calls prog 60 #[vO o] W λe w'=>∃v,e=.returned v/\(w'.cell? ⟨wr.heap.size,0,none⟩=some (.int .i64 o.k)/\w'.cell? ⟨wr.heap.size,1,none⟩=some (.int .i64 o.lk)/\w'.cell? ⟨wr.heap.size,2,none⟩=some (.int .i64 o.lt)/\w'.cell? ⟨wr.heap.size,3,none⟩=some (.int .i64 o.lv)/\w'.cell? ⟨wr.heap.size,4,none⟩=some (.int .i64 o.rk)/\w'.cell? ⟨wr.heap.size,5,none⟩=some (.int .i64 o.rt)/\w'.cell? ⟨wr.heap.size,6,none⟩=some (.int .i64 o.rv)/\w'.cell? ⟨wr.heap.size,7,none⟩=some (.bool o.hl)/\w'.cell? ⟨wr.heap.size,8,none⟩=some (.bool o.hr))/\Hid (Below wr.heap.size wr w'/\w'.heap[wr.heap.size]?=some (kY o)/\w'.ownsRow wr.heap.size 3 1 v (dV o).length (vI (dV o)))):=by
      rintro W ⟨b1,b2⟩;refine(zg o W).mono ?_;rintro e w' ⟨v,rfl,h1,hb⟩;have hx:=(hb.block _ (ax.1 b2).1).trans b2;exact⟨v,rfl,jy hx,b1.trans (hb.mono b1.size),hx,h1.mono b1.size⟩
     have HQ:Hid (∀W v,Hid (Below wr.heap.size wr W/\W.heap[wr.heap.size]?=some (kY o)/\W.ownsRow wr.heap.size 3 1 v (dV o).length (vI (dV o)))->Calls prog 115 #[.string (fu o),v,.pointer (some ⟨bw,0,none⟩)] W λe w'=>e=.returned (.tuple #[])/\(w'.cell? ⟨wr.heap.size,0,none⟩=some (.int .i64 o.k)/\w'.cell? ⟨wr.heap.size,1,none⟩=some (.int .i64 o.lk)/\w'.cell? ⟨wr.heap.size,2,none⟩=some (.int .i64 o.lt)/\w'.cell? ⟨wr.heap.size,3,none⟩=some (.int .i64 o.lv)/\w'.cell? ⟨wr.heap.size,4,none⟩=some (.int .i64 o.rk)/\w'.cell? ⟨wr.heap.size,5,none⟩=some (.int .i64 o.rt)/\w'.cell? ⟨wr.heap.size,6,none⟩=some (.int .i64 o.rv)/\w'.cell? ⟨wr.heap.size,7,none⟩=some (.bool o.hl)/\w'.cell? ⟨wr.heap.size,8,none⟩=some (.bool o.hr))/\Hid (Wr w bb bw (t6++iy (Z.take (k+1))) w'/\w'.ownsRow base 89 9 (.slice (some ⟨gs,0,none⟩) Z.length c8) Z.length (Z.flatMap ah))):=by
      intro W v hv;refine(HOl.out k o wr W v gs ho I2.out.1 I2.out.2 hv.out.1 hv.out.2.1 hv.out.2.2).mono ?_;rintro e w' ⟨rfl,h1,h2⟩;exact⟨rfl,jy h1,h2⟩
     simp only[vO]at HH HN;clear ho I2;go_wp2;have hcb:=jy (eZ wr (kY o))
     go_region_held3 (λW=>W.cell? ⟨wr.heap.size,0,none⟩=some (.int .i64 o.k)/\W.cell? ⟨wr.heap.size,1,none⟩=some (.int .i64 o.lk)/\W.cell? ⟨wr.heap.size,2,none⟩=some (.int .i64 o.lt)/\W.cell? ⟨wr.heap.size,3,none⟩=some (.int .i64 o.lv)/\W.cell? ⟨wr.heap.size,4,none⟩=some (.int .i64 o.rk)/\W.cell? ⟨wr.heap.size,5,none⟩=some (.int .i64 o.rt)/\W.cell? ⟨wr.heap.size,6,none⟩=some (.int .i64 o.rv)/\W.cell? ⟨wr.heap.size,7,none⟩=some (.bool o.hl)/\W.cell? ⟨wr.heap.size,8,none⟩=some (.bool o.hr)) (first|(go_keep;done)|fail) (first
      |(go_at_call 115;refine(HQ.out _ _ B10).mono ?_;rintro e w11 ⟨rfl,adI,I3⟩)
      |(go_at_call 60;refine(HN.out _ B9.out).mono ?_;rintro e IJ ⟨v10,rfl,adJ,B10⟩)
      |(go_at_call 59;refine(HH.out _ B1.out).mono ?_;rintro e w9 ⟨rfl,hc9,B9⟩)
      |fail)
     go_wp2
     go_roundg (Z.length -(k+1))
     all_goals first
      |(have:=HG2.out;omega)
      |exact⟨k+1,by omega,rfl,by first|rfl|(congr 1;omega)|go_num,I3⟩
    .have j5:¬((k:Int)<(Z.length:Int)):=by omega
     have I9:Hid (Wr w bb bw (t6++iy Z) wr):=by
      have h1:=I2.out.1
      have hk:k=Z.length:=by omega
      rw[hk,List.take_length]at h1;exact h1
     have HEn:Hid (Calls prog 115 #[.string Im,.slice none 0 0,.pointer (some ⟨bw,0,none⟩)] wr λe w'=>e=.returned (.tuple #[])/\Hid (Wr w bb bw (bN x f0 f1 Z) w')):=by
      have b1:=Gf Z HZ.out.2.2;have b3:=T6.out;have e3:Im.size=3:=rfl;refine(yG w bb bw _ Im [] (.slice none 0 0) wr I9.out HT.out ⟨none,0,rfl,λh=>absurd h (by simp)⟩ (by simp) (by rw[List.length_append,e3];simp;omega) (by simp)).mono ?_;rintro e w' ⟨rfl,h1,_⟩;refine⟨rfl,?_⟩
      have e1:bN x f0 f1 Z=t6++iy Z++dB Im.data.toList []:=by
       rw[K6.out,<-K4.out,<-K3.out,<-K2.out];simp[bN,EM,iT,List.append_assoc]
      show Wr w bb bw (bN x f0 f1 Z) w';rw[e1];exact h1
     clear I2 I9;go_wp2_with fail;refine HEn.out.mono ?_;rintro e w12 ⟨rfl,YD⟩;have WK:=Tryz.Builder_Len_f w.heap.size bb (Lib.byteCells (bN x f0 f1 Z)) w12 YD.out.bld;rw[Lib.byteCells_length]at WK;have HS2:=Tryz.Builder_String_any_k w.heap.size bb (bN x f0 f1 Z) w12 YD.out.bld YD.out.low.size;generalize hT9:bN x f0 f1 Z=T9 at *
     by_cases hbig:60000<T9.length
     .have j7:(60000:Int)<(T9.length:Int):=by omega
      go_wp2_with fail;refine WK.mono ?_;rintro e w' ⟨rfl,hw⟩;have hw:=hw.symm;subst hw;go_wp2;exact ja (v:= .tuple #[.string ⟨#[]⟩,.iface 24 (.int .i64 4)]) (by simp[results,Tryz.results18,go_sem]) rfl ⟨Z,HZ.out.1,HZ.out.2.1,by rw[hT9,if_pos hbig],YD.out.low⟩
     .have j7:¬(60000:Int)<(T9.length:Int):=by omega
      go_wp2_with fail;refine WK.mono ?_;rintro e w' ⟨rfl,hw⟩;have hw:=hw.symm;subst hw;go_wp2_with fail;refine HS2.mono ?_;rintro e Qf ⟨rfl,_,Ms,_⟩;go_wp2;exact ja (v:= .tuple #[.string ⟨T9.toArray⟩,.nilIface]) (by simp[results,Tryz.results18,go_sem]) rfl ⟨Z,HZ.out.1,HZ.out.2.1,by rw[hT9,if_neg hbig],YD.out.low.trans Ms⟩
end Go.Proofs.YthfpipieboophaaGreatDoor
