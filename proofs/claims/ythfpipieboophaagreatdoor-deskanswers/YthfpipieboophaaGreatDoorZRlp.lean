import Derived.Test.YthfpipieboophaaGreatDoorZRlk
namespace Go.Proofs.YthfpipieboophaaGreatDoor
set_option maxRecDepth 100000
set_option maxHeartbeats 40000000
open Go.Proofs.Tryz Go.RowKit Go.Sort Go.Shelf
section
open Go.Joins
variable{W:World}{f d:List (List UInt8)}
theorem Wv{c:World}{ns:List Int}{a:Int}{g cap:Nat}{i:Value}{w5:World}(h:Lr c ns i W)(b:w5.ownsRow c.heap.size 3 1 (.slice (some ⟨g,0,none⟩) (ns.length+1) cap) (ns.length+1) (ns.map (Value.int .i64)++[.int .i64 a]))(j:W.grownBy w5 i.ownBlock):Lr c (ns++[a]) (.slice (some ⟨g,0,none⟩) (ns.length+1) cap) w5:=
 ⟨h.low.grown j h.low.size (λk e=>(h.row.lt k e).1),by rw[List.length_append,List.map_append];exact b⟩
theorem Ww{y:List UInt8}(h:y≠[]):(⟨y.toArray⟩:ByteArray)≠⟨#[]⟩:=by
 intro e
 injection e with e
 have:=congrArg Array.toList e;simp at this;exact h this
theorem Mq{t:List UInt8}(a:lH 10 t=f)(b:fq (Lib.trimSuffix t [10])=d):(1<f.length/\f.getLast? =some []/\d=f.dropLast)∨(¬(1<f.length/\f.getLast? =some [])/\d=f):=by
 have:=Mj t;rw[b,a]at this
 by_cases h:1<f.length/\f.getLast? =some []
 .rw[if_pos h]at this;exact .inl ⟨h.1,h.2,this⟩
 .rw[if_neg h]at this;exact .inr ⟨h,this⟩
theorem QM(h:d=f.dropLast∨d=f)(i:Nat)(x:List UInt8)(hi:d[i]?=some x):f[i]?=some x:=by
 rcases h with rfl|rfl
 .rw[List.dropLast_eq_take,List.getElem?_take]at hi
  split at hi
  .exact hi
  .cases hi
 .exact hi
theorem Mr{a:Nat}(h:CX W a){l:List UInt8}(c:l.length<=1000000):∃(k:Nat) (b:Bool),(Instr.lookup 152 (.map (some a)) (.string ⟨l.toArray⟩) true).run prog W=.ok (.tuple #[.int .i64 k,.bool b]) W/\k<=3/\∀ws:List (List UInt8),(b&&((ws.length:Int)+1==(k:Int)+1))=(match dM l with|some v=>decide (ws.length=v.ar)|none=>false):=by
 have:=QB h c
 cases hv:dM l with
 |some v=>
  rw[hv]at this;refine⟨v.ar,true,this,by cases v <;>decide,λws=>?_⟩;simp only[Bool.true_and]
  by_cases e:ws.length=v.ar
  .rw[e];simp
  .rw[o9 e]
   have g:¬(ws.length:Int)=(v.ar:Int):=by omega
   simpa using g
 |none=>
  rw[hv]at this;exact⟨0,false,this,by omega,λws=>by simp⟩
theorem CY(t:List UInt8)(ht:t.length<=20000)(hc:iV (fq (Lib.trimSuffix t [10]))<=1600)(w:World)(hG:aU w):
  Calls prog 33 #[.string ⟨t.toArray⟩] w λe s=>e=.returned (sV (ou t))/\Below w.heap.size w s:=by
 have hz:¬(20000:Int)<(t.length:Int):=by omega
 obtain⟨m,hm⟩:=hG.g.max
 have M7:Hid (∀(c:UInt8) (x:List UInt8) W,x.length<=20000->Below w.heap.size w W->Calls prog 80 #[.string ⟨x.toArray⟩,.string ⟨#[c]⟩] W λe s=>e=.returned (.slice (some ⟨W.heap.size,0,none⟩) (lH c x).length (lH c x).length)/\s=W.alloc (.cells ((lH c x).map sV).toArray 9)):=by
  intro c x W hx hW;have hmW:W.cell? ⟨3,0,none⟩=some (.int .i64 m):=(hW.cell (p:=⟨3,0,none⟩) (World.block_lt_of_cell? _ _ hm)).trans hm;have:=Tryz.strings_Split ⟨x.toArray⟩ ⟨#[c]⟩ m W (by show x.toArray.size<_;simp;omega) hmW (aO 1);rw[Bz,BA]at this;exact this
 obtain⟨f,hpc⟩:∃f,lH 10 t=f:=⟨_,rfl⟩;obtain⟨d,hls⟩:∃d,fq (Lib.trimSuffix t [10])=d:=⟨_,rfl⟩;have H:=Mq hpc hls
 have hfin:ou t=(ax (Sx.new 0 10 3) d).1:=by unfold ou;rw[hls]
 have hrs:Lib.trimSuffix t [10]=aA d:=by rw[<-hls];exact(xW _).symm
 have hrl:(aA d).length<=20000:=by
  rw[<-hrs];unfold Lib.trimSuffix
  split
  .rw[List.length_take];omega
  .exact ht
 have hne:f≠[]:=by rw[<-hpc];exact uK _ _
 have H1:Hid (Calls prog 80 #[.string ⟨t.toArray⟩,.string ⟨#[10]⟩] w λe s=>e=.returned (.slice (some ⟨w.heap.size,0,none⟩) f.length f.length)/\s=w.alloc (.cells (f.map sV).toArray 9)):=by
  have:=M7.out 10 t w ht (zI _ _);rw[hpc]at this;exact this
 rw[hls]at hc;have HG:=hid hG;have UY:=hid hfin;have HRL:=hid hrl;have HCN:=hid hc;have hll:=xY d
 have Sk:d.length<=20001:=by omega
 have HPR:Hid (d=f.dropLast∨d=f):=H.elim (λe=>.inl e.2.2) (λe=>.inr e.2);clear hls hfin hrs hrl hm hG hpc hc hll;go_enter func33,ntmps33;have Yv:=List.dropLast_concat_getLast hne;obtain⟨a,ha⟩:∃a,f.dropLast=a:=⟨_,rfl⟩;obtain⟨y,C⟩:∃y,f.getLast hne=y:=⟨_,rfl⟩;rw[ha,C]at Yv
 have hpl:f.length=a.length+1:=by rw[<-Yv];simp
 have hgl:f.getLast? =some y:=by rw[<-Yv];simp
 have S:(w.alloc (.cells (f.map sV).toArray 9)).cell? ⟨w.heap.size,a.length,none⟩=some (.string ⟨y.toArray⟩):=by
  rw[vE (vw w _),<-Yv];simp
 have H1:Hid (Calls prog 80 #[.string ⟨t.toArray⟩,.string ⟨#[10]⟩] w λe s=>e=.returned (.slice (some ⟨w.heap.size,0,none⟩) (a.length+1) (a.length+1))/\s.cell? ⟨w.heap.size,a.length,none⟩=some (.string ⟨y.toArray⟩)/\Hid (s.heap.size=w.heap.size+1)/\Hid (s=w.alloc (.cells (f.map sV).toArray 9))):=by
  rw[hpl]at H1;refine H1.out.mono ?_;rintro e s ⟨rfl,rfl⟩;exact⟨rfl,S,by show _=_;simp,rfl⟩
 clear S
 have hal:(a.length:Int)<=20001:=by
  rcases HPR.out with e|e
  .rw[e,ha]at Sk;omega
  .rw[e,hpl]at Sk;omega
 have hw64:wrap64 (a.length:Int)=(a.length:Int):=by unfold wrap64;omega
 have i2:(a.length:Int)<(a.length:Int)+1:=by omega
 have i3:(0:Int)<=(a.length:Int):=by omega
 obtain⟨bq,hbq⟩:∃b:Bool,decide (1<f.length/\y=[])=b:=⟨_,rfl⟩;have Xc:=hid hbq;clear hbq
 go_upto_region 4 with(first
  |(go_at_call 80;refine H1.out.mono ?_;rintro e A ⟨rfl,S,hs1,hw1⟩)
  |fail)
 go_cut [39]from 23 (λs39 V=>s39=.bool bq/\V=A)
 case first=>
  by_cases M:1<f.length
  .have i1:(1:Int)<(a.length:Int)+1:=by omega
   by_cases h2:y=[]
   .rw[h2]at S;go_wp2
    go_meet
    case rel=>exact⟨by rw[<-Xc.out,sS ⟨M,h2⟩],rfl⟩
   .have h3:=Ww h2;go_wp2
    go_meet
    case rel=>
     refine⟨?_,rfl⟩;rw[<-Xc.out,o9 (λe=>h2 e.2)]
     cases y with
     |nil=>exact absurd rfl h2
     |cons=>rfl
  .have i1:¬(1:Int)<(a.length:Int)+1:=by omega
   go_wp2
   go_meet
   case rel=>exact⟨by rw[<-Xc.out,o9 (λe=>M e.1)],rfl⟩
 case rest=>
  obtain⟨rfl,T⟩:=hcut;have T:=T.symm;subst T
  go_upto_if 39 with fail
  go_cut [3]from 23 (λs3 V=>∃cap:Nat,s3=.slice (some ⟨w.heap.size,0,none⟩) d.length cap/\V=A)
  case first=>
   cases bq with
   |true=>
    have M:1<f.length/\y=[]:=of_decide_eq_true Xc.out
    have e2:d.length=a.length:=by
     rcases H with q|q
     .rw[q.2.2,ha]
     .exact absurd ⟨M.1,by rw[hgl,M.2]⟩ q.1
    go_wp2
    go_meet
    case rel=>exact⟨_,by rw[e2],rfl⟩
   |false=>
    have M:¬(1<f.length/\y=[]):=of_decide_eq_false Xc.out
    have e2:d.length=a.length+1:=by
     rcases H with q|q
     .refine absurd ⟨q.1,?_⟩ M;have:=q.2.1;rw[hgl]at this;exact Option.some.inj this
     .rw[q.2,hpl]
    go_wp2
    go_meet
    case rel=>exact⟨_,by rw[e2],rfl⟩
  case rest=>
   obtain⟨cap,rfl,T⟩:=hcut;have T:=T.symm;subst T;clear S H Yv hpl hgl ha C hal hw64 i2 i3 Xc H1 hne;have hmm:= @run_makeMap prog;obtain⟨v1,v2,v3,v4,v5,v6,v7,v8,v9,v10,v11,v12,v13,⟨r1,r2,r3,r4,r5,r6,r7,r8,r9,WM,WN,WO,WQ⟩,hmp,Ms⟩:=TD A
   have HN:Hid (Calls prog 14 #[.agg #[.int .i64 0,.int .i64 10,.int .i64 3]] v13 λe s=>∃be,e=.returned (.tuple #[.pointer (some ⟨be,0,none⟩),.int .i64 0])/\Hid (FR w s.heap.size A.heap.size w.heap.size f 0 (Sx.new 0 10 3) (s.alloc (.cells #[.pointer (some ⟨be,0,none⟩)] 155)))):=by
    refine(lN 0 10 3 v13 (by kernel_rfl)).mono ?_;rintro e s ⟨be,bj,rfl,M,h2,h3,h4⟩;refine⟨be,rfl,λk=>(k=be∨k=bj)∨k=s.heap.size,?_⟩;have b1:Below s.heap.size s (s.alloc (.cells #[.pointer (some ⟨be,0,none⟩)] 155)):=wh _ _;have z1:=h3.bag.lt;have z2:=h3.join.lt;have z3:=Ms.size;have z4:=h4.size;have z5:=hmp.lt;have z6:=hs1.out
    have hlow:Below w.heap.size w A:=by rw[hw1.out];exact wh _ _
    have hln:A.heap[w.heap.size]?=some (.cells (f.map sV).toArray 9):=by rw[hw1.out];exact vw _ _
    refine⟨⟨be,⟨yh 0 10 3,[],0,0⟩,λk=>k=be∨k=bj,⟨vw _ _,⟨bj,_,_,_,h3.below b1,λk=>?_⟩,yj 0 10 3 0,?_,λk=>Iff.rfl,?_,?_⟩⟩,?_,?_,?_,?_,?_⟩
    .simp[Value.ownBlock]
    .intro e
     rcases e with e|e <;>omega
    .exact((hlow.trans (Ms.mono hlow.size)).trans (h4.mono (by omega))).trans (b1.mono (by omega))
    .intro k e
     rcases e with(e|e)|e <;>omega
    .exact(hmp.still (h4.block _ z5)).still (b1.block _ (by omega))
    .intro e
     rcases e with(e|e)|e <;>omega
    .exact(b1.block _ (by omega)).trans ((h4.block _ (by omega)).trans ((Ms.block _ (by omega)).trans hln))
    .intro e
     rcases e with(e|e)|e <;>omega
    .exact⟨by omega,by omega⟩
   clear hmp Ms
   go_wp2_with (first
    |(go_at_call 14;refine HN.out.mono ?_;rintro e B ⟨be,rfl,hS2⟩)
    |fail)
   clear HN r1 r2 r3 r4 r5 r6 r7 r8 r9 WM WN WO WQ hmm
   have HSA:Hid (∀W,FR w B.heap.size A.heap.size w.heap.size f 0 (Sx.new 0 10 3) W->Below w.heap.size w W):=λW h=>by obtain⟨P,M⟩:=h;exact M.low
   have hi0:(.string ⟨#[]⟩:Value)=.string ⟨(ax (Sx.new 0 10 3) (d.take 0)).1.toArray⟩:=by simp[ax]
   have hi1:Hid (FR w B.heap.size A.heap.size w.heap.size f (iV (d.take 0)) (ax (Sx.new 0 10 3) (d.take 0)).2 (B.alloc (.cells #[.pointer (some ⟨be,0,none⟩)] 155))):=by
    rw[List.take_zero];exact hS2.out
   clear hS2 HSA
   go_loopg [8,57] d.length (λgg v8 v57 wr=>∃i:Nat,i<=d.length/\gg=d.length -i/\v57=.int .i64 i/\v8=.string ⟨(ax (Sx.new 0 10 3) (d.take i)).1.toArray⟩/\Hid (FR w B.heap.size A.heap.size w.heap.size f (iV (d.take i)) (ax (Sx.new 0 10 3) (d.take i)).2 wr))
   case atStart=>exact⟨0,gy _,rfl,rfl,hi0,hi1⟩
   case round=>
    obtain⟨i,hi,hgg,rfl,rfl,I⟩:=hrel;have HGm:=hid hgg;clear hgg hi0 hi1
    by_cases hil:i<d.length
    .obtain⟨x,hx⟩:∃x,d[i]?=some x:=⟨_,dK hil⟩;have hpx:=QM HPR.out i x hx;have hxl:x.length<=20000:=di (xZ d x (mh hx)) HRL.out;have UZ:=Ck Cm HCN.out i;have hcn:=di (Cj d i) HCN.out;have hol:=D5 Cm HCN.out i;have hsl:=Cc UZ hcn x;have hstep:=pF (Sx.new 0 10 3) d i x hx;have hcnt:=DY d i x hx
     have HE:Hid (∀V,Hid (FR w B.heap.size A.heap.size w.heap.size f (iV (d.take i)+(if aH x=[]then 0 else 1)) (sayOf (ax (Sx.new 0 10 3) (d.take i)).2 x).2 V)->Hid (FR w B.heap.size A.heap.size w.heap.size f (iV (d.take (i+1))) (ax (Sx.new 0 10 3) (d.take (i+1))).2 V)):=by
      intro V R;show FR _ _ _ _ _ _ _ _;rw[hstep,hcnt];exact R.out
     have HX:Hid ((ax (Sx.new 0 10 3) (d.take (i+1))).1=(ax (Sx.new 0 10 3) (d.take i)).1++(sayOf (ax (Sx.new 0 10 3) (d.take i)).2 x).1++[10]):=by
      show(ax (Sx.new 0 10 3) (d.take (i+1))).1=_;rw[hstep]
     have Y:(ax (Sx.new 0 10 3) (d.take i)).1.length+(sayOf (ax (Sx.new 0 10 3) (d.take i)).2 x).1.length+2<=140737488355328:=by
      generalize(ax (Sx.new 0 10 3) (d.take i)).1.length=p1 at *;generalize(sayOf (ax (Sx.new 0 10 3) (d.take i)).2 x).1.length=p2 at *;omega
     have WT:=hid UZ;clear UZ hol hsl hstep hcnt;revert HE HX Y WT I hcn;generalize(ax (Sx.new 0 10 3) (d.take i)).1=o1;generalize(ax (Sx.new 0 10 3) (d.take i)).2=st;generalize iV (d.take i)=n;intro I hcn HE HX Y WT;obtain⟨P,hSD⟩:=I.out;have hcx:wr.cell? ⟨w.heap.size,i,none⟩=some (.string ⟨x.toArray⟩):=hSD.line i x hpx;have HS0:=hid hSD;obtain⟨o,TE⟩:∃o,lH 32 x=o:=⟨_,rfl⟩
     have HPX:Hid (aH x=o.filter λy=>decide (y≠[])):=by
      show aH x=_;rw[Mi,TE]
     have aaf:o.length<=20001:=by
      rw[<-TE,<-BA 32 x];have:=Lib.countB_le ⟨#[32]⟩ (aO 1) x.length ⟨x.toArray⟩ (by show x.toArray.size<=_;simp)
      have e:(⟨x.toArray⟩:ByteArray).size=x.length:=by show x.toArray.size=_;simp
      rw[e]at this;omega
     have H2:Hid (Calls prog 80 #[.string ⟨x.toArray⟩,.string ⟨#[32]⟩] wr λe s=>e=.returned (.slice (some ⟨wr.heap.size,0,none⟩) o.length o.length)/\Hid (s=wr.alloc (.cells (o.map sV).toArray 9))):=by
      have:=M7.out 32 x wr hxl hSD.low;rw[TE]at this;exact this
     have j1:(0:Int)<=(i:Int):=by omega
     have j2:(i:Int)<(d.length:Int):=by omega
     clear hSD I TE hx hpx;obtain⟨iS,hiS,aag,aah,aai⟩:=Dw rz;obtain⟨iI,hiI,aaj,aak,aal⟩:=Dw IE
     go_wp2_with (first
      |(go_at_call 80;refine H2.out.mono ?_;rintro e Q ⟨rfl,hw3⟩)
      |fail)
     have hb3:Below wr.heap.size wr Q:=by rw[hw3.out];exact wh _ _
     have Wx:Hid (SD w B.heap.size A.heap.size w.heap.size f n st P Q):=HS0.out.go hb3
     have hgp:Q.heap[wr.heap.size]?=some (.cells (o.map sV).toArray 9):=by rw[hw3.out];exact vw _ _
     have HCP:Hid (∀q y V,o[q]?=some y->Below Q.heap.size Q V->V.cell? ⟨wr.heap.size,q,none⟩=some (.string ⟨y.toArray⟩)):=λq y V hq R=>by
      rw[R.cell (p:=⟨wr.heap.size,q,none⟩) (aD.1 hgp).1,vE hgp];simp[hq]
     have T0:Hid (Tw Q ((o.take 0).filter λy=>decide (y≠[])) (.slice none 0 0) Q):=Tw.start Q;clear hgp hb3 hw3 H2 HS0 hcx
     go_loopg [11,64] o.length (λgg v11 v64 wr2=>∃q:Nat,q<=o.length/\gg=o.length -q/\v64=.int .i64 q/\Hid (Tw Q ((o.take q).filter λy=>decide (y≠[])) v11 wr2))
     case atStart=>exact⟨0,gy _,rfl,rfl,T0⟩
     case round=>
      obtain⟨q,hq,sK,rfl,U⟩:=hrel;have Z:=hid sK;clear sK T0
      by_cases uD:q<o.length
      .obtain⟨y,C⟩:∃y,o[q]?=some y:=⟨_,dK uD⟩;have hcy:=HCP.out q y _ C U.out.low;have HF:Hid (((o.take (q+1)).filter λy=>decide (y≠[]))=((o.take q).filter λy=>decide (y≠[]))++(if y=[]then[]else[y])):=Mm o q y C;have wL:((o.take q).filter λy=>decide (y≠[])).length<=20001:=di (oo _ _) (di (ve _ _) (by omega))
       have j3:(0:Int)<=(q:Int):=by omega
       have j4:(q:Int)<(o.length:Int):=by omega
       revert HF wL U;generalize((o.take q).filter λy=>decide (y≠[]))=X;intro U HF wL;clear C
       by_cases hye:y=[]
       .subst hye;go_wp2
        go_roundg (o.length -(q+1))
        case measure=>have:=Z.out;omega
        case rel=>
         refine⟨q+1,by omega,rfl,by go_num,?_⟩;show Tw _ _ _ _;rw[HF.out];simpa using U.out
       .have hy2:y.isEmpty=false:=by
         cases y with
         |nil=>exact absurd rfl hye
         |cons=>rfl
        rw[if_neg hye]at HF;have C4:Hid (Tw Q X u11 (wr.alloc (.cells #[.string ⟨y.toArray⟩] 9))):=U.out.go (wh wr _);have hl4:Q.heap.size<=wr.heap.size:=U.out.low.size;have N4:Hid (∀j u,([(.string ⟨y.toArray⟩:Value)])[j]?=some u->(wr.alloc (.cells #[.string ⟨y.toArray⟩] 9)).cell? ((⟨wr.heap.size,0,none⟩:Addr).add j)=some u):=World.news_of_block (vw wr (.cells #[.string ⟨y.toArray⟩] 9))
        go_wp2_with (first
         |(at_builtin;refine wpList_append_lies _ rfl _ _ _ rfl Q.heap.size 9 iS (.string ⟨#[]⟩) 1 16 underlying81 hiS aag aah aai rfl (by omega) u11 X.length (X.map sV) rfl C4.out.row ⟨wr.heap.size,0,none⟩ 1 1 [.string ⟨y.toArray⟩] rfl rfl N4.out jA (by omega) (by unfold maxLen;omega) (by omega) (by simp;omega) _ rfl ?_;intro g5 cap5 w5 z aK gI gJ;have C5:Hid (Tw Q (X++[y]) (.slice (some ⟨g5,0,none⟩) (X.length+1) cap5) w5):=C4.out.step z aK;clear z aK gI gJ)
         |fail)
        go_roundg (o.length -(q+1))
        case measure=>have:=Z.out;omega
        case rel=>
         refine⟨q+1,by omega,rfl,by go_num,?_⟩;show Tw _ _ _ _;rw[HF.out];exact C5.out
      .have e1:q=o.length:=by omega
       subst e1
       have i1:¬((o.length:Nat):Int)<(o.length:Int):=by omega
       have hwx:((o.take o.length).filter λy=>decide (y≠[]))=aH x:=by rw[List.take_length,HPX.out]
       rw[hwx]at U
       have hwl:(aH x).length<=20001:=by
        rw[HPX.out];exact di (oo _ _) aaf
       have Y8:∀y∈aH x,y.length<=20000:=λy C=>di (dS x y C) hxl
       clear hwx HCP HPX Z;obtain⟨G,hW0⟩:∃G,aH x=G:=⟨_,rfl⟩;rw[hW0]at U hwl Y8 HE;have HW0:=hid hW0;clear hW0;obtain⟨pw,dw,rfl⟩:=aj U.out.row;have I3:=hid U;clear U
       go_upto_if 77 with fail
       go_cut [14,15] (λs14 s15 V=>∃(F:List UInt8) (c:Int),s14=.string ⟨F.toArray⟩/\s15=.int .i64 c/\Hid (af c/\nY c F=(sayOf st x).1/\FR w B.heap.size A.heap.size w.heap.size f (n+(if G=[]then 0 else 1)) (sayOf st x).2 V))
       case first=>
        by_cases hws:G=[]
        .have i2:¬(0:Int)<(G.length:Int):=by rw[hws];simp
         have hsy:=QK st x (by rw[HW0.out,hws]);have HSD:Hid (FR w B.heap.size A.heap.size w.heap.size f n st wr):=⟨P,Wx.out.go I3.out.low⟩;have HZ:=hid hws;clear hws;go_wp2
         go_meet
         case rel=>
          refine⟨[111,107],0,rfl,rfl,⟨by decide,by decide⟩,?_,?_⟩
          .rw[hsy];rfl
          .rw[hsy,if_pos HZ.out,Nat.add_zero];exact HSD.out
        .obtain⟨wd,ws,Yw⟩:∃wd ws,G=wd::ws:=by
          cases G with
          |nil=>exact absurd rfl hws
          |cons wd ws=>exact⟨wd,ws,rfl⟩
         have Y9:=hid Yw
         have hlen:G.length=ws.length+1:=by rw[Yw];rfl
         have HLN:=hid hlen
         have i2:(0:Int)<(G.length:Int):=by omega
         have i3:(1:Int)<=(G.length:Int):=by omega
         have i4:G.length<=dw:=by
          have:=I3.out.row
          rcases this.2 with⟨e,_⟩|⟨g',cap',cur,e,_,_,h2,_⟩
          .injection e with _ e2;omega
          .injection e with _ _ e3;omega
         obtain⟨E,e1⟩:∃E,pw=some ⟨E,0,none⟩:=by
          obtain⟨g,cg,e⟩:=yg I3.out.row (by omega)
          injection e with e1
          exact⟨g,e1⟩
         subst e1
         have HCW:Hid (∀V,Below wr.heap.size wr V->V.cell? ⟨E,0,none⟩=some (.string ⟨wd.toArray⟩)/\∀q y,ws[q]?=some y->V.cell? ⟨E,1+q,none⟩=some (.string ⟨y.toArray⟩)):=by
          intro V R;have hr:=I3.out.row;have hgw:=(hr.lt E rfl).2;refine⟨?_,λq y hq=>?_⟩
          .rw[R.cell (p:=⟨E,0,none⟩) hgw];have:=hr.cells (g:=E) rfl 0 (.string ⟨wd.toArray⟩) (by rw[Y9.out];rfl)
           rwa [bZ]at this
          .rw[R.cell (p:=⟨E,1+q,none⟩) hgw];have:=hr.cells (g:=E) rfl (1+q) (.string ⟨y.toArray⟩) (by rw[Y9.out,Nat.add_comm];simp[hq])
           rwa [bZ]at this
         have c0:=(HCW.out wr (zI _ _)).1;have Za:Hid (SD w B.heap.size A.heap.size w.heap.size f n st P wr):=Wx.out.go I3.out.low;have adg:wd.length<=20000:=Y8 wd (by rw[Yw];simp)
         have aaq:∀y∈ws,y.length<=20000:=λy C=>Y8 y (by rw[Yw];simp[C])
         obtain⟨kk,bb,eD,hk3,hbb⟩:=Mr Za.out.mp (l:=wd) (by omega);have HBB:=hid hbb
         have k1:(kk:Int)<=3:=by omega
         have k2:(0:Int)<=(kk:Int):=by omega
         have adh:E<wr.heap.size:=(I3.out.row.lt E rfl).2;clear hbb Yw hlen hws Y8 hk3
         go_upto_region 23 with fail
         go_cut [17] (λWU V=>WU=.bool (bb&&((G.length:Int)==(kk:Int)+1))/\V=wr)
         case first=>
          cases bb
          .go_wp2
           go_meet
           case rel=>exact⟨rfl,rfl⟩
          .go_wp2
           go_meet
           case rel=>exact⟨by simp,rfl⟩
         case rest=>
          obtain⟨rfl,T⟩:=hcut;have T:=T.symm;subst T;obtain⟨K,hb2⟩:∃K,(bb&&((G.length:Int)==(kk:Int)+1))=K:=⟨_,rfl⟩
          have HB2:Hid (K=(match dM wd with|some v=>decide (ws.length=v.ar)|none=>false)):=by
           show K=_;rw[<-hb2,<-HBB.out ws,HLN.out];simp
          rw[hb2];clear hb2 eD HBB k1 k2
          obtain⟨ao,hA,hao⟩:∃ao:Nat,(if dw=1 then some (⟨E,0,none⟩:Addr)else some ⟨E,1,none⟩)=some ⟨E,ao,none⟩/\∀V,Below wr.heap.size wr V->∀q y,ws[q]?=some y->V.cell? ⟨E,ao+q,none⟩=some (.string ⟨y.toArray⟩):=by
           by_cases hd:dw=1
           .refine⟨0,by rw[if_pos hd],λV R q y hq=>?_⟩;have:=(kH.1 hq).1;have:=HLN.out;omega
           .exact⟨1,by rw[if_neg hd],λV R q y hq=>(HCW.out V R).2 q y hq⟩
          have HAO:=hid hao
          have i5:(1:Int)<=(dw:Int):=by omega
          have i6:G.length -1=ws.length:=by have:=HLN.out;omega
          clear hao;go_wp2;have L0:Hid (Lr wr (iR (ws.take 0)) (.slice none 0 0) wr):=⟨zI _ _,Ak _ _ _ _⟩
          have R0:(.bool K:Value)=.bool (K&&nO (ws.take 0)):=by simp[nO]
          have adj:ws.length<=20001:=by omega
          have HGW:Hid (aU wr):=HG.out.below Za.out.low;clear i6
          go_loopg [17,18,97] ws.length (λgg v17 v18 v97 wr3=>∃q:Nat,q<=ws.length/\gg=ws.length -q/\v97=.int .i64 q/\v17=.bool (K&&nO (ws.take q))/\Hid (Lr wr (iR (ws.take q)) v18 wr3))
          case atStart=>exact⟨0,gy _,rfl,rfl,R0,L0⟩
          case round=>
           obtain⟨q,hq,sK,rfl,rfl,L⟩:=hrel;have Z:=hid sK;clear sK L0 R0 c0
           by_cases uD:q<ws.length
           .obtain⟨y,C⟩:∃y,ws[q]?=some y:=⟨_,dK uD⟩;have hcy:=HAO.out _ L.out.low q y C
            have HON:Hid ((K&&nO (ws.take (q+1)))=((K&&nO (ws.take q))&&(numOf y).isSome)):=by
             show(K&&nO (ws.take (q+1)))=_;rw[TC ws q y C,Bool.and_assoc]
            have HVN:Hid (iR (ws.take (q+1))=iR (ws.take q)++[(numOf y).getD 0]):=QJ ws q y C
            have hvl:(iR (ws.take q)).length<=20001:=by rw[Ko];exact di (ve _ _) (by omega)
            have HNm:Hid (Calls prog 36 #[.string ⟨y.toArray⟩] wr λe s=>e=.returned (.tuple #[.int .i64 ((numOf y).getD 0),.bool (numOf y).isSome])/\Hid (Below wr.heap.size wr s)):=FT y wr (HGW.out.below L.out.low) (by have:=aaq y (mh C);omega)
            have j3:(0:Int)<=(q:Int):=by omega
            have j4:(q:Int)<(ws.length:Int):=by omega
            revert HON HVN hvl L;generalize(K&&nO (ws.take q))=r;generalize iR (ws.take q)=V;intro L HON HVN hvl;clear C;generalize(numOf y).isSome=fy at *;generalize(numOf y).getD 0=vy at *;cases r
            all_goals
             go_wp2_with (first
              |(go_at_call 36;refine HNm.out.mono ?_;rintro e w6 ⟨rfl,hb6⟩;have C4:Hid (Lr _ V u18 (w6.alloc (.cells #[.int .i64 vy] 3))):=L.out.go (hb6.out.trans ((wh w6 _).mono hb6.out.size));have N4:Hid (∀j u,([(.int .i64 vy:Value)])[j]?=some u->(w6.alloc (.cells #[.int .i64 vy] 3)).cell? ((⟨w6.heap.size,0,none⟩:Addr).add j)=some u):=World.news_of_block (vw w6 (.cells #[.int .i64 vy] 3));have zz:=(L.out.low.trans (hb6.out.mono L.out.low.size)).size)
              |(at_builtin;refine wpList_append_lies _ rfl _ _ _ rfl _ 3 iI (.int .i64 0) 1 8 underlying84 hiI aaj aak aal rfl (by omega) u18 V.length (V.map (Value.int .i64)) rfl C4.out.row ⟨w6.heap.size,0,none⟩ 1 1 [.int .i64 vy] rfl rfl N4.out (oU (ns:=[vy])) (by omega) (by unfold maxLen;omega) (by omega) (by simp;omega) _ rfl ?_;intro g5 cap5 w5 z aK gI gJ;have C5:=Wv C4.out z aK;have HC5:Hid _:=C5;clear z aK gI gJ C5)
              |fail)
             go_roundg (ws.length -(q+1))
             case measure=>have:=Z.out;omega
             case rel=>
              refine⟨q+1,by omega,rfl,by go_num,?_,?_⟩
              .rw[HON.out];simp
              .show Lr _ _ _ _;rw[HVN.out];exact HC5.out
           .have e1:q=ws.length:=by omega
            subst e1
            have i1:¬((ws.length:Nat):Int)<(ws.length:Int):=by omega
            rw[List.take_length]at L;rw[List.take_length]
            have hok:(K&&nO ws)=uM wd ws:=by rw[HB2.out];unfold uM;cases dM wd <;>rfl
            rw[hok];have TF:=Ml st x wd ws (by rw[HW0.out,Y9.out])
            have hne0:¬G=[]:=by rw[Y9.out];simp
            have HNE:=hid hne0;clear hok hne0;have TG:=Za.out.go L.out.low;have c5:=(HCW.out _ L.out.low).1
            cases hR:uM wd ws with
            |false=>
             have N:=TF.2 hR;have HSD:Hid (FR w B.heap.size A.heap.size w.heap.size f (n+1) st wr):=⟨P,TG.more (by omega)⟩;clear TF TG L;go_wp2
             go_meet
             case rel=>
              refine⟨[111,107],3,rfl,rfl,⟨by decide,by decide⟩,?_,?_⟩
              .rw[N];rfl
              .rw[N,if_neg HNE.out];exact HSD.out
            |true=>
             obtain⟨v,hwv,hlv,N⟩:=TF.1 hR
             have HD:Hid (Calls prog 81 #[.pointer (some ⟨B.heap.size,0,none⟩),.string ⟨wd.toArray⟩,u18] wr λe s=>∃(F:List UInt8) (c:Int),e=.returned (.tuple #[.string ⟨F.toArray⟩,.int .i64 c])/\Hid (af c/\nY c F=(sayOf st x).1/\FR w B.heap.size A.heap.size w.heap.size f (n+1) (sayOf st x).2 s)):=by
              obtain⟨iF,rs,Pe,hDH⟩:=TG.dk;rw[hwv];refine(Mo v hDH WT.out hcn HG.out (iR ws) (by rw[Ko];exact hlv) _ u18 L.out.row (λg e hPg=>?_)).mono ?_
              .have M:=(L.out.row.lt g e).1;have h2:=Za.out.plt g hPg;omega
              .rintro e s ⟨F,rfl,htx,hnx⟩;obtain⟨P',q1,_,_⟩:=TG.next hnx;refine⟨F,_,rfl,tN v st (iR ws),?_,?_⟩
               .rw[N];unfold nY
                by_cases h0:(v.does st (iR ws)).1.1=0
                .rw[if_pos h0,if_pos h0,htx h0]
                .rw[if_neg h0,if_neg h0]
               .rw[N];exact⟨P',q1⟩
             clear TF TG L N hwv hlv
             go_wp2_with (first
              |(go_at_call 81;refine HD.out.mono ?_;rintro e w7 ⟨F,c,rfl,h7⟩)
              |fail)
             go_meet
             case rel=>
              refine⟨F,c,rfl,rfl,h7.out.1,h7.out.2.1,?_⟩;rw[if_neg HNE.out];exact h7.out.2.2
       case rest=>
        obtain⟨F,c,rfl,rfl,hR⟩:=hcut;obtain⟨Wy,Yx,Wz⟩:=hR.out;have HSE:Hid (FR w B.heap.size A.heap.size w.heap.size f (iV (d.take (i+1))) (ax (Sx.new 0 10 3) (d.take (i+1))).2 wc):=HE.out wc Wz
        have HLW:Hid (jP wc):=by
         obtain⟨P',q1⟩:=Wz;exact aG HG.out.g.tab q1.low
        rw[<-Yx]at HX Y
        have HSG:Hid (∀V,Below wc.heap.size wc V->Hid (FR w B.heap.size A.heap.size w.heap.size f (iV (d.take (i+1))) (ax (Sx.new 0 10 3) (d.take (i+1))).2 V)):=λV R=>HSE.out.go R
        clear Yx Wz hR HE Wx I3 WT
        by_cases hc0:c=0
        .subst hc0;have ha0:nY 0 F=F:=rfl;rw[ha0]at HX Y
         have b1:¬9223372036854775807<F.length+1:=by omega
         have K:¬9223372036854775807<o1.length+(F.length+1):=by omega
         go_wp2
         go_roundg (d.length -(i+1))
         case measure=>have:=HGm.out;omega
         case rel=>
          refine⟨i+1,by omega,rfl,by go_num,?_,HSE⟩;rw[HX.out,List.append_assoc];congr 2
        .have ha0:nY c F=eH c:=by unfold nY;rw[if_neg hc0]
         rw[ha0]at HX Y
         have hcb:(c !=0)=true:=by simpa using hc0
         have aau:=Lib.itoa_length_le c Wy.1 Wy.2
         have b0:¬9223372036854775807<6+(Lib.itoa c).length:=by omega
         have b1:¬9223372036854775807<6+(Lib.itoa c).length+1:=by omega
         have K:¬9223372036854775807<o1.length+(6+(Lib.itoa c).length+1):=by omega
         have HWc:Hid (Calls prog 54 #[.slice (some ⟨wc.heap.size,0,none⟩) 1 1] (wc.alloc (.cells #[.int .i64 c] 3)) λe s=>e=.returned (.string ⟨(Lib.itoa c).toArray⟩)/\Hid (FR w B.heap.size A.heap.size w.heap.size f (iV (d.take (i+1))) (ax (Sx.new 0 10 3) (d.take (i+1))).2 s)):=by
          have q1:Below wc.heap.size wc (wc.alloc (.cells #[.int .i64 c] 3)):=wh _ _;have:=fB [c] (yX Wy) (by simp) wc HLW.out wc.heap.size _ q1 (vw wc _);rw[jw]at this
          exact this.mono λe s hh=>⟨hh.1,HSG.out _ (q1.trans (hh.2.mono q1.size))⟩
         clear aau hc0 ha0
         go_wp2_with (first
          |(go_at_call 54;refine HWc.out.mono ?_;rintro e w8 ⟨rfl,h8⟩)
          |fail)
         go_roundg (d.length -(i+1))
         case measure=>have:=HGm.out;omega
         case rel=>
          refine⟨i+1,by omega,rfl,by go_num,?_,h8⟩;rw[HX.out,List.append_assoc];congr 2
    .have e1:i=d.length:=by omega
     subst e1
     have j1:¬((d.length:Nat):Int)<(d.length:Int):=by omega
     have HL:Hid (Below w.heap.size w wr):=by
      obtain⟨P,M⟩:=I.out;exact M.low
     have e2:(ax (Sx.new 0 10 3) (d.take d.length)).1=ou t:=by rw[List.take_length,UY.out]
     rw[e2];clear e2 I;go_wp2;go_ret;exact⟨rfl,HL.out⟩
end
section
theorem zX(t:List UInt8)(ht:20000<t.length)(w:World):
  Calls prog 33 #[.string ⟨t.toArray⟩] w λe b=>e=.returned (sV (eH 4++[10]))/\b=w:=by
 have hz:(20000:Int)<(t.length:Int):=by omega
 have a:eH 4++[10]=[101,114,114,111,114,32,52,10]:=by kernel_rfl
 rw[a];go_enter func33,ntmps33;go_wp2;go_ret;exact⟨rfl,rfl⟩
theorem sM(t X:List UInt8)(w:World)(hi:(¬(3000:Int)<(t.length:Int))∨(3000:Int)<(t.length:Int)/\¬(t.length:Int)<=20000)(h3:¬(30000:Int)<(t.length:Int))
  (h:Calls prog 32 #[.string ⟨t.toArray⟩] w λe f=>e=.returned (sV X)/\Below w.heap.size w f)
  (k:∀W,Below w.heap.size w W->Calls prog 33 #[.string ⟨t.toArray⟩] W λe f=>e=.returned (sV X)/\Below W.heap.size W f):
  Calls prog 6 #[.string ⟨t.toArray⟩] w λe f=>e=.returned (.bool true)/\Below w.heap.size w f:=by
 have j:=hid h;have i:=hid k;clear h k
 rcases hi with i1|⟨i1,i2⟩
 .go_enter func6,ntmps6
  go_wp2_with (first
   |(go_at_call 32;refine j.out.mono ?_;rintro e l ⟨rfl,c⟩;have a:=hid c;clear c)
   |(go_at_call 33;refine(i.out _ a.out).mono ?_;rintro e g ⟨rfl,b⟩;have d:Hid (Below w.heap.size w g):=a.out.trans (b.mono a.out.size);clear b)
   |fail)
  go_ret;exact⟨by simp,d.out⟩
 .go_enter func6,ntmps6
  go_wp2_with (first
   |(go_at_call 32;refine j.out.mono ?_;rintro e l ⟨rfl,c⟩;have a:=hid c;clear c)
   |(go_at_call 33;refine(i.out _ a.out).mono ?_;rintro e g ⟨rfl,b⟩;have d:Hid (Below w.heap.size w g):=a.out.trans (b.mono a.out.size);clear b)
   |fail)
  go_ret;exact⟨by simp,d.out⟩
theorem sN(t:List UInt8)(w:World)(hi:(3000:Int)<(t.length:Int)/\(t.length:Int)<=20000∨(30000:Int)<(t.length:Int)):
  Calls prog 6 #[.string ⟨t.toArray⟩] w λe b=>e=.returned (.bool true)/\Below w.heap.size w b:=by
 rcases hi with⟨c,a⟩|i3
 .go_enter func6,ntmps6;go_wp2;go_ret;exact⟨rfl,zI _ _⟩
 .have c:(3000:Int)<(t.length:Int):=by omega
  have a:¬(t.length:Int)<=20000:=by omega
  go_enter func6,ntmps6;go_wp2;go_ret;exact⟨rfl,zI _ _⟩
theorem Dy(t:List UInt8)(w:World)(a:aU w):Calls prog 6 #[.string ⟨t.toArray⟩] w λe c=>e=.returned (.bool true)/\Below w.heap.size w c:=by
 by_cases h1:t.length<=3000
 .have d:iV (fq (Lib.trimSuffix t [10]))<=1600:=by
   have b:=DZ (fq (Lib.trimSuffix t [10]));rw[xW]at b
   have g:(Lib.trimSuffix t [10]).length<=t.length:=by
    unfold Lib.trimSuffix
    split
    .rw[List.length_take];omega
    .exact aO _
   omega
  exact sM t (ou t) w (.inl (by omega)) (by omega) (D6 t (by omega) d w a) (λW f=>CY t (by omega) d W (a.below f))
 .by_cases b:t.length<=20000
  .exact sN t w (.inl ⟨by omega,by omega⟩)
  .by_cases g:t.length<=30000
   .exact sM t (eH 4++[10]) w (.inr ⟨by omega,by omega⟩) (by omega) (Cn t (by omega) w a) (λW _=>(zX t (by omega) W).mono λe c h=>⟨h.1,by rw[h.2];exact zI _ _⟩)
   .exact sN t w (.inr (by omega))
end
end Go.Proofs.YthfpipieboophaaGreatDoor
