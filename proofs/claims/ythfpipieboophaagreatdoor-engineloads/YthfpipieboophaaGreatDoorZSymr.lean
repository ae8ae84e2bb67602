import Derived.Test.YthfpipieboophaaGreatDoorZStab
namespace Go.Proofs.YthfpipieboophaaGreatDoor
set_option maxRecDepth 100000
set_option maxHeartbeats 40000000
open Go.RowKit Go.Sort
section
variable{blk n lf f:Nat}{lb i:Array Value}{c:Array O->World->Prop}
def xw(blk n lf:Nat)(lb:Array Value)(f:Nat)(i:Array Value)(c:Array O->World->Prop)(g:Nat):Prop:=
 ∀(d:Array O) (a m b:Nat) (w:World),b -a<=g->c d w->a<m->m<b->b<=n->SortedIn dD a m d->SortedIn dD m b d->
  Calls Tryz.prog 209 #[.agg #[.func (.func lf) #[] lb,.func (.func f) #[] i],.int .i64 a,.int .i64 m,.int .i64 b] w λe w'=>e=.returned (.tuple #[])/\∃d',c d' w'/\Merged dD a b d d'/\w.grownBy w' (some blk)
theorem vY(d:Array O)(s m e:Nat)(h:s=m∨e=m)(h2:s<=m)(h3:m<=e):pK d d s m e:=by
 intro p
 rcases h with h|h
 .subst h;rw[Nat.sub_self,Nat.add_zero]
  split
  .rfl
  .rw[if_neg (by omega)]
 .subst h;rw[Nat.sub_self,Nat.add_zero,Nat.sub_zero,if_neg (by omega)]
  split <;>rfl
theorem aaR(S:jK blk n lf lb f i c)(hO:SWO dD)(g0:Nat)(hI:xw blk n lf lb f i c g0)(d:Array O)(a m b:Nat)(w:World)(hg0:b -a<=g0+1)(hd:c d w)(h0:a+1<m)(h1:m+1<b)(h3:b<=n)(hn:n<=1000000)(P:SortedIn dD a m d)(v:SortedIn dD m b d):
  Calls Tryz.prog 209 #[.agg #[.func (.func lf) #[] lb,.func (.func f) #[] i],.int .i64 a,.int .i64 m,.int .i64 b] w λe w'=>e=.returned (.tuple #[])/\∃d',c d' w'/\Merged dD a b d d'/\w.grownBy w' (some blk):=by
 have l:=S.lt d w hd;have HZ:=hid (S.size d w hd);have HO:=hid hO;have HI:=hid hI;have Xe:=hid P;have V:=hid v;have T:=hid S;have HD:=hid hd;have OZ:=S.enters;obtain⟨mid,hmid⟩:∃mid,mid=(a+b)/2:=⟨_,rfl⟩
 have hm1:2*mid<=a+b:=by omega
 have hm2:a+b<=2*mid+1:=by omega
 have HM:=hid hmid
 have i1:((m:Int) -(a:Int)==1)=false:=by rw[beq_eq_false_iff_ne];omega
 have i1':(m:Int) -(a:Int)≠1:=by omega
 have i2:((b:Int) -(m:Int)==1)=false:=by rw[beq_eq_false_iff_ne];omega
 have Zb:(b:Int) -(m:Int)≠1:=by omega
 have i3:(b:Int)<=1000000:=by omega
 have i4:(m:Int)<=1000000:=by omega
 have i5:(a:Int)<=1000000:=by omega
 have i6:((a:Int)+(b:Int))/2=(mid:Int):=by omega
 have i7:(mid:Int)<=1000000:=by omega
 clear S hd P v hO hI hmid
 rcases Classical.em ((mid:Int)<(m:Int))with i8|i8
 case' inl=>obtain⟨p,q,HPQ⟩:∃p q:Nat,Hid (p=mid+m -b/\q=mid):=⟨_,_,rfl,rfl⟩
 case' inr=>obtain⟨p,q,HPQ⟩:∃p q:Nat,Hid (p=a/\q=m):=⟨_,_,rfl,rfl⟩
 all_goals
  have b1:a<=p:=by have:=HPQ.out;omega
  have b2:mid+m<=b+p:=by have:=HPQ.out;omega
  have b3:q<=m:=by have:=HPQ.out;omega
  have b4:q<=mid:=by have:=HPQ.out;omega
  have b5:p<=q:=by have:=HPQ.out;omega
  go_enter Tryz.func209,Tryz.ntmps209;go_wp2
  go_loopg [18,19] (q -p) (λg v8 v9 wr=>∃(s r:Nat),p<=s/\s<=r/\r<=q/\r -s<=g/\v8=.int .i64 s/\v9=.int .i64 r/\Hid ((s=p∨dD d[mid+m -s]! d[s -1]! =false)/\(r=q∨dD d[mid+m -r -1]! d[r]! =true))/\Hid (dP blk lf lb f i c w d wr))
  case atStart=>exact⟨p,q,aC _,b5,aC _,aC _,(by congr 1;have:=HPQ.out;omega),(by congr 1;have:=HPQ.out;omega),⟨Or.inl rfl,Or.inl rfl⟩,dP.start T.out HD.out⟩
  case round=>
   obtain⟨s,r,TU,hij,W,hg,rfl,rfl,I,L⟩:=hrel;have B:=hid hg;clear hg
   by_cases hlt2:s<r
   .have k1:(s:Int)<(r:Int):=by omega
    have k2:(r:Int)<=1000000:=by omega
    have hl:=T.out.less d wr (mid+m -1 -(s+r)/2) ((s+r)/2) L.out.hd (by omega) (by omega);rw[show((mid+m -1 -(s+r)/2:Nat):Int)=(mid:Int)+(m:Int) -1 -((s:Int)+(r:Int))/2 by omega,show(((s+r)/2:Nat):Int)=((s:Int)+(r:Int))/2 by omega]at hl;have c0:=L.out.c0;go_wp2_with fail;refine hl.mono ?_;rintro e w3 ⟨rfl,N⟩;have o:=hid (L.out.below T.out N);clear hl N c0 L
    by_cases hless:cO d[mid+m -1 -(s+r)/2]! d[(s+r)/2]! < 0
    .rw[eu hless];have I2:Hid ((s=p∨dD d[mid+m -s]! d[s -1]! =false)/\((s+r)/2=q∨dD d[mid+m -(s+r)/2 -1]! d[(s+r)/2]! =true)):=⟨I.out.1,Or.inr (by rw[show mid+m -(s+r)/2 -1=mid+m -1 -(s+r)/2 by omega];simp[dD,hless])⟩;clear hless;go_wp2
     go_roundg ((s+r)/2 -s)
     case measure=>have:=B.out;omega
     case rel=>exact⟨s,(s+r)/2,TU,by omega,by omega,aC _,rfl,by first|rfl|(congr 1;omega)|go_num,I2,o⟩
    .rw[dJ hless];have I2:Hid (((s+r)/2+1=p∨dD d[mid+m -((s+r)/2+1)]! d[(s+r)/2+1 -1]! =false)/\(r=q∨dD d[mid+m -r -1]! d[r]! =true)):=⟨Or.inr (by rw[Nat.add_sub_cancel,show mid+m -((s+r)/2+1)=mid+m -1 -(s+r)/2 by omega];simp[dD,hless]),I.out.2⟩;clear hless;go_wp2
     go_roundg (r -((s+r)/2+1))
     case measure=>have:=B.out;omega
     case rel=>exact⟨(s+r)/2+1,r,by omega,by omega,W,aC _,by first|rfl|(congr 1;omega)|go_num,rfl,I2,o⟩
   .obtain rfl:s=r:=by omega
    have k1:¬((s:Int)<(s:Int)):=by omega
    have k2:(s:Int)<=1000000:=by omega
    obtain⟨e,he⟩:∃e,e=mid+m -s:=⟨_,rfl⟩
    have he1:e+s<=mid+m:=by omega
    have he2:mid+m<=e+s:=by omega
    have k3:(mid:Int)+(m:Int) -(s:Int)=(e:Int):=by omega
    have k4:(e:Int)<=1000000:=by omega
    have HF:Hid (∀r,pK d r s m e->kJ dD a s mid e b r):=by
     intro r F;rw[he]at F⊢
     have hL:s=a∨mid+m=b+s∨dD d[mid+m -s]! d[s -1]! =false:=by
      rcases I.out.1 with h|h
      .have:=HPQ.out;omega
      .exact Or.inr (Or.inr h)
     have hR:s=m∨s=mid∨dD d[mid+m -s -1]! d[s]! =true:=by
      rcases I.out.2 with h|h
      .have:=HPQ.out;omega
      .exact Or.inr (Or.inr h)
     exact Be HO.out d r a m b s mid (by omega) HM.out Xe.out V.out (by omega) (by omega) (by omega) (by omega) hL hR F
    clear he
    rcases Classical.em ((s:Int)<(m:Int)/\(m:Int)<(e:Int))with x|x
    case' inl=>
     obtain⟨x1,x2⟩:=x;have C:=ze T.out d s m e wr L.out.hd (by omega) (by omega) (by omega) hn;have c0:=L.out.c0;have c1:=L.out.c1;go_wp2_with fail;refine C.mono ?_;rintro ex w1 ⟨rfl,H,G⟩;have k:=hid (L.out.turn l H G)
     have j:Hid (kJ dD a s mid e b (l9 (e -s) d m (m -s) (e -m))/\PermIn a b d (l9 (e -s) d m (m -s) (e -m))):=by
      have hz:=HZ.out;have F:=vN (e -s) d m (m -s) (e -m) (by omega) (by omega) (by omega) (by omega) (by omega);rw[show m -(m -s)=s by omega,show m+(e -m)=e by omega]at F;exact⟨HF.out _ F,Bc _ _ _ _ _ _ _ (by omega) (by omega) (by omega)⟩
     clear H G C c0 c1 L;generalize l9 (e -s) d m (m -s) (e -m)=d1 at k j
    case' inr=>
     have X:=hid x;clear x
     rcases Classical.em ((s:Int)<(m:Int))with x1|x1
     case' inl=>have x2:¬((m:Int)<(e:Int)):=λq=>X.out ⟨x1,q⟩
     all_goals
      have j:=hid (And.intro (HF.out _ (vY d s m e (by omega) (by omega) (by omega))) (permIn_refl d a b));have k:=L
    all_goals
     rcases Classical.em ((a:Int)<(s:Int)/\(s:Int)<(mid:Int))with y|y
     case' inl=>
      obtain⟨U,y2⟩:=y
      all_goals try (exfalso;omega)
      all_goals
       have K:=HI.out _ a s mid _ (by omega) k.out.hd (by omega) (by omega) (by omega) j.out.1.h1 j.out.1.h2;have c0:=k.out.c0;have c1:=k.out.c1;go_wp2_with fail;refine Calls.mono K ?_;rintro ex w2 ⟨rfl,d2,M,R,Q⟩;have u:=hid (k.out.turn l M Q);have t:=hid R;clear M R Q K c0 c1 k
     case' inr=>
      have Y:=hid y;clear y
      rcases Classical.em ((a:Int)<(s:Int))with U|U
      case' inl=>have y2:¬((s:Int)<(mid:Int)):=λq=>Y.out ⟨U,q⟩
      all_goals
       have t:=hid (dY j.out.1.h1 j.out.1.h2 (by omega));have u:=k
    all_goals
     rcases Classical.em ((mid:Int)<(e:Int)/\(e:Int)<(b:Int))with z|z
     case' inl=>
      obtain⟨z1,z2⟩:=z
      all_goals try (exfalso;omega)
      all_goals
       have Ra:=HI.out _ mid e b _ (by omega) u.out.hd (by omega) (by omega) (by omega) ((j.out.1.right t.out).resolve_right (by omega)).1 ((j.out.1.right t.out).resolve_right (by omega)).2;have c0:=u.out.c0;have c1:=u.out.c1;go_wp2_with fail;refine Calls.mono Ra ?_;rintro ex w3 ⟨rfl,d3,A,EF,E⟩;have o:=hid (u.out.turn l A E);have M3:=hid EF;clear A EF E Ra c0 c1
     case' inr=>
      have Z:=hid z;clear z
      rcases Classical.em ((mid:Int)<(e:Int))with z1|z1
      case' inl=>have z2:¬((e:Int)<(b:Int)):=λq=>Z.out ⟨z1,q⟩
      all_goals
       have M3:=hid (dY ((j.out.1.right t.out).resolve_right (by omega)).1 ((j.out.1.right t.out).resolve_right (by omega)).2 (by omega));have o:=u
    all_goals try (exfalso;omega)
    all_goals
     go_wp2
     go_end0
     refine⟨rfl,_,o.out.hd,?_,o.out.grown⟩;have hz:=HZ.out;have hq:=j.out.2.1;have hm:=j.out.1.done (by omega) (by omega) (by omega) t.out M3.out;exact⟨permIn_trans _ _ _ _ _ j.out.2 hm.1,hm.2⟩
theorem TR(S:jK blk n lf lb f i c)(o:SWO dD)(l:n<=1000000)(g:Nat):xw blk n lf lb f i c g:=by
 induction g with
 |zero=>intro d a m b w p hd q j;omega
 |succ g ih=>
  intro d a m b w p hd q j k e h
  by_cases e1:m=a+1
  .exact TT S o d a m b w hd (by omega) q j k l h
  .by_cases e2:b=m+1
   .exact Q7 S o d a m b w hd (by omega) (by omega) j k l e
   .exact aaR S o g ih d a m b w p hd (by omega) (by omega) k l e h
end
section
variable{lt:O->O->Bool}{a b n:Nat}{d:Array O}
theorem qW(h:SortedIn lt a (min b n) d)(c:b<=n):SortedIn lt a b d:=by
 rw[Nat.min_eq_left c]at h;exact h
theorem F9(h:SortedIn lt a (min b n) d)(c:n<=b):SortedIn lt a n d:=by
 rw[Nat.min_eq_right c]at h;exact h
theorem Jk{blk lf q:Nat}{lb r:Array Value}{o:Array O->World->Prop}(S:jK blk n lf lb q r o)(Q:SWO dD)(d:Array O)(w:World)(hd:o d w)(Z:n<=1000000):
  Calls Tryz.prog 125 #[.agg #[.func (.func lf) #[] lb,.func (.func q) #[] r],.int .i64 n] w λe w'=>e=.returned (.tuple #[])/\∃h,o h w'/\PermIn 0 n d h/\SortedIn dD 0 n h/\w.grownBy w' (some blk):=by
 have x:=S.lt d w hd;have A:=S.size d w hd;have H:=hid A;have HO:=hid Q;have U:=hid S;have HD:=hid hd;have HI:Hid (xw blk n lf lb q r o n):=TR S Q Z n
 have i1:(n:Int)<=1000000:=by omega
 clear S hd Q A;go_enter Tryz.func125,Tryz.ntmps125;go_wp2
 go_loopg [5,6] n (λg v5 T wr=>∃(t a:Nat) (h:Array O),a<=n/\g=n -a/\v5=.int .i64 a/\T=.int .i64 ((a+20:Nat):Int)/\Hid (a=t*20/\qK dD t h/\PermIn 0 n d h)/\Hid (dP blk lf lb q r o w h wr))
 case atStart=>exact⟨0,0,d,aW _,rfl,rfl,rfl,⟨rfl,λc hc=>absurd hc (Nat.not_lt_zero _),permIn_refl _ _ _⟩,dP.start U.out HD.out⟩
 case round=>
  obtain⟨t,a,h,ha,hg,rfl,rfl,I,L⟩:=hrel;have HG:=hid hg;clear hg
  have k2:(a:Int)<=1000000:=by omega
  have c0:=L.out.c0;have c1:=L.out.c1
  by_cases hb:a+20<=n
  .have k1:((a+20:Nat):Int)<=(n:Int):=by omega
   have hi:=J4 U.out h a (a+20) wr L.out.hd hb Z (by omega)
   have k4:(0:Int)<=((a+20:Nat):Int):=by omega
   have N:Hid (a+20=(t+1)*20/\qK dD (t+1) (insertionSort dD h a (a+20))/\PermIn 0 n d (insertionSort dD h a (a+20))):=by
    obtain⟨i,j,k⟩:=I.out;have R:=H.out;have Y:h.size=d.size:=k.1;have y:=insertionSort_holds HO.out h a (a+20) (by omega) (by omega);refine⟨by omega,?_,permIn_trans _ _ _ _ _ k (permIn_mono _ _ _ _ _ _ (aW _) hb (by omega) y.1)⟩;subst i;exact j.step y.1 y.2
   generalize hX:((a+20:Nat):Int)=X at *;go_wp2_with fail;refine hi.mono ?_;rintro e W ⟨rfl,m,l⟩;have M:Hid (dP blk lf lb q r o w (insertionSort dD h a (a+20)) W):=L.out.turn x m l;clear m l hi c0 c1 L;go_wp2
   go_roundg (n -(a+20))
   case measure=>have:=HG.out;omega
   case rel=>exact⟨t+1,a+20,_,hb,rfl,by first|rfl|(congr 1;omega)|go_num,by first|rfl|(congr 1;omega)|go_num,N,M⟩
  .have k1:¬(((a+20:Nat):Int)<=(n:Int)):=by omega
   have hi:=J4 U.out h a n wr L.out.hd (aC _) Z (by omega)
   have N:Hid (Ro dD 20 n (insertionSort dD h a n)/\PermIn 0 n d (insertionSort dD h a n)):=by
    obtain⟨i,j,k⟩:=I.out;have R:=H.out;have Y:h.size=d.size:=k.1;have y:=insertionSort_holds HO.out h a n (by omega) (by omega);refine⟨?_,permIn_trans _ _ _ _ _ k (permIn_mono _ _ _ _ _ _ (aW _) (aC _) (by omega) y.1)⟩;subst i;exact j.blk (by omega) y.1 y.2
   generalize hX:((a+20:Nat):Int)=X at *;go_wp2_with fail;refine hi.mono ?_;rintro e W ⟨rfl,m,l⟩;have M:Hid (dP blk lf lb q r o w (insertionSort dD h a n) W):=L.out.turn x m l;clear m l hi c0 c1 L;generalize insertionSort dD h a n=d1 at M N;go_wp2
   go_loopg [4] n (λg v4 wr=>∃(s:Nat) (d2:Array O),20<=s/\s<=2000000/\n -s<=g/\v4=.int .i64 s/\Hid (Ro dD s n d2/\PermIn 0 n d d2)/\Hid (dP blk lf lb q r o w d2 wr))
   case atStart=>exact⟨20,d1,aC _,by omega,by omega,rfl,N,M⟩
   case round=>
    obtain⟨s,d2,hs1,hs2,G,rfl,J,L2⟩:=hrel;have F:=hid G;clear G
    by_cases hsn:s<n
    .have j1:(s:Int)<(n:Int):=by omega
     have j2:(0:Int)<=(s:Int):=by omega
     go_wp2
     go_loopg [5,6] n (λg v5 T wr=>∃(t a:Nat) (d3:Array O),a<=n/\g=n -a/\v5=.int .i64 a/\T=.int .i64 ((a+2*s:Nat):Int)/\Hid (a=t*(2*s)/\rW dD s n t d3/\PermIn 0 n d d3)/\Hid (dP blk lf lb q r o w d3 wr))
     case atStart=>exact⟨0,0,d2,aW _,rfl,rfl,by first|rfl|(congr 1;omega)|go_num,⟨by rw[Nat.zero_mul],J.out.1.mid,J.out.2⟩,L2⟩
     case round=>
      obtain⟨t,f,d3,ha3,B,rfl,rfl,K,v⟩:=hrel;have Zg:=hid B;clear B
      have m2:(f:Int)<=1000000:=by omega
      have C:(f:Int)+(s:Int)=((f+s:Nat):Int):=by omega
      have m5:((f+2*s:Nat):Int)<=3000000:=by omega
      have m6:(0:Int)<=((f+2*s:Nat):Int):=by omega
      have c0:=v.out.c0;have c1:=v.out.c1
      by_cases hb3:f+2*s<=n
      .have m1:((f+2*s:Nat):Int)<=(n:Int):=by omega
       have hi:=HI.out d3 f (f+s) (f+2*s) wr (by omega) v.out.hd (by omega) (by omega) hb3 (by
        obtain⟨i,j,k⟩:=K.out
        have:=j.ahead;rw[<-i]at this;exact qW this (by omega)) (by
        obtain⟨i,j,k⟩:=K.out
        have:=j.next;rw[<-i]at this;exact qW this (by omega))
       rw[<-C]at hi;clear C;generalize hX:((f+2*s:Nat):Int)=X at *;go_wp2_with fail;refine Calls.mono hi ?_;rintro e V ⟨rfl,d4,E,u,p⟩;have P:Hid (dP blk lf lb q r o w d4 V):=v.out.turn x E p
       have z:Hid (f+2*s=(t+1)*(2*s)/\rW dD s n (t+1) d4/\PermIn 0 n d d4):=by
        obtain⟨i,j,k⟩:=K.out;have R:=H.out;have Y:d3.size=d.size:=k.1;refine⟨by rw[Nat.add_mul,Nat.one_mul,<-i],?_,permIn_trans _ _ _ _ _ k (permIn_mono _ _ _ _ _ _ (aW _) hb3 (by omega) u.1)⟩;rw[i]at u;exact j.step u
       clear E u p hi c0 c1 v K;go_wp2
       go_roundg (n -(f+2*s))
       case measure=>have:=Zg.out;omega
       case rel=>exact⟨t+1,f+2*s,d4,hb3,rfl,by first|rfl|(congr 1;omega)|go_num,by first|rfl|(congr 1;omega)|go_num,z,P⟩
      .have m1:¬(((f+2*s:Nat):Int)<=(n:Int)):=by omega
       by_cases hm:f+s<n
       .have m7:(f:Int)+(s:Int)<(n:Int):=by omega
        have hi:=HI.out d3 f (f+s) n wr (by omega) v.out.hd (by omega) hm (aC _) (by
         obtain⟨i,j,k⟩:=K.out
         have:=j.ahead;rw[<-i]at this;exact qW this (by omega)) (by
         obtain⟨i,j,k⟩:=K.out
         have:=j.next;rw[<-i]at this;exact F9 this (by omega))
        rw[<-C]at hi;clear C;generalize hX:((f+2*s:Nat):Int)=X at *;go_wp2_with fail;refine Calls.mono hi ?_;rintro e V ⟨rfl,d4,E,u,p⟩;have P:Hid (dP blk lf lb q r o w d4 V):=v.out.turn x E p
        have z:Hid (Ro dD (2*s) n d4/\PermIn 0 n d d4):=by
         obtain⟨i,j,k⟩:=K.out;have R:=H.out;have Y:d3.size=d.size:=k.1;refine⟨?_,permIn_trans _ _ _ _ _ k (permIn_mono _ _ _ _ _ _ (aW _) (aC _) (by omega) u.1)⟩;rw[i]at u hb3;exact j.done (by omega) u
        clear E u p hi c0 c1 v K;go_wp2
        go_roundg (n -2*s)
        case measure=>have:=F.out;omega
        case rel=>exact⟨2*s,d4,by omega,by omega,aC _,by first|rfl|(congr 1;omega)|go_num,z,P⟩
       .have m7:¬((f:Int)+(s:Int)<(n:Int)):=by omega
        have z:Hid (Ro dD (2*s) n d3/\PermIn 0 n d d3):=by
         obtain⟨i,j,k⟩:=K.out;rw[i]at hb3 hm;exact⟨j.done (by omega) (j.last (by omega)),k⟩
        clear C;generalize hX:((f+2*s:Nat):Int)=X at *;go_wp2
        go_roundg (n -2*s)
        case measure=>have:=F.out;omega
        case rel=>exact⟨2*s,d3,by omega,by omega,aC _,by first|rfl|(congr 1;omega)|go_num,z,v⟩
    .have j1:¬((s:Int)<(n:Int)):=by omega
     go_wp2
     go_end0
     exact⟨rfl,d2,L2.out.hd,J.out.2,J.out.1.whole (by omega),L2.out.grown⟩
end
end Go.Proofs.YthfpipieboophaaGreatDoor
