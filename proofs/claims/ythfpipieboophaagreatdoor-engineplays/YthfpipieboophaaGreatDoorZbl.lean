import Derived.Test.YthfpipieboophaaGreatDoorZbk
namespace Go.Proofs.YthfpipieboophaaGreatDoor
set_option maxRecDepth 100000
set_option maxHeartbeats 40000000
open Go.RowKit Go.Sort
section
open Go.Proofs.Tryz
variable {blk n lf sf:Nat} {lb sb:Array Value} {Hd:Array O->World->Prop}
def xw (blk n lf:Nat) (lb:Array Value) (sf:Nat) (sb:Array Value) (Hd:Array O->World->Prop) (g:Nat):Prop:=
 ∀(d:Array O) (a m b:Nat) (w:World),b -a<=g->Hd d w->a < m->m < b->b<=n->SortedIn dD a m d->SortedIn dD m b d->
  Calls prog 209 #[.agg #[.func (.func lf) #[] lb,.func (.func sf) #[] sb],.int .i64 a,.int .i64 m,.int .i64 b] w fun e w'=>e= .returned (.tuple #[])∧∃d',Hd d' w'∧Merged dD a b d d'∧w.grownBy w' (some blk)
theorem vY (d:Array O) (s m e:Nat) (h:s=m∨e=m) (h2:s<=m) (h3:m<=e):pK d d s m e:=by
 intro p
 rcases h with h | h
 ·subst h;rw[Nat.sub_self,Nat.add_zero]
  split
  ·rfl
  ·rw[if_neg (by omega)]
 ·subst h;rw[Nat.sub_self,Nat.add_zero,Nat.sub_zero,if_neg (by omega)]
  split <;>rfl
theorem Q9 (S:jK blk n lf lb sf sb Hd) (hO:SWO dD) (g0:Nat) (hI:xw blk n lf lb sf sb Hd g0) (d:Array O) (a m b:Nat) (w:World) (hg0:b -a<=g0+1) (hd:Hd d w) (h0:a+1 < m) (h1:m+1 < b) (h3:b<=n) (hn:n<=1000000) (hc:(a+b)/2 < m) (hs1:SortedIn dD a m d) (hs2:SortedIn dD m b d):
  Calls prog 209 #[.agg #[.func (.func lf) #[] lb,.func (.func sf) #[] sb],.int .i64 a,.int .i64 m,.int .i64 b] w fun e w'=>e= .returned (.tuple #[])∧∃d',Hd d' w'∧Merged dD a b d d'∧w.grownBy w' (some blk):=by
 have hlt:=S.lt d w hd;have hsz:=S.size d w hd;have HZ:=hid hsz;have HO:=hid hO;have HI:=hid hI;have Xe:=hid hs1;have HS2:=hid hs2;have HS:=hid S;have HD:=hid hd;have OZ:=S.enters;obtain⟨mid,hmid⟩:∃mid,mid=(a+b)/2:=⟨_,rfl⟩;rw[<-hmid] at hc
 have hm1:2 * mid<=a+b:=by omega
 have hm2:a+b<=2 * mid+1:=by omega
 have HM:=hid hmid
 have i1:((m:Int) -(a:Int)==1)=false:=by rw[beq_eq_false_iff_ne];omega
 have i1':(m:Int) -(a:Int)≠1:=by omega
 have i2:((b:Int) -(m:Int)==1)=false:=by rw[beq_eq_false_iff_ne];omega
 have Zb:(b:Int) -(m:Int)≠1:=by omega
 have i3:(b:Int)<=1000000:=by omega
 have i4:(m:Int)<=1000000:=by omega
 have i5:(a:Int)<=1000000:=by omega
 have i6:((a:Int)+(b:Int))/2=(mid:Int):=by omega
 have i7:(mid:Int)<=1000000:=by omega
 have i8:(mid:Int) < (m:Int):=by omega
 clear S hd hs1 hs2 hO hsz hI hmid;go_enter func209,ntmps209;go_wp2
 go_loopg [18,19] (mid -(mid+m -b)) (fun g v8 v9 wr=>∃(s r:Nat),mid+m -b<=s∧s<=r∧r<=mid∧r -s<=g∧v8= .int .i64 s∧v9= .int .i64 r∧Hid ((s=mid+m -b∨dD d[mid+m -s]! d[s -1]! =false)∧(r=mid∨dD d[mid+m -r -1]! d[r]! =true))∧Hid (dP blk lf lb sf sb Hd w d wr))
 case atStart=>exact⟨mid+m -b,mid,Nat.le_refl _,by omega,Nat.le_refl _,Nat.le_refl _,by first | rfl | (congr 1;omega) | go_num,by first | rfl | (congr 1;omega) | go_num,⟨Or.inl rfl,Or.inl rfl⟩,dP.start HS.out HD.out⟩
 case round=>
  obtain⟨s,r,TU,hij,hjb,hg,rfl,rfl,I,L⟩:=hrel;have hg':=hid hg;clear hg
  by_cases hlt2:s < r
  ·have k1:(s:Int) < (r:Int):=by omega
   have k2:(r:Int)<=1000000:=by omega
   have hl:=HS.out.less d wr (mid+m -1 -(s+r)/2) ((s+r)/2) L.out.hd (by omega) (by omega);rw[show((mid+m -1 -(s+r)/2:Nat):Int)=(mid:Int)+(m:Int) -1 -((s:Int)+(r:Int))/2 by omega,show(((s+r)/2:Nat):Int)=((s:Int)+(r:Int))/2 by omega] at hl;have c0:=L.out.c0;go_wp2_with fail;refine hl.mono ?_;rintro e w3 ⟨rfl,hb3⟩;have L3:Hid (dP blk lf lb sf sb Hd w d w3):=L.out.below HS.out hb3;clear hl hb3 c0 L
   by_cases hless:cO d[mid+m -1 -(s+r)/2]! d[(s+r)/2]! < 0
   ·rw[decide_eq_true hless];have I2:Hid ((s=mid+m -b∨dD d[mid+m -s]! d[s -1]! =false)∧((s+r)/2=mid∨dD d[mid+m -(s+r)/2 -1]! d[(s+r)/2]! =true)):=⟨I.out.1,Or.inr (by rw[show mid+m -(s+r)/2 -1=mid+m -1 -(s+r)/2 by omega];simp[dD,hless])⟩;clear hless;go_wp2
    go_roundg ((s+r)/2 -s)
    case measure=>have :=hg'.out;omega
    case rel=>exact⟨s,(s+r)/2,TU,by omega,by omega,Nat.le_refl _,rfl,by first | rfl | (congr 1;omega) | go_num,I2,L3⟩
   ·rw[decide_eq_false hless];have I2:Hid (((s+r)/2+1=mid+m -b∨dD d[mid+m -((s+r)/2+1)]! d[(s+r)/2+1 -1]! =false)∧(r=mid∨dD d[mid+m -r -1]! d[r]! =true)):=⟨Or.inr (by rw[Nat.add_sub_cancel,show mid+m -((s+r)/2+1)=mid+m -1 -(s+r)/2 by omega];simp[dD,hless]),I.out.2⟩;clear hless;go_wp2
    go_roundg (r -((s+r)/2+1))
    case measure=>have :=hg'.out;omega
    case rel=>exact⟨(s+r)/2+1,r,by omega,by omega,hjb,Nat.le_refl _,by first | rfl | (congr 1;omega) | go_num,rfl,I2,L3⟩
  ·obtain rfl:s=r:=by omega
   have k1:¬((s:Int) < (s:Int)):=by omega
   have k2:(s:Int)<=1000000:=by omega
   obtain⟨e,he⟩:∃e,e=mid+m -s:=⟨_,rfl⟩
   have he1:e+s<=mid+m:=by omega
   have he2:mid+m<=e+s:=by omega
   have k3:(mid:Int)+(m:Int) -(s:Int)=(e:Int):=by omega
   have k4:(e:Int)<=1000000:=by omega
   have HF:Hid (∀r,pK d r s m e->kJ dD a s mid e b r):=by
    intro r hT;rw[he] at hT⊢
    have hL:s=a∨mid+m=b+s∨dD d[mid+m -s]! d[s -1]! =false:=by
     rcases I.out.1 with h | h
     ·first | exact Or.inl (by omega) | exact Or.inr (Or.inl (by omega))
     ·exact Or.inr (Or.inr h)
    have hR:s=m∨s=mid∨dD d[mid+m -s -1]! d[s]! =true:=by
     rcases I.out.2 with h | h
     ·first | exact Or.inl (by omega) | exact Or.inr (Or.inl (by omega))
     ·exact Or.inr (Or.inr h)
    exact Be HO.out d r a m b s mid (by omega) HM.out Xe.out HS2.out (by omega) (by omega) (by omega) (by omega) hL hR hT
   clear he
   by_cases hsm:mid<=s
   ·have x1:(s:Int) < (m:Int):=by omega
    have x2:¬((m:Int) < (e:Int)):=by omega
    have HH:Hid (kJ dD a s mid e b d∧PermIn a b d d):=⟨HF.out _ (vY _ _ _ _ (by omega) (by omega) (by omega)),permIn_refl _ _ _⟩
    have y1:(a:Int) < (s:Int):=by omega
    have y2:¬((s:Int) < (mid:Int)):=by omega
    have M2:Hid (Merged dD a mid d d):=dY HH.out.1.h1 HH.out.1.h2 (by omega)
    have z1:(mid:Int) < (e:Int):=by omega
    have z2:(e:Int) < (b:Int):=by omega
    have Ra:=HI.out d mid e b wr (by omega) L.out.hd (by omega) (by omega) (by omega) ((HH.out.1.right M2.out).resolve_right (by omega)).1 ((HH.out.1.right M2.out).resolve_right (by omega)).2;have c0:=L.out.c0;have c1:=L.out.c1;go_wp2_with fail;refine Calls.mono Ra ?_;rintro ex w3 ⟨rfl,d3,hH3,EF,hg3⟩;have L3:Hid (dP blk lf lb sf sb Hd w d3 w3):=L.out.turn hlt hH3 hg3;have M3:=hid EF;clear hH3 EF hg3 Ra c0 c1 L;go_wp2
    go_end0
    refine⟨rfl,d3,L3.out.hd,?_,L3.out.grown⟩;have hz:=HZ.out;have hq:d.size=d.size:=HH.out.2.1;have hm:=HH.out.1.done (by omega) (by omega) (by omega) M2.out M3.out;exact⟨permIn_trans _ _ _ _ _ HH.out.2 hm.1,hm.2⟩
   ·have hro:=ze HS.out d s m e wr L.out.hd (by omega) (by omega) (by omega) hn;have c0:=L.out.c0;have c1:=L.out.c1
    have x1:(s:Int) < (m:Int):=by omega
    have x2:(m:Int) < (e:Int):=by omega
    go_wp2_with fail;refine hro.mono ?_;rintro ex w1 ⟨rfl,hH1,hg1⟩;have L1:Hid (dP blk lf lb sf sb Hd w (l9 (e -s) d m (m -s) (e -m)) w1):=L.out.turn hlt hH1 hg1
    have HH:Hid (kJ dD a s mid e b (l9 (e -s) d m (m -s) (e -m))∧PermIn a b d (l9 (e -s) d m (m -s) (e -m))):=by
     have hz:=HZ.out;have hT:=vN (e -s) d m (m -s) (e -m) (by omega) (by omega) (by omega) (by omega) (by omega);rw[show m -(m -s)=s by omega,show m+(e -m)=e by omega] at hT;exact⟨HF.out _ hT,Bc _ _ _ _ _ _ _ (by omega) (by omega) (by omega)⟩
    clear hH1 hg1 hro c0 c1 L;generalize l9 (e -s) d m (m -s) (e -m)=d1 at L1 HH
    by_cases hsa:s<=a
    ·have y1:¬((a:Int) < (s:Int)):=by omega
     have M2:Hid (Merged dD a mid d1 d1):=dY HH.out.1.h1 HH.out.1.h2 (by omega)
     by_cases xg:b<=e
     ·have z1:(mid:Int) < (e:Int):=by omega
      have z2:¬((e:Int) < (b:Int)):=by omega
      have M3:Hid (Merged dD mid b d1 d1):=dY ((HH.out.1.right M2.out).resolve_right (by omega)).1 ((HH.out.1.right M2.out).resolve_right (by omega)).2 (by omega);go_wp2
      go_end0
      refine⟨rfl,d1,L1.out.hd,?_,L1.out.grown⟩;have hz:=HZ.out;have hq:d1.size=d.size:=HH.out.2.1;have hm:=HH.out.1.done (by omega) (by omega) (by omega) M2.out M3.out;exact⟨permIn_trans _ _ _ _ _ HH.out.2 hm.1,hm.2⟩
     ·exfalso;omega
    ·have y1:(a:Int) < (s:Int):=by omega
     have y2:(s:Int) < (mid:Int):=by omega
     have hle:=HI.out d1 a s mid w1 (by omega) L1.out.hd (by omega) (by omega) (by omega) HH.out.1.h1 HH.out.1.h2;have c0:=L1.out.c0;have c1:=L1.out.c1;go_wp2_with fail;refine Calls.mono hle ?_;rintro ex w2 ⟨rfl,d2,hH2,hM2,hg2⟩;have L2:Hid (dP blk lf lb sf sb Hd w d2 w2):=L1.out.turn hlt hH2 hg2;have M2:=hid hM2;clear hH2 hM2 hg2 hle c0 c1 L1
     by_cases xg:b<=e
     ·have z1:(mid:Int) < (e:Int):=by omega
      have z2:¬((e:Int) < (b:Int)):=by omega
      have M3:Hid (Merged dD mid b d2 d2):=dY ((HH.out.1.right M2.out).resolve_right (by omega)).1 ((HH.out.1.right M2.out).resolve_right (by omega)).2 (by omega);go_wp2
      go_end0
      refine⟨rfl,d2,L2.out.hd,?_,L2.out.grown⟩;have hz:=HZ.out;have hq:d1.size=d.size:=HH.out.2.1;have hm:=HH.out.1.done (by omega) (by omega) (by omega) M2.out M3.out;exact⟨permIn_trans _ _ _ _ _ HH.out.2 hm.1,hm.2⟩
     ·have z1:(mid:Int) < (e:Int):=by omega
      have z2:(e:Int) < (b:Int):=by omega
      have Ra:=HI.out d2 mid e b w2 (by omega) L2.out.hd (by omega) (by omega) (by omega) ((HH.out.1.right M2.out).resolve_right (by omega)).1 ((HH.out.1.right M2.out).resolve_right (by omega)).2;have c0:=L2.out.c0;have c1:=L2.out.c1;go_wp2_with fail;refine Calls.mono Ra ?_;rintro ex w3 ⟨rfl,d3,hH3,EF,hg3⟩;have L3:Hid (dP blk lf lb sf sb Hd w d3 w3):=L2.out.turn hlt hH3 hg3;have M3:=hid EF;clear hH3 EF hg3 Ra c0 c1 L2;go_wp2
      go_end0
      refine⟨rfl,d3,L3.out.hd,?_,L3.out.grown⟩;have hz:=HZ.out;have hq:d1.size=d.size:=HH.out.2.1;have hm:=HH.out.1.done (by omega) (by omega) (by omega) M2.out M3.out;exact⟨permIn_trans _ _ _ _ _ HH.out.2 hm.1,hm.2⟩
theorem Rb (S:jK blk n lf lb sf sb Hd) (hO:SWO dD) (g0:Nat) (hI:xw blk n lf lb sf sb Hd g0) (d:Array O) (a m b:Nat) (w:World) (hg0:b -a<=g0+1) (hd:Hd d w) (h0:a+1 < m) (h1:m+1 < b) (h3:b<=n) (hn:n<=1000000) (hc:m<=(a+b)/2) (hs1:SortedIn dD a m d) (hs2:SortedIn dD m b d):
  Calls prog 209 #[.agg #[.func (.func lf) #[] lb,.func (.func sf) #[] sb],.int .i64 a,.int .i64 m,.int .i64 b] w fun e w'=>e= .returned (.tuple #[])∧∃d',Hd d' w'∧Merged dD a b d d'∧w.grownBy w' (some blk):=by
 have hlt:=S.lt d w hd;have hsz:=S.size d w hd;have HZ:=hid hsz;have HO:=hid hO;have HI:=hid hI;have Xe:=hid hs1;have HS2:=hid hs2;have HS:=hid S;have HD:=hid hd;have OZ:=S.enters;obtain⟨mid,hmid⟩:∃mid,mid=(a+b)/2:=⟨_,rfl⟩;rw[<-hmid] at hc
 have hm1:2 * mid<=a+b:=by omega
 have hm2:a+b<=2 * mid+1:=by omega
 have HM:=hid hmid
 have i1:((m:Int) -(a:Int)==1)=false:=by rw[beq_eq_false_iff_ne];omega
 have i1':(m:Int) -(a:Int)≠1:=by omega
 have i2:((b:Int) -(m:Int)==1)=false:=by rw[beq_eq_false_iff_ne];omega
 have Zb:(b:Int) -(m:Int)≠1:=by omega
 have i3:(b:Int)<=1000000:=by omega
 have i4:(m:Int)<=1000000:=by omega
 have i5:(a:Int)<=1000000:=by omega
 have i6:((a:Int)+(b:Int))/2=(mid:Int):=by omega
 have i7:(mid:Int)<=1000000:=by omega
 have i8:¬((mid:Int) < (m:Int)):=by omega
 clear S hd hs1 hs2 hO hsz hI hmid;go_enter func209,ntmps209;go_wp2
 go_loopg [18,19] (m -(a)) (fun g v8 v9 wr=>∃(s r:Nat),a<=s∧s<=r∧r<=m∧r -s<=g∧v8= .int .i64 s∧v9= .int .i64 r∧Hid ((s=a∨dD d[mid+m -s]! d[s -1]! =false)∧(r=m∨dD d[mid+m -r -1]! d[r]! =true))∧Hid (dP blk lf lb sf sb Hd w d wr))
 case atStart=>exact⟨a,m,Nat.le_refl _,by omega,Nat.le_refl _,Nat.le_refl _,by first | rfl | (congr 1;omega) | go_num,by first | rfl | (congr 1;omega) | go_num,⟨Or.inl rfl,Or.inl rfl⟩,dP.start HS.out HD.out⟩
 case round=>
  obtain⟨s,r,TU,hij,hjb,hg,rfl,rfl,I,L⟩:=hrel;have hg':=hid hg;clear hg
  by_cases hlt2:s < r
  ·have k1:(s:Int) < (r:Int):=by omega
   have k2:(r:Int)<=1000000:=by omega
   have hl:=HS.out.less d wr (mid+m -1 -(s+r)/2) ((s+r)/2) L.out.hd (by omega) (by omega);rw[show((mid+m -1 -(s+r)/2:Nat):Int)=(mid:Int)+(m:Int) -1 -((s:Int)+(r:Int))/2 by omega,show(((s+r)/2:Nat):Int)=((s:Int)+(r:Int))/2 by omega] at hl;have c0:=L.out.c0;go_wp2_with fail;refine hl.mono ?_;rintro e w3 ⟨rfl,hb3⟩;have L3:Hid (dP blk lf lb sf sb Hd w d w3):=L.out.below HS.out hb3;clear hl hb3 c0 L
   by_cases hless:cO d[mid+m -1 -(s+r)/2]! d[(s+r)/2]! < 0
   ·rw[decide_eq_true hless];have I2:Hid ((s=a∨dD d[mid+m -s]! d[s -1]! =false)∧((s+r)/2=m∨dD d[mid+m -(s+r)/2 -1]! d[(s+r)/2]! =true)):=⟨I.out.1,Or.inr (by rw[show mid+m -(s+r)/2 -1=mid+m -1 -(s+r)/2 by omega];simp[dD,hless])⟩;clear hless;go_wp2
    go_roundg ((s+r)/2 -s)
    case measure=>have :=hg'.out;omega
    case rel=>exact⟨s,(s+r)/2,TU,by omega,by omega,Nat.le_refl _,rfl,by first | rfl | (congr 1;omega) | go_num,I2,L3⟩
   ·rw[decide_eq_false hless];have I2:Hid (((s+r)/2+1=a∨dD d[mid+m -((s+r)/2+1)]! d[(s+r)/2+1 -1]! =false)∧(r=m∨dD d[mid+m -r -1]! d[r]! =true)):=⟨Or.inr (by rw[Nat.add_sub_cancel,show mid+m -((s+r)/2+1)=mid+m -1 -(s+r)/2 by omega];simp[dD,hless]),I.out.2⟩;clear hless;go_wp2
    go_roundg (r -((s+r)/2+1))
    case measure=>have :=hg'.out;omega
    case rel=>exact⟨(s+r)/2+1,r,by omega,by omega,hjb,Nat.le_refl _,by first | rfl | (congr 1;omega) | go_num,rfl,I2,L3⟩
  ·obtain rfl:s=r:=by omega
   have k1:¬((s:Int) < (s:Int)):=by omega
   have k2:(s:Int)<=1000000:=by omega
   obtain⟨e,he⟩:∃e,e=mid+m -s:=⟨_,rfl⟩
   have he1:e+s<=mid+m:=by omega
   have he2:mid+m<=e+s:=by omega
   have k3:(mid:Int)+(m:Int) -(s:Int)=(e:Int):=by omega
   have k4:(e:Int)<=1000000:=by omega
   have HF:Hid (∀r,pK d r s m e->kJ dD a s mid e b r):=by
    intro r hT;rw[he] at hT⊢
    have hL:s=a∨mid+m=b+s∨dD d[mid+m -s]! d[s -1]! =false:=by
     rcases I.out.1 with h | h
     ·first | exact Or.inl (by omega) | exact Or.inr (Or.inl (by omega))
     ·exact Or.inr (Or.inr h)
    have hR:s=m∨s=mid∨dD d[mid+m -s -1]! d[s]! =true:=by
     rcases I.out.2 with h | h
     ·first | exact Or.inl (by omega) | exact Or.inr (Or.inl (by omega))
     ·exact Or.inr (Or.inr h)
    exact Be HO.out d r a m b s mid (by omega) HM.out Xe.out HS2.out (by omega) (by omega) (by omega) (by omega) hL hR hT
   clear he
   by_cases hsm:m<=s
   ·have x1:¬((s:Int) < (m:Int)):=by omega
    have HH:Hid (kJ dD a s mid e b d∧PermIn a b d d):=⟨HF.out _ (vY _ _ _ _ (by omega) (by omega) (by omega)),permIn_refl _ _ _⟩
    by_cases adM:mid<=s
    ·have y1:(a:Int) < (s:Int):=by omega
     have y2:¬((s:Int) < (mid:Int)):=by omega
     have M2:Hid (Merged dD a mid d d):=dY HH.out.1.h1 HH.out.1.h2 (by omega)
     have z1:¬((mid:Int) < (e:Int)):=by omega
     have M3:Hid (Merged dD mid b d d):=dY ((HH.out.1.right M2.out).resolve_right (by omega)).1 ((HH.out.1.right M2.out).resolve_right (by omega)).2 (by omega);go_wp2
     go_end0
     refine⟨rfl,d,L.out.hd,?_,L.out.grown⟩;have hz:=HZ.out;have hq:d.size=d.size:=HH.out.2.1;have hm:=HH.out.1.done (by omega) (by omega) (by omega) M2.out M3.out;exact⟨permIn_trans _ _ _ _ _ HH.out.2 hm.1,hm.2⟩
    ·have y1:(a:Int) < (s:Int):=by omega
     have y2:(s:Int) < (mid:Int):=by omega
     have hle:=HI.out d a s mid wr (by omega) L.out.hd (by omega) (by omega) (by omega) HH.out.1.h1 HH.out.1.h2;have c0:=L.out.c0;have c1:=L.out.c1;go_wp2_with fail;refine Calls.mono hle ?_;rintro ex w2 ⟨rfl,d2,hH2,hM2,hg2⟩;have L2:Hid (dP blk lf lb sf sb Hd w d2 w2):=L.out.turn hlt hH2 hg2;have M2:=hid hM2;clear hH2 hM2 hg2 hle c0 c1 L
     have z1:¬((mid:Int) < (e:Int)):=by omega
     have M3:Hid (Merged dD mid b d2 d2):=dY ((HH.out.1.right M2.out).resolve_right (by omega)).1 ((HH.out.1.right M2.out).resolve_right (by omega)).2 (by omega);go_wp2
     go_end0
     refine⟨rfl,d2,L2.out.hd,?_,L2.out.grown⟩;have hz:=HZ.out;have hq:d.size=d.size:=HH.out.2.1;have hm:=HH.out.1.done (by omega) (by omega) (by omega) M2.out M3.out;exact⟨permIn_trans _ _ _ _ _ HH.out.2 hm.1,hm.2⟩
   ·have hro:=ze HS.out d s m e wr L.out.hd (by omega) (by omega) (by omega) hn;have c0:=L.out.c0;have c1:=L.out.c1
    have x1:(s:Int) < (m:Int):=by omega
    have x2:(m:Int) < (e:Int):=by omega
    go_wp2_with fail;refine hro.mono ?_;rintro ex w1 ⟨rfl,hH1,hg1⟩;have L1:Hid (dP blk lf lb sf sb Hd w (l9 (e -s) d m (m -s) (e -m)) w1):=L.out.turn hlt hH1 hg1
    have HH:Hid (kJ dD a s mid e b (l9 (e -s) d m (m -s) (e -m))∧PermIn a b d (l9 (e -s) d m (m -s) (e -m))):=by
     have hz:=HZ.out;have hT:=vN (e -s) d m (m -s) (e -m) (by omega) (by omega) (by omega) (by omega) (by omega);rw[show m -(m -s)=s by omega,show m+(e -m)=e by omega] at hT;exact⟨HF.out _ hT,Bc _ _ _ _ _ _ _ (by omega) (by omega) (by omega)⟩
    clear hH1 hg1 hro c0 c1 L;generalize l9 (e -s) d m (m -s) (e -m)=d1 at L1 HH
    by_cases hsa:s<=a
    ·have y1:¬((a:Int) < (s:Int)):=by omega
     have M2:Hid (Merged dD a mid d1 d1):=dY HH.out.1.h1 HH.out.1.h2 (by omega)
     by_cases xg:b<=e
     ·have z1:(mid:Int) < (e:Int):=by omega
      have z2:¬((e:Int) < (b:Int)):=by omega
      have M3:Hid (Merged dD mid b d1 d1):=dY ((HH.out.1.right M2.out).resolve_right (by omega)).1 ((HH.out.1.right M2.out).resolve_right (by omega)).2 (by omega);go_wp2
      go_end0
      refine⟨rfl,d1,L1.out.hd,?_,L1.out.grown⟩;have hz:=HZ.out;have hq:d1.size=d.size:=HH.out.2.1;have hm:=HH.out.1.done (by omega) (by omega) (by omega) M2.out M3.out;exact⟨permIn_trans _ _ _ _ _ HH.out.2 hm.1,hm.2⟩
     ·have z1:(mid:Int) < (e:Int):=by omega
      have z2:(e:Int) < (b:Int):=by omega
      have Ra:=HI.out d1 mid e b w1 (by omega) L1.out.hd (by omega) (by omega) (by omega) ((HH.out.1.right M2.out).resolve_right (by omega)).1 ((HH.out.1.right M2.out).resolve_right (by omega)).2;have c0:=L1.out.c0;have c1:=L1.out.c1;go_wp2_with fail;refine Calls.mono Ra ?_;rintro ex w3 ⟨rfl,d3,hH3,EF,hg3⟩;have L3:Hid (dP blk lf lb sf sb Hd w d3 w3):=L1.out.turn hlt hH3 hg3;have M3:=hid EF;clear hH3 EF hg3 Ra c0 c1 L1;go_wp2
      go_end0
      refine⟨rfl,d3,L3.out.hd,?_,L3.out.grown⟩;have hz:=HZ.out;have hq:d1.size=d.size:=HH.out.2.1;have hm:=HH.out.1.done (by omega) (by omega) (by omega) M2.out M3.out;exact⟨permIn_trans _ _ _ _ _ HH.out.2 hm.1,hm.2⟩
    ·have y1:(a:Int) < (s:Int):=by omega
     have y2:(s:Int) < (mid:Int):=by omega
     have hle:=HI.out d1 a s mid w1 (by omega) L1.out.hd (by omega) (by omega) (by omega) HH.out.1.h1 HH.out.1.h2;have c0:=L1.out.c0;have c1:=L1.out.c1;go_wp2_with fail;refine Calls.mono hle ?_;rintro ex w2 ⟨rfl,d2,hH2,hM2,hg2⟩;have L2:Hid (dP blk lf lb sf sb Hd w d2 w2):=L1.out.turn hlt hH2 hg2;have M2:=hid hM2;clear hH2 hM2 hg2 hle c0 c1 L1
     by_cases xg:b<=e
     ·exfalso;omega
     ·have z1:(mid:Int) < (e:Int):=by omega
      have z2:(e:Int) < (b:Int):=by omega
      have Ra:=HI.out d2 mid e b w2 (by omega) L2.out.hd (by omega) (by omega) (by omega) ((HH.out.1.right M2.out).resolve_right (by omega)).1 ((HH.out.1.right M2.out).resolve_right (by omega)).2;have c0:=L2.out.c0;have c1:=L2.out.c1;go_wp2_with fail;refine Calls.mono Ra ?_;rintro ex w3 ⟨rfl,d3,hH3,EF,hg3⟩;have L3:Hid (dP blk lf lb sf sb Hd w d3 w3):=L2.out.turn hlt hH3 hg3;have M3:=hid EF;clear hH3 EF hg3 Ra c0 c1 L2;go_wp2
      go_end0
      refine⟨rfl,d3,L3.out.hd,?_,L3.out.grown⟩;have hz:=HZ.out;have hq:d1.size=d.size:=HH.out.2.1;have hm:=HH.out.1.done (by omega) (by omega) (by omega) M2.out M3.out;exact⟨permIn_trans _ _ _ _ _ HH.out.2 hm.1,hm.2⟩
theorem TR (S:jK blk n lf lb sf sb Hd) (hO:SWO dD) (hn:n<=1000000) (g:Nat):xw blk n lf lb sf sb Hd g:=by
 induction g with
 | zero=>intro d a m b w hg hd h1 h2;omega
 | succ g ih=>
  intro d a m b w hg hd h1 h2 h3 hs1 hs2
  by_cases e1:m=a+1
  ·exact TT S hO d a m b w hd (by omega) h1 h2 h3 hn hs2
  ·by_cases e2:b=m+1
   ·exact Q7 S hO d a m b w hd (by omega) (by omega) h2 h3 hn hs1
   ·by_cases e3:(a+b)/2 < m
    ·exact Q9 S hO g ih d a m b w hg hd (by omega) (by omega) h3 hn e3 hs1 hs2
    ·exact Rb S hO g ih d a m b w hg hd (by omega) (by omega) h3 hn (by omega) hs1 hs2
end
section
variable {lt:O->O->Bool} {a b n:Nat} {d:Array O}
theorem qW (h:SortedIn lt a (min b n) d) (hb:b<=n):SortedIn lt a b d:=by
 rw[Nat.min_eq_left hb] at h;exact h
theorem F9 (h:SortedIn lt a (min b n) d) (hb:n<=b):SortedIn lt a n d:=by
 rw[Nat.min_eq_right hb] at h;exact h
theorem Jk {blk lf sf:Nat} {lb sb:Array Value} {Hd:Array O->World->Prop} (S:jK blk n lf lb sf sb Hd) (hO:SWO dD) (d:Array O) (w:World) (hd:Hd d w) (hn:n<=1000000):
  Calls Tryz.prog 125 #[.agg #[.func (.func lf) #[] lb,.func (.func sf) #[] sb],.int .i64 n] w fun e w'=>e= .returned (.tuple #[])∧∃d',Hd d' w'∧PermIn 0 n d d'∧SortedIn dD 0 n d'∧w.grownBy w' (some blk):=by
 have hlt:=S.lt d w hd;have hsz:=S.size d w hd;have HZ:=hid hsz;have HO:=hid hO;have HS:=hid S;have HD:=hid hd;have HI:Hid (xw blk n lf lb sf sb Hd n):=TR S hO hn n
 have i1:(n:Int)<=1000000:=by omega
 clear S hd hO hsz;go_enter Tryz.func125,Tryz.ntmps125;go_wp2
 go_loopg [5,6] n (fun g v5 v6 wr=>∃(t a:Nat) (d':Array O),a<=n∧g=n -a∧v5= .int .i64 a∧v6= .int .i64 ((a+20:Nat):Int)∧Hid (a=t * 20∧qK dD t d'∧PermIn 0 n d d')∧Hid (dP blk lf lb sf sb Hd w d' wr))
 case atStart=>exact⟨0,0,d,Nat.zero_le _,rfl,rfl,rfl,⟨rfl,fun c hc=>absurd hc (Nat.not_lt_zero _),permIn_refl _ _ _⟩,dP.start HS.out HD.out⟩
 case round=>
  obtain⟨t,a,d',ha,hg,rfl,rfl,I,L⟩:=hrel;have HG:=hid hg;clear hg
  have k2:(a:Int)<=1000000:=by omega
  have c0:=L.out.c0;have c1:=L.out.c1
  by_cases hb:a+20<=n
  ·have k1:((a+20:Nat):Int)<=(n:Int):=by omega
   have hi:=J4 HS.out d' a (a+20) wr L.out.hd hb hn (by omega)
   have k4:(0:Int)<=((a+20:Nat):Int):=by omega
   have I2:Hid (a+20=(t+1) * 20∧qK dD (t+1) (insertionSort dD d' a (a+20))∧PermIn 0 n d (insertionSort dD d' a (a+20))):=by
    obtain⟨e1,e2,e3⟩:=I.out;have hz:=HZ.out;have hq:d'.size=d.size:=e3.1;have hp:=insertionSort_holds HO.out d' a (a+20) (by omega) (by omega);refine⟨by omega,?_,permIn_trans _ _ _ _ _ e3 (permIn_mono _ _ _ _ _ _ (Nat.zero_le _) hb (by omega) hp.1)⟩;subst e1;exact e2.step hp.1 hp.2
   generalize hX:((a+20:Nat):Int)=X at *;go_wp2_with fail;refine hi.mono ?_;rintro e w1 ⟨rfl,hH1,hg1⟩;have L1:Hid (dP blk lf lb sf sb Hd w (insertionSort dD d' a (a+20)) w1):=L.out.turn hlt hH1 hg1;clear hH1 hg1 hi c0 c1 L;go_wp2
   go_roundg (n -(a+20))
   case measure=>have :=HG.out;omega
   case rel=>exact⟨t+1,a+20,_,hb,rfl,by first | rfl | (congr 1;omega) | go_num,by first | rfl | (congr 1;omega) | go_num,I2,L1⟩
  ·have k1:¬(((a+20:Nat):Int)<=(n:Int)):=by omega
   have hi:=J4 HS.out d' a n wr L.out.hd (Nat.le_refl _) hn (by omega)
   have I2:Hid (Ro dD 20 n (insertionSort dD d' a n)∧PermIn 0 n d (insertionSort dD d' a n)):=by
    obtain⟨e1,e2,e3⟩:=I.out;have hz:=HZ.out;have hq:d'.size=d.size:=e3.1;have hp:=insertionSort_holds HO.out d' a n (by omega) (by omega);refine⟨?_,permIn_trans _ _ _ _ _ e3 (permIn_mono _ _ _ _ _ _ (Nat.zero_le _) (Nat.le_refl _) (by omega) hp.1)⟩;subst e1;exact e2.blk (by omega) hp.1 hp.2
   generalize hX:((a+20:Nat):Int)=X at *;go_wp2_with fail;refine hi.mono ?_;rintro e w1 ⟨rfl,hH1,hg1⟩;have L1:Hid (dP blk lf lb sf sb Hd w (insertionSort dD d' a n) w1):=L.out.turn hlt hH1 hg1;clear hH1 hg1 hi c0 c1 L;generalize insertionSort dD d' a n=d1 at L1 I2;go_wp2
   go_loopg [4] n (fun g v4 wr=>∃(s:Nat) (d2:Array O),20<=s∧s<=2000000∧n -s<=g∧v4= .int .i64 s∧Hid (Ro dD s n d2∧PermIn 0 n d d2)∧Hid (dP blk lf lb sf sb Hd w d2 wr))
   case atStart=>exact⟨20,d1,Nat.le_refl _,by omega,by omega,rfl,I2,L1⟩
   case round=>
    obtain⟨s,d2,hs1,hs2,hg2,rfl,J,L2⟩:=hrel;have HG2:=hid hg2;clear hg2
    by_cases hsn:s < n
    ·have j1:(s:Int) < (n:Int):=by omega
     have j2:(0:Int)<=(s:Int):=by omega
     go_wp2
     go_loopg [5,6] n (fun g v5 v6 wr=>∃(t a:Nat) (d3:Array O),a<=n∧g=n -a∧v5= .int .i64 a∧v6= .int .i64 ((a+2 * s:Nat):Int)∧Hid (a=t * (2 * s)∧rW dD s n t d3∧PermIn 0 n d d3)∧Hid (dP blk lf lb sf sb Hd w d3 wr))
     case atStart=>exact⟨0,0,d2,Nat.zero_le _,rfl,rfl,by first | rfl | (congr 1;omega) | go_num,⟨by rw[Nat.zero_mul],J.out.1.mid,J.out.2⟩,L2⟩
     case round=>
      obtain⟨t,a3,d3,ha3,hg3,rfl,rfl,K,L3⟩:=hrel;have Zg:=hid hg3;clear hg3
      have m2:(a3:Int)<=1000000:=by omega
      have m3:(a3:Int)+(s:Int)=((a3+s:Nat):Int):=by omega
      have m5:((a3+2 * s:Nat):Int)<=3000000:=by omega
      have m6:(0:Int)<=((a3+2 * s:Nat):Int):=by omega
      have c0:=L3.out.c0;have c1:=L3.out.c1
      by_cases hb3:a3+2 * s<=n
      ·have m1:((a3+2 * s:Nat):Int)<=(n:Int):=by omega
       have hi:=HI.out d3 a3 (a3+s) (a3+2 * s) wr (by omega) L3.out.hd (by omega) (by omega) hb3 (by
        obtain⟨e1,e2,e3⟩:=K.out
        have :=e2.ahead;rw[<-e1] at this;exact qW this (by omega)) (by
        obtain⟨e1,e2,e3⟩:=K.out
        have :=e2.next;rw[<-e1] at this;exact qW this (by omega))
       rw[<-m3] at hi;clear m3;generalize hX:((a3+2 * s:Nat):Int)=X at *;go_wp2_with fail;refine Calls.mono hi ?_;rintro e w4 ⟨rfl,d4,EC,TS,hg4⟩;have L4:Hid (dP blk lf lb sf sb Hd w d4 w4):=L3.out.turn hlt EC hg4
       have K4:Hid (a3+2 * s=(t+1) * (2 * s)∧rW dD s n (t+1) d4∧PermIn 0 n d d4):=by
        obtain⟨e1,e2,e3⟩:=K.out;have hz:=HZ.out;have hq:d3.size=d.size:=e3.1;refine⟨by rw[Nat.add_mul,Nat.one_mul,<-e1],?_,permIn_trans _ _ _ _ _ e3 (permIn_mono _ _ _ _ _ _ (Nat.zero_le _) hb3 (by omega) TS.1)⟩;rw[e1] at TS;exact e2.step TS
       clear EC TS hg4 hi c0 c1 L3 K;go_wp2
       go_roundg (n -(a3+2 * s))
       case measure=>have :=Zg.out;omega
       case rel=>exact⟨t+1,a3+2 * s,d4,hb3,rfl,by first | rfl | (congr 1;omega) | go_num,by first | rfl | (congr 1;omega) | go_num,K4,L4⟩
      ·have m1:¬(((a3+2 * s:Nat):Int)<=(n:Int)):=by omega
       by_cases hm:a3+s < n
       ·have m7:(a3:Int)+(s:Int) < (n:Int):=by omega
        have hi:=HI.out d3 a3 (a3+s) n wr (by omega) L3.out.hd (by omega) hm (Nat.le_refl _) (by
         obtain⟨e1,e2,e3⟩:=K.out
         have :=e2.ahead;rw[<-e1] at this;exact qW this (by omega)) (by
         obtain⟨e1,e2,e3⟩:=K.out
         have :=e2.next;rw[<-e1] at this;exact F9 this (by omega))
        rw[<-m3] at hi;clear m3;generalize hX:((a3+2 * s:Nat):Int)=X at *;go_wp2_with fail;refine Calls.mono hi ?_;rintro e w4 ⟨rfl,d4,EC,TS,hg4⟩;have L4:Hid (dP blk lf lb sf sb Hd w d4 w4):=L3.out.turn hlt EC hg4
        have K4:Hid (Ro dD (2 * s) n d4∧PermIn 0 n d d4):=by
         obtain⟨e1,e2,e3⟩:=K.out;have hz:=HZ.out;have hq:d3.size=d.size:=e3.1;refine⟨?_,permIn_trans _ _ _ _ _ e3 (permIn_mono _ _ _ _ _ _ (Nat.zero_le _) (Nat.le_refl _) (by omega) TS.1)⟩;rw[e1] at TS hb3;exact e2.done (by omega) TS
        clear EC TS hg4 hi c0 c1 L3 K;go_wp2
        go_roundg (n -2 * s)
        case measure=>have :=HG2.out;omega
        case rel=>exact⟨2 * s,d4,by omega,by omega,Nat.le_refl _,by first | rfl | (congr 1;omega) | go_num,K4,L4⟩
       ·have m7:¬((a3:Int)+(s:Int) < (n:Int)):=by omega
        have K4:Hid (Ro dD (2 * s) n d3∧PermIn 0 n d d3):=by
         obtain⟨e1,e2,e3⟩:=K.out;rw[e1] at hb3 hm;exact⟨e2.done (by omega) (e2.last (by omega)),e3⟩
        clear m3;generalize hX:((a3+2 * s:Nat):Int)=X at *;go_wp2
        go_roundg (n -2 * s)
        case measure=>have :=HG2.out;omega
        case rel=>exact⟨2 * s,d3,by omega,by omega,Nat.le_refl _,by first | rfl | (congr 1;omega) | go_num,K4,L3⟩
    ·have j1:¬((s:Int) < (n:Int)):=by omega
     go_wp2
     go_end0
     exact⟨rfl,d2,L2.out.hd,J.out.2,J.out.1.whole (by omega),L2.out.grown⟩
end
end Go.Proofs.YthfpipieboophaaGreatDoor
