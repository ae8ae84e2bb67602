import Derived.Sort.WalkC4
import Derived.Test.YthfpipieboophaaGreatDoorZSgg
namespace Go.Proofs.YthfpipieboophaaGreatDoor
set_option maxRecDepth 100000
set_option maxHeartbeats 40000000
open Go.RowKit Go.Sort
theorem TJ{α:Type}[Inhabited α]{lt:α->α->Bool}{B blk n lf y:Nat}{lb z:Array Value}{u:Array α->World->Prop}(S:si lt B blk n lf lb y z u)(d:Array α)(a b pivot:Nat)(w:World)(hd:u d w)(hab:a<=pivot)(hpb:pivot<b)(hb:b<=n)(hn:n<=1000000):
  Calls Tryz.prog 261 #[.agg #[.func (.func lf) #[] lb,.func (.func y) #[] z],.int .i64 a,.int .i64 b,.int .i64 pivot] w λe w'=>e=.returned (.tuple #[.int .i64 (partition lt d a b pivot).1,.bool (partition lt d a b pivot).2.1])/\u (partition lt d a b pivot).2.2 w'/\w.grownBy w' (some blk):=by
 have hlt:=S.blt d w hd;have OZ:=S.enters;have H0:=hid (kU S d w hd);have HL:=hid (dw S w);have T:=hid (ek S w hlt);obtain⟨W1,q8,h1⟩:=T.out (a:Int) (pivot:Int) a pivot d _ rfl rfl (by omega) (by omega) H0
 have Zb:(a:Int)<=1000000:=by omega
 have i3:(b:Int)<=1000000:=by omega
 have i3':(1:Int)<=(b:Int):=by omega
 obtain⟨i,hi⟩:∃i:Nat,i=a+1:=⟨_,rfl⟩;obtain⟨j,hj⟩:∃j:Nat,j=b -1:=⟨_,rfl⟩;obtain⟨dk,hdk⟩:∃dk:Array α,dk=swp d a pivot:=⟨_,rfl⟩
 have Z:Hid (aF u dk blk (bq lf lb y z) w W1):=by rw[hdk];exact h1
 have hai:a<i:=by omega
 have M:i<=j+1:=by omega
 have hjb:j<b:=by omega
 have i4:(j:Int)<=1000000:=by omega
 have i5:(i:Int)<=1000001:=by omega
 have Hi:=hid hi;have Hj:=hid hj;have L:=hid hdk;clear S hd H0 h1 hi hj hdk;go_enter Tryz.func261,Tryz.ntmps261;go_wp2;rw[show((a:Int)+1)=(i:Int) by have:=Hi.out;omega,show((b:Int) -1)=(j:Int) by have:=Hj.out;omega];clear q8
 go_loopg [10] (j+1 -i) (λg2 Y wr=>∃c:Nat,Y=.int .i64 c/\i<=c/\c<=j+1/\j+1 -c<=g2/\Hid (scanUp (λx=>lt x dk[a]!) dk j c=scanUp (λx=>lt x dk[a]!) dk j i)/\Hid (aF u dk blk (bq lf lb y z) w wr))
 case atStart=>exact⟨i,by first|rfl|go_num,aC _,M,aC _,rfl,Z⟩
 case round=>
  obtain⟨c,rfl,hii,q,hg2,l,G⟩:=hrel;have I:=G.out.cells
  have u2:(c:Int)<=1000001:=by omega
  by_cases hle:c<=j
  .have t0:(c:Int)<=(j:Int):=by omega
   have s:=HL.out (c:Int) (a:Int) c a dk wr rfl rfl (by omega) (by omega) G
   cases hlv:lt dk[c]! dk[a]! with
   |true=>
    rw[hlv]at s;have R:Hid (scanUp (λx=>lt x dk[a]!) dk j (c+1)=scanUp (λx=>lt x dk[a]!) dk j i):=(scanUp_go (λx=>lt x dk[a]!) dk j c hle (by simp[hlv])).symm.trans l.out;clear hlv l;go_wp2_with fail;refine s.mono ?_;rintro e w2 ⟨rfl,c3,C⟩;clear I s;go_wp2
    go_roundg (j+1 -(c+1))
    case measure=>omega
    case rel=>exact⟨c+1,by go_num,by omega,by omega,aC _,R,C⟩
   |false=>
    rw[hlv]at s;have p:Hid (c=scanUp (λx=>lt x dk[a]!) dk j i):=(scanUp_end (λx=>lt x dk[a]!) dk j c (Or.inr (by simp[hlv]))).symm.trans l.out;clear hlv l;go_wp2_with fail;refine s.mono ?_;rintro e w2 ⟨rfl,c3,C⟩;clear I s;go_wp2;clear c3
    go_loopg [11] j (λV A wr=>∃f:Nat,A=.int .i64 f/\f<=j/\c<=f+1/\f<=V/\Hid (scanDown (λx=>!lt x dk[a]!) dk c f=scanDown (λx=>!lt x dk[a]!) dk c j)/\Hid (aF u dk blk (bq lf lb y z) w wr))
    case atStart=>exact⟨j,rfl,aC _,q,aC _,rfl,C⟩
    case round=>
     obtain⟨f,rfl,Q,t,N,h,r⟩:=hrel;have c4:=r.out.cells
     have u4:(f:Int)<=1000000:=by omega
     by_cases hle2:c<=f
     .have t1:(c:Int)<=(f:Int):=by omega
      have m:=HL.out (f:Int) (a:Int) f a dk wr rfl rfl (by omega) (by omega) r
      cases hlv2:lt dk[f]! dk[a]! with
      |false=>
       rw[hlv2]at m;have R:Hid (scanDown (λx=>!lt x dk[a]!) dk c (f -1)=scanDown (λx=>!lt x dk[a]!) dk c j):=(scanDown_go (λx=>!lt x dk[a]!) dk c f hle2 (by omega) (by simp[hlv2])).symm.trans h.out;clear hlv2 h;go_wp2_with fail;refine m.mono ?_;rintro e X ⟨rfl,c5,E⟩;clear c4 m;go_wp2
       go_roundg (f -1)
       case measure=>omega
       case rel=>exact⟨f -1,by go_num,by omega,by omega,aC _,R,E⟩
      |true=>
       rw[hlv2]at m;have k:Hid (f=scanDown (λx=>!lt x dk[a]!) dk c j):=(scanDown_end (λx=>!lt x dk[a]!) dk c f (Or.inr (by simp[hlv2]))).symm.trans h.out;have H:=part_scans_lt lt a i j dk (by omega) p.out k.out hle2;clear hlv2 h;go_wp2_with fail;refine m.mono ?_;rintro e X ⟨rfl,c5,E⟩;clear c4 m;obtain⟨W6,F,h6⟩:=T.out (c:Int) (f:Int) c f dk X rfl rfl (by omega) (by omega) E;have o:=part_first_go lt d a b pivot Hi.out Hj.out L.out p.out k.out (by omega);obtain⟨K,hI0⟩:∃K:Nat,K=c+1:=⟨_,rfl⟩;obtain⟨P,hJ0⟩:∃P:Nat,P=f -1:=⟨_,rfl⟩;obtain⟨U,hD0⟩:∃U:Array α,U=swp dk c f:=⟨_,rfl⟩
       have W:Hid (partition lt d a b pivot=((partLoop lt a K P U).1,false,swp (partLoop lt a K P U).2 (partLoop lt a K P U).1 a)):=by
        rw[hI0,hJ0,hD0];exact o
       have HP:Hid (partLoop lt a (c+1) (f -1) (swp dk c f)=partLoop lt a K P U):=by
        rw[hI0,hJ0,hD0];rfl
       clear hI0 hJ0 hD0 o;go_wp2
       try rw[dJ (show ¬f<c by omega)]
       go_loopg [10,11] (f -1+1 -(c+1)) (λg1 Y A wr=>∃(i j:Nat) (dk:Array α),Y=.int .i64 i/\A=.int .i64 j/\a<i/\i<=j+1/\j<b/\j+1 -i<=g1/\Hid (partLoop lt a i j dk=partLoop lt a K P U)/\Hid (aF u dk blk (bq lf lb y z) w wr))
       case atStart=>exact⟨c+1,f -1,_,by go_num,by go_num,by omega,by omega,by omega,aC _,HP,h6⟩
       case round=>
        clear p k H F c5 t0 t1 HP h6 E C r G Z u2 u4 i4 i5;obtain⟨i,j,dk,rfl,rfl,hai,M,hjb,hg1,AE,Z⟩:=hrel
        have i4:(j:Int)<=1000000:=by omega
        have i5:(i:Int)<=1000001:=by omega
        go_wp2
        go_loopg [10] (j+1 -i) (λg2 Y wr=>∃c:Nat,Y=.int .i64 c/\i<=c/\c<=j+1/\j+1 -c<=g2/\Hid (scanUp (λx=>lt x dk[a]!) dk j c=scanUp (λx=>lt x dk[a]!) dk j i)/\Hid (aF u dk blk (bq lf lb y z) w wr))
        case atStart=>exact⟨i,by first|rfl|go_num,aC _,M,aC _,rfl,Z⟩
        case round=>
         obtain⟨c,rfl,hii,q,hg2,l,G⟩:=hrel;have I:=G.out.cells
         have u2:(c:Int)<=1000001:=by omega
         by_cases hle:c<=j
         .have t0:(c:Int)<=(j:Int):=by omega
          have s:=HL.out (c:Int) (a:Int) c a dk wr rfl rfl (by omega) (by omega) G
          cases hlv:lt dk[c]! dk[a]! with
          |true=>
           rw[hlv]at s;have R:Hid (scanUp (λx=>lt x dk[a]!) dk j (c+1)=scanUp (λx=>lt x dk[a]!) dk j i):=(scanUp_go (λx=>lt x dk[a]!) dk j c hle (by simp[hlv])).symm.trans l.out;clear hlv l;go_wp2_with fail;refine s.mono ?_;rintro e w2 ⟨rfl,c3,C⟩;clear I s;go_wp2
           go_roundg (j+1 -(c+1))
           case measure=>omega
           case rel=>exact⟨c+1,by go_num,by omega,by omega,aC _,R,C⟩
          |false=>
           rw[hlv]at s;have p:Hid (c=scanUp (λx=>lt x dk[a]!) dk j i):=(scanUp_end (λx=>lt x dk[a]!) dk j c (Or.inr (by simp[hlv]))).symm.trans l.out;clear hlv l;go_wp2_with fail;refine s.mono ?_;rintro e w2 ⟨rfl,c3,C⟩;clear I s;go_wp2;clear c3
           go_loopg [11] j (λV A wr=>∃f:Nat,A=.int .i64 f/\f<=j/\c<=f+1/\f<=V/\Hid (scanDown (λx=>!lt x dk[a]!) dk c f=scanDown (λx=>!lt x dk[a]!) dk c j)/\Hid (aF u dk blk (bq lf lb y z) w wr))
           case atStart=>exact⟨j,rfl,aC _,q,aC _,rfl,C⟩
           case round=>
            obtain⟨f,rfl,Q,t,N,h,r⟩:=hrel;have c4:=r.out.cells
            have u4:(f:Int)<=1000000:=by omega
            by_cases hle2:c<=f
            .have t1:(c:Int)<=(f:Int):=by omega
             have m:=HL.out (f:Int) (a:Int) f a dk wr rfl rfl (by omega) (by omega) r
             cases hlv2:lt dk[f]! dk[a]! with
             |false=>
              rw[hlv2]at m;have R:Hid (scanDown (λx=>!lt x dk[a]!) dk c (f -1)=scanDown (λx=>!lt x dk[a]!) dk c j):=(scanDown_go (λx=>!lt x dk[a]!) dk c f hle2 (by omega) (by simp[hlv2])).symm.trans h.out;clear hlv2 h;go_wp2_with fail;refine m.mono ?_;rintro e X ⟨rfl,c5,E⟩;clear c4 m;go_wp2
              go_roundg (f -1)
              case measure=>omega
              case rel=>exact⟨f -1,by go_num,by omega,by omega,aC _,R,E⟩
             |true=>
              rw[hlv2]at m;have k:Hid (f=scanDown (λx=>!lt x dk[a]!) dk c j):=(scanDown_end (λx=>!lt x dk[a]!) dk c f (Or.inr (by simp[hlv2]))).symm.trans h.out;have H:=part_scans_lt lt a i j dk (by omega) p.out k.out hle2;clear hlv2 h;go_wp2_with fail;refine m.mono ?_;rintro e X ⟨rfl,c5,E⟩;clear c4 m;obtain⟨W6,F,h6⟩:=T.out (c:Int) (f:Int) c f dk X rfl rfl (by omega) (by omega) E;go_wp2
              go_roundg (f -1+1 -(c+1))
              case measure=>omega
              case rel=>exact⟨c+1,f -1,_,by go_num,by go_num,by omega,by omega,by omega,aC _,(part_go lt a i j dk p.out k.out (by omega)).symm.trans AE.out,h6⟩
            .have t1:¬(c:Int)<=(f:Int):=by omega
             have k:Hid (f=scanDown (λx=>!lt x dk[a]!) dk c j):=(scanDown_end (λx=>!lt x dk[a]!) dk c f (Or.inl hle2)).symm.trans h.out;clear h;obtain⟨W7,Kr,v⟩:=T.out (f:Int) (a:Int) f a dk _ rfl rfl (by omega) (by omega) r;go_wp2;go_ret2;have e:=part_break lt a i j dk p.out k.out (by omega);rw[W.out,<-AE.out,e];exact⟨rfl,v.out.hd,v.out.g⟩
         .have t0:¬(c:Int)<=(j:Int):=by omega
          have p:Hid (c=scanUp (λx=>lt x dk[a]!) dk j i):=(scanUp_end (λx=>lt x dk[a]!) dk j c (Or.inl hle)).symm.trans l.out;clear l;go_wp2;clear I
          go_loopg [11] j (λV A wr=>∃f:Nat,A=.int .i64 f/\f<=j/\c<=f+1/\f<=V/\Hid (scanDown (λx=>!lt x dk[a]!) dk c f=scanDown (λx=>!lt x dk[a]!) dk c j)/\Hid (aF u dk blk (bq lf lb y z) w wr))
          case atStart=>exact⟨j,rfl,aC _,q,aC _,rfl,G⟩
          case round=>
           obtain⟨f,rfl,Q,t,N,h,r⟩:=hrel;have c4:=r.out.cells
           have u4:(f:Int)<=1000000:=by omega
           by_cases hle2:c<=f
           .exfalso;omega
           .have t1:¬(c:Int)<=(f:Int):=by omega
            have k:Hid (f=scanDown (λx=>!lt x dk[a]!) dk c j):=(scanDown_end (λx=>!lt x dk[a]!) dk c f (Or.inl hle2)).symm.trans h.out;clear h;obtain⟨W7,Kr,v⟩:=T.out (f:Int) (a:Int) f a dk _ rfl rfl (by omega) (by omega) r;go_wp2;go_ret2;have e:=part_break lt a i j dk p.out k.out (by omega);rw[W.out,<-AE.out,e];exact⟨rfl,v.out.hd,v.out.g⟩
     .have t1:¬(c:Int)<=(f:Int):=by omega
      have k:Hid (f=scanDown (λx=>!lt x dk[a]!) dk c j):=(scanDown_end (λx=>!lt x dk[a]!) dk c f (Or.inl hle2)).symm.trans h.out;clear h;obtain⟨W7,Kr,v⟩:=T.out (f:Int) (a:Int) f a dk _ rfl rfl (by omega) (by omega) r;have o:=part_first_break lt d a b pivot Hi.out Hj.out L.out p.out k.out (by omega);have W:=hid o;clear o;go_wp2;go_ret2;rw[W.out];exact⟨rfl,v.out.hd,v.out.g⟩
  .have t0:¬(c:Int)<=(j:Int):=by omega
   have p:Hid (c=scanUp (λx=>lt x dk[a]!) dk j i):=(scanUp_end (λx=>lt x dk[a]!) dk j c (Or.inl hle)).symm.trans l.out;clear l;go_wp2;clear I
   go_loopg [11] j (λV A wr=>∃f:Nat,A=.int .i64 f/\f<=j/\c<=f+1/\f<=V/\Hid (scanDown (λx=>!lt x dk[a]!) dk c f=scanDown (λx=>!lt x dk[a]!) dk c j)/\Hid (aF u dk blk (bq lf lb y z) w wr))
   case atStart=>exact⟨j,rfl,aC _,q,aC _,rfl,G⟩
   case round=>
    obtain⟨f,rfl,Q,t,N,h,r⟩:=hrel;have c4:=r.out.cells
    have u4:(f:Int)<=1000000:=by omega
    by_cases hle2:c<=f
    .exfalso;omega
    .have t1:¬(c:Int)<=(f:Int):=by omega
     have k:Hid (f=scanDown (λx=>!lt x dk[a]!) dk c j):=(scanDown_end (λx=>!lt x dk[a]!) dk c f (Or.inl hle2)).symm.trans h.out;clear h;obtain⟨W7,Kr,v⟩:=T.out (f:Int) (a:Int) f a dk _ rfl rfl (by omega) (by omega) r;have o:=part_first_break lt d a b pivot Hi.out Hj.out L.out p.out k.out (by omega);have W:=hid o;clear o;go_wp2;go_ret2;rw[W.out];exact⟨rfl,v.out.hd,v.out.g⟩
end Go.Proofs.YthfpipieboophaaGreatDoor
