import Derived.Sort.WalkC4
import Derived.Test.YthfpipieboophaaGreatDoorZSgg
namespace Go.Proofs.YthfpipieboophaaGreatDoor
set_option maxRecDepth 100000
set_option maxHeartbeats 40000000
open Go.RowKit Go.Sort
theorem TJ{α:Type}[Inhabited α]{lt:α->α->Bool}{B blk n lf z:Nat}{lb y:Array Value}{u:Array α->World->Prop}(S:si lt B blk n lf lb z y u)(d:Array α)(a b pivot:Nat)(w:World)(hd:u d w)(hab:a<=pivot)(hpb:pivot<b)(hb:b<=n)(hn:n<=1000000):
  Calls Tryz.prog 261 #[.agg #[.func (.func lf) #[] lb,.func (.func z) #[] y],.int .i64 a,.int .i64 b,.int .i64 pivot] w λe w'=>e=.returned (.tuple #[.int .i64 (partition lt d a b pivot).1,.bool (partition lt d a b pivot).2.1])/\u (partition lt d a b pivot).2.2 w'/\w.grownBy w' (some blk):=by
 have hlt:=S.blt d w hd;have OZ:=S.enters;have H0:=hid (kU S d w hd);have HL:=hid (dw S w);have K:=hid (ek S w hlt);obtain⟨W1,q8,h1⟩:=K.out (a:Int) (pivot:Int) a pivot d _ rfl rfl (by omega) (by omega) H0
 have Zb:(a:Int)<=1000000:=by omega
 have i3:(b:Int)<=1000000:=by omega
 have i3':(1:Int)<=(b:Int):=by omega
 obtain⟨i,hi⟩:∃i:Nat,i=a+1:=⟨_,rfl⟩;obtain⟨j,hj⟩:∃j:Nat,j=b -1:=⟨_,rfl⟩;obtain⟨dk,hdk⟩:∃dk:Array α,dk=swp d a pivot:=⟨_,rfl⟩
 have H1:Hid (aF u dk blk (bq lf lb z y) w W1):=by rw[hdk];exact h1
 have hai:a<i:=by omega
 have V:i<=j+1:=by omega
 have hjb:j<b:=by omega
 have i4:(j:Int)<=1000000:=by omega
 have i5:(i:Int)<=1000001:=by omega
 have Y:=hid hi;have Hj:=hid hj;have P:=hid hdk;clear S hd H0 h1 hi hj hdk;go_enter Tryz.func261,Tryz.ntmps261;go_wp2;rw[show((a:Int)+1)=(i:Int) by have:=Y.out;omega,show((b:Int) -1)=(j:Int) by have:=Hj.out;omega];clear q8
 go_loopg [10] (j+1 -i) (λg2 X wr=>∃c:Nat,X=.int .i64 c/\i<=c/\c<=j+1/\j+1 -c<=g2/\Hid (scanUp (λx=>lt x dk[a]!) dk j c=scanUp (λx=>lt x dk[a]!) dk j i)/\Hid (aF u dk blk (bq lf lb z y) w wr))
 case atStart=>exact⟨i,by first|rfl|go_num,aO _,V,aO _,rfl,H1⟩
 case round=>
  obtain⟨c,rfl,hii,q,hg2,l,E⟩:=hrel;have M:=E.out.cells
  have u2:(c:Int)<=1000001:=by omega
  by_cases hle:c<=j
  .have t0:(c:Int)<=(j:Int):=by omega
   have s:=HL.out (c:Int) (a:Int) c a dk wr rfl rfl (by omega) (by omega) E
   cases hlv:lt dk[c]! dk[a]! with
   |true=>
    rw[hlv]at s;have T:Hid (scanUp (λx=>lt x dk[a]!) dk j (c+1)=scanUp (λx=>lt x dk[a]!) dk j i):=(scanUp_go (λx=>lt x dk[a]!) dk j c hle (by simp[hlv])).symm.trans l.out;clear hlv l;go_wp2_with fail;refine s.mono ?_;rintro e w2 ⟨rfl,c3,G⟩;clear M s;go_wp2
    go_roundg (j+1 -(c+1))
    case measure=>omega
    case rel=>exact⟨c+1,by go_num,by omega,by omega,aO _,T,G⟩
   |false=>
    rw[hlv]at s;have p:Hid (c=scanUp (λx=>lt x dk[a]!) dk j i):=(scanUp_end (λx=>lt x dk[a]!) dk j c (Or.inr (by simp[hlv]))).symm.trans l.out;clear hlv l;go_wp2_with fail;refine s.mono ?_;rintro e w2 ⟨rfl,c3,G⟩;clear M s;go_wp2;clear c3
    go_loopg [11] j (λQ A wr=>∃f:Nat,A=.int .i64 f/\f<=j/\c<=f+1/\f<=Q/\Hid (scanDown (λx=>!lt x dk[a]!) dk c f=scanDown (λx=>!lt x dk[a]!) dk c j)/\Hid (aF u dk blk (bq lf lb z y) w wr))
    case atStart=>exact⟨j,rfl,aO _,q,aO _,rfl,G⟩
    case round=>
     obtain⟨f,rfl,I,v,U,h,r⟩:=hrel;have c4:=r.out.cells
     have u4:(f:Int)<=1000000:=by omega
     by_cases hle2:c<=f
     .have t1:(c:Int)<=(f:Int):=by omega
      have m:=HL.out (f:Int) (a:Int) f a dk wr rfl rfl (by omega) (by omega) r
      cases hlv2:lt dk[f]! dk[a]! with
      |false=>
       rw[hlv2]at m;have T:Hid (scanDown (λx=>!lt x dk[a]!) dk c (f -1)=scanDown (λx=>!lt x dk[a]!) dk c j):=(scanDown_go (λx=>!lt x dk[a]!) dk c f hle2 (by omega) (by simp[hlv2])).symm.trans h.out;clear hlv2 h;go_wp2_with fail;refine m.mono ?_;rintro e w5 ⟨rfl,Z,H⟩;clear c4 m;go_wp2
       go_roundg (f -1)
       case measure=>omega
       case rel=>exact⟨f -1,by go_num,by omega,by omega,aO _,T,H⟩
      |true=>
       rw[hlv2]at m;have k:Hid (f=scanDown (λx=>!lt x dk[a]!) dk c j):=(scanDown_end (λx=>!lt x dk[a]!) dk c f (Or.inr (by simp[hlv2]))).symm.trans h.out;have F:=part_scans_lt lt a i j dk (by omega) p.out k.out hle2;clear hlv2 h;go_wp2_with fail;refine m.mono ?_;rintro e w5 ⟨rfl,Z,H⟩;clear c4 m;obtain⟨W6,C,h6⟩:=K.out (c:Int) (f:Int) c f dk w5 rfl rfl (by omega) (by omega) H;have o:=part_first_go lt d a b pivot Y.out Hj.out P.out p.out k.out (by omega);obtain⟨R,hI0⟩:∃R:Nat,R=c+1:=⟨_,rfl⟩;obtain⟨L,hJ0⟩:∃L:Nat,L=f -1:=⟨_,rfl⟩;obtain⟨N,hD0⟩:∃N:Array α,N=swp dk c f:=⟨_,rfl⟩
       have W:Hid (partition lt d a b pivot=((partLoop lt a R L N).1,false,swp (partLoop lt a R L N).2 (partLoop lt a R L N).1 a)):=by
        rw[hI0,hJ0,hD0];exact o
       have HP:Hid (partLoop lt a (c+1) (f -1) (swp dk c f)=partLoop lt a R L N):=by
        rw[hI0,hJ0,hD0];rfl
       clear hI0 hJ0 hD0 o;go_wp2
       try rw[o9 (show ¬f<c by omega)]
       go_loopg [10,11] (f -1+1 -(c+1)) (λg1 X A wr=>∃(i j:Nat) (dk:Array α),X=.int .i64 i/\A=.int .i64 j/\a<i/\i<=j+1/\j<b/\j+1 -i<=g1/\Hid (partLoop lt a i j dk=partLoop lt a R L N)/\Hid (aF u dk blk (bq lf lb z y) w wr))
       case atStart=>exact⟨c+1,f -1,_,by go_num,by go_num,by omega,by omega,by omega,aO _,HP,h6⟩
       case round=>
        clear p k F C Z t0 t1 HP h6 H G r E H1 u2 u4 i4 i5;obtain⟨i,j,dk,rfl,rfl,hai,V,hjb,hg1,AE,H1⟩:=hrel
        have i4:(j:Int)<=1000000:=by omega
        have i5:(i:Int)<=1000001:=by omega
        go_wp2
        go_loopg [10] (j+1 -i) (λg2 X wr=>∃c:Nat,X=.int .i64 c/\i<=c/\c<=j+1/\j+1 -c<=g2/\Hid (scanUp (λx=>lt x dk[a]!) dk j c=scanUp (λx=>lt x dk[a]!) dk j i)/\Hid (aF u dk blk (bq lf lb z y) w wr))
        case atStart=>exact⟨i,by first|rfl|go_num,aO _,V,aO _,rfl,H1⟩
        case round=>
         obtain⟨c,rfl,hii,q,hg2,l,E⟩:=hrel;have M:=E.out.cells
         have u2:(c:Int)<=1000001:=by omega
         by_cases hle:c<=j
         .have t0:(c:Int)<=(j:Int):=by omega
          have s:=HL.out (c:Int) (a:Int) c a dk wr rfl rfl (by omega) (by omega) E
          cases hlv:lt dk[c]! dk[a]! with
          |true=>
           rw[hlv]at s;have T:Hid (scanUp (λx=>lt x dk[a]!) dk j (c+1)=scanUp (λx=>lt x dk[a]!) dk j i):=(scanUp_go (λx=>lt x dk[a]!) dk j c hle (by simp[hlv])).symm.trans l.out;clear hlv l;go_wp2_with fail;refine s.mono ?_;rintro e w2 ⟨rfl,c3,G⟩;clear M s;go_wp2
           go_roundg (j+1 -(c+1))
           case measure=>omega
           case rel=>exact⟨c+1,by go_num,by omega,by omega,aO _,T,G⟩
          |false=>
           rw[hlv]at s;have p:Hid (c=scanUp (λx=>lt x dk[a]!) dk j i):=(scanUp_end (λx=>lt x dk[a]!) dk j c (Or.inr (by simp[hlv]))).symm.trans l.out;clear hlv l;go_wp2_with fail;refine s.mono ?_;rintro e w2 ⟨rfl,c3,G⟩;clear M s;go_wp2;clear c3
           go_loopg [11] j (λQ A wr=>∃f:Nat,A=.int .i64 f/\f<=j/\c<=f+1/\f<=Q/\Hid (scanDown (λx=>!lt x dk[a]!) dk c f=scanDown (λx=>!lt x dk[a]!) dk c j)/\Hid (aF u dk blk (bq lf lb z y) w wr))
           case atStart=>exact⟨j,rfl,aO _,q,aO _,rfl,G⟩
           case round=>
            obtain⟨f,rfl,I,v,U,h,r⟩:=hrel;have c4:=r.out.cells
            have u4:(f:Int)<=1000000:=by omega
            by_cases hle2:c<=f
            .have t1:(c:Int)<=(f:Int):=by omega
             have m:=HL.out (f:Int) (a:Int) f a dk wr rfl rfl (by omega) (by omega) r
             cases hlv2:lt dk[f]! dk[a]! with
             |false=>
              rw[hlv2]at m;have T:Hid (scanDown (λx=>!lt x dk[a]!) dk c (f -1)=scanDown (λx=>!lt x dk[a]!) dk c j):=(scanDown_go (λx=>!lt x dk[a]!) dk c f hle2 (by omega) (by simp[hlv2])).symm.trans h.out;clear hlv2 h;go_wp2_with fail;refine m.mono ?_;rintro e w5 ⟨rfl,Z,H⟩;clear c4 m;go_wp2
              go_roundg (f -1)
              case measure=>omega
              case rel=>exact⟨f -1,by go_num,by omega,by omega,aO _,T,H⟩
             |true=>
              rw[hlv2]at m;have k:Hid (f=scanDown (λx=>!lt x dk[a]!) dk c j):=(scanDown_end (λx=>!lt x dk[a]!) dk c f (Or.inr (by simp[hlv2]))).symm.trans h.out;have F:=part_scans_lt lt a i j dk (by omega) p.out k.out hle2;clear hlv2 h;go_wp2_with fail;refine m.mono ?_;rintro e w5 ⟨rfl,Z,H⟩;clear c4 m;obtain⟨W6,C,h6⟩:=K.out (c:Int) (f:Int) c f dk w5 rfl rfl (by omega) (by omega) H;go_wp2
              go_roundg (f -1+1 -(c+1))
              case measure=>omega
              case rel=>exact⟨c+1,f -1,_,by go_num,by go_num,by omega,by omega,by omega,aO _,(part_go lt a i j dk p.out k.out (by omega)).symm.trans AE.out,h6⟩
            .have t1:¬(c:Int)<=(f:Int):=by omega
             have k:Hid (f=scanDown (λx=>!lt x dk[a]!) dk c j):=(scanDown_end (λx=>!lt x dk[a]!) dk c f (Or.inl hle2)).symm.trans h.out;clear h;obtain⟨W7,Kr,t⟩:=K.out (f:Int) (a:Int) f a dk _ rfl rfl (by omega) (by omega) r;go_wp2;go_ret2;have e:=part_break lt a i j dk p.out k.out (by omega);rw[W.out,<-AE.out,e];exact⟨rfl,t.out.hd,t.out.g⟩
         .have t0:¬(c:Int)<=(j:Int):=by omega
          have p:Hid (c=scanUp (λx=>lt x dk[a]!) dk j i):=(scanUp_end (λx=>lt x dk[a]!) dk j c (Or.inl hle)).symm.trans l.out;clear l;go_wp2;clear M
          go_loopg [11] j (λQ A wr=>∃f:Nat,A=.int .i64 f/\f<=j/\c<=f+1/\f<=Q/\Hid (scanDown (λx=>!lt x dk[a]!) dk c f=scanDown (λx=>!lt x dk[a]!) dk c j)/\Hid (aF u dk blk (bq lf lb z y) w wr))
          case atStart=>exact⟨j,rfl,aO _,q,aO _,rfl,E⟩
          case round=>
           obtain⟨f,rfl,I,v,U,h,r⟩:=hrel;have c4:=r.out.cells
           have u4:(f:Int)<=1000000:=by omega
           by_cases hle2:c<=f
           .exfalso;omega
           .have t1:¬(c:Int)<=(f:Int):=by omega
            have k:Hid (f=scanDown (λx=>!lt x dk[a]!) dk c j):=(scanDown_end (λx=>!lt x dk[a]!) dk c f (Or.inl hle2)).symm.trans h.out;clear h;obtain⟨W7,Kr,t⟩:=K.out (f:Int) (a:Int) f a dk _ rfl rfl (by omega) (by omega) r;go_wp2;go_ret2;have e:=part_break lt a i j dk p.out k.out (by omega);rw[W.out,<-AE.out,e];exact⟨rfl,t.out.hd,t.out.g⟩
     .have t1:¬(c:Int)<=(f:Int):=by omega
      have k:Hid (f=scanDown (λx=>!lt x dk[a]!) dk c j):=(scanDown_end (λx=>!lt x dk[a]!) dk c f (Or.inl hle2)).symm.trans h.out;clear h;obtain⟨W7,Kr,t⟩:=K.out (f:Int) (a:Int) f a dk _ rfl rfl (by omega) (by omega) r;have o:=part_first_break lt d a b pivot Y.out Hj.out P.out p.out k.out (by omega);have W:=hid o;clear o;go_wp2;go_ret2;rw[W.out];exact⟨rfl,t.out.hd,t.out.g⟩
  .have t0:¬(c:Int)<=(j:Int):=by omega
   have p:Hid (c=scanUp (λx=>lt x dk[a]!) dk j i):=(scanUp_end (λx=>lt x dk[a]!) dk j c (Or.inl hle)).symm.trans l.out;clear l;go_wp2;clear M
   go_loopg [11] j (λQ A wr=>∃f:Nat,A=.int .i64 f/\f<=j/\c<=f+1/\f<=Q/\Hid (scanDown (λx=>!lt x dk[a]!) dk c f=scanDown (λx=>!lt x dk[a]!) dk c j)/\Hid (aF u dk blk (bq lf lb z y) w wr))
   case atStart=>exact⟨j,rfl,aO _,q,aO _,rfl,E⟩
   case round=>
    obtain⟨f,rfl,I,v,U,h,r⟩:=hrel;have c4:=r.out.cells
    have u4:(f:Int)<=1000000:=by omega
    by_cases hle2:c<=f
    .exfalso;omega
    .have t1:¬(c:Int)<=(f:Int):=by omega
     have k:Hid (f=scanDown (λx=>!lt x dk[a]!) dk c j):=(scanDown_end (λx=>!lt x dk[a]!) dk c f (Or.inl hle2)).symm.trans h.out;clear h;obtain⟨W7,Kr,t⟩:=K.out (f:Int) (a:Int) f a dk _ rfl rfl (by omega) (by omega) r;have o:=part_first_break lt d a b pivot Y.out Hj.out P.out p.out k.out (by omega);have W:=hid o;clear o;go_wp2;go_ret2;rw[W.out];exact⟨rfl,t.out.hd,t.out.g⟩
end Go.Proofs.YthfpipieboophaaGreatDoor
