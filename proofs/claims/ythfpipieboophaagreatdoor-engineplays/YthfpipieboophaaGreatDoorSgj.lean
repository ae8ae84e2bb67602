import Derived.Sort.WalkC4
import Derived.Test.YthfpipieboophaaGreatDoorZba
namespace Go.Proofs.YthfpipieboophaaGreatDoor
set_option maxRecDepth 100000
set_option maxHeartbeats 40000000
open Go.RowKit Go.Sort
theorem TJ {α:Type} [Inhabited α] {lt:α->α->Bool} {B blk n lf sf:Nat} {lb sb:Array Value} {Hd:Array α->World->Prop} (S:si lt B blk n lf lb sf sb Hd) (d:Array α) (a b pivot:Nat) (w:World) (hd:Hd d w) (hab:a<=pivot) (hpb:pivot < b) (hb:b<=n) (hn:n<=1000000):
  Calls Tryz.prog 261 #[.agg #[.func (.func lf) #[] lb,.func (.func sf) #[] sb],.int .i64 a,.int .i64 b,.int .i64 pivot] w fun e w'=>e= .returned (.tuple #[.int .i64 (partition lt d a b pivot).1,.bool (partition lt d a b pivot).2.1])∧Hd (partition lt d a b pivot).2.2 w'∧w.grownBy w' (some blk):=by
 have hlt:=S.blt d w hd;have OZ:=S.enters;have H0:=hid (kU S d w hd);have HL:=hid (dw S w);have HW:=hid (ek S w hlt);obtain⟨W1,q8,h1⟩:=HW.out (a:Int) (pivot:Int) a pivot d _ rfl rfl (by omega) (by omega) H0
 have Zb:(a:Int)<=1000000:=by omega
 have i3:(b:Int)<=1000000:=by omega
 have i3':(1:Int)<=(b:Int):=by omega
 obtain⟨i,hi⟩:∃i:Nat,i=a+1:=⟨_,rfl⟩;obtain⟨j,hj⟩:∃j:Nat,j=b -1:=⟨_,rfl⟩;obtain⟨dk,hdk⟩:∃dk:Array α,dk=swp d a pivot:=⟨_,rfl⟩
 have H1:Hid (aF Hd dk blk (bq lf lb sf sb) w W1):=by rw[hdk];exact h1
 have hai:a < i:=by omega
 have hij:i<=j+1:=by omega
 have hjb:j < b:=by omega
 have i4:(j:Int)<=1000000:=by omega
 have i5:(i:Int)<=1000001:=by omega
 have Hi:=hid hi;have Hj:=hid hj;have Hdk:=hid hdk;clear S hd H0 h1 hi hj hdk;go_enter Tryz.func261,Tryz.ntmps261;go_wp2;rw[show((a:Int)+1)=(i:Int) by have :=Hi.out;omega,show((b:Int) -1)=(j:Int) by have :=Hj.out;omega];clear q8
 go_loopg [10] (j+1 -i) (fun g2 vi wr=>∃i':Nat,vi= .int .i64 i'∧i<=i'∧i'<=j+1∧j+1 -i'<=g2∧Hid (scanUp (fun x=>lt x dk[a]!) dk j i'=scanUp (fun x=>lt x dk[a]!) dk j i)∧Hid (aF Hd dk blk (bq lf lb sf sb) w wr))
 case atStart=>exact⟨i,by first | rfl | go_num,Nat.le_refl _,hij,Nat.le_refl _,rfl,H1⟩
 case round=>
  obtain⟨i',rfl,hii,hij',hg2,hsc,H2⟩:=hrel;have c2:=H2.out.cells
  have u2:(i':Int)<=1000001:=by omega
  by_cases hle:i'<=j
  ·have t0:(i':Int)<=(j:Int):=by omega
   have hl:=HL.out (i':Int) (a:Int) i' a dk wr rfl rfl (by omega) (by omega) H2
   cases hlv:lt dk[i']! dk[a]! with
   | true=>
    rw[hlv] at hl;have HS:Hid (scanUp (fun x=>lt x dk[a]!) dk j (i'+1)=scanUp (fun x=>lt x dk[a]!) dk j i):=(scanUp_go (fun x=>lt x dk[a]!) dk j i' hle (by simp[hlv])).symm.trans hsc.out;clear hlv hsc;go_wp2_with fail;refine hl.mono ?_;rintro e w2 ⟨rfl,c3,h3⟩;clear c2 hl;go_wp2
    go_roundg (j+1 -(i'+1))
    case measure=>omega
    case rel=>exact⟨i'+1,by go_num,by omega,by omega,Nat.le_refl _,HS,h3⟩
   | false=>
    rw[hlv] at hl;have hi2:Hid (i'=scanUp (fun x=>lt x dk[a]!) dk j i):=(scanUp_end (fun x=>lt x dk[a]!) dk j i' (Or.inr (by simp[hlv]))).symm.trans hsc.out;clear hlv hsc;go_wp2_with fail;refine hl.mono ?_;rintro e w2 ⟨rfl,c3,h3⟩;clear c2 hl;go_wp2;clear c3
    go_loopg [11] j (fun g3 vj wr=>∃j':Nat,vj= .int .i64 j'∧j'<=j∧i'<=j'+1∧j'<=g3∧Hid (scanDown (fun x=> !lt x dk[a]!) dk i' j'=scanDown (fun x=> !lt x dk[a]!) dk i' j)∧Hid (aF Hd dk blk (bq lf lb sf sb) w wr))
    case atStart=>exact⟨j,rfl,Nat.le_refl _,hij',Nat.le_refl _,rfl,h3⟩
    case round=>
     obtain⟨j',rfl,hjj,hij2,hg3,hsd,H4⟩:=hrel;have c4:=H4.out.cells
     have u4:(j':Int)<=1000000:=by omega
     by_cases hle2:i'<=j'
     ·have t1:(i':Int)<=(j':Int):=by omega
      have hl2:=HL.out (j':Int) (a:Int) j' a dk wr rfl rfl (by omega) (by omega) H4
      cases hlv2:lt dk[j']! dk[a]! with
      | false=>
       rw[hlv2] at hl2;have HS:Hid (scanDown (fun x=> !lt x dk[a]!) dk i' (j' -1)=scanDown (fun x=> !lt x dk[a]!) dk i' j):=(scanDown_go (fun x=> !lt x dk[a]!) dk i' j' hle2 (by omega) (by simp[hlv2])).symm.trans hsd.out;clear hlv2 hsd;go_wp2_with fail;refine hl2.mono ?_;rintro e w5 ⟨rfl,c5,h5⟩;clear c4 hl2;go_wp2
       go_roundg (j' -1)
       case measure=>omega
       case rel=>exact⟨j' -1,by go_num,by omega,by omega,Nat.le_refl _,HS,h5⟩
      | true=>
       rw[hlv2] at hl2;have hj2:Hid (j'=scanDown (fun x=> !lt x dk[a]!) dk i' j):=(scanDown_end (fun x=> !lt x dk[a]!) dk i' j' (Or.inr (by simp[hlv2]))).symm.trans hsd.out;have hlt3:=part_scans_lt lt a i j dk (by omega) hi2.out hj2.out hle2;clear hlv2 hsd;go_wp2_with fail;refine hl2.mono ?_;rintro e w5 ⟨rfl,c5,h5⟩;clear c4 hl2;obtain⟨W6,hrun,h6⟩:=HW.out (i':Int) (j':Int) i' j' dk w5 rfl rfl (by omega) (by omega) h5;have hfin:=part_first_go lt d a b pivot Hi.out Hj.out Hdk.out hi2.out hj2.out (by omega);obtain⟨I0,hI0⟩:∃I0:Nat,I0=i'+1:=⟨_,rfl⟩;obtain⟨J0,hJ0⟩:∃J0:Nat,J0=j' -1:=⟨_,rfl⟩;obtain⟨D0,hD0⟩:∃D0:Array α,D0=swp dk i' j':=⟨_,rfl⟩
       have PF:Hid (partition lt d a b pivot=((partLoop lt a I0 J0 D0).1,false,swp (partLoop lt a I0 J0 D0).2 (partLoop lt a I0 J0 D0).1 a)):=by
        rw[hI0,hJ0,hD0];exact hfin
       have HP:Hid (partLoop lt a (i'+1) (j' -1) (swp dk i' j')=partLoop lt a I0 J0 D0):=by
        rw[hI0,hJ0,hD0];rfl
       clear hI0 hJ0 hD0 hfin;go_wp2
       try rw[decide_eq_false (show ¬j' < i' by omega)]
       go_loopg [10,11] (j' -1+1 -(i'+1)) (fun g1 vi vj wr=>∃(i j:Nat) (dk:Array α),vi= .int .i64 i∧vj= .int .i64 j∧a < i∧i<=j+1∧j < b∧j+1 -i<=g1∧Hid (partLoop lt a i j dk=partLoop lt a I0 J0 D0)∧Hid (aF Hd dk blk (bq lf lb sf sb) w wr))
       case atStart=>exact⟨i'+1,j' -1,_,by go_num,by go_num,by omega,by omega,by omega,Nat.le_refl _,HP,h6⟩
       case round=>
        clear hi2 hj2 hlt3 hrun c5 t0 t1 HP h6 h5 h3 H4 H2 H1 u2 u4 i4 i5;obtain⟨i,j,dk,rfl,rfl,hai,hij,hjb,hg1,AE,H1⟩:=hrel
        have i4:(j:Int)<=1000000:=by omega
        have i5:(i:Int)<=1000001:=by omega
        go_wp2
        go_loopg [10] (j+1 -i) (fun g2 vi wr=>∃i':Nat,vi= .int .i64 i'∧i<=i'∧i'<=j+1∧j+1 -i'<=g2∧Hid (scanUp (fun x=>lt x dk[a]!) dk j i'=scanUp (fun x=>lt x dk[a]!) dk j i)∧Hid (aF Hd dk blk (bq lf lb sf sb) w wr))
        case atStart=>exact⟨i,by first | rfl | go_num,Nat.le_refl _,hij,Nat.le_refl _,rfl,H1⟩
        case round=>
         obtain⟨i',rfl,hii,hij',hg2,hsc,H2⟩:=hrel;have c2:=H2.out.cells
         have u2:(i':Int)<=1000001:=by omega
         by_cases hle:i'<=j
         ·have t0:(i':Int)<=(j:Int):=by omega
          have hl:=HL.out (i':Int) (a:Int) i' a dk wr rfl rfl (by omega) (by omega) H2
          cases hlv:lt dk[i']! dk[a]! with
          | true=>
           rw[hlv] at hl;have HS:Hid (scanUp (fun x=>lt x dk[a]!) dk j (i'+1)=scanUp (fun x=>lt x dk[a]!) dk j i):=(scanUp_go (fun x=>lt x dk[a]!) dk j i' hle (by simp[hlv])).symm.trans hsc.out;clear hlv hsc;go_wp2_with fail;refine hl.mono ?_;rintro e w2 ⟨rfl,c3,h3⟩;clear c2 hl;go_wp2
           go_roundg (j+1 -(i'+1))
           case measure=>omega
           case rel=>exact⟨i'+1,by go_num,by omega,by omega,Nat.le_refl _,HS,h3⟩
          | false=>
           rw[hlv] at hl;have hi2:Hid (i'=scanUp (fun x=>lt x dk[a]!) dk j i):=(scanUp_end (fun x=>lt x dk[a]!) dk j i' (Or.inr (by simp[hlv]))).symm.trans hsc.out;clear hlv hsc;go_wp2_with fail;refine hl.mono ?_;rintro e w2 ⟨rfl,c3,h3⟩;clear c2 hl;go_wp2;clear c3
           go_loopg [11] j (fun g3 vj wr=>∃j':Nat,vj= .int .i64 j'∧j'<=j∧i'<=j'+1∧j'<=g3∧Hid (scanDown (fun x=> !lt x dk[a]!) dk i' j'=scanDown (fun x=> !lt x dk[a]!) dk i' j)∧Hid (aF Hd dk blk (bq lf lb sf sb) w wr))
           case atStart=>exact⟨j,rfl,Nat.le_refl _,hij',Nat.le_refl _,rfl,h3⟩
           case round=>
            obtain⟨j',rfl,hjj,hij2,hg3,hsd,H4⟩:=hrel;have c4:=H4.out.cells
            have u4:(j':Int)<=1000000:=by omega
            by_cases hle2:i'<=j'
            ·have t1:(i':Int)<=(j':Int):=by omega
             have hl2:=HL.out (j':Int) (a:Int) j' a dk wr rfl rfl (by omega) (by omega) H4
             cases hlv2:lt dk[j']! dk[a]! with
             | false=>
              rw[hlv2] at hl2;have HS:Hid (scanDown (fun x=> !lt x dk[a]!) dk i' (j' -1)=scanDown (fun x=> !lt x dk[a]!) dk i' j):=(scanDown_go (fun x=> !lt x dk[a]!) dk i' j' hle2 (by omega) (by simp[hlv2])).symm.trans hsd.out;clear hlv2 hsd;go_wp2_with fail;refine hl2.mono ?_;rintro e w5 ⟨rfl,c5,h5⟩;clear c4 hl2;go_wp2
              go_roundg (j' -1)
              case measure=>omega
              case rel=>exact⟨j' -1,by go_num,by omega,by omega,Nat.le_refl _,HS,h5⟩
             | true=>
              rw[hlv2] at hl2;have hj2:Hid (j'=scanDown (fun x=> !lt x dk[a]!) dk i' j):=(scanDown_end (fun x=> !lt x dk[a]!) dk i' j' (Or.inr (by simp[hlv2]))).symm.trans hsd.out;have hlt3:=part_scans_lt lt a i j dk (by omega) hi2.out hj2.out hle2;clear hlv2 hsd;go_wp2_with fail;refine hl2.mono ?_;rintro e w5 ⟨rfl,c5,h5⟩;clear c4 hl2;obtain⟨W6,hrun,h6⟩:=HW.out (i':Int) (j':Int) i' j' dk w5 rfl rfl (by omega) (by omega) h5;go_wp2
              go_roundg (j' -1+1 -(i'+1))
              case measure=>omega
              case rel=>exact⟨i'+1,j' -1,_,by go_num,by go_num,by omega,by omega,by omega,Nat.le_refl _,(part_go lt a i j dk hi2.out hj2.out (by omega)).symm.trans AE.out,h6⟩
            ·have t1:¬(i':Int)<=(j':Int):=by omega
             have hj2:Hid (j'=scanDown (fun x=> !lt x dk[a]!) dk i' j):=(scanDown_end (fun x=> !lt x dk[a]!) dk i' j' (Or.inl hle2)).symm.trans hsd.out;clear hsd;obtain⟨W7,Kr,h7⟩:=HW.out (j':Int) (a:Int) j' a dk _ rfl rfl (by omega) (by omega) H4;go_wp2;go_ret2;have e:=part_break lt a i j dk hi2.out hj2.out (by omega);rw[PF.out,<-AE.out,e];exact⟨rfl,h7.out.hd,h7.out.g⟩
         ·have t0:¬(i':Int)<=(j:Int):=by omega
          have hi2:Hid (i'=scanUp (fun x=>lt x dk[a]!) dk j i):=(scanUp_end (fun x=>lt x dk[a]!) dk j i' (Or.inl hle)).symm.trans hsc.out;clear hsc;go_wp2;clear c2
          go_loopg [11] j (fun g3 vj wr=>∃j':Nat,vj= .int .i64 j'∧j'<=j∧i'<=j'+1∧j'<=g3∧Hid (scanDown (fun x=> !lt x dk[a]!) dk i' j'=scanDown (fun x=> !lt x dk[a]!) dk i' j)∧Hid (aF Hd dk blk (bq lf lb sf sb) w wr))
          case atStart=>exact⟨j,rfl,Nat.le_refl _,hij',Nat.le_refl _,rfl,H2⟩
          case round=>
           obtain⟨j',rfl,hjj,hij2,hg3,hsd,H4⟩:=hrel;have c4:=H4.out.cells
           have u4:(j':Int)<=1000000:=by omega
           by_cases hle2:i'<=j'
           ·exfalso;omega
           ·have t1:¬(i':Int)<=(j':Int):=by omega
            have hj2:Hid (j'=scanDown (fun x=> !lt x dk[a]!) dk i' j):=(scanDown_end (fun x=> !lt x dk[a]!) dk i' j' (Or.inl hle2)).symm.trans hsd.out;clear hsd;obtain⟨W7,Kr,h7⟩:=HW.out (j':Int) (a:Int) j' a dk _ rfl rfl (by omega) (by omega) H4;go_wp2;go_ret2;have e:=part_break lt a i j dk hi2.out hj2.out (by omega);rw[PF.out,<-AE.out,e];exact⟨rfl,h7.out.hd,h7.out.g⟩
     ·have t1:¬(i':Int)<=(j':Int):=by omega
      have hj2:Hid (j'=scanDown (fun x=> !lt x dk[a]!) dk i' j):=(scanDown_end (fun x=> !lt x dk[a]!) dk i' j' (Or.inl hle2)).symm.trans hsd.out;clear hsd;obtain⟨W7,Kr,h7⟩:=HW.out (j':Int) (a:Int) j' a dk _ rfl rfl (by omega) (by omega) H4;have hfin:=part_first_break lt d a b pivot Hi.out Hj.out Hdk.out hi2.out hj2.out (by omega);have PF:=hid hfin;clear hfin;go_wp2;go_ret2;rw[PF.out];exact⟨rfl,h7.out.hd,h7.out.g⟩
  ·have t0:¬(i':Int)<=(j:Int):=by omega
   have hi2:Hid (i'=scanUp (fun x=>lt x dk[a]!) dk j i):=(scanUp_end (fun x=>lt x dk[a]!) dk j i' (Or.inl hle)).symm.trans hsc.out;clear hsc;go_wp2;clear c2
   go_loopg [11] j (fun g3 vj wr=>∃j':Nat,vj= .int .i64 j'∧j'<=j∧i'<=j'+1∧j'<=g3∧Hid (scanDown (fun x=> !lt x dk[a]!) dk i' j'=scanDown (fun x=> !lt x dk[a]!) dk i' j)∧Hid (aF Hd dk blk (bq lf lb sf sb) w wr))
   case atStart=>exact⟨j,rfl,Nat.le_refl _,hij',Nat.le_refl _,rfl,H2⟩
   case round=>
    obtain⟨j',rfl,hjj,hij2,hg3,hsd,H4⟩:=hrel;have c4:=H4.out.cells
    have u4:(j':Int)<=1000000:=by omega
    by_cases hle2:i'<=j'
    ·exfalso;omega
    ·have t1:¬(i':Int)<=(j':Int):=by omega
     have hj2:Hid (j'=scanDown (fun x=> !lt x dk[a]!) dk i' j):=(scanDown_end (fun x=> !lt x dk[a]!) dk i' j' (Or.inl hle2)).symm.trans hsd.out;clear hsd;obtain⟨W7,Kr,h7⟩:=HW.out (j':Int) (a:Int) j' a dk _ rfl rfl (by omega) (by omega) H4;have hfin:=part_first_break lt d a b pivot Hi.out Hj.out Hdk.out hi2.out hj2.out (by omega);have PF:=hid hfin;clear hfin;go_wp2;go_ret2;rw[PF.out];exact⟨rfl,h7.out.hd,h7.out.g⟩
end Go.Proofs.YthfpipieboophaaGreatDoor
