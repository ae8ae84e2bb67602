import Derived.Sort.WalkA6
import Derived.Sort.WalkB2
import Derived.Test.YthfpipieboophaaGreatDoorZba
namespace Go.Proofs.YthfpipieboophaaGreatDoor
set_option maxRecDepth 100000
set_option maxHeartbeats 40000000
open Go.RowKit Go.Sort
theorem IW {α:Type} [Inhabited α] {lt:α->α->Bool} {B blk n lf sf:Nat} {lb sb:Array Value} {Hd:Array α->World->Prop} (S:si lt B blk n lf lb sf sb Hd) (d:Array α) (a b:Nat) (w:World) (hd:Hd d w) (hab:a < b) (hb:b<=n) (hn:n<=1000000):
  Calls Tryz.prog 259 #[.agg #[.func (.func lf) #[] lb,.func (.func sf) #[] sb],.int .i64 a,.int .i64 b] w fun e w'=>e= .returned (.bool (partialInsertionSort lt d a b).2)∧Hd (partialInsertionSort lt d a b).1 w'∧w.grownBy w' (some blk):=by
 have hlt:=S.blt d w hd;have OZ:=S.enters;have H0:=hid (kU S d w hd);have HL:=hid (dw S w);have HW:=hid (ek S w hlt)
 have Zb:(a:Int)<=1000000:=by omega
 have i3:(b:Int)<=1000000:=by omega
 clear S hd;go_enter Tryz.func259,Tryz.ntmps259;go_wp2
 go_loopg [7,8] 5 (fun g1 vi vs wr=>∃(i s:Nat) (dk:Array α),vi= .int .i64 i∧vs= .int .i64 s∧s<=5∧5 -s<=g1∧a < i∧i<=b∧Hid (partialIns lt a b (5 -s) i dk=partialIns lt a b 5 (a+1) d)∧Hid (aF Hd dk blk (bq lf lb sf sb) w wr))
 case atStart=>exact⟨a+1,0,d,by go_num,rfl,by omega,by omega,by omega,by omega,rfl,H0⟩
 case round=>
  obtain⟨i,s,dk,rfl,rfl,hs5,hg1,hai,hib,HO,H1⟩:=hrel
  have i5:(i:Int)<=1000000:=by omega
  clear H0
  by_cases hs:s < 5
  ·have hsz5:(s:Int) < 5:=by omega
   go_wp2
   go_loopg [7] (b -i) (fun g2 vi wr=>∃kx:Nat,vi= .int .i64 kx∧i<=kx∧kx<=b∧b -kx<=g2∧Hid (scanSorted lt dk b kx=scanSorted lt dk b i)∧Hid (aF Hd dk blk (bq lf lb sf sb) w wr))
   case atStart=>exact⟨i,rfl,Nat.le_refl _,hib,Nat.le_refl _,rfl,H1⟩
   case round=>
    obtain⟨kx,rfl,hik,hkb,hg2,HSc,H2⟩:=hrel;have c2:=H2.out.cells
    have u2:(kx:Int)<=1000000:=by omega
    have u2':(1:Int)<=(kx:Int):=by omega
    by_cases hkb':kx < b
    ·have hkz:(kx:Int) < (b:Int):=by omega
     cases hlv:lt dk[kx]! dk[kx -1]! with
     | false=>
      have hl:=HL.out (kx:Int) ((kx:Int) -1) kx (kx -1) dk _ rfl (by omega) (by omega) (by omega) H2;rw[hlv] at hl
      have HS2:Hid (scanSorted lt dk b (kx+1)=scanSorted lt dk b i):=by show _=_;rw[<-HSc.out,scanSorted_go lt dk b kx hkb' hlv]
      clear hlv;go_wp2_with fail;refine hl.mono ?_;rintro e w3 ⟨rfl,c3,h3⟩;clear hl c2;go_wp2
      go_roundg (b -(kx+1))
      case measure=>omega
      case rel=>exact⟨kx+1,by go_num,by omega,by omega,Nat.le_refl _,HS2,h3⟩
     | true=>
      have hl:=HL.out (kx:Int) ((kx:Int) -1) kx (kx -1) dk _ rfl (by omega) (by omega) (by omega) H2;rw[hlv] at hl
      have HK:Hid (scanSorted lt dk b i=kx):=by show _=_;rw[<-HSc.out,scanSorted_stop lt dk b kx (Or.inr hlv)]
      have hkne:((kx:Int)==(b:Int))=false:=beq_eq_false_iff_ne.2 (by omega);clear hlv
      by_cases h50:b -a < 50
      ·have h50z:(b:Int) -(a:Int) < 50:=by omega
       have HV:Hid (partialInsertionSort lt d a b=(dk,false)):=by
        show _=_;unfold partialInsertionSort;rw[<-HO.out,pi_short lt a b s i dk hs (by rw[HK.out];omega) h50]
       go_wp2_with fail;refine hl.mono ?_;rintro e w3 ⟨rfl,c3,h3⟩;clear hl c2;go_wp2;rw[HV.out];go_ret;exact⟨rfl,h3.out.hd,h3.out.g⟩
      ·have h50z:¬((b:Int) -(a:Int) < 50):=by omega
       by_cases hka:kx -a>=2
       ·have hkaz:(2:Int)<=(kx:Int) -(a:Int):=by omega
        go_wp2_with fail;refine hl.mono ?_;rintro e w3 ⟨rfl,c3,h3⟩;clear hl c2;obtain⟨W4,Uw,h4⟩:=HW.out (kx:Int) ((kx:Int) -1) kx (kx -1) dk w3 rfl (by omega) (by omega) (by omega) h3;go_wp2
        go_loopg [9] (kx -1) (fun g3 vj wr=>∃(j:Nat) (dj:Array α),vj= .int .i64 j∧j<=kx -1∧j<=g3∧Hid (shiftDown lt j dj=shiftDown lt (kx -1) (swp dk kx (kx -1)))∧Hid (aF Hd dj blk (bq lf lb sf sb) w wr))
        case atStart=>exact⟨kx -1,_,by first | go_num | (congr 1;omega),Nat.le_refl _,Nat.le_refl _,rfl,h4⟩
        case round=>
         clear Uw c3 h3;obtain⟨j,dj,rfl,hjk,hg3,HDn,H5⟩:=hrel;have c5:=H5.out.cells
         have u5:(j:Int)<=1000000:=by omega
         by_cases hj1:1<=j
         ·have hj1z:(1:Int)<=(j:Int):=by omega
          cases hlv2:lt dj[j]! dj[j -1]! with
          | true=>
           have hl2:=HL.out (j:Int) ((j:Int) -1) j (j -1) dj _ rfl (by omega) (by omega) (by omega) H5;rw[hlv2] at hl2
           have HD2:Hid (shiftDown lt (j -1) (swp dj j (j -1))=shiftDown lt (kx -1) (swp dk kx (kx -1))):=by show _=_;rw[<-HDn.out,shiftDown_go lt j dj hj1 hlv2]
           clear hlv2;go_wp2_with fail;refine hl2.mono ?_;rintro e w6 ⟨rfl,c6,h6⟩;clear hl2 c5;obtain⟨W7,Kr,h7⟩:=HW.out (j:Int) ((j:Int) -1) j (j -1) dj w6 rfl (by omega) (by omega) (by omega) h6;go_wp2
           go_roundg (j -1)
           case measure=>omega
           case rel=>exact⟨j -1,swp dj j (j -1),by first | go_num | (congr 1;omega),by omega,Nat.le_refl _,HD2,h7⟩
          | false=>
           have hl2:=HL.out (j:Int) ((j:Int) -1) j (j -1) dj _ rfl (by omega) (by omega) (by omega) H5;rw[hlv2] at hl2
           have HD:Hid (fixDown lt a kx (swp dk kx (kx -1))=dj):=by show _=_;unfold fixDown;rw[if_pos hka,<-HDn.out,shiftDown_stop lt j dj (Or.inr hlv2)]
           clear hlv2
           by_cases hbk:b -kx>=2
           ·have hbkz:(2:Int)<=(b:Int) -(kx:Int):=by omega
            go_wp2_with fail;refine hl2.mono ?_;rintro e w6 ⟨rfl,c6,h6⟩;clear hl2 c5;go_wp2
            go_loopg [10] (b -(kx+1)) (fun g4 vj wr=>∃(ju:Nat) (du:Array α),vj= .int .i64 ju∧kx+1<=ju∧ju<=b∧b -ju<=g4∧Hid (shiftUp lt b ju du=shiftUp lt b (kx+1) dj)∧Hid (aF Hd du blk (bq lf lb sf sb) w wr))
            case atStart=>exact⟨kx+1,dj,by go_num,Nat.le_refl _,by omega,Nat.le_refl _,rfl,h6⟩
            case round=>
             obtain⟨ju,du,rfl,hkj,hjb,hg4,HU,H9⟩:=hrel;have c9:=H9.out.cells
             have u9:(ju:Int)<=1000000:=by omega
             have u9':(1:Int)<=(ju:Int):=by omega
             by_cases hjb':ju < b
             ·have hjz:(ju:Int) < (b:Int):=by omega
              cases hlv3:lt du[ju]! du[ju -1]! with
              | true=>
               have hl3:=HL.out (ju:Int) ((ju:Int) -1) ju (ju -1) du _ rfl (by omega) (by omega) (by omega) H9;rw[hlv3] at hl3
               have Yy:Hid (shiftUp lt b (ju+1) (swp du ju (ju -1))=shiftUp lt b (kx+1) dj):=by show _=_;rw[<-HU.out,shiftUp_go lt b ju du hjb' hlv3]
               clear hlv3;go_wp2_with fail;refine hl3.mono ?_;rintro e IJ ⟨rfl,c10,h10⟩;clear hl3 c9;obtain⟨W11,QO,h11⟩:=HW.out (ju:Int) ((ju:Int) -1) ju (ju -1) du IJ rfl (by omega) (by omega) (by omega) h10;go_wp2
               go_roundg (b -(ju+1))
               case measure=>omega
               case rel=>exact⟨ju+1,swp du ju (ju -1),by go_num,by omega,by omega,Nat.le_refl _,Yy,h11⟩
              | false=>
               have hl3:=HL.out (ju:Int) ((ju:Int) -1) ju (ju -1) du _ rfl (by omega) (by omega) (by omega) H9;rw[hlv3] at hl3
               have HF:Hid (fixUp lt b kx dj=du):=by show _=_;unfold fixUp;rw[if_pos hbk,<-HU.out,shiftUp_stop lt b ju du (Or.inr hlv3)]
               clear hlv3;go_wp2_with fail;refine hl3.mono ?_;rintro e IJ ⟨rfl,c10,h10⟩;clear hl3 c9;go_wp2
               go_roundg (5 -(s+1))
               case measure=>omega
               case rel=>exact⟨kx,s+1,du,rfl,by go_num,by omega,Nat.le_refl _,by omega,by omega,(show Hid _ from by rw[<-HO.out,pi_go lt a b s i kx dk hs HK.out (by omega) h50,HD.out,HF.out];exact rfl),h10⟩
             ·have hjz:¬(ju:Int) < (b:Int):=by omega
              have HF:Hid (fixUp lt b kx dj=du):=by show _=_;unfold fixUp;rw[if_pos hbk,<-HU.out,shiftUp_stop lt b ju du (Or.inl hjb')]
              go_wp2
              go_roundg (5 -(s+1))
              case measure=>omega
              case rel=>exact⟨kx,s+1,du,rfl,by go_num,by omega,Nat.le_refl _,by omega,by omega,(show Hid _ from by rw[<-HO.out,pi_go lt a b s i kx dk hs HK.out (by omega) h50,HD.out,HF.out];exact rfl),H9⟩
           ·have hbkz:¬(2:Int)<=(b:Int) -(kx:Int):=by omega
            have HF:Hid (fixUp lt b kx dj=dj):=by show _=_;unfold fixUp;rw[if_neg hbk]
            go_wp2_with fail;refine hl2.mono ?_;rintro e w6 ⟨rfl,c6,h6⟩;clear hl2 c5;go_wp2
            go_roundg (5 -(s+1))
            case measure=>omega
            case rel=>exact⟨kx,s+1,dj,rfl,by go_num,by omega,Nat.le_refl _,by omega,by omega,(show Hid _ from by rw[<-HO.out,pi_go lt a b s i kx dk hs HK.out (by omega) h50,HD.out,HF.out];exact rfl),h6⟩
         ·have hj1z:¬(1:Int)<=(j:Int):=by omega
          have HD:Hid (fixDown lt a kx (swp dk kx (kx -1))=dj):=by show _=_;unfold fixDown;rw[if_pos hka,<-HDn.out,shiftDown_stop lt j dj (Or.inl (by omega))]
          by_cases hbk:b -kx>=2
          ·have hbkz:(2:Int)<=(b:Int) -(kx:Int):=by omega
           skip
           go_wp2
           go_loopg [10] (b -(kx+1)) (fun g4 vj wr=>∃(ju:Nat) (du:Array α),vj= .int .i64 ju∧kx+1<=ju∧ju<=b∧b -ju<=g4∧Hid (shiftUp lt b ju du=shiftUp lt b (kx+1) dj)∧Hid (aF Hd du blk (bq lf lb sf sb) w wr))
           case atStart=>exact⟨kx+1,dj,by go_num,Nat.le_refl _,by omega,Nat.le_refl _,rfl,H5⟩
           case round=>
            obtain⟨ju,du,rfl,hkj,hjb,hg4,HU,H9⟩:=hrel;have c9:=H9.out.cells
            have u9:(ju:Int)<=1000000:=by omega
            have u9':(1:Int)<=(ju:Int):=by omega
            by_cases hjb':ju < b
            ·have hjz:(ju:Int) < (b:Int):=by omega
             cases hlv3:lt du[ju]! du[ju -1]! with
             | true=>
              have hl3:=HL.out (ju:Int) ((ju:Int) -1) ju (ju -1) du _ rfl (by omega) (by omega) (by omega) H9;rw[hlv3] at hl3
              have Yy:Hid (shiftUp lt b (ju+1) (swp du ju (ju -1))=shiftUp lt b (kx+1) dj):=by show _=_;rw[<-HU.out,shiftUp_go lt b ju du hjb' hlv3]
              clear hlv3;go_wp2_with fail;refine hl3.mono ?_;rintro e IJ ⟨rfl,c10,h10⟩;clear hl3 c9;obtain⟨W11,QO,h11⟩:=HW.out (ju:Int) ((ju:Int) -1) ju (ju -1) du IJ rfl (by omega) (by omega) (by omega) h10;go_wp2
              go_roundg (b -(ju+1))
              case measure=>omega
              case rel=>exact⟨ju+1,swp du ju (ju -1),by go_num,by omega,by omega,Nat.le_refl _,Yy,h11⟩
             | false=>
              have hl3:=HL.out (ju:Int) ((ju:Int) -1) ju (ju -1) du _ rfl (by omega) (by omega) (by omega) H9;rw[hlv3] at hl3
              have HF:Hid (fixUp lt b kx dj=du):=by show _=_;unfold fixUp;rw[if_pos hbk,<-HU.out,shiftUp_stop lt b ju du (Or.inr hlv3)]
              clear hlv3;go_wp2_with fail;refine hl3.mono ?_;rintro e IJ ⟨rfl,c10,h10⟩;clear hl3 c9;go_wp2
              go_roundg (5 -(s+1))
              case measure=>omega
              case rel=>exact⟨kx,s+1,du,rfl,by go_num,by omega,Nat.le_refl _,by omega,by omega,(show Hid _ from by rw[<-HO.out,pi_go lt a b s i kx dk hs HK.out (by omega) h50,HD.out,HF.out];exact rfl),h10⟩
            ·have hjz:¬(ju:Int) < (b:Int):=by omega
             have HF:Hid (fixUp lt b kx dj=du):=by show _=_;unfold fixUp;rw[if_pos hbk,<-HU.out,shiftUp_stop lt b ju du (Or.inl hjb')]
             go_wp2
             go_roundg (5 -(s+1))
             case measure=>omega
             case rel=>exact⟨kx,s+1,du,rfl,by go_num,by omega,Nat.le_refl _,by omega,by omega,(show Hid _ from by rw[<-HO.out,pi_go lt a b s i kx dk hs HK.out (by omega) h50,HD.out,HF.out];exact rfl),H9⟩
          ·have hbkz:¬(2:Int)<=(b:Int) -(kx:Int):=by omega
           have HF:Hid (fixUp lt b kx dj=dj):=by show _=_;unfold fixUp;rw[if_neg hbk]
           skip
           go_wp2
           go_roundg (5 -(s+1))
           case measure=>omega
           case rel=>exact⟨kx,s+1,dj,rfl,by go_num,by omega,Nat.le_refl _,by omega,by omega,(show Hid _ from by rw[<-HO.out,pi_go lt a b s i kx dk hs HK.out (by omega) h50,HD.out,HF.out];exact rfl),H5⟩
       ·have hkaz:¬(2:Int)<=(kx:Int) -(a:Int):=by omega
        have HD:Hid (fixDown lt a kx (swp dk kx (kx -1))=(swp dk kx (kx -1))):=by show _=_;unfold fixDown;rw[if_neg hka]
        by_cases hbk:b -kx>=2
        ·have hbkz:(2:Int)<=(b:Int) -(kx:Int):=by omega
         go_wp2_with fail;refine hl.mono ?_;rintro e w3 ⟨rfl,c3,h3⟩;clear hl c2;obtain⟨W4,Uw,h4⟩:=HW.out (kx:Int) ((kx:Int) -1) kx (kx -1) dk w3 rfl (by omega) (by omega) (by omega) h3;go_wp2
         go_loopg [10] (b -(kx+1)) (fun g4 vj wr=>∃(ju:Nat) (du:Array α),vj= .int .i64 ju∧kx+1<=ju∧ju<=b∧b -ju<=g4∧Hid (shiftUp lt b ju du=shiftUp lt b (kx+1) (swp dk kx (kx -1)))∧Hid (aF Hd du blk (bq lf lb sf sb) w wr))
         case atStart=>exact⟨kx+1,(swp dk kx (kx -1)),by go_num,Nat.le_refl _,by omega,Nat.le_refl _,rfl,h4⟩
         case round=>
          obtain⟨ju,du,rfl,hkj,hjb,hg4,HU,H9⟩:=hrel;have c9:=H9.out.cells
          have u9:(ju:Int)<=1000000:=by omega
          have u9':(1:Int)<=(ju:Int):=by omega
          by_cases hjb':ju < b
          ·have hjz:(ju:Int) < (b:Int):=by omega
           cases hlv3:lt du[ju]! du[ju -1]! with
           | true=>
            have hl3:=HL.out (ju:Int) ((ju:Int) -1) ju (ju -1) du _ rfl (by omega) (by omega) (by omega) H9;rw[hlv3] at hl3
            have Yy:Hid (shiftUp lt b (ju+1) (swp du ju (ju -1))=shiftUp lt b (kx+1) (swp dk kx (kx -1))):=by show _=_;rw[<-HU.out,shiftUp_go lt b ju du hjb' hlv3]
            clear hlv3;go_wp2_with fail;refine hl3.mono ?_;rintro e IJ ⟨rfl,c10,h10⟩;clear hl3 c9;obtain⟨W11,QO,h11⟩:=HW.out (ju:Int) ((ju:Int) -1) ju (ju -1) du IJ rfl (by omega) (by omega) (by omega) h10;go_wp2
            go_roundg (b -(ju+1))
            case measure=>omega
            case rel=>exact⟨ju+1,swp du ju (ju -1),by go_num,by omega,by omega,Nat.le_refl _,Yy,h11⟩
           | false=>
            have hl3:=HL.out (ju:Int) ((ju:Int) -1) ju (ju -1) du _ rfl (by omega) (by omega) (by omega) H9;rw[hlv3] at hl3
            have HF:Hid (fixUp lt b kx (swp dk kx (kx -1))=du):=by show _=_;unfold fixUp;rw[if_pos hbk,<-HU.out,shiftUp_stop lt b ju du (Or.inr hlv3)]
            clear hlv3;go_wp2_with fail;refine hl3.mono ?_;rintro e IJ ⟨rfl,c10,h10⟩;clear hl3 c9;go_wp2
            go_roundg (5 -(s+1))
            case measure=>omega
            case rel=>exact⟨kx,s+1,du,rfl,by go_num,by omega,Nat.le_refl _,by omega,by omega,(show Hid _ from by rw[<-HO.out,pi_go lt a b s i kx dk hs HK.out (by omega) h50,HD.out,HF.out];exact rfl),h10⟩
          ·have hjz:¬(ju:Int) < (b:Int):=by omega
           have HF:Hid (fixUp lt b kx (swp dk kx (kx -1))=du):=by show _=_;unfold fixUp;rw[if_pos hbk,<-HU.out,shiftUp_stop lt b ju du (Or.inl hjb')]
           go_wp2
           go_roundg (5 -(s+1))
           case measure=>omega
           case rel=>exact⟨kx,s+1,du,rfl,by go_num,by omega,Nat.le_refl _,by omega,by omega,(show Hid _ from by rw[<-HO.out,pi_go lt a b s i kx dk hs HK.out (by omega) h50,HD.out,HF.out];exact rfl),H9⟩
        ·exfalso;omega
    ·obtain rfl:kx=b:=by omega
     have hkz:¬(kx:Int) < (kx:Int):=by omega
     have HV:Hid (partialInsertionSort lt d a kx=(dk,true)):=by
      show _=_;unfold partialInsertionSort;rw[<-HO.out,pi_true lt a kx s i dk hs (by rw[<-HSc.out,scanSorted_stop lt dk kx kx (Or.inl (by omega))])]
     go_wp2;rw[HV.out];go_ret;exact⟨rfl,H2.out.hd,H2.out.g⟩
  ·obtain rfl:s=5:=by omega
   have HV:Hid (partialInsertionSort lt d a b=(dk,false)):=by
    show _=_;unfold partialInsertionSort;rw[<-HO.out,pi_end]
   go_wp2;rw[HV.out];go_ret;exact⟨rfl,H1.out.hd,H1.out.g⟩
end Go.Proofs.YthfpipieboophaaGreatDoor
