import Derived.Sort.WalkA6
import Derived.Sort.WalkB2
import Derived.Test.YthfpipieboophaaGreatDoorZSgg
namespace Go.Proofs.YthfpipieboophaaGreatDoor
set_option maxRecDepth 100000
set_option maxHeartbeats 40000000
open Go.RowKit Go.Sort
theorem IW{α:Type}[Inhabited α]{lt:α->α->Bool}{B blk n lf q:Nat}{lb t:Array Value}{k:Array α->World->Prop}(S:si lt B blk n lf lb q t k)(d:Array α)(a b:Nat)(w:World)(hd:k d w)(hab:a<b)(hb:b<=n)(hn:n<=1000000):
  Calls Tryz.prog 259 #[.agg #[.func (.func lf) #[] lb,.func (.func q) #[] t],.int .i64 a,.int .i64 b] w λe w'=>e=.returned (.bool (partialInsertionSort lt d a b).2)/\k (partialInsertionSort lt d a b).1 w'/\w.grownBy w' (some blk):=by
 have U:=S.blt d w hd;have OZ:=S.enters;have H0:=hid (kU S d w hd);have l:=hid (aaO S w);have N:=hid (ek S w U)
 have Zb:(a:Int)<=1000000:=by omega
 have i3:(b:Int)<=1000000:=by omega
 clear S hd;go_enter Tryz.func259,Tryz.ntmps259;go_wp2
 go_loopg [7,8] 5 (λg1 vi vs wr=>∃(i s:Nat) (dk:Array α),vi=.int .i64 i/\vs=.int .i64 s/\s<=5/\5 -s<=g1/\a<i/\i<=b/\Hid (partialIns lt a b (5 -s) i dk=partialIns lt a b 5 (a+1) d)/\Hid (aF k dk blk (bq lf lb q t) w wr))
 case atStart=>exact⟨a+1,0,d,by go_num,rfl,by omega,by omega,by omega,by omega,rfl,H0⟩
 case round=>
  obtain⟨i,s,dk,rfl,rfl,hs5,hg1,hai,hib,v,R⟩:=hrel
  have i5:(i:Int)<=1000000:=by omega
  clear H0
  by_cases hs:s<5
  .have hsz5:(s:Int)<5:=by omega
   go_wp2
   go_loopg [7] (b -i) (λg2 vi wr=>∃kx:Nat,vi=.int .i64 kx/\i<=kx/\kx<=b/\b -kx<=g2/\Hid (scanSorted lt dk b kx=scanSorted lt dk b i)/\Hid (aF k dk blk (bq lf lb q t) w wr))
   case atStart=>exact⟨i,rfl,aC _,hib,aC _,rfl,R⟩
   case round=>
    obtain⟨kx,rfl,hik,hkb,hg2,u,r⟩:=hrel;have K:=r.out.cells
    have u2:(kx:Int)<=1000000:=by omega
    have u2':(1:Int)<=(kx:Int):=by omega
    by_cases hkb':kx<b
    .have hkz:(kx:Int)<(b:Int):=by omega
     cases hlv:lt dk[kx]! dk[kx -1]!
     case false=>
      have W:Hid (scanSorted lt dk b (kx+1)=scanSorted lt dk b i):=by show _=_;rw[<-u.out,scanSorted_go lt dk b kx hkb' hlv]
      have E:=hid hlv;clear hlv;go_wp2_with fail;refine(l.out _ _ kx (kx -1) dk _ _ E.out (by omega) (by omega) (by omega) (by omega) r).mono ?_;rintro e z ⟨rfl,c3,h⟩;clear K;go_wp2
      go_roundg (b -(kx+1))
      case measure=>omega
      case rel=>exact⟨kx+1,by go_num,by omega,by omega,aC _,W,h⟩
     case true=>
      have M:Hid (scanSorted lt dk b i=kx):=by show _=_;rw[<-u.out,scanSorted_stop lt dk b kx (Or.inr hlv)]
      have hkne:((kx:Int)==(b:Int))=false:=beq_eq_false_iff_ne.2 (by omega);have E:=hid hlv;clear hlv
      by_cases h50:b -a<50
      .have F:(b:Int) -(a:Int)<50:=by omega
       have H:Hid (partialInsertionSort lt d a b=(dk,false)):=by
        show _=_;unfold partialInsertionSort;rw[<-v.out,pi_short lt a b s i dk hs (by rw[M.out];omega) h50]
       go_wp2_with fail;refine(l.out _ _ kx (kx -1) dk _ _ E.out (by omega) (by omega) (by omega) (by omega) r).mono ?_;rintro e z ⟨rfl,c3,h⟩;clear K;go_wp2;rw[H.out];go_ret;exact⟨rfl,h.out.hd,h.out.g⟩
      .have F:¬((b:Int) -(a:Int)<50):=by omega
       by_cases hka:kx -a>=2
       case' neg=>
        have y:¬(2:Int)<=(kx:Int) -(a:Int):=by omega
        go_wp2_with fail;refine(l.out _ _ kx (kx -1) dk _ _ E.out (by omega) (by omega) (by omega) (by omega) r).mono ?_;rintro e z ⟨rfl,c3,h⟩;clear K;obtain⟨W4,Uw,Z⟩:=N.out (kx:Int) ((kx:Int) -1) kx (kx -1) dk z rfl (by omega) (by omega) (by omega) h
        have p:Hid (fixDown lt a kx (swp dk kx (kx -1))=swp dk kx (kx -1)):=by show _=_;unfold fixDown;rw[if_neg hka]
        obtain⟨f,hdj⟩:∃f,swp dk kx (kx -1)=f:=⟨_,rfl⟩
        have x:Hid (aF k f blk (bq lf lb q t) w W4):=by rw[<-hdj];exact Z
        replace p:Hid (fixDown lt a kx (swp dk kx (kx -1))=f):=p.out.trans hdj
        clear hdj
       case' pos=>
        have y:(2:Int)<=(kx:Int) -(a:Int):=by omega
        go_wp2_with fail;refine(l.out _ _ kx (kx -1) dk _ _ E.out (by omega) (by omega) (by omega) (by omega) r).mono ?_;rintro e z ⟨rfl,c3,h⟩;clear K;obtain⟨W4,Uw,Z⟩:=N.out (kx:Int) ((kx:Int) -1) kx (kx -1) dk z rfl (by omega) (by omega) (by omega) h;go_wp2
        go_loopg [9] (kx -1) (λg3 V wr=>∃(j:Nat) (f:Array α),V=.int .i64 j/\j<=kx -1/\j<=g3/\Hid (shiftDown lt j f=shiftDown lt (kx -1) (swp dk kx (kx -1)))/\Hid (aF k f blk (bq lf lb q t) w wr))
        case atStart=>exact⟨kx -1,_,by first|go_num|(congr 1;omega),aC _,aC _,rfl,Z⟩
        case' round=>
         clear Uw c3 h;obtain⟨j,f,rfl,hjk,hg3,o,I⟩:=hrel;have c5:=I.out.cells
         have u5:(j:Int)<=1000000:=by omega
         by_cases hj1:1<=j
         case' pos=>
          have G:(1:Int)<=(j:Int):=by omega
          cases hlv2:lt f[j]! f[j -1]!
          case true=>
           have P:Hid (shiftDown lt (j -1) (swp f j (j -1))=shiftDown lt (kx -1) (swp dk kx (kx -1))):=by show _=_;rw[<-o.out,shiftDown_go lt j f hj1 hlv2]
           have Q:=hid hlv2;clear hlv2;go_wp2_with fail;refine(l.out _ _ j (j -1) f _ _ Q.out (by omega) (by omega) (by omega) (by omega) I).mono ?_;rintro e w6 ⟨rfl,c6,x⟩;clear c5;obtain⟨W7,Kr,h7⟩:=N.out (j:Int) ((j:Int) -1) j (j -1) f w6 rfl (by omega) (by omega) (by omega) x;go_wp2
           go_roundg (j -1)
           case measure=>omega
           case rel=>exact⟨j -1,swp f j (j -1),by first|go_num|(congr 1;omega),by omega,aC _,P,h7⟩
          case' false=>
           have p:Hid (fixDown lt a kx (swp dk kx (kx -1))=f):=by show _=_;unfold fixDown;rw[if_pos hka,<-o.out,shiftDown_stop lt j f (Or.inr hlv2)]
           have Q:=hid hlv2;clear hlv2;go_wp2_with fail;refine(l.out _ _ j (j -1) f _ _ Q.out (by omega) (by omega) (by omega) (by omega) I).mono ?_;rintro e w6 ⟨rfl,c6,x⟩;clear c5
         case' neg=>
          have G:¬(1:Int)<=(j:Int):=by omega
          have p:Hid (fixDown lt a kx (swp dk kx (kx -1))=f):=by show _=_;unfold fixDown;rw[if_pos hka,<-o.out,shiftDown_stop lt j f (Or.inl (by omega))]
          have x:=I
       all_goals
        by_cases hbk:b -kx>=2
        .have C:(2:Int)<=(b:Int) -(kx:Int):=by omega
         go_wp2
         go_loopg [10] (b -(kx+1)) (λg4 V wr=>∃(c:Nat) (du:Array α),V=.int .i64 c/\kx+1<=c/\c<=b/\b -c<=g4/\Hid (shiftUp lt b c du=shiftUp lt b (kx+1) f)/\Hid (aF k du blk (bq lf lb q t) w wr))
         case atStart=>exact⟨kx+1,f,by go_num,aC _,by omega,aC _,rfl,x⟩
         case round=>
          obtain⟨c,du,rfl,hkj,hjb,hg4,HU,L⟩:=hrel;have c9:=L.out.cells
          have u9:(c:Int)<=1000000:=by omega
          have u9':(1:Int)<=(c:Int):=by omega
          by_cases hjb':c<b
          .have Y:(c:Int)<(b:Int):=by omega
           cases hlv3:lt du[c]! du[c -1]!
           case true=>
            have Yy:Hid (shiftUp lt b (c+1) (swp du c (c -1))=shiftUp lt b (kx+1) f):=by show _=_;rw[<-HU.out,shiftUp_go lt b c du hjb' hlv3]
            have X:=hid hlv3;clear hlv3;go_wp2_with fail;refine(l.out _ _ c (c -1) du _ _ X.out (by omega) (by omega) (by omega) (by omega) L).mono ?_;rintro e IJ ⟨rfl,T,m⟩;clear c9;obtain⟨W11,QO,h11⟩:=N.out (c:Int) ((c:Int) -1) c (c -1) du IJ rfl (by omega) (by omega) (by omega) m;go_wp2
            go_roundg (b -(c+1))
            case measure=>omega
            case rel=>exact⟨c+1,swp du c (c -1),by go_num,by omega,by omega,aC _,Yy,h11⟩
           case false=>
            have A:Hid (fixUp lt b kx f=du):=by show _=_;unfold fixUp;rw[if_pos hbk,<-HU.out,shiftUp_stop lt b c du (Or.inr hlv3)]
            have X:=hid hlv3;clear hlv3;go_wp2_with fail;refine(l.out _ _ c (c -1) du _ _ X.out (by omega) (by omega) (by omega) (by omega) L).mono ?_;rintro e IJ ⟨rfl,T,m⟩;clear c9;go_wp2
            go_roundg (5 -(s+1))
            case measure=>omega
            case rel=>exact⟨kx,s+1,du,rfl,by go_num,by omega,aC _,by omega,by omega,(show Hid _ from by rw[<-v.out,pi_go lt a b s i kx dk hs M.out (by omega) h50,p.out,A.out];exact rfl),m⟩
          .have Y:¬(c:Int)<(b:Int):=by omega
           have A:Hid (fixUp lt b kx f=du):=by show _=_;unfold fixUp;rw[if_pos hbk,<-HU.out,shiftUp_stop lt b c du (Or.inl hjb')]
           go_wp2
           go_roundg (5 -(s+1))
           case measure=>omega
           case rel=>exact⟨kx,s+1,du,rfl,by go_num,by omega,aC _,by omega,by omega,(show Hid _ from by rw[<-v.out,pi_go lt a b s i kx dk hs M.out (by omega) h50,p.out,A.out];exact rfl),L⟩
        .all_goals try (exfalso;omega)
         all_goals
          have C:¬(2:Int)<=(b:Int) -(kx:Int):=by omega
          have A:Hid (fixUp lt b kx f=f):=by show _=_;unfold fixUp;rw[if_neg hbk]
          go_wp2
          go_roundg (5 -(s+1))
          case measure=>omega
          case rel=>exact⟨kx,s+1,f,rfl,by go_num,by omega,aC _,by omega,by omega,(show Hid _ from by rw[<-v.out,pi_go lt a b s i kx dk hs M.out (by omega) h50,p.out,A.out];exact rfl),x⟩
    .obtain rfl:kx=b:=by omega
     have hkz:¬(kx:Int)<(kx:Int):=by omega
     have H:Hid (partialInsertionSort lt d a kx=(dk,true)):=by
      show _=_;unfold partialInsertionSort;rw[<-v.out,pi_true lt a kx s i dk hs (by rw[<-u.out,scanSorted_stop lt dk kx kx (Or.inl (by omega))])]
     go_wp2;rw[H.out];go_ret;exact⟨rfl,r.out.hd,r.out.g⟩
  .obtain rfl:s=5:=by omega
   have H:Hid (partialInsertionSort lt d a b=(dk,false)):=by
    show _=_;unfold partialInsertionSort;rw[<-v.out,pi_end]
   go_wp2;rw[H.out];go_ret;exact⟨rfl,R.out.hd,R.out.g⟩
end Go.Proofs.YthfpipieboophaaGreatDoor
