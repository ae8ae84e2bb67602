import Derived.Sort.WalkC4
import Derived.Shelf.SlSortFunc.Xorshift
import Derived.Sort.Walk7
import Derived.Test.YthfpipieboophaaGreatDoorZSgg
namespace Go.Proofs.YthfpipieboophaaGreatDoor
set_option maxRecDepth 100000
set_option maxHeartbeats 40000000
section
open Go.RowKit Go.Sort
theorem MC{α:Type}[Inhabited α]{lt:α->α->Bool}{B blk n lf s:Nat}{lb u:Array Value}{r:Array α->World->Prop}(S:si lt B blk n lf lb s u r)(d:Array α)(a b pivot:Nat)(w:World)(hd:r d w)(hab:a<=pivot)(hpb:pivot<b)(hb:b<=n)(hn:n<=1000000):
  Calls Tryz.prog 260 #[.agg #[.func (.func lf) #[] lb,.func (.func s) #[] u],.int .i64 a,.int .i64 b,.int .i64 pivot] w λe T=>e=.returned (.int .i64 (partitionEqual lt d a b pivot).1)/\r (partitionEqual lt d a b pivot).2 T/\w.grownBy T (some blk):=by
 have C:=S.blt d w hd;have OZ:=S.enters;have P:=hid (kU S d w hd);have R:=hid (dw S w);have Q:=hid (ek S w C);obtain⟨W1,X,U⟩:=Q.out (a:Int) (pivot:Int) a pivot d _ rfl rfl (by omega) (by omega) P
 have Zb:(a:Int)<=1000000:=by omega
 have i3:(b:Int)<=1000000:=by omega
 have i3':(1:Int)<=(b:Int):=by omega
 clear S hd P;go_enter Tryz.func260,Tryz.ntmps260;go_wp2;clear X
 go_loopg [9,10] (b -1+1 -(a+1)) (λZ M y wr=>∃(i j:Nat) (dk:Array α),M=.int .i64 i/\y=.int .i64 j/\a<i/\i<=j+1/\j<b/\j+1 -i<=Z/\Hid (partEqLoop lt a i j dk=partitionEqual lt d a b pivot)/\Hid (aF r dk blk (bq lf lb s u) w wr))
 case atStart=>exact⟨a+1,b -1,_,by go_num,by go_num,by omega,by omega,by omega,by omega,rfl,U⟩
 case round=>
  obtain⟨i,j,dk,rfl,rfl,hai,E,hjb,hg1,K,W⟩:=hrel
  have i4:(j:Int)<=1000000:=by omega
  have i5:(i:Int)<=1000001:=by omega
  clear U;go_wp2
  go_loopg [9] (j+1 -i) (λY M wr=>∃c:Nat,M=.int .i64 c/\i<=c/\c<=j+1/\j+1 -c<=Y/\Hid (scanUp (λx=>!lt dk[a]! x) dk j c=scanUp (λx=>!lt dk[a]! x) dk j i)/\Hid (aF r dk blk (bq lf lb s u) w wr))
  case atStart=>exact⟨i,by first|rfl|go_num,aC _,E,aC _,rfl,W⟩
  case round=>
   obtain⟨c,rfl,hii,q,hg2,k,L⟩:=hrel;have z:=L.out.cells
   have u2:(c:Int)<=1000001:=by omega
   by_cases hle:c<=j
   .have t0:(c:Int)<=(j:Int):=by omega
    have t:=R.out (a:Int) (c:Int) a c dk wr rfl rfl (by omega) (by omega) L
    cases hlv:lt dk[a]! dk[c]! with
    |false=>
     rw[hlv]at t;have I:Hid (scanUp (λx=>!lt dk[a]! x) dk j (c+1)=scanUp (λx=>!lt dk[a]! x) dk j i):=(scanUp_go (λx=>!lt dk[a]! x) dk j c hle (by simp[hlv])).symm.trans k.out;clear hlv k;go_wp2_with fail;refine t.mono ?_;rintro e w2 ⟨rfl,c3,A⟩;clear z t;go_wp2
     go_roundg (j+1 -(c+1))
     case measure=>omega
     case rel=>exact⟨c+1,by go_num,by omega,by omega,aC _,I,A⟩
    |true=>
     rw[hlv]at t;have o:Hid (c=scanUp (λx=>!lt dk[a]! x) dk j i):=(scanUp_end (λx=>!lt dk[a]! x) dk j c (Or.inr (by simp[hlv]))).symm.trans k.out;clear hlv k;go_wp2_with fail;refine t.mono ?_;rintro e w2 ⟨rfl,c3,A⟩;clear z t;go_wp2;clear c3
     go_loopg [10] j (λN y wr=>∃f:Nat,y=.int .i64 f/\f<=j/\c<=f+1/\f<=N/\Hid (scanDown (λx=>lt dk[a]! x) dk c f=scanDown (λx=>lt dk[a]! x) dk c j)/\Hid (aF r dk blk (bq lf lb s u) w wr))
     case atStart=>exact⟨j,rfl,aC _,q,aC _,rfl,A⟩
     case round=>
      obtain⟨f,rfl,H,v,F,h,p⟩:=hrel;have c4:=p.out.cells
      have u4:(f:Int)<=1000000:=by omega
      by_cases hle2:c<=f
      .have t1:(c:Int)<=(f:Int):=by omega
       have l:=R.out (a:Int) (f:Int) a f dk wr rfl rfl (by omega) (by omega) p
       cases hlv2:lt dk[a]! dk[f]! with
       |true=>
        rw[hlv2]at l;have I:Hid (scanDown (λx=>lt dk[a]! x) dk c (f -1)=scanDown (λx=>lt dk[a]! x) dk c j):=(scanDown_go (λx=>lt dk[a]! x) dk c f hle2 (by omega) (by simp[hlv2])).symm.trans h.out;clear hlv2 h;go_wp2_with fail;refine l.mono ?_;rintro e V ⟨rfl,c5,G⟩;clear c4 l;go_wp2
        go_roundg (f -1)
        case measure=>omega
        case rel=>exact⟨f -1,by go_num,by omega,by omega,aC _,I,G⟩
       |false=>
        rw[hlv2]at l;have m:Hid (f=scanDown (λx=>lt dk[a]! x) dk c j):=(scanDown_end (λx=>lt dk[a]! x) dk c f (Or.inr (by simp[hlv2]))).symm.trans h.out;have hlt3:=scans_lt lt a i j dk (by omega) o.out m.out hle2;clear hlv2 h;go_wp2_with fail;refine l.mono ?_;rintro e V ⟨rfl,c5,G⟩;clear c4 l;obtain⟨W6,hrun,h6⟩:=Q.out (c:Int) (f:Int) c f dk V rfl rfl (by omega) (by omega) G;go_wp2
        go_roundg (f -1+1 -(c+1))
        case measure=>omega
        case rel=>exact⟨c+1,f -1,_,by go_num,by go_num,by omega,by omega,by omega,aC _,(partEq_go lt a i j dk o.out m.out (by omega)).symm.trans K.out,h6⟩
      .have t1:¬(c:Int)<=(f:Int):=by omega
       have m:Hid (f=scanDown (λx=>lt dk[a]! x) dk c j):=(scanDown_end (λx=>lt dk[a]! x) dk c f (Or.inl hle2)).symm.trans h.out;clear h;go_wp2;go_ret;have e:=partEq_break lt a i j dk o.out m.out (by omega);rw[<-K.out,e];exact⟨rfl,p.out.hd,p.out.g⟩
   .have t0:¬(c:Int)<=(j:Int):=by omega
    have o:Hid (c=scanUp (λx=>!lt dk[a]! x) dk j i):=(scanUp_end (λx=>!lt dk[a]! x) dk j c (Or.inl hle)).symm.trans k.out;clear k;go_wp2;clear z
    go_loopg [10] j (λN y wr=>∃f:Nat,y=.int .i64 f/\f<=j/\c<=f+1/\f<=N/\Hid (scanDown (λx=>lt dk[a]! x) dk c f=scanDown (λx=>lt dk[a]! x) dk c j)/\Hid (aF r dk blk (bq lf lb s u) w wr))
    case atStart=>exact⟨j,rfl,aC _,q,aC _,rfl,L⟩
    case round=>
     obtain⟨f,rfl,H,v,F,h,p⟩:=hrel;have c4:=p.out.cells
     have u4:(f:Int)<=1000000:=by omega
     by_cases hle2:c<=f
     .exfalso;omega
     .have t1:¬(c:Int)<=(f:Int):=by omega
      have m:Hid (f=scanDown (λx=>lt dk[a]! x) dk c j):=(scanDown_end (λx=>lt dk[a]! x) dk c f (Or.inl hle2)).symm.trans h.out;clear h;go_wp2;go_ret;have e:=partEq_break lt a i j dk o.out m.out (by omega);rw[<-K.out,e];exact⟨rfl,p.out.hd,p.out.g⟩
end
section
open Go.Shelf
def Tryz.xsN_ren:Go.Shelf.Ren:=⟨λ| 36=>296|n=>n,λ| 66=>384|51=>307|0=>0|60=>361|41=>270|n=>n,λ| n=>n⟩
theorem Tryz.xsN:Go.Proofs.LaysGg.n36 Tryz.prog Tryz.xsN_ren:=by constructor <;>first|kernel_rfl|(intro w;kernel_rfl)
def Tryz.np2_ren:Go.Shelf.Ren:=⟨λ| 35=>295|13=>190|24=>253|25=>254|n=>n,λ| 3=>3|41=>270|49=>239|51=>307|4=>4|5=>5|9=>9|n=>n,λ| n=>n⟩
theorem Tryz.np2:Go.Proofs.LaysGg.n35 Tryz.prog Tryz.np2_ren:=by constructor <;>first|kernel_rfl|(intro w;kernel_rfl)
end
section
open Go.Proofs.Tryz Go.Joins Go.RowKit Go.Sort
variable{α:Type}{lf f blk B n:Nat}{lb i:Array Value}
structure uP{α:Type}(Hd:Array α->World->Prop)(d:Array α)(blk:Nat)(o:Obj)(r:Nat)(w W:World):Prop where
 hd:Hd d W
 g:w.grownBy W (some blk)
 box:W.heap[w.heap.size]?=some o
 rnd:∃T,W.heap[w.heap.size+1]?=some (.cells #[.int .u64 (r:Nat)] T)
theorem uP.cells{a:Array α->World->Prop}{d:Array α}{r:Nat}{w W:World}(h:uP a d blk (bq lf lb f i) r w W):W.cell? ⟨w.heap.size,0,none⟩=some (.func (.func lf) #[] lb)/\W.cell? ⟨w.heap.size,1,none⟩=some (.func (.func f) #[] i):=
 ⟨by rw[fq h.box];rfl,by rw[fq h.box];rfl⟩
theorem TK[Inhabited α]{lt:α->α->Bool}{l:Array α->World->Prop}(S:si lt B blk n lf lb f i l)(d:Array α)(w W:World)(r:Nat)(s:r<18446744073709551616)(hB:B<=w.heap.size)(h:uP l d blk (bq lf lb f i) r w W):
  Calls prog 296 #[.pointer (some ⟨w.heap.size+1,0,none⟩)] W λe b=>e=.returned (.int .u64 (xorNextN r:Nat))/\(b.cell? ⟨w.heap.size,0,none⟩=some (.func (.func lf) #[] lb)/\b.cell? ⟨w.heap.size,1,none⟩=some (.func (.func f) #[] i))/\Hid (uP l d blk (bq lf lb f i) (xorNextN r) w b):=by
 obtain⟨T,o⟩:=h.rnd
 have c:Calls prog 296 #[.pointer (some ⟨w.heap.size+1,0,none⟩)] W λe b=>e=.returned (.int .u64 (xorNextN r:Nat))/\b=(W.setCell ⟨w.heap.size+1,0,none⟩ (.int .u64 (xorNextN r:Nat))).drewN 3:=Any.xorshift_Next Tryz.xsN (w.heap.size+1) 0 r s W (by rw[fq o];rfl) (fV o 0)
 refine c.mono ?_;rintro e b ⟨rfl,rfl⟩
 have a:Below (w.heap.size+1) W ((W.setCell ⟨w.heap.size+1,0,none⟩ (.int .u64 (xorNextN r:Nat))).drewN 3):=by
  have j:Below (w.heap.size+1) W (W.setCell ⟨w.heap.size+1,0,none⟩ (.int .u64 (xorNextN r:Nat))):=(iL _ W).setCell (p:=⟨w.heap.size+1,0,none⟩) (aC _) _;exact⟨j.os,j.tape,j.output,j.size,j.block⟩
 have q:uP l d blk (bq lf lb f i) (xorNextN r) w ((W.setCell ⟨w.heap.size+1,0,none⟩ (.int .u64 (xorNextN r:Nat))).drewN 3):=by
  refine⟨S.kept _ W _ h.hd (a.mono (by omega)),⟨a.os.trans h.g.os,a.tape.trans h.g.tape,a.output.trans h.g.output,aH h.g.size a.size,λk t m=>(a.block k (by omega)).trans (h.g.block k t m)⟩,(a.block _ (by omega)).trans h.box,T,?_⟩;show(W.setCell ⟨w.heap.size+1,0,none⟩ (.int .u64 (xorNextN r:Nat))).heap[w.heap.size+1]?=_;rw[fZ o];rfl
 exact⟨rfl,q.cells,q⟩
theorem TL[Inhabited α]{lt:α->α->Bool}{c:Array α->World->Prop}(S:si lt B blk n lf lb f i c)(d:Array α)(w W:World)(r:Nat)(X Y:Int)(x y:Nat)(l:X=(x:Int))(p:Y=(y:Int))(m:x<n)(j:y<n)(hl:blk<w.heap.size)(h:uP c d blk (bq lf lb f i) r w W):
  ∃a,(callFunc f (#[.int .i64 X,.int .i64 Y]++i)).run prog W=.ok (.value (.tuple #[])) a/\Hid (uP c (swp d x y) blk (bq lf lb f i) r w a):=by
 subst l p;obtain⟨a,o,k,b⟩:=S.swap d W x y h.hd m j;obtain⟨T,e⟩:=h.rnd;exact⟨a,o,k,h.g.trans b,(b.block _ (ax.1 h.box).1 (by simp;omega)).trans h.box,T,(b.block _ (ax.1 e).1 (by simp;omega)).trans e⟩
theorem FU[Inhabited α]{lt:α->α->Bool}{j:Array α->World->Prop}(S:si lt B blk n lf lb f i j)(d:Array α)(a L:Nat)(w:World)(hd:j d w)(hb:a+L<=n)(hn:n<=1000000)(h8:8<=L):
  Calls prog 256 #[.agg #[.func (.func lf) #[] lb,.func (.func f) #[] i],.int .i64 a,.int .i64 ((a+L:Nat):Int)] w λe h=>e=.returned (.tuple #[])/\j (breakPatterns d a (a+L)) h/\w.grownBy h (some blk):=by
 have u:=S.blt d w hd;have A:=(S.low d w hd).2;rw[breakPatterns_eq d a L h8];obtain⟨M,hM⟩:∃M:Nat,M=1 <<< bitsLen L:=⟨_,rfl⟩
 have hM1:1<=M:=by rw[hM,Nat.one_shiftLeft];exact Nat.two_pow_pos _
 have hM2:M<=2*L:=by rw[hM,Nat.one_shiftLeft];exact two_pow_bitsLen_le (by omega)
 have q:∀w,Calls prog 295 #[.int .i64 (L:Int)] w λe h=>e=.returned (.int .u64 (M:Int))/\h=w:=by rw[hM];exact λw=>Any.nextPowerOfTwo Tryz.np2 L (by omega) w
 rw[<-hM];clear hM
 have hLz:((a:Int)+(L:Int) -(a:Int))=(L:Int):=by omega
 have h8z:(8:Int)<=(L:Int):=by omega
 have i1:(a:Int)<=1000000:=by omega
 have i2:(L:Int)<=1000000:=by omega
 have H:Hid (∀T,uP j d blk (bq lf lb f i) L w ((w.alloc (bq lf lb f i)).alloc (.cells #[.int .u64 (L:Int)] T))):=by
  intro T;have l:=fK w (bq lf lb f i) (.cells #[.int .u64 (L:Int)] T);refine⟨S.still _ _ _ hd l,⟨l.os,l.tape,l.output,l.size,λk P _=>l.block k P⟩,?_,T,?_⟩
  .rw[gL _ _ _ (by simp)];exact eZ _ _
  .have:=eZ (w.alloc (bq lf lb f i)) (.cells #[.int .u64 (L:Int)] T);simpa using this
 have E:Hid (∀(dk:Array α) (r:Nat) (W:World),r<18446744073709551616->Hid (uP j dk blk (bq lf lb f i) r w W)->Calls prog 296 #[.pointer (some ⟨w.heap.size+1,0,none⟩)] W λe h=>e=.returned (.int .u64 (xorNextN r:Nat))/\(h.cell? ⟨w.heap.size,0,none⟩=some (.func (.func lf) #[] lb)/\h.cell? ⟨w.heap.size,1,none⟩=some (.func (.func f) #[] i))/\Hid (uP j dk blk (bq lf lb f i) (xorNextN r) w h)):=λdk r W Q c=>TK S dk w W r Q A c.out
 have I:Hid (∀(dk:Array α) (r:Nat) (W:World) (X Y:Int) (x y:Nat),X=(x:Int)->Y=(y:Int)->x<n->y<n->Hid (uP j dk blk (bq lf lb f i) r w W)->∃N,(callFunc f (#[.int .i64 X,.int .i64 Y]++i)).run prog W=.ok (.value (.tuple #[])) N/\Hid (uP j (swp dk x y) blk (bq lf lb f i) r w N)):=λdk r W X Y x y a1 a2 U Z V=>TL S dk w W r X Y x y a1 a2 U Z u V.out
 clear S hd;go_enter func256,ntmps256;go_wp2_with fail;refine(q _).mono ?_;rintro e h ⟨rfl,rfl⟩;clear q;go_wp2
 go_loopg [9] 3 (λg1 vi wr=>∃(t:Nat) (r:UInt64) (dk:Array α),vi=.int .i64 ((a:Int)+(L:Int)/4*2 -1+(t:Int))/\t<=3/\3 -t<=g1/\Hid (bpRest a L M (a+L/4*2 -1) (3 -t) t (r,dk)=bpRest a L M (a+L/4*2 -1) 3 0 (UInt64.ofNat L,d))/\Hid (uP j dk blk (bq lf lb f i) r.toNat w wr))
 case atStart=>
  refine⟨0,UInt64.ofNat L,d,by simp,by omega,by omega,rfl,?_⟩;rw[show(UInt64.ofNat L).toNat=L from by simp;omega];exact H.out _
 case round=>
  obtain⟨t,r,dk,rfl,ht,hg1,z,p⟩:=hrel;have c1:=p.out.cells;clear H
  by_cases ht3:t<3
  .have F:(a:Int)+(L:Int)/4*2 -1+(t:Int)<=(a:Int)+(L:Int)/4*2+1:=by omega
   obtain⟨R,hRr⟩:∃R:Nat,R=r.toNat:=⟨_,rfl⟩
   have K:R<18446744073709551616:=by rw[hRr];exact r.toNat_lt
   rw[<-hRr]at p;have b:=E.out dk R wr K p
   have c:xorNextN R=(xorNext r).toNat:=by rw[hRr,xorNext_toNat]
   obtain⟨R',hR'⟩:∃R':Nat,R'=xorNextN R:=⟨_,rfl⟩;rw[<-hR']at b c
   have v:R'<18446744073709551616:=by rw[hR'];exact xorNextN_lt R K
   obtain⟨O,hO⟩:∃O:Nat,O=R' &&& (M -1):=⟨_,rfl⟩
   have lO:O<=M -1:=by rw[hO];exact Nat.and_le_right
   have eAnd:bits .and .u64 (R':Int) ((M:Int) -1)=(O:Int):=by
    rw[show((M:Int) -1)=((M -1:Nat):Int) by omega,bits_and_u64_nat _ _ v (by omega),hO]
   have s:Hid (R'=(xorNext r).toNat/\O=(xorNext r).toNat &&& (M -1)):=⟨c,by rw[hO,c]⟩;clear hRr hR' hO c
   by_cases hLO:L<=O
   .have m:(L:Int)<=(O:Int):=by omega
    go_wp2_with fail;refine b.mono ?_;rintro e G ⟨rfl,c2,c⟩;clear b c1;obtain⟨W3,o,C⟩:=I.out dk R' G ((a:Int)+(L:Int)/4*2 -1+(t:Int)) ((a:Int)+((O:Int) -(L:Int))) (a+L/4*2 -1+t) (a+(O -L)) (by omega) (by omega) (by omega) (by omega) c;go_wp2
    go_roundg (3 -(t+1))
    case measure=>omega
    case rel=>exact⟨t+1,xorNext r,_,by congr 1;push_cast;omega,by omega,aC _,(show Hid _ from by rw[<-z.out,bp_step a L M _ t r dk (O -L) ht3 (by rw[<-s.out.2,if_pos (by omega)])];exact rfl),by rw[<-s.out.1];exact C⟩
   .have m:¬(L:Int)<=(O:Int):=by omega
    go_wp2_with fail;refine b.mono ?_;rintro e G ⟨rfl,c2,c⟩;clear b c1;obtain⟨W3,o,C⟩:=I.out dk R' G ((a:Int)+(L:Int)/4*2 -1+(t:Int)) ((a:Int)+(O:Int)) (a+L/4*2 -1+t) (a+O) (by omega) (by omega) (by omega) (by omega) c;go_wp2
    go_roundg (3 -(t+1))
    case measure=>omega
    case rel=>exact⟨t+1,xorNext r,_,by congr 1;push_cast;omega,by omega,aC _,(show Hid _ from by rw[<-z.out,bp_step a L M _ t r dk O ht3 (by rw[<-s.out.2,if_neg (by omega)])];exact rfl),by rw[<-s.out.1];exact C⟩
  .obtain rfl:t=3:=by omega
   have F:¬((a:Int)+(L:Int)/4*2 -1+((3:Nat):Int)<=(a:Int)+(L:Int)/4*2+1):=by omega
   go_wp2
   go_end0
   refine⟨rfl,?_,p.out.g⟩;rw[<-z.out];exact p.out.hd
theorem QR[Inhabited α]{lt:α->α->Bool}{c:Array α->World->Prop}(S:si lt B blk n lf lb f i c)(d:Array α)(a b:Nat)(w:World)(hd:c d w)(hab:a<=b)(k:b<=n)(l:n<=1000000):
  Calls prog 256 #[.agg #[.func (.func lf) #[] lb,.func (.func f) #[] i],.int .i64 a,.int .i64 b] w λe j=>e=.returned (.tuple #[])/\c (breakPatterns d a b) j/\w.grownBy j (some blk):=by
 obtain⟨L,rfl⟩:∃L,b=a+L:=⟨b -a,by omega⟩
 by_cases h8:8<=L
 .exact FU S d a L w hd k l h8
 .have m:breakPatterns d a (a+L)=d:=by unfold breakPatterns;simp only[Nat.add_sub_cancel_left];rw[if_neg h8]
  rw[m];have h:=hid (kU S d w hd)
  have hLz:((a:Int)+(L:Int) -(a:Int))=(L:Int):=by omega
  have h8z:¬(8:Int)<=(L:Int):=by omega
  have i1:(a:Int)<=1000000:=by omega
  have i2:(L:Int)<=1000000:=by omega
  clear S hd;go_enter func256,ntmps256;go_wp2
  go_end0
  exact⟨rfl,h.out.hd,h.out.g⟩
end
end Go.Proofs.YthfpipieboophaaGreatDoor
