import Derived.Sort.WalkC4
import Derived.Shelf.SlSortFunc.Xorshift
import Derived.Sort.Walk7
import Derived.Test.YthfpipieboophaaGreatDoorZSgg
namespace Go.Proofs.YthfpipieboophaaGreatDoor
set_option maxRecDepth 100000
set_option maxHeartbeats 40000000
section
open Go.RowKit Go.Sort
theorem MC{α:Type}[Inhabited α]{lt:α->α->Bool}{B blk n lf u:Nat}{lb t:Array Value}{r:Array α->World->Prop}(S:si lt B blk n lf lb u t r)(d:Array α)(a b pivot:Nat)(w:World)(hd:r d w)(hab:a<=pivot)(hpb:pivot<b)(hb:b<=n)(hn:n<=1000000):
  Calls Tryz.prog 260 #[.agg #[.func (.func lf) #[] lb,.func (.func u) #[] t],.int .i64 a,.int .i64 b,.int .i64 pivot] w λe R=>e=.returned (.int .i64 (partitionEqual lt d a b pivot).1)/\r (partitionEqual lt d a b pivot).2 R/\w.grownBy R (some blk):=by
 have H:=S.blt d w hd;have OZ:=S.enters;have P:=hid (kU S d w hd);have U:=hid (dw S w);have Q:=hid (ek S w H);obtain⟨W1,V,T⟩:=Q.out (a:Int) (pivot:Int) a pivot d _ rfl rfl (by omega) (by omega) P
 have Zb:(a:Int)<=1000000:=by omega
 have i3:(b:Int)<=1000000:=by omega
 have i3':(1:Int)<=(b:Int):=by omega
 clear S hd P;go_enter Tryz.func260,Tryz.ntmps260;go_wp2;clear V
 go_loopg [9,10] (b -1+1 -(a+1)) (λW A y wr=>∃(i j:Nat) (dk:Array α),A=.int .i64 i/\y=.int .i64 j/\a<i/\i<=j+1/\j<b/\j+1 -i<=W/\Hid (partEqLoop lt a i j dk=partitionEqual lt d a b pivot)/\Hid (aF r dk blk (bq lf lb u t) w wr))
 case atStart=>exact⟨a+1,b -1,_,by go_num,by go_num,by omega,by omega,by omega,by omega,rfl,T⟩
 case round=>
  obtain⟨i,j,dk,rfl,rfl,hai,M,hjb,hg1,F,Z⟩:=hrel
  have i4:(j:Int)<=1000000:=by omega
  have i5:(i:Int)<=1000001:=by omega
  clear T;go_wp2
  go_loopg [9] (j+1 -i) (λX A wr=>∃c:Nat,A=.int .i64 c/\i<=c/\c<=j+1/\j+1 -c<=X/\Hid (scanUp (λx=>!lt dk[a]! x) dk j c=scanUp (λx=>!lt dk[a]! x) dk j i)/\Hid (aF r dk blk (bq lf lb u t) w wr))
  case atStart=>exact⟨i,by first|rfl|go_num,aO _,M,aO _,rfl,Z⟩
  case round=>
   obtain⟨c,rfl,hii,q,hg2,l,C⟩:=hrel;have E:=C.out.cells
   have u2:(c:Int)<=1000001:=by omega
   by_cases hle:c<=j
   .have t0:(c:Int)<=(j:Int):=by omega
    have s:=U.out (a:Int) (c:Int) a c dk wr rfl rfl (by omega) (by omega) C
    cases hlv:lt dk[a]! dk[c]! with
    |false=>
     rw[hlv]at s;have K:Hid (scanUp (λx=>!lt dk[a]! x) dk j (c+1)=scanUp (λx=>!lt dk[a]! x) dk j i):=(scanUp_go (λx=>!lt dk[a]! x) dk j c hle (by simp[hlv])).symm.trans l.out;clear hlv l;go_wp2_with fail;refine s.mono ?_;rintro e w2 ⟨rfl,c3,I⟩;clear E s;go_wp2
     go_roundg (j+1 -(c+1))
     case measure=>omega
     case rel=>exact⟨c+1,by go_num,by omega,by omega,aO _,K,I⟩
    |true=>
     rw[hlv]at s;have o:Hid (c=scanUp (λx=>!lt dk[a]! x) dk j i):=(scanUp_end (λx=>!lt dk[a]! x) dk j c (Or.inr (by simp[hlv]))).symm.trans l.out;clear hlv l;go_wp2_with fail;refine s.mono ?_;rintro e w2 ⟨rfl,c3,I⟩;clear E s;go_wp2;clear c3
     go_loopg [10] j (λG y wr=>∃f:Nat,y=.int .i64 f/\f<=j/\c<=f+1/\f<=G/\Hid (scanDown (λx=>lt dk[a]! x) dk c f=scanDown (λx=>lt dk[a]! x) dk c j)/\Hid (aF r dk blk (bq lf lb u t) w wr))
     case atStart=>exact⟨j,rfl,aO _,q,aO _,rfl,I⟩
     case round=>
      obtain⟨f,rfl,z,v,L,h,p⟩:=hrel;have c4:=p.out.cells
      have u4:(f:Int)<=1000000:=by omega
      by_cases hle2:c<=f
      .have t1:(c:Int)<=(f:Int):=by omega
       have m:=U.out (a:Int) (f:Int) a f dk wr rfl rfl (by omega) (by omega) p
       cases hlv2:lt dk[a]! dk[f]! with
       |true=>
        rw[hlv2]at m;have K:Hid (scanDown (λx=>lt dk[a]! x) dk c (f -1)=scanDown (λx=>lt dk[a]! x) dk c j):=(scanDown_go (λx=>lt dk[a]! x) dk c f hle2 (by omega) (by simp[hlv2])).symm.trans h.out;clear hlv2 h;go_wp2_with fail;refine m.mono ?_;rintro e w5 ⟨rfl,Y,N⟩;clear c4 m;go_wp2
        go_roundg (f -1)
        case measure=>omega
        case rel=>exact⟨f -1,by go_num,by omega,by omega,aO _,K,N⟩
       |false=>
        rw[hlv2]at m;have k:Hid (f=scanDown (λx=>lt dk[a]! x) dk c j):=(scanDown_end (λx=>lt dk[a]! x) dk c f (Or.inr (by simp[hlv2]))).symm.trans h.out;have hlt3:=scans_lt lt a i j dk (by omega) o.out k.out hle2;clear hlv2 h;go_wp2_with fail;refine m.mono ?_;rintro e w5 ⟨rfl,Y,N⟩;clear c4 m;obtain⟨W6,hrun,h6⟩:=Q.out (c:Int) (f:Int) c f dk w5 rfl rfl (by omega) (by omega) N;go_wp2
        go_roundg (f -1+1 -(c+1))
        case measure=>omega
        case rel=>exact⟨c+1,f -1,_,by go_num,by go_num,by omega,by omega,by omega,aO _,(partEq_go lt a i j dk o.out k.out (by omega)).symm.trans F.out,h6⟩
      .have t1:¬(c:Int)<=(f:Int):=by omega
       have k:Hid (f=scanDown (λx=>lt dk[a]! x) dk c j):=(scanDown_end (λx=>lt dk[a]! x) dk c f (Or.inl hle2)).symm.trans h.out;clear h;go_wp2;go_ret;have e:=partEq_break lt a i j dk o.out k.out (by omega);rw[<-F.out,e];exact⟨rfl,p.out.hd,p.out.g⟩
   .have t0:¬(c:Int)<=(j:Int):=by omega
    have o:Hid (c=scanUp (λx=>!lt dk[a]! x) dk j i):=(scanUp_end (λx=>!lt dk[a]! x) dk j c (Or.inl hle)).symm.trans l.out;clear l;go_wp2;clear E
    go_loopg [10] j (λG y wr=>∃f:Nat,y=.int .i64 f/\f<=j/\c<=f+1/\f<=G/\Hid (scanDown (λx=>lt dk[a]! x) dk c f=scanDown (λx=>lt dk[a]! x) dk c j)/\Hid (aF r dk blk (bq lf lb u t) w wr))
    case atStart=>exact⟨j,rfl,aO _,q,aO _,rfl,C⟩
    case round=>
     obtain⟨f,rfl,z,v,L,h,p⟩:=hrel;have c4:=p.out.cells
     have u4:(f:Int)<=1000000:=by omega
     by_cases hle2:c<=f
     .exfalso;omega
     .have t1:¬(c:Int)<=(f:Int):=by omega
      have k:Hid (f=scanDown (λx=>lt dk[a]! x) dk c j):=(scanDown_end (λx=>lt dk[a]! x) dk c f (Or.inl hle2)).symm.trans h.out;clear h;go_wp2;go_ret;have e:=partEq_break lt a i j dk o.out k.out (by omega);rw[<-F.out,e];exact⟨rfl,p.out.hd,p.out.g⟩
end
section
open Go.Shelf
def Tryz.xsN_ren:Go.Shelf.Ren:=⟨λ| 36=>296|n=>n,λ| 66=>384|51=>307|0=>0|60=>361|41=>270|n=>n,λ| n=>n⟩
theorem Tryz.xsN:Go.Proofs.LaysGg.n36 Tryz.prog Tryz.xsN_ren:=by constructor <;>first|kernel_rfl|(intro w;kernel_rfl)
def Tryz.np2_ren:Go.Shelf.Ren:=⟨λ| 35=>295|13=>190|24=>253|25=>254|n=>n,λ| 3=>3|41=>270|49=>239|51=>307|4=>4|5=>5|9=>9|n=>n,λ| n=>n⟩
theorem Tryz.np2:Go.Proofs.LaysGg.n35 Tryz.prog Tryz.np2_ren:=by constructor <;>first|kernel_rfl|(intro w;kernel_rfl)
end
section
open Go.Proofs.Tryz Go.Joins Go.RowKit Go.Sort
variable{α:Type}{lf i blk B n:Nat}{lb f:Array Value}
structure uP{α:Type}(Hd:Array α->World->Prop)(d:Array α)(blk:Nat)(o:Obj)(r:Nat)(w W:World):Prop where
 hd:Hd d W
 g:w.grownBy W (some blk)
 box:W.heap[w.heap.size]?=some o
 rnd:∃T,W.heap[w.heap.size+1]?=some (.cells #[.int .u64 (r:Nat)] T)
theorem uP.cells{a:Array α->World->Prop}{d:Array α}{r:Nat}{w W:World}(h:uP a d blk (bq lf lb i f) r w W):W.cell? ⟨w.heap.size,0,none⟩=some (.func (.func lf) #[] lb)/\W.cell? ⟨w.heap.size,1,none⟩=some (.func (.func i) #[] f):=
 ⟨by rw[vE h.box];rfl,by rw[vE h.box];rfl⟩
theorem TK[Inhabited α]{lt:α->α->Bool}{l:Array α->World->Prop}(S:si lt B blk n lf lb i f l)(d:Array α)(w W:World)(r:Nat)(s:r<18446744073709551616)(hB:B<=w.heap.size)(h:uP l d blk (bq lf lb i f) r w W):
  Calls prog 296 #[.pointer (some ⟨w.heap.size+1,0,none⟩)] W λe b=>e=.returned (.int .u64 (xorNextN r:Nat))/\(b.cell? ⟨w.heap.size,0,none⟩=some (.func (.func lf) #[] lb)/\b.cell? ⟨w.heap.size,1,none⟩=some (.func (.func i) #[] f))/\Hid (uP l d blk (bq lf lb i f) (xorNextN r) w b):=by
 obtain⟨T,m⟩:=h.rnd
 have c:Calls prog 296 #[.pointer (some ⟨w.heap.size+1,0,none⟩)] W λe b=>e=.returned (.int .u64 (xorNextN r:Nat))/\b=(W.setCell ⟨w.heap.size+1,0,none⟩ (.int .u64 (xorNextN r:Nat))).drewN 3:=Any.xorshift_Next Tryz.xsN (w.heap.size+1) 0 r s W (by rw[vE m];rfl) (x9 m 0)
 refine c.mono ?_;rintro e b ⟨rfl,rfl⟩
 have a:Below (w.heap.size+1) W ((W.setCell ⟨w.heap.size+1,0,none⟩ (.int .u64 (xorNextN r:Nat))).drewN 3):=by
  have j:Below (w.heap.size+1) W (W.setCell ⟨w.heap.size+1,0,none⟩ (.int .u64 (xorNextN r:Nat))):=(zI _ W).setCell (p:=⟨w.heap.size+1,0,none⟩) (aO _) _;exact⟨j.os,j.tape,j.output,j.size,j.block⟩
 have q:uP l d blk (bq lf lb i f) (xorNextN r) w ((W.setCell ⟨w.heap.size+1,0,none⟩ (.int .u64 (xorNextN r:Nat))).drewN 3):=by
  refine⟨S.kept _ W _ h.hd (a.mono (by omega)),⟨a.os.trans h.g.os,a.tape.trans h.g.tape,a.output.trans h.g.output,di h.g.size a.size,λk t o=>(a.block k (by omega)).trans (h.g.block k t o)⟩,(a.block _ (by omega)).trans h.box,T,?_⟩;show(W.setCell ⟨w.heap.size+1,0,none⟩ (.int .u64 (xorNextN r:Nat))).heap[w.heap.size+1]?=_;rw[yc m];rfl
 exact⟨rfl,q.cells,q⟩
theorem TL[Inhabited α]{lt:α->α->Bool}{b:Array α->World->Prop}(S:si lt B blk n lf lb i f b)(d:Array α)(w W:World)(r:Nat)(X Y:Int)(x y:Nat)(j:X=(x:Int))(p:Y=(y:Int))(l:x<n)(m:y<n)(hl:blk<w.heap.size)(h:uP b d blk (bq lf lb i f) r w W):
  ∃a,(callFunc i (#[.int .i64 X,.int .i64 Y]++f)).run prog W=.ok (.value (.tuple #[])) a/\Hid (uP b (swp d x y) blk (bq lf lb i f) r w a):=by
 subst j p;obtain⟨a,k,o,c⟩:=S.swap d W x y h.hd l m;obtain⟨T,e⟩:=h.rnd;exact⟨a,k,o,h.g.trans c,(c.block _ (aD.1 h.box).1 (by simp;omega)).trans h.box,T,(c.block _ (aD.1 e).1 (by simp;omega)).trans e⟩
theorem FU[Inhabited α]{lt:α->α->Bool}{h:Array α->World->Prop}(S:si lt B blk n lf lb i f h)(d:Array α)(a L:Nat)(w:World)(hd:h d w)(hb:a+L<=n)(hn:n<=1000000)(h8:8<=L):
  Calls prog 256 #[.agg #[.func (.func lf) #[] lb,.func (.func i) #[] f],.int .i64 a,.int .i64 ((a+L:Nat):Int)] w λe j=>e=.returned (.tuple #[])/\h (breakPatterns d a (a+L)) j/\w.grownBy j (some blk):=by
 have z:=S.blt d w hd;have A:=(S.low d w hd).2;rw[breakPatterns_eq d a L h8];obtain⟨M,hM⟩:∃M:Nat,M=1 <<< bitsLen L:=⟨_,rfl⟩
 have hM1:1<=M:=by rw[hM,Nat.one_shiftLeft];exact Nat.two_pow_pos _
 have hM2:M<=2*L:=by rw[hM,Nat.one_shiftLeft];exact two_pow_bitsLen_le (by omega)
 have o:∀w,Calls prog 295 #[.int .i64 (L:Int)] w λe j=>e=.returned (.int .u64 (M:Int))/\j=w:=by rw[hM];exact λw=>Any.nextPowerOfTwo Tryz.np2 L (by omega) w
 rw[<-hM];clear hM
 have hLz:((a:Int)+(L:Int) -(a:Int))=(L:Int):=by omega
 have h8z:(8:Int)<=(L:Int):=by omega
 have i1:(a:Int)<=1000000:=by omega
 have i2:(L:Int)<=1000000:=by omega
 have K:Hid (∀T,uP h d blk (bq lf lb i f) L w ((w.alloc (bq lf lb i f)).alloc (.cells #[.int .u64 (L:Int)] T))):=by
  intro T;have l:=wT w (bq lf lb i f) (.cells #[.int .u64 (L:Int)] T);refine⟨S.still _ _ _ hd l,⟨l.os,l.tape,l.output,l.size,λk hk _=>l.block k hk⟩,?_,T,?_⟩
  .rw[zk _ _ _ (by simp)];exact vw _ _
  .have:=vw (w.alloc (bq lf lb i f)) (.cells #[.int .u64 (L:Int)] T);simpa using this
 have F:Hid (∀(dk:Array α) (r:Nat) (W:World),r<18446744073709551616->Hid (uP h dk blk (bq lf lb i f) r w W)->Calls prog 296 #[.pointer (some ⟨w.heap.size+1,0,none⟩)] W λe j=>e=.returned (.int .u64 (xorNextN r:Nat))/\(j.cell? ⟨w.heap.size,0,none⟩=some (.func (.func lf) #[] lb)/\j.cell? ⟨w.heap.size,1,none⟩=some (.func (.func i) #[] f))/\Hid (uP h dk blk (bq lf lb i f) (xorNextN r) w j)):=λdk r W P c=>TK S dk w W r P A c.out
 have I:Hid (∀(dk:Array α) (r:Nat) (W:World) (X Y:Int) (x y:Nat),X=(x:Int)->Y=(y:Int)->x<n->y<n->Hid (uP h dk blk (bq lf lb i f) r w W)->∃H,(callFunc i (#[.int .i64 X,.int .i64 Y]++f)).run prog W=.ok (.value (.tuple #[])) H/\Hid (uP h (swp dk x y) blk (bq lf lb i f) r w H)):=λdk r W X Y x y U a2 Z a4 Q=>TL S dk w W r X Y x y U a2 Z a4 z Q.out
 clear S hd;go_enter func256,ntmps256;go_wp2_with fail;refine(o _).mono ?_;rintro e j ⟨rfl,rfl⟩;clear o;go_wp2
 go_loopg [9] 3 (λg1 V wr=>∃(t:Nat) (r:UInt64) (dk:Array α),V=.int .i64 ((a:Int)+(L:Int)/4*2 -1+(t:Int))/\t<=3/\3 -t<=g1/\Hid (bpRest a L M (a+L/4*2 -1) (3 -t) t (r,dk)=bpRest a L M (a+L/4*2 -1) 3 0 (UInt64.ofNat L,d))/\Hid (uP h dk blk (bq lf lb i f) r.toNat w wr))
 case atStart=>
  refine⟨0,UInt64.ofNat L,d,by simp,by omega,by omega,rfl,?_⟩;rw[show(UInt64.ofNat L).toNat=L from by simp;omega];exact K.out _
 case round=>
  obtain⟨t,r,dk,rfl,ht,hg1,u,q⟩:=hrel;have c1:=q.out.cells;clear K
  by_cases ht3:t<3
  .have E:(a:Int)+(L:Int)/4*2 -1+(t:Int)<=(a:Int)+(L:Int)/4*2+1:=by omega
   obtain⟨R,hRr⟩:∃R:Nat,R=r.toNat:=⟨_,rfl⟩
   have N:R<18446744073709551616:=by rw[hRr];exact r.toNat_lt
   rw[<-hRr]at q;have b:=F.out dk R wr N q
   have c:xorNextN R=(xorNext r).toNat:=by rw[hRr,xorNext_toNat]
   obtain⟨R',hR'⟩:∃R':Nat,R'=xorNextN R:=⟨_,rfl⟩;rw[<-hR']at b c
   have G:R'<18446744073709551616:=by rw[hR'];exact xorNextN_lt R N
   obtain⟨O,hO⟩:∃O:Nat,O=R' &&& (M -1):=⟨_,rfl⟩
   have lO:O<=M -1:=by rw[hO];exact Nat.and_le_right
   have eAnd:bits .and .u64 (R':Int) ((M:Int) -1)=(O:Int):=by
    rw[show((M:Int) -1)=((M -1:Nat):Int) by omega,bits_and_u64_nat _ _ G (by omega),hO]
   have s:Hid (R'=(xorNext r).toNat/\O=(xorNext r).toNat &&& (M -1)):=⟨c,by rw[hO,c]⟩;clear hRr hR' hO c
   by_cases hLO:L<=O
   .have p:(L:Int)<=(O:Int):=by omega
    go_wp2_with fail;refine b.mono ?_;rintro e C ⟨rfl,c2,c⟩;clear b c1;obtain⟨W3,m,v⟩:=I.out dk R' C ((a:Int)+(L:Int)/4*2 -1+(t:Int)) ((a:Int)+((O:Int) -(L:Int))) (a+L/4*2 -1+t) (a+(O -L)) (by omega) (by omega) (by omega) (by omega) c;go_wp2
    go_roundg (3 -(t+1))
    case measure=>omega
    case rel=>exact⟨t+1,xorNext r,_,by congr 1;push_cast;omega,by omega,aO _,(show Hid _ from by rw[<-u.out,bp_step a L M _ t r dk (O -L) ht3 (by rw[<-s.out.2,if_pos (by omega)])];exact rfl),by rw[<-s.out.1];exact v⟩
   .have p:¬(L:Int)<=(O:Int):=by omega
    go_wp2_with fail;refine b.mono ?_;rintro e C ⟨rfl,c2,c⟩;clear b c1;obtain⟨W3,m,v⟩:=I.out dk R' C ((a:Int)+(L:Int)/4*2 -1+(t:Int)) ((a:Int)+(O:Int)) (a+L/4*2 -1+t) (a+O) (by omega) (by omega) (by omega) (by omega) c;go_wp2
    go_roundg (3 -(t+1))
    case measure=>omega
    case rel=>exact⟨t+1,xorNext r,_,by congr 1;push_cast;omega,by omega,aO _,(show Hid _ from by rw[<-u.out,bp_step a L M _ t r dk O ht3 (by rw[<-s.out.2,if_neg (by omega)])];exact rfl),by rw[<-s.out.1];exact v⟩
  .obtain rfl:t=3:=by omega
   have E:¬((a:Int)+(L:Int)/4*2 -1+((3:Nat):Int)<=(a:Int)+(L:Int)/4*2+1):=by omega
   go_wp2
   go_end0
   refine⟨rfl,?_,q.out.g⟩;rw[<-u.out];exact q.out.hd
theorem QR[Inhabited α]{lt:α->α->Bool}{c:Array α->World->Prop}(S:si lt B blk n lf lb i f c)(d:Array α)(a b:Nat)(w:World)(hd:c d w)(hab:a<=b)(l:b<=n)(m:n<=1000000):
  Calls prog 256 #[.agg #[.func (.func lf) #[] lb,.func (.func i) #[] f],.int .i64 a,.int .i64 b] w λe j=>e=.returned (.tuple #[])/\c (breakPatterns d a b) j/\w.grownBy j (some blk):=by
 obtain⟨L,rfl⟩:∃L,b=a+L:=⟨b -a,by omega⟩
 by_cases h8:8<=L
 .exact FU S d a L w hd l m h8
 .have k:breakPatterns d a (a+L)=d:=by unfold breakPatterns;simp only[Nat.add_sub_cancel_left];rw[if_neg h8]
  rw[k];have h:=hid (kU S d w hd)
  have hLz:((a:Int)+(L:Int) -(a:Int))=(L:Int):=by omega
  have h8z:¬(8:Int)<=(L:Int):=by omega
  have i1:(a:Int)<=1000000:=by omega
  have i2:(L:Int)<=1000000:=by omega
  clear S hd;go_enter func256,ntmps256;go_wp2
  go_end0
  exact⟨rfl,h.out.hd,h.out.g⟩
end
end Go.Proofs.YthfpipieboophaaGreatDoor
