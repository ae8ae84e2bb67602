import Derived.Sort.WalkC4
import Derived.Ground.GgsProg
import Derived.Shelf.SlSortFunc.Xorshift
import Derived.Sort.Walk7
import Derived.Test.YthfpipieboophaaGreatDoorZba
namespace Go.Proofs.YthfpipieboophaaGreatDoor
set_option maxRecDepth 100000
set_option maxHeartbeats 40000000
section
open Go.RowKit Go.Sort
theorem MC {α:Type} [Inhabited α] {lt:α->α->Bool} {B blk n lf sf:Nat} {lb sb:Array Value} {Hd:Array α->World->Prop} (S:si lt B blk n lf lb sf sb Hd) (d:Array α) (a b pivot:Nat) (w:World) (hd:Hd d w) (hab:a<=pivot) (hpb:pivot < b) (hb:b<=n) (hn:n<=1000000):
  Calls Tryz.prog 260 #[.agg #[.func (.func lf) #[] lb,.func (.func sf) #[] sb],.int .i64 a,.int .i64 b,.int .i64 pivot] w fun e w'=>e= .returned (.int .i64 (partitionEqual lt d a b pivot).1)∧Hd (partitionEqual lt d a b pivot).2 w'∧w.grownBy w' (some blk):=by
 have hlt:=S.blt d w hd;have OZ:=S.enters;have H0:=hid (kU S d w hd);have HL:=hid (dw S w);have HW:=hid (ek S w hlt);obtain⟨W1,q8,h1⟩:=HW.out (a:Int) (pivot:Int) a pivot d _ rfl rfl (by omega) (by omega) H0
 have Zb:(a:Int)<=1000000:=by omega
 have i3:(b:Int)<=1000000:=by omega
 have i3':(1:Int)<=(b:Int):=by omega
 clear S hd H0;go_enter Tryz.func260,Tryz.ntmps260;go_wp2;clear q8
 go_loopg [9,10] (b -1+1 -(a+1)) (fun g1 vi vj wr=>∃(i j:Nat) (dk:Array α),vi= .int .i64 i∧vj= .int .i64 j∧a < i∧i<=j+1∧j < b∧j+1 -i<=g1∧Hid (partEqLoop lt a i j dk=partitionEqual lt d a b pivot)∧Hid (aF Hd dk blk (bq lf lb sf sb) w wr))
 case atStart=>exact⟨a+1,b -1,_,by go_num,by go_num,by omega,by omega,by omega,by omega,rfl,h1⟩
 case round=>
  obtain⟨i,j,dk,rfl,rfl,hai,hij,hjb,hg1,AE,H1⟩:=hrel
  have i4:(j:Int)<=1000000:=by omega
  have i5:(i:Int)<=1000001:=by omega
  clear h1;go_wp2
  go_loopg [9] (j+1 -i) (fun g2 vi wr=>∃i':Nat,vi= .int .i64 i'∧i<=i'∧i'<=j+1∧j+1 -i'<=g2∧Hid (scanUp (fun x=> !lt dk[a]! x) dk j i'=scanUp (fun x=> !lt dk[a]! x) dk j i)∧Hid (aF Hd dk blk (bq lf lb sf sb) w wr))
  case atStart=>exact⟨i,by first | rfl | go_num,Nat.le_refl _,hij,Nat.le_refl _,rfl,H1⟩
  case round=>
   obtain⟨i',rfl,hii,hij',hg2,hsc,H2⟩:=hrel;have c2:=H2.out.cells
   have u2:(i':Int)<=1000001:=by omega
   by_cases hle:i'<=j
   ·have t0:(i':Int)<=(j:Int):=by omega
    have hl:=HL.out (a:Int) (i':Int) a i' dk wr rfl rfl (by omega) (by omega) H2
    cases hlv:lt dk[a]! dk[i']! with
    | false=>
     rw[hlv] at hl;have HS:Hid (scanUp (fun x=> !lt dk[a]! x) dk j (i'+1)=scanUp (fun x=> !lt dk[a]! x) dk j i):=(scanUp_go (fun x=> !lt dk[a]! x) dk j i' hle (by simp[hlv])).symm.trans hsc.out;clear hlv hsc;go_wp2_with fail;refine hl.mono ?_;rintro e w2 ⟨rfl,c3,h3⟩;clear c2 hl;go_wp2
     go_roundg (j+1 -(i'+1))
     case measure=>omega
     case rel=>exact⟨i'+1,by go_num,by omega,by omega,Nat.le_refl _,HS,h3⟩
    | true=>
     rw[hlv] at hl;have hi2:Hid (i'=scanUp (fun x=> !lt dk[a]! x) dk j i):=(scanUp_end (fun x=> !lt dk[a]! x) dk j i' (Or.inr (by simp[hlv]))).symm.trans hsc.out;clear hlv hsc;go_wp2_with fail;refine hl.mono ?_;rintro e w2 ⟨rfl,c3,h3⟩;clear c2 hl;go_wp2;clear c3
     go_loopg [10] j (fun g3 vj wr=>∃j':Nat,vj= .int .i64 j'∧j'<=j∧i'<=j'+1∧j'<=g3∧Hid (scanDown (fun x=>lt dk[a]! x) dk i' j'=scanDown (fun x=>lt dk[a]! x) dk i' j)∧Hid (aF Hd dk blk (bq lf lb sf sb) w wr))
     case atStart=>exact⟨j,rfl,Nat.le_refl _,hij',Nat.le_refl _,rfl,h3⟩
     case round=>
      obtain⟨j',rfl,hjj,hij2,hg3,hsd,H4⟩:=hrel;have c4:=H4.out.cells
      have u4:(j':Int)<=1000000:=by omega
      by_cases hle2:i'<=j'
      ·have t1:(i':Int)<=(j':Int):=by omega
       have hl2:=HL.out (a:Int) (j':Int) a j' dk wr rfl rfl (by omega) (by omega) H4
       cases hlv2:lt dk[a]! dk[j']! with
       | true=>
        rw[hlv2] at hl2;have HS:Hid (scanDown (fun x=>lt dk[a]! x) dk i' (j' -1)=scanDown (fun x=>lt dk[a]! x) dk i' j):=(scanDown_go (fun x=>lt dk[a]! x) dk i' j' hle2 (by omega) (by simp[hlv2])).symm.trans hsd.out;clear hlv2 hsd;go_wp2_with fail;refine hl2.mono ?_;rintro e w5 ⟨rfl,c5,h5⟩;clear c4 hl2;go_wp2
        go_roundg (j' -1)
        case measure=>omega
        case rel=>exact⟨j' -1,by go_num,by omega,by omega,Nat.le_refl _,HS,h5⟩
       | false=>
        rw[hlv2] at hl2;have hj2:Hid (j'=scanDown (fun x=>lt dk[a]! x) dk i' j):=(scanDown_end (fun x=>lt dk[a]! x) dk i' j' (Or.inr (by simp[hlv2]))).symm.trans hsd.out;have hlt3:=scans_lt lt a i j dk (by omega) hi2.out hj2.out hle2;clear hlv2 hsd;go_wp2_with fail;refine hl2.mono ?_;rintro e w5 ⟨rfl,c5,h5⟩;clear c4 hl2;obtain⟨W6,hrun,h6⟩:=HW.out (i':Int) (j':Int) i' j' dk w5 rfl rfl (by omega) (by omega) h5;go_wp2
        go_roundg (j' -1+1 -(i'+1))
        case measure=>omega
        case rel=>exact⟨i'+1,j' -1,_,by go_num,by go_num,by omega,by omega,by omega,Nat.le_refl _,(partEq_go lt a i j dk hi2.out hj2.out (by omega)).symm.trans AE.out,h6⟩
      ·have t1:¬(i':Int)<=(j':Int):=by omega
       have hj2:Hid (j'=scanDown (fun x=>lt dk[a]! x) dk i' j):=(scanDown_end (fun x=>lt dk[a]! x) dk i' j' (Or.inl hle2)).symm.trans hsd.out;clear hsd;go_wp2;go_ret;have e:=partEq_break lt a i j dk hi2.out hj2.out (by omega);rw[<-AE.out,e];exact⟨rfl,H4.out.hd,H4.out.g⟩
   ·have t0:¬(i':Int)<=(j:Int):=by omega
    have hi2:Hid (i'=scanUp (fun x=> !lt dk[a]! x) dk j i):=(scanUp_end (fun x=> !lt dk[a]! x) dk j i' (Or.inl hle)).symm.trans hsc.out;clear hsc;go_wp2;clear c2
    go_loopg [10] j (fun g3 vj wr=>∃j':Nat,vj= .int .i64 j'∧j'<=j∧i'<=j'+1∧j'<=g3∧Hid (scanDown (fun x=>lt dk[a]! x) dk i' j'=scanDown (fun x=>lt dk[a]! x) dk i' j)∧Hid (aF Hd dk blk (bq lf lb sf sb) w wr))
    case atStart=>exact⟨j,rfl,Nat.le_refl _,hij',Nat.le_refl _,rfl,H2⟩
    case round=>
     obtain⟨j',rfl,hjj,hij2,hg3,hsd,H4⟩:=hrel;have c4:=H4.out.cells
     have u4:(j':Int)<=1000000:=by omega
     by_cases hle2:i'<=j'
     ·exfalso;omega
     ·have t1:¬(i':Int)<=(j':Int):=by omega
      have hj2:Hid (j'=scanDown (fun x=>lt dk[a]! x) dk i' j):=(scanDown_end (fun x=>lt dk[a]! x) dk i' j' (Or.inl hle2)).symm.trans hsd.out;clear hsd;go_wp2;go_ret;have e:=partEq_break lt a i j dk hi2.out hj2.out (by omega);rw[<-AE.out,e];exact⟨rfl,H4.out.hd,H4.out.g⟩
end
section
open Go.Shelf
def Tryz.xsN_ren:Go.Shelf.Ren:=⟨fun | 36=>296 | n=>n,fun | 66=>384 | 51=>307 | 0=>0 | 60=>361 | 41=>270 | n=>n,fun | n=>n⟩
theorem Tryz.xsN:Go.Proofs.LaysGg.n36 Tryz.prog Tryz.xsN_ren:=by constructor <;>first | kernel_rfl | (intro w;kernel_rfl)
def Tryz.np2_ren:Go.Shelf.Ren:=⟨fun | 35=>295 | 13=>190 | 24=>253 | 25=>254 | n=>n,fun | 3=>3 | 41=>270 | 49=>239 | 51=>307 | 4=>4 | 5=>5 | 9=>9 | n=>n,fun | n=>n⟩
theorem Tryz.np2:Go.Proofs.LaysGg.n35 Tryz.prog Tryz.np2_ren:=by constructor <;>first | kernel_rfl | (intro w;kernel_rfl)
end
section
open Go.Proofs.Tryz Go.Joins Go.RowKit Go.Sort
variable {α:Type} {lf sf blk B n:Nat} {lb sb:Array Value}
structure uP {α:Type} (Hd:Array α->World->Prop) (d:Array α) (blk:Nat) (o:Obj) (r:Nat) (w W:World):Prop where
 hd:Hd d W
 g:w.grownBy W (some blk)
 box:W.heap[w.heap.size]? =some o
 rnd:∃T,W.heap[w.heap.size+1]? =some (.cells #[.int .u64 (r:Nat)] T)
theorem uP.cells {Hd:Array α->World->Prop} {d:Array α} {r:Nat} {w W:World} (h:uP Hd d blk (bq lf lb sf sb) r w W):W.cell? ⟨w.heap.size,0,none⟩=some (.func (.func lf) #[] lb)∧W.cell? ⟨w.heap.size,1,none⟩=some (.func (.func sf) #[] sb):=
 ⟨by rw[cell_of_block h.box];rfl,by rw[cell_of_block h.box];rfl⟩
theorem TK [Inhabited α] {lt:α->α->Bool} {Hd:Array α->World->Prop} (S:si lt B blk n lf lb sf sb Hd) (d:Array α) (w W:World) (r:Nat) (hr:r < 18446744073709551616) (hB:B<=w.heap.size) (h:uP Hd d blk (bq lf lb sf sb) r w W):
  Calls prog 296 #[.pointer (some ⟨w.heap.size+1,0,none⟩)] W fun e w'=>e= .returned (.int .u64 (xorNextN r:Nat))∧(w'.cell? ⟨w.heap.size,0,none⟩=some (.func (.func lf) #[] lb)∧w'.cell? ⟨w.heap.size,1,none⟩=some (.func (.func sf) #[] sb))∧Hid (uP Hd d blk (bq lf lb sf sb) (xorNextN r) w w'):=by
 obtain⟨T,hT⟩:=h.rnd
 have c:Calls prog 296 #[.pointer (some ⟨w.heap.size+1,0,none⟩)] W fun e w'=>e= .returned (.int .u64 (xorNextN r:Nat))∧w'=(W.setCell ⟨w.heap.size+1,0,none⟩ (.int .u64 (xorNextN r:Nat))).drewN 3:=Any.xorshift_Next Tryz.xsN (w.heap.size+1) 0 r hr W (by rw[cell_of_block hT];rfl) (unfrozen_of_block hT 0)
 refine c.mono ?_;rintro e w' ⟨rfl,rfl⟩
 have hb:Below (w.heap.size+1) W ((W.setCell ⟨w.heap.size+1,0,none⟩ (.int .u64 (xorNextN r:Nat))).drewN 3):=by
  have h1:Below (w.heap.size+1) W (W.setCell ⟨w.heap.size+1,0,none⟩ (.int .u64 (xorNextN r:Nat))):=(Below.refl _ W).setCell (p:=⟨w.heap.size+1,0,none⟩) (Nat.le_refl _) _;exact⟨h1.os,h1.tape,h1.output,h1.size,h1.block⟩
 have h2:uP Hd d blk (bq lf lb sf sb) (xorNextN r) w ((W.setCell ⟨w.heap.size+1,0,none⟩ (.int .u64 (xorNextN r:Nat))).drewN 3):=by
  refine⟨S.kept _ W _ h.hd (hb.mono (by omega)),⟨hb.os.trans h.g.os,hb.tape.trans h.g.tape,hb.output.trans h.g.output,Nat.le_trans h.g.size hb.size,fun k hk hne=>(hb.block k (by omega)).trans (h.g.block k hk hne)⟩,(hb.block _ (by omega)).trans h.box,T,?_⟩;show(W.setCell ⟨w.heap.size+1,0,none⟩ (.int .u64 (xorNextN r:Nat))).heap[w.heap.size+1]? =_;rw[block_setCell hT];rfl
 exact⟨rfl,h2.cells,h2⟩
theorem TL [Inhabited α] {lt:α->α->Bool} {Hd:Array α->World->Prop} (S:si lt B blk n lf lb sf sb Hd) (d:Array α) (w W:World) (r:Nat) (X Y:Int) (x y:Nat) (hX:X=(x:Int)) (hY:Y=(y:Int)) (hx:x < n) (hy:y < n) (hl:blk < w.heap.size) (h:uP Hd d blk (bq lf lb sf sb) r w W):
  ∃W',(callFunc sf (#[.int .i64 X,.int .i64 Y]++sb)).run prog W= .ok (.value (.tuple #[])) W'∧Hid (uP Hd (swp d x y) blk (bq lf lb sf sb) r w W'):=by
 subst hX hY;obtain⟨W',h1,h2,h3⟩:=S.swap d W x y h.hd hx hy;obtain⟨T,hT⟩:=h.rnd;exact⟨W',h1,h2,h.g.trans h3,(h3.block _ (Array.getElem?_eq_some_iff.1 h.box).1 (by simp;omega)).trans h.box,T,(h3.block _ (Array.getElem?_eq_some_iff.1 hT).1 (by simp;omega)).trans hT⟩
theorem FU [Inhabited α] {lt:α->α->Bool} {Hd:Array α->World->Prop} (S:si lt B blk n lf lb sf sb Hd) (d:Array α) (a L:Nat) (w:World) (hd:Hd d w) (hb:a+L<=n) (hn:n<=1000000) (h8:8<=L):
  Calls prog 256 #[.agg #[.func (.func lf) #[] lb,.func (.func sf) #[] sb],.int .i64 a,.int .i64 ((a+L:Nat):Int)] w fun e w'=>e= .returned (.tuple #[])∧Hd (breakPatterns d a (a+L)) w'∧w.grownBy w' (some blk):=by
 have hlt:=S.blt d w hd;have hBw:=(S.low d w hd).2;rw[breakPatterns_eq d a L h8];obtain⟨M,hM⟩:∃M:Nat,M=1 <<< bitsLen L:=⟨_,rfl⟩
 have hM1:1<=M:=by rw[hM,Nat.one_shiftLeft];exact Nat.two_pow_pos _
 have hM2:M<=2 * L:=by rw[hM,Nat.one_shiftLeft];exact two_pow_bitsLen_le (by omega)
 have hNP:∀w,Calls prog 295 #[.int .i64 (L:Int)] w fun e w'=>e= .returned (.int .u64 (M:Int))∧w'=w:=by rw[hM];exact fun w=>Any.nextPowerOfTwo Tryz.np2 L (by omega) w
 rw[<-hM];clear hM
 have hLz:((a:Int)+(L:Int) -(a:Int))=(L:Int):=by omega
 have h8z:(8:Int)<=(L:Int):=by omega
 have i1:(a:Int)<=1000000:=by omega
 have i2:(L:Int)<=1000000:=by omega
 have H0:Hid (∀T,uP Hd d blk (bq lf lb sf sb) L w ((w.alloc (bq lf lb sf sb)).alloc (.cells #[.int .u64 (L:Int)] T))):=by
  intro T;have b2:=below_alloc2 w (bq lf lb sf sb) (.cells #[.int .u64 (L:Int)] T);refine⟨S.still _ _ _ hd b2,⟨b2.os,b2.tape,b2.output,b2.size,fun k hk _=>b2.block k hk⟩,?_,T,?_⟩
  ·rw[Below.heap_alloc _ _ _ (by simp)];exact heap_alloc_new _ _
  ·have :=heap_alloc_new (w.alloc (bq lf lb sf sb)) (.cells #[.int .u64 (L:Int)] T);simpa using this
 have HNx:Hid (∀(dk:Array α) (r:Nat) (W:World),r < 18446744073709551616->Hid (uP Hd dk blk (bq lf lb sf sb) r w W)->Calls prog 296 #[.pointer (some ⟨w.heap.size+1,0,none⟩)] W fun e w'=>e= .returned (.int .u64 (xorNextN r:Nat))∧(w'.cell? ⟨w.heap.size,0,none⟩=some (.func (.func lf) #[] lb)∧w'.cell? ⟨w.heap.size,1,none⟩=some (.func (.func sf) #[] sb))∧Hid (uP Hd dk blk (bq lf lb sf sb) (xorNextN r) w w')):=fun dk r W h1 h2=>TK S dk w W r h1 hBw h2.out
 have HW:Hid (∀(dk:Array α) (r:Nat) (W:World) (X Y:Int) (x y:Nat),X=(x:Int)->Y=(y:Int)->x < n->y < n->Hid (uP Hd dk blk (bq lf lb sf sb) r w W)->∃W',(callFunc sf (#[.int .i64 X,.int .i64 Y]++sb)).run prog W= .ok (.value (.tuple #[])) W'∧Hid (uP Hd (swp dk x y) blk (bq lf lb sf sb) r w W')):=fun dk r W X Y x y a1 a2 a3 a4 a5=>TL S dk w W r X Y x y a1 a2 a3 a4 hlt a5.out
 clear S hd;go_enter func256,ntmps256;go_wp2_with fail;refine(hNP _).mono ?_;rintro e w' ⟨rfl,rfl⟩;clear hNP;go_wp2
 go_loopg [9] 3 (fun g1 vi wr=>∃(t:Nat) (r:UInt64) (dk:Array α),vi= .int .i64 ((a:Int)+(L:Int)/4 * 2 -1+(t:Int))∧t<=3∧3 -t<=g1∧Hid (bpRest a L M (a+L/4 * 2 -1) (3 -t) t (r,dk)=bpRest a L M (a+L/4 * 2 -1) 3 0 (UInt64.ofNat L,d))∧Hid (uP Hd dk blk (bq lf lb sf sb) r.toNat w wr))
 case atStart=>
  refine⟨0,UInt64.ofNat L,d,by simp,by omega,by omega,rfl,?_⟩;rw[show(UInt64.ofNat L).toNat=L from by simp;omega];exact H0.out _
 case round=>
  obtain⟨t,r,dk,rfl,ht,hg1,HR,HS⟩:=hrel;have c1:=HS.out.cells;clear H0
  by_cases ht3:t < 3
  ·have hle:(a:Int)+(L:Int)/4 * 2 -1+(t:Int)<=(a:Int)+(L:Int)/4 * 2+1:=by omega
   obtain⟨R,hRr⟩:∃R:Nat,R=r.toNat:=⟨_,rfl⟩
   have lR:R < 18446744073709551616:=by rw[hRr];exact r.toNat_lt
   rw[<-hRr] at HS;have hNext:=HNx.out dk R wr lR HS
   have h2:xorNextN R=(xorNext r).toNat:=by rw[hRr,xorNext_toNat]
   obtain⟨R',hR'⟩:∃R':Nat,R'=xorNextN R:=⟨_,rfl⟩;rw[<-hR'] at hNext h2
   have lR':R' < 18446744073709551616:=by rw[hR'];exact xorNextN_lt R lR
   obtain⟨O,hO⟩:∃O:Nat,O=R' &&& (M -1):=⟨_,rfl⟩
   have lO:O<=M -1:=by rw[hO];exact Nat.and_le_right
   have eAnd:bits .and .u64 (R':Int) ((M:Int) -1)=(O:Int):=by
    rw[show((M:Int) -1)=((M -1:Nat):Int) by omega,bits_and_u64_nat _ _ lR' (by omega),hO]
   have HN:Hid (R'=(xorNext r).toNat∧O=(xorNext r).toNat &&& (M -1)):=⟨h2,by rw[hO,h2]⟩;clear hRr hR' hO h2
   by_cases hLO:L<=O
   ·have hLOz:(L:Int)<=(O:Int):=by omega
    go_wp2_with fail;refine hNext.mono ?_;rintro e w2 ⟨rfl,c2,h2⟩;clear hNext c1;obtain⟨W3,hrun,h3⟩:=HW.out dk R' w2 ((a:Int)+(L:Int)/4 * 2 -1+(t:Int)) ((a:Int)+((O:Int) -(L:Int))) (a+L/4 * 2 -1+t) (a+(O -L)) (by omega) (by omega) (by omega) (by omega) h2;go_wp2
    go_roundg (3 -(t+1))
    case measure=>omega
    case rel=>exact⟨t+1,xorNext r,_,by congr 1;push_cast;omega,by omega,Nat.le_refl _,(show Hid _ from by rw[<-HR.out,bp_step a L M _ t r dk (O -L) ht3 (by rw[<-HN.out.2,if_pos (by omega)])];exact rfl),by rw[<-HN.out.1];exact h3⟩
   ·have hLOz:¬(L:Int)<=(O:Int):=by omega
    go_wp2_with fail;refine hNext.mono ?_;rintro e w2 ⟨rfl,c2,h2⟩;clear hNext c1;obtain⟨W3,hrun,h3⟩:=HW.out dk R' w2 ((a:Int)+(L:Int)/4 * 2 -1+(t:Int)) ((a:Int)+(O:Int)) (a+L/4 * 2 -1+t) (a+O) (by omega) (by omega) (by omega) (by omega) h2;go_wp2
    go_roundg (3 -(t+1))
    case measure=>omega
    case rel=>exact⟨t+1,xorNext r,_,by congr 1;push_cast;omega,by omega,Nat.le_refl _,(show Hid _ from by rw[<-HR.out,bp_step a L M _ t r dk O ht3 (by rw[<-HN.out.2,if_neg (by omega)])];exact rfl),by rw[<-HN.out.1];exact h3⟩
  ·obtain rfl:t=3:=by omega
   have hle:¬((a:Int)+(L:Int)/4 * 2 -1+((3:Nat):Int)<=(a:Int)+(L:Int)/4 * 2+1):=by omega
   go_wp2
   go_end0
   refine⟨rfl,?_,HS.out.g⟩;rw[<-HR.out];exact HS.out.hd
theorem QR [Inhabited α] {lt:α->α->Bool} {Hd:Array α->World->Prop} (S:si lt B blk n lf lb sf sb Hd) (d:Array α) (a b:Nat) (w:World) (hd:Hd d w) (hab:a<=b) (hb:b<=n) (hn:n<=1000000):
  Calls prog 256 #[.agg #[.func (.func lf) #[] lb,.func (.func sf) #[] sb],.int .i64 a,.int .i64 b] w fun e w'=>e= .returned (.tuple #[])∧Hd (breakPatterns d a b) w'∧w.grownBy w' (some blk):=by
 obtain⟨L,rfl⟩:∃L,b=a+L:=⟨b -a,by omega⟩
 by_cases h8:8<=L
 ·exact FU S d a L w hd hb hn h8
 ·have hv:breakPatterns d a (a+L)=d:=by unfold breakPatterns;simp only[Nat.add_sub_cancel_left];rw[if_neg h8]
  rw[hv];have H0:=hid (kU S d w hd)
  have hLz:((a:Int)+(L:Int) -(a:Int))=(L:Int):=by omega
  have h8z:¬(8:Int)<=(L:Int):=by omega
  have i1:(a:Int)<=1000000:=by omega
  have i2:(L:Int)<=1000000:=by omega
  clear S hd;go_enter func256,ntmps256;go_wp2
  go_end0
  exact⟨rfl,H0.out.hd,H0.out.g⟩
end
end Go.Proofs.YthfpipieboophaaGreatDoor
