import Derived.Sort.LotA
import Derived.Test.YthfpipieboophaaGreatDoorZaa
namespace Go.Proofs.YthfpipieboophaaGreatDoor
set_option maxRecDepth 100000
set_option maxHeartbeats 40000000
open Go.Sort
section
open Go.Proofs.Tryz Go.Joins Go.RowKit
variable {blk n lf sf:Nat} {lb sb:Array Value} {Hd:Array O->World->Prop}
structure jK (blk n:Nat) (lf:Nat) (lb:Array Value) (sf:Nat) (sb:Array Value) (Hd:Array O->World->Prop):Prop where
 size:∀d W,Hd d W->d.size=n
 lt:∀d W,Hd d W->blk < W.heap.size
 kept:∀d W W',Hd d W->Below W.heap.size W W'->Hd d W'
 enters:∀args w,(callFunc lf args).run prog w= .ok (.enter lf args) w
 less:∀d W i j,Hd d W->i < n->j < n->Calls prog lf (#[.int .i64 (i:Nat),.int .i64 (j:Nat)]++lb) W fun e w'=>e= .returned (.bool (decide (cO d[i]! d[j]! < 0)))∧Below W.heap.size W w'
 swap:∀d W i j,Hd d W->i < n->j < n->∃W',(callFunc sf (#[.int .i64 (i:Nat),.int .i64 (j:Nat)]++sb)).run prog W= .ok (.value (.tuple #[])) W'∧Hd (swp d i j) W'∧W.grownBy W' (some blk)
def iO (d:Array O) (a b:Nat):Nat->Array O
 | 0=>d
 | k+1=>swp (iO d a b k) (a+k) (b+k)
theorem lT (S:jK blk n lf lb sf sb Hd) (d:Array O) (a b k:Nat) (w:World) (hd:Hd d w) (ha:a+k<=n) (hb:b+k<=n) (hn:n<=1000000):
  Calls prog 307 #[.agg #[.func (.func lf) #[] lb,.func (.func sf) #[] sb],.int .i64 a,.int .i64 b,.int .i64 k] w fun e w'=>e= .returned (.tuple #[])∧Hd (iO d a b k) w'∧w.grownBy w' (some blk):=by
 have hlt:=S.lt d w hd;have HS:=hid S;have HD:=hid hd;clear S hd;go_enter func307,ntmps307;go_wp2
 go_loopg [8] k (fun g i wr=>∃j:Nat,j<=k∧g=k -j∧i= .int .i64 j∧Hd (iO d a b j) wr∧w.grownBy wr (some blk)∧wr.heap[w.heap.size]? =some (.cells #[.func (.func lf) #[] lb,.func (.func sf) #[] sb] 215))
 case atStart=>exact⟨0,Nat.zero_le _,rfl,rfl,HS.out.kept _ _ _ HD.out (below_alloc1 _ _),World.grownBy_alloc _ _ _,heap_alloc_new _ _⟩
 case round=>
  obtain⟨j,hj,hg,rfl,hH,hB,fO⟩:=hrel;have HG:=hid hg;have HH:=hid hH;have HB:=hid hB;have HX:=hid fO
  have c1:wr.cell? ⟨w.heap.size,1,none⟩=some (.func (.func sf) #[] sb):=by rw[cell_of_block fO];rfl
  clear hg
  by_cases hlt2:j < k
  ·obtain⟨W',hrun,Gz,hgr⟩:=HS.out.swap _ wr (a+j) (b+j) hH (by omega) (by omega);have hz:w.heap.size < wr.heap.size:=(Array.getElem?_eq_some_iff.1 fO).1
   have HN:Hid (Hd (iO d a b (j+1)) W'∧w.grownBy W' (some blk)∧W'.heap[w.heap.size]? =some (.cells #[.func (.func lf) #[] lb,.func (.func sf) #[] sb] 215)):=
    ⟨Gz,hB.trans hgr,(hgr.block _ hz (by simp;omega)).trans fO⟩
   have i1:(a:Int)+(j:Int)=((a+j:Nat):Int):=by omega
   have i2:(b:Int)+(j:Int)=((b+j:Nat):Int):=by omega
   have i3:(j:Int) < (k:Int):=by omega
   have i4:(k:Int)<=1000000:=by omega
   have i5:(a:Int)<=1000000:=by omega
   have i6:(b:Int)<=1000000:=by omega
   rw[<-i1,<-i2] at hrun;clear hH hB fO Gz hgr i1 i2;go_wp2
   go_roundg (k -(j+1))
   case measure=>have :=HG.out;omega
   case rel=>exact⟨j+1,by omega,rfl,by go_num,HN.out.1,HN.out.2.1,HN.out.2.2⟩
  ·have e1:j=k:=by omega
   subst e1
   have hge:¬((j:Int) < (j:Int)):=by omega
   clear hH hB fO;go_wp2
   go_end0
   exact⟨rfl,HH.out,HB.out⟩
def l9:Nat->Array O->Nat->Nat->Nat->Array O
 | 0,d,_,_,_=>d
 | f+1,d,m,i,j=>if i=j then iO d (m -i) m i else if j < i then l9 f (iO d (m -i) m j) m (i -j) j else l9 f (iO d (m -i) (m+j -i) i) m i (j -i)
theorem ze (S:jK blk n lf lb sf sb Hd) (d:Array O) (a m b:Nat) (w:World) (hd:Hd d w) (h1:a < m) (h2:m < b) (h3:b<=n) (hn:n<=1000000):
  Calls prog 265 #[.agg #[.func (.func lf) #[] lb,.func (.func sf) #[] sb],.int .i64 a,.int .i64 m,.int .i64 b] w fun e w'=>e= .returned (.tuple #[])∧Hd (l9 (b -a) d m (m -a) (b -m)) w'∧w.grownBy w' (some blk):=by
 have hlt:=S.lt d w hd;have HS:=hid S;have HD:=hid hd
 have i1:(m:Int) -(a:Int)=((m -a:Nat):Int):=by omega
 have i2:(b:Int) -(m:Int)=((b -m:Nat):Int):=by omega
 have i3:(b:Int)<=1000000:=by omega
 have i4:(m:Int)<=1000000:=by omega
 have i5:(a:Int)<=1000000:=by omega
 clear S hd;go_enter func265,ntmps265;go_wp2;generalize hR:l9 (b -a) d m (m -a) (b -m)=R
 go_loopg [8,9] (b -a) (fun g v8 v9 wr=>∃(i j:Nat) (d':Array O),0 < i∧0 < j∧i+j<=g∧i<=m -a∧j<=b -m∧v8= .int .i64 i∧v9= .int .i64 j∧l9 g d' m i j=R∧Hd d' wr∧w.grownBy wr (some blk)∧wr.heap[w.heap.size]? =some (.cells #[.func (.func lf) #[] lb,.func (.func sf) #[] sb] 215))
 case atStart=>
  refine⟨m -a,b -m,d,by omega,by omega,by omega,Nat.le_refl _,Nat.le_refl _,?_,?_,hR,HS.out.kept _ _ _ HD.out (below_alloc1 _ _),World.grownBy_alloc _ _ _,heap_alloc_new _ _⟩
  ·first | rfl | (congr 1)
  ·first | rfl | (congr 1)
 case round=>
  obtain⟨i,j,d',hi,hj,hij,him,hjb,rfl,rfl,hR',hH,hB,fO⟩:=hrel;have HH:=hid hH;have HB:=hid hB;have HX:=hid fO
  have c0:wr.cell? ⟨w.heap.size,0,none⟩=some (.func (.func lf) #[] lb):=by rw[cell_of_block fO];rfl
  have c1:wr.cell? ⟨w.heap.size,1,none⟩=some (.func (.func sf) #[] sb):=by rw[cell_of_block fO];rfl
  have hz:w.heap.size < wr.heap.size:=(Array.getElem?_eq_some_iff.1 fO).1;have HR:=hid hR'
  have q1:((m -i:Nat):Int)=(m:Int) -(i:Int):=by omega
  have j1:(i:Int)<=1000000:=by omega
  have j2:(j:Int)<=1000000:=by omega
  have j3:(0:Int) < (i:Int):=by omega
  have j4:(0:Int) < (j:Int):=by omega
  clear hR' hH hB fO
  by_cases e:i=j
  ·subst e;have hs:=lT HS.out d' (m -i) m i wr HH.out (by omega) (by omega) hn;rw[q1] at hs;clear q1
   go_wp2_with (go_at_call 307;refine hs.mono ?_;rintro e w' ⟨rfl,Gz,hB'⟩)
   go_end0
   refine⟨rfl,?_,HB.out.trans hB'⟩;rw[hR,<-HR.out];obtain⟨f,rfl⟩:∃f,gk=f+1:=⟨gk -1,by omega⟩;rw[l9,if_pos rfl];exact Gz
  ·have e':(i:Int)≠(j:Int):=by omega
   by_cases hgt:j < i
   ·have hs:=lT HS.out d' (m -i) m j wr HH.out (by omega) (by omega) hn;rw[q1] at hs
    have adB:(j:Int) < (i:Int):=by omega
    have q2:(i:Int) -(j:Int)=((i -j:Nat):Int):=by omega
    clear q1
    go_wp2_with (go_at_call 307;refine hs.mono ?_;rintro e w' ⟨rfl,Gz,hB'⟩)
    go_roundg (gk -1)
    case measure=>omega
    case rel=>
     obtain⟨f,rfl⟩:∃f,gk=f+1:=⟨gk -1,by omega⟩;have hr:=HR.out;rw[l9,if_neg e,if_pos hgt] at hr;exact⟨i -j,j,_,by omega,hj,by omega,by omega,hjb,by first | rfl | (congr 1),rfl,hr,Gz,HB.out.trans hB',(hB'.block _ hz (by simp;omega)).trans HX.out⟩
   ·have hs:=lT HS.out d' (m -i) (m+j -i) i wr HH.out (by omega) (by omega) hn
    have hle:(i:Int)<=(j:Int):=by omega
    have q3:((m+j -i:Nat):Int)=(m:Int)+(j:Int) -(i:Int):=by omega
    have q2:(j:Int) -(i:Int)=((j -i:Nat):Int):=by omega
    rw[q1,q3] at hs;clear q1 q3
    go_wp2_with (go_at_call 307;refine hs.mono ?_;rintro e w' ⟨rfl,Gz,hB'⟩)
    go_roundg (gk -1)
    case measure=>omega
    case rel=>
     obtain⟨f,rfl⟩:∃f,gk=f+1:=⟨gk -1,by omega⟩;have hr:=HR.out;rw[l9,if_neg e,if_neg hgt] at hr;exact⟨i,j -i,_,hi,by omega,by omega,him,by omega,rfl,by first | rfl | (congr 1),hr,Gz,HB.out.trans hB',(hB'.block _ hz (by simp;omega)).trans HX.out⟩
end
section
open Go.Joins Go.RowKit
abbrev dD (x y:O):Bool:=decide (cO x y < 0)
theorem J4 {blk n lf sf:Nat} {lb sb:Array Value} {Hd:Array O->World->Prop} (S:jK blk n lf lb sf sb Hd) (d:Array O) (a b:Nat) (w:World) (hd:Hd d w) (h2:b<=n) (hn:n<=1000000) (ha:a<=1000000):
  Calls Tryz.prog 208 #[.agg #[.func (.func lf) #[] lb,.func (.func sf) #[] sb],.int .i64 a,.int .i64 b] w fun e w'=>e= .returned (.tuple #[])∧Hd (insertionSort dD d a b) w'∧w.grownBy w' (some blk):=by
 have hlt:=S.lt d w hd;have HS:=hid S;have HD:=hid hd;have OZ:=S.enters
 have i3:(b:Int)<=1000000:=by omega
 have i5:(a:Int)<=1000000:=by omega
 clear S hd;go_enter Tryz.func208,Tryz.ntmps208;go_wp2
 go_loopg [6] (b+1 -(a+1)) (fun g v6 wr=>∃(i:Nat) (d':Array O),a+1<=i∧i<=1000001∧g=b+1 -i∧v6= .int .i64 i∧insOuter dD a b i d'=insertionSort dD d a b∧Hd d' wr∧w.grownBy wr (some blk)∧wr.heap[w.heap.size]? =some (.cells #[.func (.func lf) #[] lb,.func (.func sf) #[] sb] 215))
 case atStart=>exact⟨a+1,d,Nat.le_refl _,by omega,rfl,by go_num,rfl,HS.out.kept _ _ _ HD.out (below_alloc1 _ _),World.grownBy_alloc _ _ _,heap_alloc_new _ _⟩
 case round=>
  obtain⟨i,d',hi,hi2,hg,rfl,hR',hH,hB,fO⟩:=hrel;have HG:=hid hg;have HH:=hid hH;have HB:=hid hB;have HX:=hid fO;have HR:=hid hR';clear hg hR' hH hB fO
  by_cases hib:i < b
  ·have k1:(i:Int) < (b:Int):=by omega
   have k2:(a:Int) < (i:Int):=by omega
   have HR2:Hid (insOuter dD a b (i+1) (insInner dD a i d')=insertionSort dD d a b):=by
    have hr:=HR.out;rw[insOuter,if_pos hib] at hr;exact hr
   go_wp2
   go_loopg [7] (i+1) (fun g v7 wr=>∃(j:Nat) (d2:Array O),a<=j∧j<=i∧g=j+1∧v7= .int .i64 j∧insInner dD a j d2=insInner dD a i d'∧Hd d2 wr∧w.grownBy wr (some blk)∧wr.heap[w.heap.size]? =some (.cells #[.func (.func lf) #[] lb,.func (.func sf) #[] sb] 215))
   case atStart=>exact⟨i,d',by omega,Nat.le_refl _,rfl,rfl,rfl,HH.out,HB.out,HX.out⟩
   case round=>
    obtain⟨j,d2,hj,hji,hg2,rfl,hR2,hH2,hB2,rR⟩:=hrel;have HG2:=hid hg2;have M5:=hid hH2;have HB2:=hid hB2;have XT:=hid rR;have HI:=hid hR2
    have c0:wr.cell? ⟨w.heap.size,0,none⟩=some (.func (.func lf) #[] lb):=by rw[cell_of_block rR];rfl
    have hz:w.heap.size < wr.heap.size:=(Array.getElem?_eq_some_iff.1 rR).1;clear hg2 hH2 hB2 rR hR2
    by_cases hja:a < j
    ·obtain⟨j',rfl⟩:∃j',j=j'+1:=⟨j -1,by omega⟩
     have m1:(a:Int) < ((j'+1:Nat):Int):=by omega
     have m2:((j'+1:Nat):Int) -1=(j':Int):=by omega
     have m3:((j'+1:Nat):Int)<=1000000:=by omega
     have hl:=HS.out.less d2 wr (j'+1) j' M5.out (by omega) (by omega);generalize hjj:((j'+1:Nat):Int)=J at *;go_wp2_with fail;refine hl.mono ?_;rintro e w3 ⟨rfl,hb3⟩;have XU:Hid (Hd d2 w3):=HS.out.kept _ _ _ M5.out hb3;have HB3:Hid (w.grownBy w3 (some blk)):=HB2.out.trans ⟨hb3.os,hb3.tape,hb3.output,hb3.size,fun k hk _=>hb3.block k hk⟩;have Vk:Hid (w3.heap[w.heap.size]? =some (.cells #[.func (.func lf) #[] lb,.func (.func sf) #[] sb] 215)):=(hb3.block _ hz).trans XT.out;have hz3:w.heap.size < w3.heap.size:=Nat.lt_of_lt_of_le hz hb3.size
     have c3:w3.cell? ⟨w.heap.size,1,none⟩=some (.func (.func sf) #[] sb):=by rw[cell_of_block Vk.out];rfl
     clear hl hb3 c0
     by_cases hless:cO d2[j'+1]! d2[j']! < 0
     ·rw[decide_eq_true hless];obtain⟨W4,hrun,EC,hg4⟩:=HS.out.swap d2 w3 (j'+1) j' XU.out (by omega) (by omega);rw[hjj] at hrun
      have HN:Hid (Hd (swp d2 (j'+1) j') W4∧w.grownBy W4 (some blk)∧W4.heap[w.heap.size]? =some (.cells #[.func (.func lf) #[] lb,.func (.func sf) #[] sb] 215)):=
       ⟨EC,HB3.out.trans hg4,(hg4.block _ hz3 (by simp;omega)).trans Vk.out⟩
      have HI2:Hid (insInner dD a j' (swp d2 (j'+1) j')=insInner dD a i d'):=by
       have hr:=HI.out;rw[insInner,if_pos (by simp[dD,hless];omega)] at hr;exact hr
      clear EC hg4 hless;go_wp2
      go_roundg (j'+1)
      case measure=>have :=HG2.out;omega
      case rel=>exact⟨j',_,by omega,by omega,rfl,by first | rfl | go_num | (congr 1),HI2.out,HN.out.1,HN.out.2.1,HN.out.2.2⟩
     ·rw[decide_eq_false hless]
      have HI2:Hid (insInner dD a i d'=d2):=by
       have hr:=HI.out;rw[insInner,if_neg (by simp[dD,hless])] at hr;exact hr.symm
      clear hless;go_wp2
      go_roundg (b+1 -(i+1))
      case measure=>have :=HG.out;omega
      case rel=>exact⟨i+1,d2,by omega,by omega,rfl,by go_num,by rw[<-HI2.out];exact HR2.out,XU.out,HB3.out,Vk.out⟩
    ·have e1:j=a:=by omega
     have m1:¬((a:Int) < (j:Int)):=by omega
     have HI2:Hid (insInner dD a i d'=d2):=by
      have hr:=HI.out
      cases j with
      | zero=>exact hr.symm
      | succ j'=>rw[insInner,if_neg (by simp;omega)] at hr;exact hr.symm
     go_wp2
     go_roundg (b+1 -(i+1))
     case measure=>have :=HG.out;omega
     case rel=>exact⟨i+1,d2,by omega,by omega,rfl,by go_num,by rw[<-HI2.out];exact HR2.out,M5.out,HB2.out,XT.out⟩
  ·clear i3
   have k1:¬((i:Int) < (b:Int)):=by omega
   go_wp2
   go_end0
   refine⟨rfl,?_,HB.out⟩;rw[<-HR.out,insOuter,if_neg hib];exact HH.out
end
section
variable {lt:O->O->Bool} {d r d2:Array O} {a b s n t:Nat}
theorem fP (d:Array O) (a b k:Nat):(iO d a b k).size=d.size:=by
 induction k with
 | zero=>rfl
 | succ k ih=>rw[iO,swp_size,ih]
theorem qJ (d:Array O) (a b k:Nat) (h1:a+k<=b) (h2:b+k<=d.size) (p:Nat):
  (iO d a b k)[p]! =if a<=p∧p < a+k then d[p+(b -a)]! else if b<=p∧p < b+k then d[p -(b -a)]! else d[p]! :=by
 induction k generalizing p with
 | zero=>rw[iO,if_neg (by omega),if_neg (by omega)]
 | succ k ih=>
  have ih':=ih (by omega) (by omega);rw[iO,swp_get _ (by rw[fP];omega) (by rw[fP];omega)]
  by_cases e1:p=b+k
  ·subst e1;rw[if_pos rfl,ih',if_neg (by omega),if_neg (by omega),if_neg (by omega),if_pos (by omega)];congr 1;omega
  ·rw[if_neg e1]
   by_cases e2:p=a+k
   ·subst e2;rw[if_pos rfl,ih',if_neg (by omega),if_neg (by omega),if_pos (by omega)];congr 1;omega
   ·rw[if_neg e2,ih']
    by_cases c1:a<=p∧p < a+k
    ·rw[if_pos c1,if_pos (by omega)]
    ·by_cases c2:b<=p∧p < b+k
     ·rw[if_neg c1,if_pos c2,if_neg (by omega),if_pos (by omega)]
     ·rw[if_neg c1,if_neg c2,if_neg (by omega),if_neg (by omega)]
theorem oI (d:Array O) (a b k lo hi:Nat) (h1:lo<=a) (h2:lo<=b) (h3:a+k<=hi) (h4:b+k<=hi) (h5:hi<=d.size):PermIn lo hi d (iO d a b k):=by
 induction k with
 | zero=>exact permIn_refl _ _ _
 | succ k ih=>
  refine permIn_trans _ _ _ _ _ (ih (by omega) (by omega)) ?_;rw[iO];exact swp_permIn _ _ _ _ _ (by omega) (by omega) (by omega) (by omega) (by rw[fP];omega)
def pK (d r:Array O) (s m e:Nat):Prop:=
 ∀p,r[p]! =if s<=p∧p < s+(e -m) then d[p+(m -s)]! else if s+(e -m)<=p∧p < e then d[p -(e -m)]! else d[p]!
theorem Bc (f:Nat) (d:Array O) (m i j lo hi:Nat) (h1:lo+i<=m) (h2:m+j<=hi) (h3:hi<=d.size):PermIn lo hi d (l9 f d m i j):=by
 induction f generalizing d i j with
 | zero=>exact permIn_refl _ _ _
 | succ f ih=>
  rw[l9]
  split
  ·exact oI _ _ _ _ _ _ (by omega) (by omega) (by omega) (by omega) h3
  ·split
   ·exact permIn_trans _ _ _ _ _ (oI _ _ _ _ _ _ (by omega) (by omega) (by omega) (by omega) h3) (ih _ _ _ (by omega) (by omega) (by rw[fP];exact h3))
   ·exact permIn_trans _ _ _ _ _ (oI _ _ _ _ _ _ (by omega) (by omega) (by omega) (by omega) h3) (ih _ _ _ (by omega) (by omega) (by rw[fP];exact h3))
theorem vN (f:Nat) (d:Array O) (m i j:Nat) (hf:i+j<=f) (hi:0 < i) (hj:0 < j) (h1:i<=m) (h2:m+j<=d.size):pK d (l9 f d m i j) (m -i) m (m+j):=by
 induction f generalizing d i j with
 | zero=>omega
 | succ f ih=>
  intro p;rw[l9]
  split
  ·rename_i e
   subst e;rw[qJ _ _ _ _ (by omega) (by omega)]
   by_cases c1:m -i<=p∧p < m -i+i
   ·rw[if_pos c1,if_pos (by omega)]
   ·by_cases c2:m<=p∧p < m+i
    ·rw[if_neg c1,if_pos c2,if_neg (by omega),if_pos (by omega)];congr 1;omega
    ·rw[if_neg c1,if_neg c2,if_neg (by omega),if_neg (by omega)]
  ·rename_i e
   split
   ·rename_i e2
    rw[ih _ _ _ (by omega) (by omega) hj (by omega) (by rw[fP];omega) p];simp only[qJ d (m -i) m j (by omega) (by omega)]
    by_cases c0:p < m -i∨m+j<=p
    ·rw[if_neg (by omega),if_neg (by omega),if_neg (by omega),if_neg (by omega),if_neg (by omega),if_neg (by omega)]
    ·by_cases c1:p < m -i+j
     ·rw[if_neg (by omega),if_neg (by omega),if_pos (by omega),if_pos (by omega)]
     ·by_cases c2:p < m -(i -j)+(m+j -m)
      ·rw[if_pos (by omega),if_neg (by omega),if_pos (by omega),if_neg (by omega),if_pos (by omega)];congr 1;omega
      ·rw[if_neg (by omega),if_pos (by omega),if_neg (by omega),if_neg (by omega),if_neg (by omega),if_pos (by omega)]
   ·rename_i e2
    rw[ih _ _ _ (by omega) hi (by omega) (by omega) (by rw[fP];omega) p];simp only[qJ d (m -i) (m+j -i) i (by omega) (by omega)]
    by_cases c0:p < m -i∨m+j<=p
    ·rw[if_neg (by omega),if_neg (by omega),if_neg (by omega),if_neg (by omega),if_neg (by omega),if_neg (by omega)]
    ·by_cases c1:m+j -i<=p
     ·rw[if_neg (by omega),if_neg (by omega),if_neg (by omega),if_pos (by omega),if_neg (by omega),if_pos (by omega)];congr 1;omega
     ·by_cases c2:p < m -i+(m+(j -i) -m)
      ·rw[if_pos (by omega),if_neg (by omega),if_neg (by omega),if_pos (by omega)]
      ·rw[if_neg (by omega),if_pos (by omega),if_pos (by omega),if_pos (by omega)];congr 1;omega
def wD (d:Array O) (a:Nat):Nat->Array O
 | 0=>d
 | k+1=>swp (wD d a k) (a+k) (a+k+1)
theorem uA (d:Array O) (a k:Nat):(wD d a k).size=d.size:=by
 induction k with
 | zero=>rfl
 | succ k ih=>rw[wD,swp_size,ih]
theorem PN (d:Array O) (a k:Nat) (h:a+k < d.size) (p:Nat):(wD d a k)[p]! =if a<=p∧p < a+k then d[p+1]! else if p=a+k then d[a]! else d[p]! :=by
 induction k generalizing p with
 | zero=>
  rw[wD,if_neg (by omega)]
  split
  ·rename_i e;subst e;rfl
  ·rfl
 | succ k ih=>
  have ih':=ih (by omega);rw[wD,swp_get _ (by rw[uA];omega) (by rw[uA];omega)]
  by_cases e1:p=a+k+1
  ·subst e1;rw[if_pos rfl,ih',if_neg (by omega),if_pos rfl,if_neg (by omega),if_pos (by omega)]
  ·rw[if_neg e1]
   by_cases e2:p=a+k
   ·subst e2;rw[if_pos rfl,ih',if_neg (by omega),if_neg (by omega),if_pos (by omega)]
   ·rw[if_neg e2,ih']
    by_cases c1:a<=p∧p < a+k
    ·rw[if_pos c1,if_pos (by omega)]
    ·rw[if_neg c1,if_neg (by omega),if_neg (by omega),if_neg (by omega)]
theorem LH (d:Array O) (a k lo hi:Nat) (h1:lo<=a) (h3:a+k < hi) (h5:hi<=d.size):PermIn lo hi d (wD d a k):=by
 induction k with
 | zero=>exact permIn_refl _ _ _
 | succ k ih=>
  refine permIn_trans _ _ _ _ _ (ih (by omega)) ?_;rw[wD];exact swp_permIn _ _ _ _ _ (by omega) (by omega) (by omega) (by omega) (by rw[uA];omega)
def wE (d:Array O) (m:Nat):Nat->Array O
 | 0=>d
 | k+1=>swp (wE d m k) (m -k) (m -k -1)
theorem uB (d:Array O) (m k:Nat):(wE d m k).size=d.size:=by
 induction k with
 | zero=>rfl
 | succ k ih=>rw[wE,swp_size,ih]
theorem PO (d:Array O) (m k:Nat) (h:k<=m) (h2:m < d.size) (p:Nat):(wE d m k)[p]! =if m -k < p∧p<=m then d[p -1]! else if p=m -k then d[m]! else d[p]! :=by
 induction k generalizing p with
 | zero=>
  rw[wE,if_neg (by omega)]
  split
  ·rename_i e;subst e;rfl
  ·rfl
 | succ k ih=>
  have ih':=ih (by omega);rw[wE,swp_get _ (by rw[uB];omega) (by rw[uB];omega)]
  by_cases e1:p=m -k -1
  ·rw[if_pos e1,ih',if_neg (by omega),if_pos rfl,if_neg (by omega),if_pos (by omega)]
  ·rw[if_neg e1]
   by_cases e2:p=m -k
   ·rw[if_pos e2,ih',if_neg (by omega),if_neg (by omega),if_pos (by omega)];congr 1;omega
   ·rw[if_neg e2,ih']
    by_cases c1:m -k < p∧p<=m
    ·rw[if_pos c1,if_pos (by omega)]
    ·rw[if_neg c1,if_neg (by omega),if_neg (by omega),if_neg (by omega)]
theorem LJ (d:Array O) (m k lo hi:Nat) (h:lo+k<=m) (h3:m < hi) (h5:hi<=d.size):PermIn lo hi d (wE d m k):=by
 induction k with
 | zero=>exact permIn_refl _ _ _
 | succ k ih=>
  refine permIn_trans _ _ _ _ _ (ih (by omega)) ?_;rw[wE];exact swp_permIn _ _ _ _ _ (by omega) (by omega) (by omega) (by omega) (by rw[uB];omega)
theorem LK (hS:SWO lt) (d:Array O) (a b i:Nat) (h1:a+1<=i) (h2:i<=b) (h3:b<=d.size) (hs:SortedIn lt (a+1) b d)
  (hl:i=a+1∨lt d[i -1]! d[a]! =true) (hr:i=b∨lt d[i]! d[a]! =false):SortedIn lt a b (wD d a (i -1 -a)):=by
 have g:=PN d a (i -1 -a) (by omega);intro p q hp hpq hq;rw[g,g]
 by_cases c1:q < i -1
 ·rw[if_pos (by omega),if_pos (by omega)];exact hs _ _ (by omega) (by omega) (by omega)
 ·by_cases c2:q=i -1
  ·rw[if_neg (by omega),if_pos (by omega),if_pos (by omega)]
   rcases hl with hl | hl
   ·omega
   ·have hx:lt d[p+1]! d[a]! =true:=by
     by_cases e:p+1=i -1
     ·rw[e];exact hl
     ·cases hh:lt d[p+1]! d[a]! with
      | true=>rfl
      | false=>
       have :=hS.ntrans _ _ _ (hs (p+1) (i -1) (by omega) (by omega) (by omega)) hh;rw[this] at hl;cases hl
    exact hS.asymmA hx
  ·rw[if_neg (by omega),if_neg (by omega)]
   by_cases c3:p < i -1
   ·rw[if_pos (by omega)];exact hs _ _ (by omega) (by omega) (by omega)
   ·by_cases c4:p=i -1
    ·rw[if_neg (by omega),if_pos (by omega)]
     rcases hr with hr | hr
     ·omega
     ·by_cases e:q=i
      ·rw[e];exact hr
      ·exact hS.ntrans _ _ _ (hs i q (by omega) (by omega) (by omega)) hr
    ·rw[if_neg (by omega),if_neg (by omega)];exact hs _ _ (by omega) (by omega) (by omega)
theorem LM (hS:SWO lt) (d:Array O) (a m i:Nat) (h1:a<=i) (h2:i<=m) (h3:m < d.size) (hs:SortedIn lt a m d)
  (hl:i=a∨lt d[m]! d[i -1]! =false) (hr:i=m∨lt d[m]! d[i]! =true):SortedIn lt a (m+1) (wE d m (m -i)):=by
 have g:=PO d m (m -i) (by omega) h3;intro p q hp hpq hq;rw[g,g]
 by_cases c1:q < i
 ·rw[if_neg (by omega),if_neg (by omega),if_neg (by omega),if_neg (by omega)];exact hs _ _ (by omega) (by omega) (by omega)
 ·by_cases c2:q=i
  ·rw[if_neg (by omega),if_pos (by omega),if_neg (by omega),if_neg (by omega)]
   rcases hl with hl | hl
   ·omega
   ·by_cases e:p=i -1
    ·rw[e];exact hl
    ·exact hS.ntrans _ _ _ hl (hs p (i -1) (by omega) (by omega) (by omega))
  ·rw[if_pos (by omega)]
   by_cases c3:p < i
   ·rw[if_neg (by omega),if_neg (by omega)];exact hs _ _ (by omega) (by omega) (by omega)
   ·by_cases c4:p=i
    ·rw[if_neg (by omega),if_pos (by omega)]
     rcases hr with hr | hr
     ·omega
     ·have hx:lt d[m]! d[q -1]! =true:=by
       by_cases e:q -1=i
       ·rw[e];exact hr
       ·cases hh:lt d[m]! d[q -1]! with
        | true=>rfl
        | false=>
         have :=hS.ntrans _ _ _ hh (hs i (q -1) (by omega) (by omega) (by omega));rw[this] at hr;cases hr
      exact hS.asymmA hx
    ·rw[if_pos (by omega)];exact hs _ _ (by omega) (by omega) (by omega)
structure kJ (lt:O->O->Bool) (a s mid e b:Nat) (d:Array O):Prop where
 h1:SortedIn lt a s d
 h2:SortedIn lt s mid d
 h3:SortedIn lt mid e d
 h4:SortedIn lt e b d
 cross:∀i j,a<=i->i < mid->mid<=j->j < b->lt d[j]! d[i]! =false
theorem Be (hS:SWO lt) (d r:Array O) (a m b s mid:Nat) (ham:a < m) (hmid:mid=(a+b)/2) (h1:SortedIn lt a m d) (h2:SortedIn lt m b d)
  (hlo:a<=s) (hlo2:mid+m<=b+s) (hhi:s<=m) (hhi2:s<=mid)
  (hL:s=a∨mid+m=b+s∨lt d[mid+m -s]! d[s -1]! =false) (hR:s=m∨s=mid∨lt d[mid+m -s -1]! d[s]! =true)
  (hT:pK d r s m (mid+m -s)):kJ lt a s mid (mid+m -s) b r:=by
 have e1:s+(mid+m -s -m)=mid:=by omega
 have e2:mid+m -s -m=mid -s:=by omega
 unfold pK at hT;rw[e1,e2] at hT
 have A:∀p,p < s->r[p]! =d[p]! :=fun p hp=>by rw[hT,if_neg (by omega),if_neg (by omega)]
 have B:∀p,s<=p->p < mid->r[p]! =d[p+(m -s)]! :=fun p hp hq=>by rw[hT,if_pos (by omega)]
 have C:∀p,mid<=p->p < mid+m -s->r[p]! =d[p -(mid -s)]! :=fun p hp hq=>by rw[hT,if_neg (by omega),if_pos (by omega)]
 have D:∀p,mid+m -s<=p->r[p]! =d[p]! :=fun p hp=>by rw[hT,if_neg (by omega),if_neg (by omega)]
 have le:∀(lo hi i j:Nat),SortedIn lt lo hi d->lo<=i->i<=j->j < hi->lt d[j]! d[i]! =false:=fun lo hi i j h a1 a2 a3=>by
  by_cases e:i=j
  ·subst e;exact hS.irrefl _
  ·exact h i j a1 (by omega) a3
 refine⟨?_,?_,?_,?_,?_⟩
 ·intro i j hi hij hj;rw[A i (by omega),A j hj];exact h1 i j hi hij (by omega)
 ·intro i j hi hij hj;rw[B i hi (by omega),B j (by omega) hj];exact h2 _ _ (by omega) (by omega) (by omega)
 ·intro i j hi hij hj;rw[C i hi (by omega),C j (by omega) hj];exact h1 _ _ (by omega) (by omega) (by omega)
 ·intro i j hi hij hj;rw[D i hi,D j (by omega)];exact h2 _ _ (by omega) (by omega) (by omega)
 ·intro i j hi hi2 hj hj2
  by_cases ci:i < s
  ·rw[A i ci]
   by_cases cj:j < mid+m -s
   ·rw[C j hj cj];exact h1 _ _ hi (by omega) (by omega)
   ·rw[D j (by omega)]
    rcases hL with hL | hL | hL
    ·omega
    ·omega
    ·exact hS.ntrans _ _ _ (le m b (mid+m -s) j h2 (by omega) (by omega) hj2) (hS.ntrans _ _ _ hL (le a m i (s -1) h1 hi (by omega) (by omega)))
  ·rw[B i (by omega) hi2]
   by_cases cj:j < mid+m -s
   ·rw[C j hj cj]
    rcases hR with hR | hR | hR
    ·omega
    ·omega
    ·exact hS.ntrans _ _ _ (le a m s (j -(mid -s)) h1 hlo (by omega) (by omega)) (hS.ntrans _ _ _ (hS.asymmA hR) (le m b (i+(m -s)) (mid+m -s -1) h2 (by omega) (by omega) (by omega)))
   ·rw[D j (by omega)];exact h2 _ _ (by omega) (by omega) (by omega)
theorem oJ (d:Array O) (a b:Nat) (h:b<=a):SortedIn lt a b d:=fun _ _ _ _ _=>by omega
theorem dX (h:SortedIn lt a b d) (he:∀p,a<=p->p < b->r[p]! =d[p]!):SortedIn lt a b r:=fun i j hi hij hj=>by
 rw[he i hi (by omega),he j (by omega) hj];exact h i j hi hij hj
theorem E8 {a mid b:Nat} (h1:SortedIn lt a mid d) (h2:SortedIn lt mid b d) (hc:∀i j,a<=i->i < mid->mid<=j->j < b->lt d[j]! d[i]! =false):SortedIn lt a b d:=fun i j hi hij hj=>by
 by_cases c1:j < mid
 ·exact h1 i j hi hij c1
 ·by_cases c2:i < mid
  ·exact hc i j hi c2 (by omega) hj
  ·exact h2 i j (by omega) hij hj
theorem Iw {a mid b:Nat} (hb:b<=d.size) (hm:mid<=b) (hc:∀i j,a<=i->i < mid->mid<=j->j < b->lt d[j]! d[i]! =false) (hP:PermIn a mid d r):∀i j,a<=i->i < mid->mid<=j->j < b->lt r[j]! r[i]! =false:=by
 intro i j hi hi2 hj hj2;rw[hP.2.1 j (Or.inr hj)];exact permIn_all d r a mid (fun x=>lt d[j]! x=false) (by omega) hP (fun k hk hk2=>hc k j hk hk2 hj hj2) i hi hi2
theorem E9 {a mid b:Nat} (hb:b<=d.size) (hc:∀i j,a<=i->i < mid->mid<=j->j < b->lt d[j]! d[i]! =false) (hP:PermIn mid b d r):∀i j,a<=i->i < mid->mid<=j->j < b->lt r[j]! r[i]! =false:=by
 intro i j hi hi2 hj hj2;rw[hP.2.1 i (Or.inl hi2)];exact permIn_all d r mid b (fun x=>lt x d[i]! =false) hb hP (fun k hk hk2=>hc i k hi hi2 hk hk2) j hj hj2
def Merged (lt:O->O->Bool) (a b:Nat) (d r:Array O):Prop:=PermIn a b d r∧SortedIn lt a b r
theorem kJ.done {a s mid e b:Nat} {d3:Array O} (h:kJ lt a s mid e b d) (hb:b<=d.size) (ham:a<=mid) (hmb:mid<=b) (m1:Merged lt a mid d d2) (m2:Merged lt mid b d2 d3):Merged lt a b d d3:=by
 have z:d2.size=d.size:=m1.1.1;refine⟨permIn_trans _ _ _ _ _ (permIn_mono _ _ _ _ _ _ (Nat.le_refl _) hmb hb m1.1) (permIn_mono _ _ _ _ _ _ ham (Nat.le_refl _) (by omega) m2.1),E8 ?_ m2.2 ?_⟩
 ·exact dX m1.2 fun p _ hp=>m2.1.2.1 p (Or.inl hp)
 ·exact E9 (by omega) (Iw hb hmb h.cross m1.1) m2.1
theorem kJ.right {a s mid e b:Nat} (h:kJ lt a s mid e b d) (m1:Merged lt a mid d d2):SortedIn lt mid e d2∧SortedIn lt e b d2∨e < mid:=by
 by_cases c:e < mid
 ·exact Or.inr c
 ·exact Or.inl ⟨dX h.h3 fun p hp _=>m1.1.2.1 p (Or.inr hp),dX h.h4 fun p hp _=>m1.1.2.1 p (Or.inr (by omega))⟩
theorem dY (h1:SortedIn lt a s d) (h2:SortedIn lt s b d) (h:s<=a∨b<=s):Merged lt a b d d:=by
 refine⟨permIn_refl _ _ _,?_⟩;intro i j hi hij hj
 rcases h with h | h
 ·exact h2 i j (by omega) hij hj
 ·exact h1 i j hi hij (by omega)
def Ro (lt:O->O->Bool) (s n:Nat) (d:Array O):Prop:=∀c,SortedIn lt (c * s) (min (c * s+s) n) d
structure rW (lt:O->O->Bool) (s n t:Nat) (d:Array O):Prop where
 two:∀c,c < t->SortedIn lt (c * (2 * s)) (c * (2 * s)+2 * s) d
 one:∀c,2 * t<=c->SortedIn lt (c * s) (min (c * s+s) n) d
theorem Ro.mid (h:Ro lt s n d):rW lt s n 0 d:=⟨fun _ hc=>by omega,fun c _=>h c⟩
theorem yH {c:Nat} (h:c < t):c * s+s<=t * s:=by
 rw[<-Nat.succ_mul];exact Nat.mul_le_mul_right s h
theorem uC (t s:Nat):(2 * t) * s=t * (2 * s):=by rw[Nat.mul_comm 2 t,Nat.mul_assoc]
theorem rW.step (h:rW lt s n t d) (m:Merged lt (t * (2 * s)) (t * (2 * s)+2 * s) d r):rW lt s n (t+1) r:=by
 refine⟨fun c hc=> ?_,fun c hc=> ?_⟩
 ·by_cases e:c=t
  ·subst e;exact m.2
  ·have :=yH (s:=2 * s) (show c < t by omega)
   exact dX (h.two c (by omega)) fun p _ hp=>m.1.2.1 p (Or.inl (by omega))
 ·have q:(2 * (t+1)) * s<=c * s:=Nat.mul_le_mul_right s hc;rw[uC,Nat.succ_mul] at q
  exact dX (h.one c (by omega)) fun p hp _=>m.1.2.1 p (Or.inr (by omega))
theorem rW.ahead (h:rW lt s n t d):SortedIn lt (t * (2 * s)) (min (t * (2 * s)+s) n) d:=by
 have :=h.one (2 * t) (Nat.le_refl _);rw[uC] at this;exact this
theorem rW.next (h:rW lt s n t d):SortedIn lt (t * (2 * s)+s) (min (t * (2 * s)+2 * s) n) d:=by
 have :=h.one (2 * t+1) (by omega);rw[Nat.succ_mul,uC] at this;rw[show t * (2 * s)+2 * s=t * (2 * s)+s+s by omega];exact this
theorem rW.done (h:rW lt s n t d) (h2:n < t * (2 * s)+2 * s) (m:Merged lt (t * (2 * s)) n d r):Ro lt (2 * s) n r:=by
 intro c
 by_cases e:c < t
 ·have :=yH (s:=2 * s) e
  refine dX (d:=d) ?_ fun p _ hp=>m.1.2.1 p (Or.inl (by omega))
  intro i j hi hij hj;exact h.two c e i j hi hij (by omega)
 ·by_cases e2:c=t
  ·subst e2;intro i j hi hij hj;exact m.2 i j hi hij (by omega)
  ·have :=yH (s:=2 * s) (show t < c by omega);exact oJ _ _ _ (by omega)
theorem rW.last (h:rW lt s n t d) (h2:n<=t * (2 * s)+s):Merged lt (t * (2 * s)) n d d:=by
 refine⟨permIn_refl _ _ _,?_⟩;have :=h.ahead;rw[Nat.min_eq_right h2] at this;exact this
theorem Ro.whole (h:Ro lt s n d) (hs:n<=s):SortedIn lt 0 n d:=by
 have :=h 0;rw[Nat.zero_mul,Nat.zero_add,Nat.min_eq_right hs] at this;exact this
def qK (lt:O->O->Bool) (t:Nat) (d:Array O):Prop:=∀c,c < t->SortedIn lt (c * 20) (c * 20+20) d
theorem qK.step (h:qK lt t d) (hp:PermIn (t * 20) (t * 20+20) d r) (hs:SortedIn lt (t * 20) (t * 20+20) r):qK lt (t+1) r:=by
 intro c hc
 by_cases e:c=t
 ·subst e;exact hs
 ·exact dX (h c (by omega)) fun p _ hq=>hp.2.1 p (Or.inl (by omega))
theorem qK.blk (h:qK lt t d) (h2:n < t * 20+20) (hp:PermIn (t * 20) n d r) (hs:SortedIn lt (t * 20) n r):Ro lt 20 n r:=by
 intro c
 by_cases e:c < t
 ·refine dX (d:=d) ?_ fun p _ hq=>hp.2.1 p (Or.inl (by omega))
  intro i j hi hij hj;exact h c e i j hi hij (by omega)
 ·by_cases e2:c=t
  ·subst e2;intro i j hi hij hj;exact hs i j hi hij (by omega)
  ·exact oJ _ _ _ (by omega)
end
section
open Go.Proofs.Tryz Go.Joins Go.RowKit
variable {blk n lf sf:Nat} {lb sb:Array Value} {Hd:Array O->World->Prop} {d:Array O} {w wr w3:World}
structure dP (blk lf:Nat) (lb:Array Value) (sf:Nat) (sb:Array Value) (Hd:Array O->World->Prop) (w:World) (d':Array O) (wr:World):Prop where
 hd:Hd d' wr
 grown:w.grownBy wr (some blk)
 box:wr.heap[w.heap.size]? =some (.cells #[.func (.func lf) #[] lb,.func (.func sf) #[] sb] 215)
theorem dP.start (S:jK blk n lf lb sf sb Hd) (hd:Hd d w):
  dP blk lf lb sf sb Hd w d (w.alloc (.cells #[.func (.func lf) #[] lb,.func (.func sf) #[] sb] 215)):=
 ⟨S.kept _ _ _ hd (below_alloc1 _ _),World.grownBy_alloc _ _ _,heap_alloc_new _ _⟩
theorem dP.lt (h:dP blk lf lb sf sb Hd w d wr):w.heap.size < wr.heap.size:=(Array.getElem?_eq_some_iff.1 h.box).1
theorem dP.c0 (h:dP blk lf lb sf sb Hd w d wr):wr.cell? ⟨w.heap.size,0,none⟩=some (.func (.func lf) #[] lb):=by rw[cell_of_block h.box];rfl
theorem dP.c1 (h:dP blk lf lb sf sb Hd w d wr):wr.cell? ⟨w.heap.size,1,none⟩=some (.func (.func sf) #[] sb):=by rw[cell_of_block h.box];rfl
theorem dP.below (S:jK blk n lf lb sf sb Hd) (h:dP blk lf lb sf sb Hd w d wr) (hb:Below wr.heap.size wr w3):dP blk lf lb sf sb Hd w d w3:=
 ⟨S.kept _ _ _ h.hd hb,h.grown.trans ⟨hb.os,hb.tape,hb.output,hb.size,fun k hk _=>hb.block k hk⟩,(hb.block _ h.lt).trans h.box⟩
theorem dP.turn {d2:Array O} (h:dP blk lf lb sf sb Hd w d wr) (hb:blk < w.heap.size) (hH:Hd d2 w3) (hg:wr.grownBy w3 (some blk)):dP blk lf lb sf sb Hd w d2 w3:=
 ⟨hH,h.grown.trans hg,(hg.block _ h.lt (by simp;omega)).trans h.box⟩
theorem TT (S:jK blk n lf lb sf sb Hd) (hO:SWO dD) (d:Array O) (a m b:Nat) (w:World) (hd:Hd d w) (h1:m<=a+1) (h1':a < m) (h2:m < b) (h3:b<=n) (hn:n<=1000000) (hs:SortedIn dD m b d):
  Calls prog 209 #[.agg #[.func (.func lf) #[] lb,.func (.func sf) #[] sb],.int .i64 a,.int .i64 m,.int .i64 b] w fun e w'=>e= .returned (.tuple #[])∧∃d',Hd d' w'∧Merged dD a b d d'∧w.grownBy w' (some blk):=by
 have hlt:=S.lt d w hd;have hsz:=S.size d w hd;have HZ:=hid hsz;have HO:=hid hO;have r9:=hid hs;have HS:=hid S;have HD:=hid hd;have OZ:=S.enters
 have i1:(m:Int) -(a:Int)=1:=by omega
 have i3:(b:Int)<=1000000:=by omega
 have i4:(m:Int)<=1000000:=by omega
 have i5:(a:Int)<=1000000:=by omega
 clear S hd hs hO hsz;go_enter func209,ntmps209;go_wp2
 go_loopg [8,9] (b -m) (fun g v8 v9 wr=>∃(i j:Nat),m<=i∧i<=j∧j<=b∧j -i<=g∧v8= .int .i64 i∧v9= .int .i64 j∧Hid ((i=m∨dD d[i -1]! d[a]! =true)∧(j=b∨dD d[j]! d[a]! =false))∧Hid (dP blk lf lb sf sb Hd w d wr))
 case atStart=>exact⟨m,b,Nat.le_refl _,by omega,Nat.le_refl _,Nat.le_refl _,rfl,rfl,⟨Or.inl rfl,Or.inl rfl⟩,dP.start HS.out HD.out⟩
 case round=>
  obtain⟨i,j,TU,hij,hjb,hg,rfl,rfl,I,L⟩:=hrel;have hg':=hid hg;clear hg
  by_cases hlt2:i < j
  ·have k1:(i:Int) < (j:Int):=by omega
   have k2:(j:Int)<=1000000:=by omega
   have hl:=HS.out.less d wr ((i+j)/2) a L.out.hd (by omega) (by omega);rw[show(((i+j)/2:Nat):Int)=((i:Int)+(j:Int))/2 by omega] at hl;have c0:=L.out.c0;go_wp2_with fail;refine hl.mono ?_;rintro e w3 ⟨rfl,hb3⟩;have L3:Hid (dP blk lf lb sf sb Hd w d w3):=L.out.below HS.out hb3;clear hl hb3 c0 L
   by_cases hless:cO d[(i+j)/2]! d[a]! < 0
   ·rw[decide_eq_true hless];have I2:Hid (((i+j)/2+1=m∨dD d[(i+j)/2+1 -1]! d[a]! =true)∧(j=b∨dD d[j]! d[a]! =false)):=⟨Or.inr (by rw[Nat.add_sub_cancel];simp[dD,hless]),I.out.2⟩;clear hless;go_wp2
    go_roundg (j -((i+j)/2+1))
    case measure=>have :=hg'.out;omega
    case rel=>exact⟨(i+j)/2+1,j,by omega,by omega,hjb,Nat.le_refl _,by first | rfl | (congr 1;omega) | go_num,rfl,I2,L3⟩
   ·rw[decide_eq_false hless];have I2:Hid ((i=m∨dD d[i -1]! d[a]! =true)∧((i+j)/2=b∨dD d[(i+j)/2]! d[a]! =false)):=⟨I.out.1,Or.inr (by simp[dD,hless])⟩;clear hless;go_wp2
    go_roundg ((i+j)/2 -i)
    case measure=>have :=hg'.out;omega
    case rel=>exact⟨i,(i+j)/2,TU,by omega,by omega,Nat.le_refl _,rfl,by first | rfl | (congr 1;omega) | go_num,I2,L3⟩
  ·obtain rfl:i=j:=by omega
   have k1:¬((i:Int) < (i:Int)):=by omega
   have k2:(i:Int)<=1000000:=by omega
   have k3:(1:Int)<=(i:Int):=by omega
   have k4:(i:Int) -1=((i -1:Nat):Int):=by omega
   have HM:Hid (Merged dD a b d (wD d a (i -1 -a))):=by
    have hz:=HZ.out
    obtain rfl:m=a+1:=by omega
    exact⟨LH _ _ _ _ _ (Nat.le_refl _) (by omega) (by omega),LK HO.out d a b i TU hjb (by omega) r9.out I.out.1 I.out.2⟩
   go_wp2
   go_loopg [11] (i -1 -a) (fun g v11 wr=>∃(k:Nat),k<=i -1 -a∧g=i -1 -a -k∧v11= .int .i64 ((a+k:Nat):Int)∧Hid (dP blk lf lb sf sb Hd w (wD d a k) wr))
   case atStart=>exact⟨0,Nat.zero_le _,rfl,rfl,L⟩
   case round=>
    obtain⟨k,hk,hg2,rfl,L2⟩:=hrel;have HG2:=hid hg2;clear hg2
    have q2:((a+k:Nat):Int)+1=((a+k+1:Nat):Int):=by omega
    have q3:((a+k:Nat):Int)<=1000000:=by omega
    have q4:(0:Int)<=((a+k:Nat):Int):=by omega
    by_cases hk2:k < i -1 -a
    ·obtain⟨W4,hrun,EC,hg4⟩:=HS.out.swap _ wr (a+k) (a+k+1) L2.out.hd (by omega) (by omega);have L4:Hid (dP blk lf lb sf sb Hd w (wD d a (k+1)) W4):=L2.out.turn hlt EC hg4;have c1:=L2.out.c1
     have q1:((a+k:Nat):Int) < ((i -1:Nat):Int):=by omega
     rw[<-q2] at hrun;clear EC hg4 q2;generalize hX:((a+k:Nat):Int)=X at *;go_wp2
     go_roundg (i -1 -a -(k+1))
     case measure=>have :=HG2.out;omega
     case rel=>exact⟨k+1,by omega,rfl,by first | rfl | (congr 1;omega) | go_num,L4⟩
    ·have e1:Hid (k=i -1 -a):=by show k=i -1 -a;omega
     have q1:¬(((a+k:Nat):Int) < ((i -1:Nat):Int)):=by omega
     clear q2;generalize hX:((a+k:Nat):Int)=X at *;go_wp2
     (try simp only[Exit.inBlock,Exit.then]);refine bodyPost_ret (results_none rfl _ _ _) rfl ?_
     exact⟨rfl,_,L2.out.hd,by rw[e1.out];exact HM.out,L2.out.grown⟩
theorem Q7 (S:jK blk n lf lb sf sb Hd) (hO:SWO dD) (d:Array O) (a m b:Nat) (w:World) (hd:Hd d w) (h0:a+1 < m) (h1:b<=m+1) (h1':m < b) (h3:b<=n) (hn:n<=1000000) (hs:SortedIn dD a m d):
  Calls prog 209 #[.agg #[.func (.func lf) #[] lb,.func (.func sf) #[] sb],.int .i64 a,.int .i64 m,.int .i64 b] w fun e w'=>e= .returned (.tuple #[])∧∃d',Hd d' w'∧Merged dD a b d d'∧w.grownBy w' (some blk):=by
 have hlt:=S.lt d w hd;have hsz:=S.size d w hd;have HZ:=hid hsz;have HO:=hid hO;have r9:=hid hs;have HS:=hid S;have HD:=hid hd;have OZ:=S.enters
 have i1:((m:Int) -(a:Int)==1)=false:=by rw[beq_eq_false_iff_ne];omega
 have i1':(m:Int) -(a:Int)≠1:=by omega
 have i2:(b:Int) -(m:Int)=1:=by omega
 have i3:(b:Int)<=1000000:=by omega
 have i4:(m:Int)<=1000000:=by omega
 have i5:(a:Int)<=1000000:=by omega
 clear S hd hs hO hsz;go_enter func209,ntmps209;go_wp2
 go_loopg [12,13] (m -a) (fun g v8 v9 wr=>∃(i j:Nat),a<=i∧i<=j∧j<=m∧j -i<=g∧v8= .int .i64 i∧v9= .int .i64 j∧Hid ((i=a∨dD d[m]! d[i -1]! =false)∧(j=m∨dD d[m]! d[j]! =true))∧Hid (dP blk lf lb sf sb Hd w d wr))
 case atStart=>exact⟨a,m,Nat.le_refl _,by omega,Nat.le_refl _,Nat.le_refl _,rfl,rfl,⟨Or.inl rfl,Or.inl rfl⟩,dP.start HS.out HD.out⟩
 case round=>
  obtain⟨i,j,TU,hij,hjb,hg,rfl,rfl,I,L⟩:=hrel;have hg':=hid hg;clear hg
  by_cases hlt2:i < j
  ·have k1:(i:Int) < (j:Int):=by omega
   have k2:(j:Int)<=1000000:=by omega
   have hl:=HS.out.less d wr m ((i+j)/2) L.out.hd (by omega) (by omega);rw[show(((i+j)/2:Nat):Int)=((i:Int)+(j:Int))/2 by omega] at hl;have c0:=L.out.c0;go_wp2_with fail;refine hl.mono ?_;rintro e w3 ⟨rfl,hb3⟩;have L3:Hid (dP blk lf lb sf sb Hd w d w3):=L.out.below HS.out hb3;clear hl hb3 c0 L
   by_cases hless:cO d[m]! d[(i+j)/2]! < 0
   ·rw[decide_eq_true hless];have I2:Hid ((i=a∨dD d[m]! d[i -1]! =false)∧((i+j)/2=m∨dD d[m]! d[(i+j)/2]! =true)):=⟨I.out.1,Or.inr (by simp[dD,hless])⟩;clear hless;go_wp2
    go_roundg ((i+j)/2 -i)
    case measure=>have :=hg'.out;omega
    case rel=>exact⟨i,(i+j)/2,TU,by omega,by omega,Nat.le_refl _,rfl,by first | rfl | (congr 1;omega) | go_num,I2,L3⟩
   ·rw[decide_eq_false hless];have I2:Hid (((i+j)/2+1=a∨dD d[m]! d[(i+j)/2+1 -1]! =false)∧(j=m∨dD d[m]! d[j]! =true)):=⟨Or.inr (by rw[Nat.add_sub_cancel];simp[dD,hless]),I.out.2⟩;clear hless;go_wp2
    go_roundg (j -((i+j)/2+1))
    case measure=>have :=hg'.out;omega
    case rel=>exact⟨(i+j)/2+1,j,by omega,by omega,hjb,Nat.le_refl _,by first | rfl | (congr 1;omega) | go_num,rfl,I2,L3⟩
  ·obtain rfl:i=j:=by omega
   have k1:¬((i:Int) < (i:Int)):=by omega
   have k2:(i:Int)<=1000000:=by omega
   have HM:Hid (Merged dD a b d (wE d m (m -i))):=by
    have hz:=HZ.out
    obtain rfl:b=m+1:=by omega
    exact⟨LJ _ _ _ _ _ (by omega) (by omega) (by omega),LM HO.out d a m i TU hjb (by omega) r9.out I.out.1 I.out.2⟩
   go_wp2
   go_loopg [15] (m -i) (fun g v15 wr=>∃(k:Nat),k<=m -i∧g=m -i -k∧v15= .int .i64 ((m -k:Nat):Int)∧Hid (dP blk lf lb sf sb Hd w (wE d m k) wr))
   case atStart=>exact⟨0,Nat.zero_le _,rfl,rfl,L⟩
   case round=>
    obtain⟨k,hk,hg2,rfl,L2⟩:=hrel;have HG2:=hid hg2;clear hg2
    have q3:((m -k:Nat):Int)<=1000000:=by omega
    have q4:(0:Int)<=((m -k:Nat):Int):=by omega
    by_cases hk2:k < m -i
    ·obtain⟨W4,hrun,EC,hg4⟩:=HS.out.swap _ wr (m -k) (m -k -1) L2.out.hd (by omega) (by omega)
     have q2:((m -k:Nat):Int) -1=((m -k -1:Nat):Int):=by omega
     have L4:Hid (dP blk lf lb sf sb Hd w (wE d m (k+1)) W4):=L2.out.turn hlt EC hg4;have c1:=L2.out.c1
     have q1:(i:Int) < ((m -k:Nat):Int):=by omega
     rw[<-q2] at hrun;clear EC hg4 q2;generalize hX:((m -k:Nat):Int)=X at *;go_wp2
     go_roundg (m -i -(k+1))
     case measure=>have :=HG2.out;omega
     case rel=>exact⟨k+1,by omega,rfl,by first | rfl | (congr 1;omega) | go_num,L4⟩
    ·have e1:Hid (k=m -i):=by show k=m -i;omega
     have q1:¬((i:Int) < ((m -k:Nat):Int)):=by omega
     generalize hX:((m -k:Nat):Int)=X at *;go_wp2
     (try simp only[Exit.inBlock,Exit.then]);refine bodyPost_ret (results_none rfl _ _ _) rfl ?_
     exact⟨rfl,_,L2.out.hd,by rw[e1.out];exact HM.out,L2.out.grown⟩
end
end Go.Proofs.YthfpipieboophaaGreatDoor
