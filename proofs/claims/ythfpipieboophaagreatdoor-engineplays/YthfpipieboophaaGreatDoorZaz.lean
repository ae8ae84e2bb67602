import Derived.Sort.LotA
import Derived.Sort.LotD4
import Derived.Test.YthfpipieboophaaGreatDoorZaa
namespace Go.Proofs.YthfpipieboophaaGreatDoor
set_option maxRecDepth 100000
set_option maxHeartbeats 40000000
open Go.Joins Go.RowKit Go.Sort
section
open Go.Proofs.Tryz
variable {α:Type} {B blk n lf sf:Nat} {lb sb:Array Value}
structure si {α:Type} [Inhabited α] (lt:α->α->Bool) (B blk n:Nat) (lf:Nat) (lb:Array Value) (sf:Nat) (sb:Array Value) (Hd:Array α->World->Prop):Prop where
 size:∀d W,Hd d W->d.size=n
 low:∀d W,Hd d W->blk < B∧B<=W.heap.size
 kept:∀d W W',Hd d W->Below B W W'->Hd d W'
 enters:∀args w,(callFunc lf args).run prog w= .ok (.enter lf args) w
 less:∀d W i j,Hd d W->i < n->j < n->Calls prog lf (#[.int .i64 (i:Nat),.int .i64 (j:Nat)]++lb) W fun e w'=>e= .returned (.bool (lt d[i]! d[j]!))∧Below W.heap.size W w'
 swap:∀d W i j,Hd d W->i < n->j < n->∃W',(callFunc sf (#[.int .i64 (i:Nat),.int .i64 (j:Nat)]++sb)).run prog W= .ok (.value (.tuple #[])) W'∧Hd (swp d i j) W'∧W.grownBy W' (some blk)
theorem si.still [Inhabited α] {lt:α->α->Bool} {Hd:Array α->World->Prop} (S:si lt B blk n lf lb sf sb Hd) (d:Array α) (W W':World) (h:Hd d W) (hb:Below W.heap.size W W'):Hd d W':=
 S.kept d W W' h (hb.mono (S.low d W h).2)
theorem si.blt [Inhabited α] {lt:α->α->Bool} {Hd:Array α->World->Prop} (S:si lt B blk n lf lb sf sb Hd) (d:Array α) (W:World) (h:Hd d W):blk < W.heap.size:=
 Nat.lt_of_lt_of_le (S.low d W h).1 (S.low d W h).2
theorem WA [Inhabited α] {lt:α->α->Bool} {Hd:Array α->World->Prop} (S:si lt B blk n lf lb sf sb Hd) (d:Array α) (a b:Nat) (w:World) (hd:Hd d w) (h2:b<=n) (hn:n<=1000000) (ha:a<=1000000):
  Calls prog 208 #[.agg #[.func (.func lf) #[] lb,.func (.func sf) #[] sb],.int .i64 a,.int .i64 b] w fun e w'=>e= .returned (.tuple #[])∧Hd (insertionSort lt d a b) w'∧w.grownBy w' (some blk):=by
 have hlt:=S.blt d w hd;have HS:=hid S;have HD:=hid hd;have OZ:=S.enters
 have i3:(b:Int)<=1000000:=by omega
 have i5:(a:Int)<=1000000:=by omega
 clear S hd;go_enter func208,ntmps208;go_wp2
 go_loopg [6] (b+1 -(a+1)) (fun g v6 wr=>∃(i:Nat) (d':Array α),a+1<=i∧i<=1000001∧g=b+1 -i∧v6= .int .i64 i∧insOuter lt a b i d'=insertionSort lt d a b∧Hd d' wr∧w.grownBy wr (some blk)∧wr.heap[w.heap.size]? =some (.cells #[.func (.func lf) #[] lb,.func (.func sf) #[] sb] 215))
 case atStart=>exact⟨a+1,d,Nat.le_refl _,by omega,rfl,by go_num,rfl,HS.out.still _ _ _ HD.out (below_alloc1 _ _),World.grownBy_alloc _ _ _,heap_alloc_new _ _⟩
 case round=>
  obtain⟨i,d',hi,hi2,hg,rfl,hR',hH,hB,fO⟩:=hrel;have HG:=hid hg;have HH:=hid hH;have HB:=hid hB;have HX:=hid fO;have HR:=hid hR';clear hg hR' hH hB fO
  by_cases hib:i < b
  ·have k1:(i:Int) < (b:Int):=by omega
   have k2:(a:Int) < (i:Int):=by omega
   have HR2:Hid (insOuter lt a b (i+1) (insInner lt a i d')=insertionSort lt d a b):=by
    have hr:=HR.out;rw[insOuter,if_pos hib] at hr;exact hr
   go_wp2
   go_loopg [7] (i+1) (fun g v7 wr=>∃(j:Nat) (d2:Array α),a<=j∧j<=i∧g=j+1∧v7= .int .i64 j∧insInner lt a j d2=insInner lt a i d'∧Hd d2 wr∧w.grownBy wr (some blk)∧wr.heap[w.heap.size]? =some (.cells #[.func (.func lf) #[] lb,.func (.func sf) #[] sb] 215))
   case atStart=>exact⟨i,d',by omega,Nat.le_refl _,rfl,rfl,rfl,HH.out,HB.out,HX.out⟩
   case round=>
    obtain⟨j,d2,hj,hji,hg2,rfl,hR2,hH2,hB2,rR⟩:=hrel;have HG2:=hid hg2;have M5:=hid hH2;have HB2:=hid hB2;have XT:=hid rR;have HI:=hid hR2
    have c0:wr.cell? ⟨w.heap.size,0,none⟩=some (.func (.func lf) #[] lb):=by rw[cell_of_block rR];rfl
    have hz:w.heap.size < wr.heap.size:=(Array.getElem?_eq_some_iff.1 rR).1;clear hg2 hH2 hB2 rR hR2
    by_cases hja:a < j
    ·obtain⟨j',rfl⟩:∃j',j=j'+1:=⟨j -1,by omega⟩
     have m1:(a:Int) < ((j'+1:Nat):Int):=by omega
     have m2:((j'+1:Nat):Int) -1=(j':Int):=by omega
     have m3:((j'+1:Nat):Int)<=1000000:=by omega
     have hl:=HS.out.less d2 wr (j'+1) j' M5.out (by omega) (by omega);generalize hjj:((j'+1:Nat):Int)=J at *;go_wp2_with fail;refine hl.mono ?_;rintro e w3 ⟨rfl,hb3⟩;have XU:Hid (Hd d2 w3):=HS.out.still _ _ _ M5.out hb3;have HB3:Hid (w.grownBy w3 (some blk)):=HB2.out.trans ⟨hb3.os,hb3.tape,hb3.output,hb3.size,fun k hk _=>hb3.block k hk⟩;have Vk:Hid (w3.heap[w.heap.size]? =some (.cells #[.func (.func lf) #[] lb,.func (.func sf) #[] sb] 215)):=(hb3.block _ hz).trans XT.out;have hz3:w.heap.size < w3.heap.size:=Nat.lt_of_lt_of_le hz hb3.size
     have c3:w3.cell? ⟨w.heap.size,1,none⟩=some (.func (.func sf) #[] sb):=by rw[cell_of_block Vk.out];rfl
     clear hl hb3 c0
     by_cases hless:lt d2[j'+1]! d2[j']! =true
     ·rw[hless];obtain⟨W4,hrun,EC,hg4⟩:=HS.out.swap d2 w3 (j'+1) j' XU.out (by omega) (by omega);rw[hjj] at hrun
      have HN:Hid (Hd (swp d2 (j'+1) j') W4∧w.grownBy W4 (some blk)∧W4.heap[w.heap.size]? =some (.cells #[.func (.func lf) #[] lb,.func (.func sf) #[] sb] 215)):=
       ⟨EC,HB3.out.trans hg4,(hg4.block _ hz3 (by simp;omega)).trans Vk.out⟩
      have HI2:Hid (insInner lt a j' (swp d2 (j'+1) j')=insInner lt a i d'):=by
       have hr:=HI.out;rw[insInner,if_pos (by simp[hless];omega)] at hr;exact hr
      clear EC hg4 hless;go_wp2
      go_roundg (j'+1)
      case measure=>have :=HG2.out;omega
      case rel=>exact⟨j',_,by omega,by omega,rfl,by first | rfl | go_num | (congr 1),HI2.out,HN.out.1,HN.out.2.1,HN.out.2.2⟩
     ·rw[Bool.not_eq_true] at hless;rw[hless]
      have HI2:Hid (insInner lt a i d'=d2):=by
       have hr:=HI.out;rw[insInner,if_neg (by simp[hless])] at hr;exact hr.symm
      clear hless;go_wp2
      go_roundg (b+1 -(i+1))
      case measure=>have :=HG.out;omega
      case rel=>exact⟨i+1,d2,by omega,by omega,rfl,by go_num,by rw[<-HI2.out];exact HR2.out,XU.out,HB3.out,Vk.out⟩
    ·have e1:j=a:=by omega
     have m1:¬((a:Int) < (j:Int)):=by omega
     have HI2:Hid (insInner lt a i d'=d2):=by
      have hr:=HI.out
      cases j with
      | zero=>exact hr.symm
      | succ j'=>rw[insInner,if_neg (by simp;omega)] at hr;exact hr.symm
     go_wp2
     go_roundg (b+1 -(i+1))
     case measure=>have :=HG.out;omega
     case rel=>exact⟨i+1,d2,by omega,by omega,rfl,by go_num,by rw[<-HI2.out];exact HR2.out,M5.out,HB2.out,XT.out⟩
  ·clear i3
   have k1:¬((i:Int) < (b:Int)):=by omega
   go_wp2
   go_end0
   refine⟨rfl,?_,HB.out⟩;rw[<-HR.out,insOuter,if_neg hib];exact HH.out
end
section
open Go.Proofs.Tryz
variable {α:Type} {B blk n lf sf:Nat} {lb sb:Array Value}
theorem IV [Inhabited α] {lt:α->α->Bool} {Hd:Array α->World->Prop} (S:si lt B blk n lf lb sf sb Hd) (d:Array α) (a b:Nat) (w:World) (hd:Hd d w) (hb:b<=n) (hab:a < b) (hn:n<=1000000):
  Calls prog 258 #[.agg #[.func (.func lf) #[] lb,.func (.func sf) #[] sb],.int .i64 a,.int .i64 b] w fun e w'=>e= .returned (.tuple #[])∧Hd (reverseRange d a b) w'∧w.grownBy w' (some blk):=by
 have hlt:=S.blt d w hd;have HS:=hid S;have HD:=hid hd
 have j0:(b:Int) -1=((b -1:Nat):Int):=by omega
 have i3:(b:Int)<=1000000:=by omega
 clear S hd;go_enter func258,ntmps258;go_wp2
 go_loopg [6,7] (b -a) (fun g v6 v7 wr=>∃(i j:Nat) (d':Array α),i<=j+1∧j < n∧g=j+1 -i∧v6= .int .i64 i∧v7= .int .i64 j∧reverseLoop i j d'=reverseRange d a b∧Hd d' wr∧w.grownBy wr (some blk)∧wr.heap[w.heap.size]? =some (.cells #[.func (.func lf) #[] lb,.func (.func sf) #[] sb] 215))
 case atStart=>exact⟨a,b -1,d,by omega,by omega,by omega,rfl,by first | rfl | (rw[j0]) | (congr 1),rfl,HS.out.still _ _ _ HD.out (below_alloc1 _ _),World.grownBy_alloc _ _ _,heap_alloc_new _ _⟩
 case round=>
  obtain⟨i,j,d',hij,hj,hg,rfl,rfl,hR,hH,hB,fO⟩:=hrel;have HG:=hid hg;have HH:=hid hH;have HB:=hid hB;have HR:=hid hR
  have c1:wr.cell? ⟨w.heap.size,1,none⟩=some (.func (.func sf) #[] sb):=by rw[cell_of_block fO];rfl
  have hz:w.heap.size < wr.heap.size:=(Array.getElem?_eq_some_iff.1 fO).1;clear hg hR
  by_cases hlt2:i < j
  ·obtain⟨W',hrun,Gz,hgr⟩:=HS.out.swap _ wr i j hH (by omega) (by omega);have HN:Hid (Hd (swp d' i j) W'∧w.grownBy W' (some blk)∧W'.heap[w.heap.size]? =some (.cells #[.func (.func lf) #[] lb,.func (.func sf) #[] sb] 215)):=⟨Gz,hB.trans hgr,(hgr.block _ hz (by simp;omega)).trans fO⟩
   have HR2:Hid (reverseLoop (i+1) (j -1) (swp d' i j)=reverseRange d a b):=by
    have hr:=HR.out;rw[reverseLoop,if_pos hlt2] at hr;exact hr
   have k1:(i:Int) < (j:Int):=by omega
   have k2:(j:Int)<=1000000:=by omega
   clear hH hB fO Gz hgr;go_wp2
   go_roundg (j -1+1 -(i+1))
   case measure=>have :=HG.out;omega
   case rel=>exact⟨i+1,j -1,_,by omega,by omega,rfl,by go_num,by first | go_num | (congr 1;omega),HR2.out,HN.out.1,HN.out.2.1,HN.out.2.2⟩
  ·have k1:¬((i:Int) < (j:Int)):=by omega
   clear hH hB fO;go_wp2
   go_end0
   refine⟨rfl,?_,HB.out⟩;rw[<-HR.out,reverseLoop,if_neg hlt2];exact HH.out
structure kT (cb:Nat) (s:Int) (W:World):Prop where
 blk:W.heap[cb]? =some (.cells #[.int .i64 s] 3)
theorem kT.cells {cb:Nat} {s:Int} {W:World} (h:kT cb s W):W.cell? ⟨cb,0,none⟩=some (.int .i64 s)∧W.frozen? ⟨cb,0,none⟩=false∧cb < W.heap.size:=
 ⟨by rw[cell_of_block h.blk];rfl,unfrozen_of_block h.blk 0,(Array.getElem?_eq_some_iff.1 h.blk).1⟩
theorem Mw [Inhabited α] {lt:α->α->Bool} {Hd:Array α->World->Prop} (S:si lt B blk n lf lb sf sb Hd) (d:Array α) (a b cb:Nat) (s:Nat) (w:World) (hd:Hd d w) (ha:a < n) (hb:b < n) (hn:n<=1000000) (hs:s<=1000) (hc:kT cb s w) (hB:B<=cb):
  Calls prog 318 #[.agg #[.func (.func lf) #[] lb,.func (.func sf) #[] sb],.int .i64 a,.int .i64 b,.pointer (some ⟨cb,0,none⟩)] w fun e w'=>e= .returned (.tuple #[.int .i64 (order2 lt d a b s).1,.int .i64 (order2 lt d a b s).2.1])∧Hd d w'∧kT cb ((order2 lt d a b s).2.2:Nat) w'∧w.grownBy w' (some cb):=by
 have HS:=hid S;have OZ:=S.enters;have hcl:=hc.cells
 have HL:Hid (∀W,Below w.heap.size w W->Calls prog lf (#[.int .i64 (b:Nat),.int .i64 (a:Nat)]++lb) W fun e w'=>e= .returned (.bool (lt d[b]! d[a]!))∧(w'.cell? ⟨cb,0,none⟩=some (.int .i64 s)∧w'.frozen? ⟨cb,0,none⟩=false∧cb < w'.heap.size)∧Hid (Below w.heap.size w w')):=by
  intro W hW;refine(HS.out.less d W b a (HS.out.still _ _ _ hd hW) hb ha).mono ?_;rintro e w' ⟨rfl,hb'⟩;have h2:=hW.trans (hb'.mono hW.size);have h3:kT cb s w':=⟨(h2.block _ hcl.2.2).trans hc.blk⟩;exact⟨rfl,h3.cells,h2⟩
 have HA:Hid (Below w.heap.size w (w.alloc (.cells #[.func (.func lf) #[] lb,.func (.func sf) #[] sb] 215))):=below_alloc1 _ _
 have HE:Hid (∀W,Below w.heap.size w W->Hd d W∧kT cb s W∧w.grownBy W (some cb)):=fun W hW=>⟨HS.out.still _ _ _ hd hW,⟨(hW.block _ hcl.2.2).trans hc.blk⟩,⟨hW.os,hW.tape,hW.output,hW.size,fun k hk _=>hW.block k hk⟩⟩
 have HF:Hid (∀W,Below w.heap.size w W->Hd d (W.setCell ⟨cb,0,none⟩ (.int .i64 ((s+1:Nat):Int)))∧kT cb ((s+1:Nat):Int) (W.setCell ⟨cb,0,none⟩ (.int .i64 ((s+1:Nat):Int)))∧w.grownBy (W.setCell ⟨cb,0,none⟩ (.int .i64 ((s+1:Nat):Int))) (some cb)):=by
  intro W hW;have h1:=HE.out W hW;refine⟨HS.out.kept _ W _ h1.1 ((Below.refl B W).setCell (p:=⟨cb,0,none⟩) hB _),⟨by rw[block_setCell h1.2.1.blk];rfl⟩,h1.2.2.trans ⟨rfl,rfl,rfl,by simp,fun k hk hne=>Below.heap_setCell _ _ _ _ (fun e=>hne (by rw[e]))⟩⟩
 have i1:(a:Int)<=1000000:=by omega
 have i2:(b:Int)<=1000000:=by omega
 have i4:(s:Int)<=1000:=by omega
 unfold order2;clear S hd hc
 cases hl:lt d[b]! d[a]! with
 | true=>
  rw[hl] at HL;simp only[if_true];go_enter func318,ntmps318;go_wp2_with fail;refine(HL.out _ HA.out).mono ?_;rintro e w1 ⟨rfl,c1,h1⟩;go_wp2;go_ret2;exact⟨rfl,HF.out _ h1.out⟩
 | false=>
  rw[hl] at HL;simp only[Bool.false_eq_true,if_false];go_enter func318,ntmps318;go_wp2_with fail;refine(HL.out _ HA.out).mono ?_;rintro e w1 ⟨rfl,c1,h1⟩;go_wp2;go_ret2;exact⟨rfl,HE.out _ h1.out⟩
end
section
variable {α:Type}
theorem order2_lt [Inhabited α] (lt:α->α->Bool) (d:Array α) (a b s n:Nat) (ha:a < n) (hb:b < n):(order2 lt d a b s).1 < n∧(order2 lt d a b s).2.1 < n∧(order2 lt d a b s).2.2<=s+1:=by
 unfold order2
 split
 ·exact⟨hb,ha,Nat.le_refl _⟩
 ·exact⟨ha,hb,Nat.le_succ _⟩
structure gm {α:Type} (Hd:Array α->World->Prop) (d:Array α) (cb:Nat) (s:Nat) (bx:Nat) (o:Obj) (w W:World):Prop where
 hd:Hd d W
 c:kT cb s W
 box:W.heap[bx]? =some o
 g:w.grownBy W (some cb)
theorem uN [Inhabited α] {lt:α->α->Bool} {B blk n lf sf:Nat} {lb sb:Array Value} {Hd:Array α->World->Prop} (S:si lt B blk n lf lb sf sb Hd) (d:Array α) (a b c cb:Nat) (s:Nat) (w:World) (hd:Hd d w) (ha:a < n) (hb:b < n) (hcn:c < n) (hn:n<=1000000) (hs:s<=900) (hc:kT cb s w) (hB:B<=cb):
  Calls Tryz.prog 298 #[.agg #[.func (.func lf) #[] lb,.func (.func sf) #[] sb],.int .i64 a,.int .i64 b,.int .i64 c,.pointer (some ⟨cb,0,none⟩)] w fun e w'=>e= .returned (.int .i64 (median lt d a b c s).1)∧Hd d w'∧kT cb ((median lt d a b c s).2:Nat) w'∧w.grownBy w' (some cb):=by
 have hcl:=hc.cells
 have HO:Hid (∀(x y s':Nat) (W:World) (r:Nat×Nat×Nat),order2 lt d x y s'=r->x < n->y < n->s'<=1000->Hid (gm Hd d cb s' w.heap.size (.cells #[.func (.func lf) #[] lb,.func (.func sf) #[] sb] 215) w W)->Calls Tryz.prog 318 #[.agg #[.func (.func lf) #[] lb,.func (.func sf) #[] sb],.int .i64 x,.int .i64 y,.pointer (some ⟨cb,0,none⟩)] W fun e w'=>e= .returned (.tuple #[.int .i64 r.1,.int .i64 r.2.1])∧(w'.cell? ⟨w.heap.size,0,none⟩=some (.func (.func lf) #[] lb)∧w'.cell? ⟨w.heap.size,1,none⟩=some (.func (.func sf) #[] sb))∧Hid (gm Hd d cb r.2.2 w.heap.size (.cells #[.func (.func lf) #[] lb,.func (.func sf) #[] sb] 215) w w')):=by
  rintro x y s' W r rfl hx hy hs' hM;refine(Mw S d x y cb s' W hM.out.hd hx hy hn hs' hM.out.c hB).mono ?_;rintro e w' ⟨rfl,h1,h2,h3⟩;have hz:=(Array.getElem?_eq_some_iff.1 hM.out.box).1;have hb2:=(h3.block _ hz (by simp;omega)).trans hM.out.box;exact⟨rfl,⟨by rw[cell_of_block hb2];rfl,by rw[cell_of_block hb2];rfl⟩,h1,h2,hb2,hM.out.g.trans h3⟩
 have H0:Hid (gm Hd d cb s w.heap.size (.cells #[.func (.func lf) #[] lb,.func (.func sf) #[] sb] 215) w (w.alloc (.cells #[.func (.func lf) #[] lb,.func (.func sf) #[] sb] 215))):=⟨S.still _ _ _ hd (below_alloc1 _ _),⟨(Below.heap_alloc _ _ _ hcl.2.2).trans hc.blk⟩,heap_alloc_new _ _,World.grownBy_alloc _ _ _⟩;have l1:=order2_lt lt d a b s n ha hb;obtain⟨r1,e1⟩:∃r,order2 lt d a b s=r:=⟨_,rfl⟩;rw[e1] at l1;have l2:=order2_lt lt d r1.2.1 c r1.2.2 n l1.2.1 hcn;obtain⟨r2,e2⟩:∃r,order2 lt d r1.2.1 c r1.2.2=r:=⟨_,rfl⟩;rw[e2] at l2;obtain⟨r3,e3⟩:∃r,order2 lt d r1.1 r2.1 r2.2.2=r:=⟨_,rfl⟩
 have em:median lt d a b c s=(r3.2.1,r3.2.2):=by simp only[median,e1,e2,e3]
 rw[em];have HA:Hid (order2 lt d a b s=r1∧a < n∧b < n∧s<=1000):=⟨e1,ha,hb,by omega⟩;have HB:Hid (order2 lt d r1.2.1 c r1.2.2=r2∧r1.2.1 < n∧c < n∧r1.2.2<=1000):=⟨e2,l1.2.1,hcn,by omega⟩;have HC:Hid (order2 lt d r1.1 r2.1 r2.2.2=r3∧r1.1 < n∧r2.1 < n∧r2.2.2<=1000):=⟨e3,l1.1,l2.1,by omega⟩;clear S hd hc hcl l1 l2 e1 e2 e3 em;go_enter Tryz.func298,Tryz.ntmps298;go_wp2_with fail;refine(HO.out a b s _ r1 HA.out.1 HA.out.2.1 HA.out.2.2.1 HA.out.2.2.2 H0).mono ?_;rintro e w1 ⟨rfl,c1,h1⟩;go_wp2_with fail;refine(HO.out r1.2.1 c r1.2.2 _ r2 HB.out.1 HB.out.2.1 HB.out.2.2.1 HB.out.2.2.2 h1).mono ?_;rintro e w2 ⟨rfl,c2,h2⟩;clear c1;go_wp2_with fail;refine(HO.out r1.1 r2.1 r2.2.2 _ r3 HC.out.1 HC.out.2.1 HC.out.2.2.1 HC.out.2.2.2 h2).mono ?_;rintro e w3 ⟨rfl,c3,h3⟩;go_wp2;go_ret;exact⟨rfl,h3.out.hd,h3.out.c,h3.out.g⟩
end
section
variable {α:Type}
theorem Mx [Inhabited α] (lt:α->α->Bool) (d:Array α) (a b c s n:Nat) (ha:a < n) (hb:b < n) (hc:c < n):(median lt d a b c s).1 < n∧(median lt d a b c s).2<=s+3:=by
 have l1:=order2_lt lt d a b s n ha hb;have l2:=order2_lt lt d (order2 lt d a b s).2.1 c (order2 lt d a b s).2.2 n l1.2.1 hc;have l3:=order2_lt lt d (order2 lt d a b s).1 (order2 lt d (order2 lt d a b s).2.1 c (order2 lt d a b s).2.2).1 (order2 lt d (order2 lt d a b s).2.1 c (order2 lt d a b s).2.2).2.2 n l1.1 l2.1;refine⟨l3.2.1,?_⟩;show(order2 lt d (order2 lt d a b s).1 (order2 lt d (order2 lt d a b s).2.1 c (order2 lt d a b s).2.2).1 (order2 lt d (order2 lt d a b s).2.1 c (order2 lt d a b s).2.2).2.2).2.2<=s+3;omega
theorem MB [Inhabited α] {lt:α->α->Bool} {B blk n lf sf:Nat} {lb sb:Array Value} {Hd:Array α->World->Prop} (S:si lt B blk n lf lb sf sb Hd) (d:Array α) (a cb:Nat) (s:Nat) (w:World) (hd:Hd d w) (h1:1<=a) (ha:a+1 < n) (hn:n<=1000000) (hs:s<=900) (hc:kT cb s w) (hB:B<=cb):
  Calls Tryz.prog 297 #[.agg #[.func (.func lf) #[] lb,.func (.func sf) #[] sb],.int .i64 a,.pointer (some ⟨cb,0,none⟩)] w fun e w'=>e= .returned (.int .i64 (medianAdjacent lt d a s).1)∧Hd d w'∧kT cb ((medianAdjacent lt d a s).2:Nat) w'∧w.grownBy w' (some cb):=by
 have hcl:=hc.cells;unfold medianAdjacent
 have i1:(a:Int) -1=((a -1:Nat):Int):=by omega
 have i2:(a:Int)+1=((a+1:Nat):Int):=by omega
 have i3:(a:Int)<=1000000:=by omega
 have i4:(1:Int)<=(a:Int):=by omega
 have HM:Hid (Calls Tryz.prog 298 #[.agg #[.func (.func lf) #[] lb,.func (.func sf) #[] sb],.int .i64 ((a:Int) -1),.int .i64 a,.int .i64 ((a:Int)+1),.pointer (some ⟨cb,0,none⟩)] (w.alloc (.cells #[.func (.func lf) #[] lb,.func (.func sf) #[] sb] 215)) fun e w'=>e= .returned (.int .i64 (median lt d (a -1) a (a+1) s).1)∧Hid (Hd d w'∧kT cb ((median lt d (a -1) a (a+1) s).2:Nat) w'∧w.grownBy w' (some cb))):=by
  rw[i1,i2];refine(uN S d (a -1) a (a+1) cb s (w.alloc (.cells #[.func (.func lf) #[] lb,.func (.func sf) #[] sb] 215)) (S.still _ _ _ hd (below_alloc1 _ _)) (by omega) (by omega) ha hn hs ⟨(Below.heap_alloc _ _ _ hcl.2.2).trans hc.blk⟩ hB).mono ?_;rintro e w' ⟨rfl,h1,h2,h3⟩;exact⟨rfl,h1,h2,(World.grownBy_alloc _ _ _).trans h3⟩
 clear S hd hc hcl i1 i2;generalize (median lt d (a -1) a (a+1) s).1=m at *;generalize (median lt d (a -1) a (a+1) s).2=s' at *;go_enter Tryz.func297,Tryz.ntmps297;go_wp2_with fail;refine HM.out.mono ?_;rintro e w1 ⟨rfl,h1⟩;go_wp2;go_ret;exact⟨rfl,h1.out⟩
end
section
open Go.Proofs.Tryz
variable {α:Type} {B blk n lf sf:Nat} {lb sb:Array Value}
structure Uv {α:Type} (Hd:Array α->World->Prop) (d:Array α) (s:Nat) (o:Obj) (w W:World):Prop where
 hd:Hd d W
 c:kT (w.heap.size+1) s W
 box:W.heap[w.heap.size]? =some o
 low:Below w.heap.size w W
theorem Uv.next {Hd:Array α->World->Prop} {d:Array α} {s s':Nat} {o:Obj} {w W W':World} (h:Uv Hd d s o w W) (h1:Hd d W') (h2:kT (w.heap.size+1) s' W') (h3:W.grownBy W' (some (w.heap.size+1))):Uv Hd d s' o w W':=
 ⟨h1,h2,(h3.block _ (Array.getElem?_eq_some_iff.1 h.box).1 (by simp)).trans h.box,h.low.grown h3 h.low.size (fun k e=>by cases e;omega)⟩
theorem CZ [Inhabited α] {lt:α->α->Bool} {Hd:Array α->World->Prop} (S:si lt B blk n lf lb sf sb Hd) (d:Array α) (a b:Nat) (w:World) (hd:Hd d w) (hab:a<=b) (hb:b<=n) (hn:n<=1000000) (h8:b -a < 8):
  Calls prog 257 #[.agg #[.func (.func lf) #[] lb,.func (.func sf) #[] sb],.int .i64 a,.int .i64 b] w fun e w'=>e= .returned (.tuple #[.int .i64 (choosePivot lt d a b).1,.int .i64 (hintCode (choosePivot lt d a b).2)])∧Hd d w'∧Below w.heap.size w w':=by
 have HE:Hid (Hd d ((w.alloc (.cells #[.func (.func lf) #[] lb,.func (.func sf) #[] sb] 215)).alloc (.cells #[.int .i64 0] 3))∧Below w.heap.size w ((w.alloc (.cells #[.func (.func lf) #[] lb,.func (.func sf) #[] sb] 215)).alloc (.cells #[.int .i64 0] 3))):=⟨S.still _ _ _ hd (below_alloc2 _ _ _),below_alloc2 _ _ _⟩
 have i1:(b:Int) -(a:Int)=((b -a:Nat):Int):=by omega
 have i2:(a:Int)<=1000000:=by omega
 have i3:(b:Int)<=1000000:=by omega
 have i4:((b -a:Nat):Int) < 8:=by omega
 clear S hd;go_enter func257,ntmps257;go_wp2;go_ret2;refine⟨?_,HE.out⟩;rw[choosePivot_eq];unfold rawPivot;rw[if_neg (by omega)];show _=Ending.returned (.tuple #[.int .i64 ((a+(b -a)/4 * 2:Nat):Int),.int .i64 1]);rw[show((a+(b -a)/4 * 2:Nat):Int)=(a:Int)+((b -a:Nat):Int)/4 * 2 by omega];rfl
theorem Kq (s:Nat):(s=0∧hintCode (hintOf s)=1)∨(s=12∧hintCode (hintOf s)=2)∨((s:Int)≠0∧(s:Int)≠12∧hintCode (hintOf s)=0):=by
 unfold hintOf
 by_cases h0:s=0
 ·exact .inl ⟨h0,by rw[if_pos h0];rfl⟩
 ·by_cases h1:s=12
  ·exact .inr (.inl ⟨h1,by rw[if_neg h0,if_pos h1];rfl⟩)
  ·exact .inr (.inr ⟨by omega,by omega,by rw[if_neg h0,if_neg h1];rfl⟩)
theorem zY [Inhabited α] {lt:α->α->Bool} {Hd:Array α->World->Prop} (S:si lt B blk n lf lb sf sb Hd) (d:Array α) (a b:Nat) (w:World) (hd:Hd d w) (hab:a<=b) (hb:b<=n) (hn:n<=1000000) (h8:8<=b -a) (h50:b -a < 50):
  Calls prog 257 #[.agg #[.func (.func lf) #[] lb,.func (.func sf) #[] sb],.int .i64 a,.int .i64 b] w fun e w'=>e= .returned (.tuple #[.int .i64 (choosePivot lt d a b).1,.int .i64 (hintCode (choosePivot lt d a b).2)])∧Hd d w'∧Below w.heap.size w w':=by
 have hq:choosePivot lt d a b=((rawPivot lt d a b).1,hintOf (rawPivot lt d a b).2):=choosePivot_eq lt d a b
 have hr:rawPivot lt d a b=median lt d (a+(b -a)/4 * 1) (a+(b -a)/4 * 2) (a+(b -a)/4 * 3) 0:=by
  unfold rawPivot;rw[if_pos h8,if_neg (by omega)]
 have HB:=(S.low d w hd).2
 have P0:Uv Hd d 0 (.cells #[.func (.func lf) #[] lb,.func (.func sf) #[] sb] 215) w ((w.alloc (.cells #[.func (.func lf) #[] lb,.func (.func sf) #[] sb] 215)).alloc (.cells #[.int .i64 0] 3)):=by
  refine⟨S.still _ _ _ hd (below_alloc2 _ _ _),⟨?_⟩,(Below.heap_alloc _ _ _ (by simp)).trans (heap_alloc_new _ _),below_alloc2 _ _ _⟩;have :=heap_alloc_new (w.alloc (.cells #[.func (.func lf) #[] lb,.func (.func sf) #[] sb] 215)) (.cells #[.int .i64 0] 3)
  rwa [World.size_alloc] at this
 have HM:Hid (Calls prog 298 #[.agg #[.func (.func lf) #[] lb,.func (.func sf) #[] sb],.int .i64 ((a:Int)+((b -a:Nat):Int)/4),.int .i64 ((a:Int)+((b -a:Nat):Int)/4 * 2),.int .i64 ((a:Int)+((b -a:Nat):Int)/4 * 3),.pointer (some ⟨w.heap.size+1,0,none⟩)] ((w.alloc (.cells #[.func (.func lf) #[] lb,.func (.func sf) #[] sb] 215)).alloc (.cells #[.int .i64 0] 3)) fun e w'=>e= .returned (.int .i64 (rawPivot lt d a b).1)∧(w'.cell? ⟨w.heap.size+1,0,none⟩=some (.int .i64 ((rawPivot lt d a b).2:Nat)))∧Hid (Hd d w'∧Below w.heap.size w w')):=by
  rw[show(a:Int)+((b -a:Nat):Int)/4=((a+(b -a)/4 * 1:Nat):Int) by omega,show(a:Int)+((b -a:Nat):Int)/4 * 2=((a+(b -a)/4 * 2:Nat):Int) by omega,show(a:Int)+((b -a:Nat):Int)/4 * 3=((a+(b -a)/4 * 3:Nat):Int) by omega,hr];refine(uN S d _ _ _ (w.heap.size+1) 0 _ P0.hd (by omega) (by omega) (by omega) hn (by omega) P0.c (by omega)).mono ?_;rintro e w' ⟨rfl,h1,h2,h3⟩;have hp:=P0.next h1 h2 h3;exact⟨rfl,h2.cells.1,hp.hd,hp.low⟩
 rw[hq];simp only;clear hq hr P0 HB S hd;generalize (rawPivot lt d a b).1=m at *;generalize (rawPivot lt d a b).2=s at *
 have i1:(b:Int) -(a:Int)=((b -a:Nat):Int):=by omega
 have i2:(a:Int)<=1000000:=by omega
 have i3:(b:Int)<=1000000:=by omega
 have i4:((b -a:Nat):Int) < 50:=by omega
 have i5:(8:Int)<=((b -a:Nat):Int):=by omega
 rcases Kq s with⟨k0,k2⟩ | ⟨k0,k2⟩ | ⟨k0,k1,k2⟩
 all_goals (rw[k2];clear k2)
 ·subst k0;go_enter func257,ntmps257;go_wp2_with fail;refine HM.out.mono ?_;rintro e w1 ⟨rfl,c1,h1⟩;go_wp2;go_ret2;exact⟨rfl,h1.out⟩
 ·subst k0;go_enter func257,ntmps257;go_wp2_with fail;refine HM.out.mono ?_;rintro e w1 ⟨rfl,c1,h1⟩;go_wp2;go_ret2;exact⟨rfl,h1.out⟩
 ·go_enter func257,ntmps257;go_wp2_with fail;refine HM.out.mono ?_;rintro e w1 ⟨rfl,c1,h1⟩;go_wp2;go_ret2;exact⟨rfl,h1.out⟩
end
section
open Go.Proofs.Tryz
variable {α:Type} {B blk n lf sf:Nat} {lb sb:Array Value}
theorem uO [Inhabited α] (lt:α->α->Bool) (d:Array α) (a s n:Nat) (h1:1<=a) (ha:a+1 < n):(medianAdjacent lt d a s).1 < n∧(medianAdjacent lt d a s).2<=s+3:=Mx lt d (a -1) a (a+1) s n (by omega) (by omega) ha
theorem zZ [Inhabited α] {lt:α->α->Bool} {Hd:Array α->World->Prop} (S:si lt B blk n lf lb sf sb Hd) (d:Array α) (a b:Nat) (w:World) (hd:Hd d w) (hab:a<=b) (hb:b<=n) (hn:n<=1000000) (h50:50<=b -a):
  Calls prog 257 #[.agg #[.func (.func lf) #[] lb,.func (.func sf) #[] sb],.int .i64 a,.int .i64 b] w fun e w'=>e= .returned (.tuple #[.int .i64 (choosePivot lt d a b).1,.int .i64 (hintCode (choosePivot lt d a b).2)])∧Hd d w'∧Below w.heap.size w w':=by
 have hq:choosePivot lt d a b=((rawPivot lt d a b).1,hintOf (rawPivot lt d a b).2):=choosePivot_eq lt d a b;have HB:=(S.low d w hd).2
 have P0:Hid (Uv Hd d 0 (.cells #[.func (.func lf) #[] lb,.func (.func sf) #[] sb] 215) w ((w.alloc (.cells #[.func (.func lf) #[] lb,.func (.func sf) #[] sb] 215)).alloc (.cells #[.int .i64 0] 3))):=by
  refine⟨S.still _ _ _ hd (below_alloc2 _ _ _),⟨?_⟩,(Below.heap_alloc _ _ _ (by simp)).trans (heap_alloc_new _ _),below_alloc2 _ _ _⟩;have :=heap_alloc_new (w.alloc (.cells #[.func (.func lf) #[] lb,.func (.func sf) #[] sb] 215)) (.cells #[.int .i64 0] 3)
  rwa [World.size_alloc] at this
 have HA:Hid (∀(X:Int) (x s':Nat) (W:World) (r:Nat×Nat),X=(x:Int)->medianAdjacent lt d x s'=r->1<=x->x+1 < n->s'<=900->Hid (Uv Hd d s' (.cells #[.func (.func lf) #[] lb,.func (.func sf) #[] sb] 215) w W)->Calls prog 297 #[.agg #[.func (.func lf) #[] lb,.func (.func sf) #[] sb],.int .i64 X,.pointer (some ⟨w.heap.size+1,0,none⟩)] W fun e w'=>e= .returned (.int .i64 r.1)∧(w'.cell? ⟨w.heap.size,0,none⟩=some (.func (.func lf) #[] lb)∧w'.cell? ⟨w.heap.size,1,none⟩=some (.func (.func sf) #[] sb))∧Hid (Uv Hd d r.2 (.cells #[.func (.func lf) #[] lb,.func (.func sf) #[] sb] 215) w w')):=by
  rintro X x s' W r rfl rfl h1 h2 hs' hP;refine(MB S d x (w.heap.size+1) s' W hP.out.hd h1 h2 hn hs' hP.out.c (by omega)).mono ?_;rintro e w' ⟨rfl,g1,g2,g3⟩;have hp:=hP.out.next g1 g2 g3;exact⟨rfl,⟨by rw[cell_of_block hp.box];rfl,by rw[cell_of_block hp.box];rfl⟩,hp⟩
 obtain⟨r1,e1⟩:∃r,medianAdjacent lt d (a+(b -a)/4 * 1) 0=r:=⟨_,rfl⟩;obtain⟨r2,e2⟩:∃r,medianAdjacent lt d (a+(b -a)/4 * 2) r1.2=r:=⟨_,rfl⟩;obtain⟨r3,e3⟩:∃r,medianAdjacent lt d (a+(b -a)/4 * 3) r2.2=r:=⟨_,rfl⟩;have l1:=uO lt d (a+(b -a)/4 * 1) 0 n (by omega) (by omega);have l2:=uO lt d (a+(b -a)/4 * 2) r1.2 n (by omega) (by omega);have l3:=uO lt d (a+(b -a)/4 * 3) r2.2 n (by omega) (by omega);rw[e1] at l1;rw[e2] at l2;rw[e3] at l3
 have hr:rawPivot lt d a b=median lt d r1.1 r2.1 r3.1 r3.2:=by
  unfold rawPivot;rw[if_pos (by omega),if_pos h50,e1,e2,e3]
 have E1:Hid ((a:Int)+((b -a:Nat):Int)/4=((a+(b -a)/4 * 1:Nat):Int)∧medianAdjacent lt d (a+(b -a)/4 * 1) 0=r1∧1<=a+(b -a)/4 * 1∧a+(b -a)/4 * 1+1 < n∧0<=900):=⟨by omega,e1,by omega,by omega,by omega⟩;have E2:Hid ((a:Int)+((b -a:Nat):Int)/4 * 2=((a+(b -a)/4 * 2:Nat):Int)∧medianAdjacent lt d (a+(b -a)/4 * 2) r1.2=r2∧1<=a+(b -a)/4 * 2∧a+(b -a)/4 * 2+1 < n∧r1.2<=900):=⟨by omega,e2,by omega,by omega,by omega⟩;have E3:Hid ((a:Int)+((b -a:Nat):Int)/4 * 3=((a+(b -a)/4 * 3:Nat):Int)∧medianAdjacent lt d (a+(b -a)/4 * 3) r2.2=r3∧1<=a+(b -a)/4 * 3∧a+(b -a)/4 * 3+1 < n∧r2.2<=900):=⟨by omega,e3,by omega,by omega,by omega⟩
 have HM:Hid (∀W,Hid (Uv Hd d r3.2 (.cells #[.func (.func lf) #[] lb,.func (.func sf) #[] sb] 215) w W)->Calls prog 298 #[.agg #[.func (.func lf) #[] lb,.func (.func sf) #[] sb],.int .i64 r1.1,.int .i64 r2.1,.int .i64 r3.1,.pointer (some ⟨w.heap.size+1,0,none⟩)] W fun e w'=>e= .returned (.int .i64 (rawPivot lt d a b).1)∧(w'.cell? ⟨w.heap.size+1,0,none⟩=some (.int .i64 ((rawPivot lt d a b).2:Nat)))∧Hid (Hd d w'∧Below w.heap.size w w')):=by
  intro W hP;rw[hr];refine(uN S d _ _ _ (w.heap.size+1) r3.2 W hP.out.hd l1.1 l2.1 l3.1 hn (by omega) hP.out.c (by omega)).mono ?_;rintro e w' ⟨rfl,h1,h2,h3⟩;have hp:=hP.out.next h1 h2 h3;exact⟨rfl,h2.cells.1,hp.hd,hp.low⟩
 rw[hq];simp only;clear hq hr HB S hd e1 e2 e3 l1 l2 l3;generalize (rawPivot lt d a b).1=m at *;generalize (rawPivot lt d a b).2=s at *
 have i1:(b:Int) -(a:Int)=((b -a:Nat):Int):=by omega
 have i2:(a:Int)<=1000000:=by omega
 have i3:(b:Int)<=1000000:=by omega
 have i4:(50:Int)<=((b -a:Nat):Int):=by omega
 rcases Kq s with⟨k0,k2⟩ | ⟨k0,k2⟩ | ⟨k0,k1,k2⟩
 all_goals (rw[k2];clear k2)
 ·subst k0;go_enter func257,ntmps257;go_wp2_with fail;refine(HA.out _ _ 0 _ r1 E1.out.1 E1.out.2.1 E1.out.2.2.1 E1.out.2.2.2.1 E1.out.2.2.2.2 P0).mono ?_;rintro e w1 ⟨rfl,c1,h1⟩;go_wp2_with fail;refine(HA.out _ _ r1.2 _ r2 E2.out.1 E2.out.2.1 E2.out.2.2.1 E2.out.2.2.2.1 E2.out.2.2.2.2 h1).mono ?_;rintro e w2 ⟨rfl,c2,h2⟩;clear c1;go_wp2_with fail;refine(HA.out _ _ r2.2 _ r3 E3.out.1 E3.out.2.1 E3.out.2.2.1 E3.out.2.2.2.1 E3.out.2.2.2.2 h2).mono ?_;rintro e w3 ⟨rfl,c3,h3⟩;clear c2;go_wp2_with fail;refine(HM.out _ h3).mono ?_;rintro e w4 ⟨rfl,c4,h4⟩;clear c3;go_wp2;go_ret2;exact⟨rfl,h4.out⟩
 ·subst k0;go_enter func257,ntmps257;go_wp2_with fail;refine(HA.out _ _ 0 _ r1 E1.out.1 E1.out.2.1 E1.out.2.2.1 E1.out.2.2.2.1 E1.out.2.2.2.2 P0).mono ?_;rintro e w1 ⟨rfl,c1,h1⟩;go_wp2_with fail;refine(HA.out _ _ r1.2 _ r2 E2.out.1 E2.out.2.1 E2.out.2.2.1 E2.out.2.2.2.1 E2.out.2.2.2.2 h1).mono ?_;rintro e w2 ⟨rfl,c2,h2⟩;clear c1;go_wp2_with fail;refine(HA.out _ _ r2.2 _ r3 E3.out.1 E3.out.2.1 E3.out.2.2.1 E3.out.2.2.2.1 E3.out.2.2.2.2 h2).mono ?_;rintro e w3 ⟨rfl,c3,h3⟩;clear c2;go_wp2_with fail;refine(HM.out _ h3).mono ?_;rintro e w4 ⟨rfl,c4,h4⟩;clear c3;go_wp2;go_ret2;exact⟨rfl,h4.out⟩
 ·skip
  go_enter func257,ntmps257;go_wp2_with fail;refine(HA.out _ _ 0 _ r1 E1.out.1 E1.out.2.1 E1.out.2.2.1 E1.out.2.2.2.1 E1.out.2.2.2.2 P0).mono ?_;rintro e w1 ⟨rfl,c1,h1⟩;go_wp2_with fail;refine(HA.out _ _ r1.2 _ r2 E2.out.1 E2.out.2.1 E2.out.2.2.1 E2.out.2.2.2.1 E2.out.2.2.2.2 h1).mono ?_;rintro e w2 ⟨rfl,c2,h2⟩;clear c1;go_wp2_with fail;refine(HA.out _ _ r2.2 _ r3 E3.out.1 E3.out.2.1 E3.out.2.2.1 E3.out.2.2.2.1 E3.out.2.2.2.2 h2).mono ?_;rintro e w3 ⟨rfl,c3,h3⟩;clear c2;go_wp2_with fail;refine(HM.out _ h3).mono ?_;rintro e w4 ⟨rfl,c4,h4⟩;clear c3;go_wp2;go_ret2;exact⟨rfl,h4.out⟩
theorem QN [Inhabited α] {lt:α->α->Bool} {Hd:Array α->World->Prop} (S:si lt B blk n lf lb sf sb Hd) (d:Array α) (a b:Nat) (w:World) (hd:Hd d w) (hab:a<=b) (hb:b<=n) (hn:n<=1000000):
  Calls prog 257 #[.agg #[.func (.func lf) #[] lb,.func (.func sf) #[] sb],.int .i64 a,.int .i64 b] w fun e w'=>e= .returned (.tuple #[.int .i64 (choosePivot lt d a b).1,.int .i64 (hintCode (choosePivot lt d a b).2)])∧Hd d w'∧Below w.heap.size w w':=by
 rcases Nat.lt_or_ge (b -a) 8 with h | h
 ·exact CZ S d a b w hd hab hb hn h
 ·rcases Nat.lt_or_ge (b -a) 50 with h2 | h2
  ·exact zY S d a b w hd hab hb hn h h2
  ·exact zZ S d a b w hd hab hb hn h2
end
end Go.Proofs.YthfpipieboophaaGreatDoor
