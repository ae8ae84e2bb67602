import Derived.Shelf.SlIterI.Sorted
import Derived.Test.YthfpipieboophaaGreatDoorZGrx
namespace Go.Proofs.YthfpipieboophaaGreatDoor
set_option maxRecDepth 100000
set_option maxHeartbeats 40000000
open Go.RowKit Go.Maps Go.Sort Go.Shelf
section
open Go.Joins
variable {W w w':World} {b i1 i2 i3 i4 i:Nat} {u1 u2 u3 u4:Value} {cs:Array Value} {T:TypeId} {k:Int} {A:List O} {x:O}
theorem tY (x:O):(ah x).length=9:=rfl
theorem Hy (xs:List O) (k j:Nat) (x:O) (hx:xs[k]? =some x) (hj:j < 9):(xs.flatMap ah)[k * 9+j]? =(ah x)[j]? :=by
 induction xs generalizing k with
 | nil=>simp at hx
 | cons a r ih=>
  rw[List.flatMap_cons]
  cases k with
  | zero=>
   simp at hx;subst hx;rw[List.getElem?_append_left (by rw[tY];omega)];simp
  | succ k=>
   simp at hx;rw[List.getElem?_append_right (by rw[tY];omega),tY,show(k+1) * 9+j -9=k * 9+j by omega];exact ih k hx
theorem AL {base gs n ck:Nat} {xs:List O} (h:W.ownsRow base 89 9 (.slice (some ⟨gs,0,none⟩) n ck) n (xs.flatMap ah)) (k:Nat) (x:O) (hx:xs[k]? =some x):
  W.cell? ⟨gs,k * 9,none⟩=some (.int .i64 x.k)∧W.cell? ⟨gs,k * 9+1,none⟩=some (.int .i64 x.lk)∧W.cell? ⟨gs,k * 9+2,none⟩=some (.int .i64 x.lt)∧W.cell? ⟨gs,k * 9+3,none⟩=some (.int .i64 x.lv)∧W.cell? ⟨gs,k * 9+4,none⟩=some (.int .i64 x.rk)∧W.cell? ⟨gs,k * 9+5,none⟩=some (.int .i64 x.rt)∧W.cell? ⟨gs,k * 9+6,none⟩=some (.int .i64 x.rv)∧W.cell? ⟨gs,k * 9+7,none⟩=some (.bool x.hl)∧W.cell? ⟨gs,k * 9+8,none⟩=some (.bool x.hr):=by
 have key:=fun(j:Nat) (v:Value) (hj:j < 9) (hv:(ah x)[j]? =some v)=>h.cells (g:=gs) rfl (k * 9+j) v ((Hy xs k j x hx hj).trans hv)
 simp only[JV] at key;exact⟨key 0 _ (by omega) rfl,key 1 _ (by omega) rfl,key 2 _ (by omega) rfl,key 3 _ (by omega) rfl,key 4 _ (by omega) rfl,key 5 _ (by omega) rfl,key 6 _ (by omega) rfl,key 7 _ (by omega) rfl,key 8 _ (by omega) rfl⟩
def JW (k:Int):Option Tl->Value
 | none=> .tuple #[zG,.int .i64 8]
 | some τ=> .tuple #[vG k τ,.int .i64 0]
theorem XK {τ τ':Tl} (h:vF τ τ') (k:Int):vG k τ=vG k τ':=by
 have hm:∀x,x∈τ.R↔x∈τ'.R:=fun x=>h.R.mem_iff
 unfold vG;rw[h.c,h.s,Ct hm,Cu hm,tZ hm]
theorem WV (h:w.heap[b]? =some (.cells cs T)):(w.setCell ⟨b,i1,none⟩ u1).heap[b]? =some (.cells (cs.setIfInBounds i1 u1) T):=block_setCell h _
theorem Zz (h:w.heap[b]? =some (.cells cs T)):((w.setCell ⟨b,i1,none⟩ u1).setCell ⟨b,i2,none⟩ u2).heap[b]? =some (.cells ((cs.setIfInBounds i1 u1).setIfInBounds i2 u2) T):=WV (WV h)
theorem YN (h:w.heap[b]? =some (.cells cs T)):(((w.setCell ⟨b,i1,none⟩ u1).setCell ⟨b,i2,none⟩ u2).setCell ⟨b,i3,none⟩ u3).heap[b]? =some (.cells (((cs.setIfInBounds i1 u1).setIfInBounds i2 u2).setIfInBounds i3 u3) T):=WV (Zz h)
theorem XL (h:w.heap[b]? =some (.cells cs T)):((((w.setCell ⟨b,i1,none⟩ u1).setCell ⟨b,i2,none⟩ u2).setCell ⟨b,i3,none⟩ u3).setCell ⟨b,i4,none⟩ u4).heap[b]? =some (.cells ((((cs.setIfInBounds i1 u1).setIfInBounds i2 u2).setIfInBounds i3 u3).setIfInBounds i4 u4) T):=WV (YN h)
theorem bs5 {i5:Nat} {u5:Value} (h:w.heap[b]? =some (.cells cs T)):(((((w.setCell ⟨b,i1,none⟩ u1).setCell ⟨b,i2,none⟩ u2).setCell ⟨b,i3,none⟩ u3).setCell ⟨b,i4,none⟩ u4).setCell ⟨b,i5,none⟩ u5).heap[b]? =some (.cells (((((cs.setIfInBounds i1 u1).setIfInBounds i2 u2).setIfInBounds i3 u3).setIfInBounds i4 u4).setIfInBounds i5 u5) T):=WV (XL h)
theorem gs0 (w:World) (b:Nat):w.grownBy w (some b):=⟨rfl,rfl,rfl,Nat.le_refl _,fun _ _ _=>rfl⟩
theorem gs1 (h:w.grownBy w' (some b)) (i:Nat) (u:Value):w.grownBy (w'.setCell ⟨b,i,none⟩ u) (some b):=
 ⟨h.os,h.tape,h.output,by simpa using h.size,fun j hj hne=>(Below.heap_setCell _ _ _ _ (fun e=>hne (by rw[show j=b from e]))).trans (h.block j hj hne)⟩
structure Rg (w:World) (k:Int) (A:List O) (i:Nat) (W:World):Prop where
 blk:W.heap[w.heap.size+1]? =some (.cells (fZ k (bD (gK (A.take i).reverse k))).toArray 140)
 res:W.heap[w.heap.size]? =some (.cells #[.int .i64 0,.int .i64 0,.int .i64 0,.int .i64 0,.int .i64 0,.bool false] 140)
 below:Below w.heap.size w W
theorem Rg.next {W':World} {o:Obj} (h:Rg w k A i W) (hx:A[i]? =some x) (hk:x.k=k) (hb:W'.heap[w.heap.size+1]? =some (.cells (fZ k (bE (bD (gK (A.take i).reverse k)) x)).toArray 140)) (hg:(W.alloc o).grownBy W' (some (w.heap.size+1))):Rg w k A (i+1) W':=by
 have hlt:=(Array.getElem?_eq_some_iff.1 h.blk).1;have hs:=h.below.size
 have e:gK (A.take (i+1)).reverse k=x::gK (A.take i).reverse k:=by
  rw[List.take_add_one,hx,List.reverse_append];subst hk;exact yl x _
 refine⟨by rw[e];exact hb,?_,?_⟩
 ·exact(hg.block _ (by simp;omega) (fun e=>by injection e;omega)).trans ((Below.heap_alloc W o _ (by omega)).trans h.res)
 ·exact(h.below.alloc hs o).grown hg (by simp;omega) (fun j e=>by injection e;omega)
theorem Rg.skip (o:Obj) (h:Rg w k A i W) (hx:A[i]? =some x) (hk:x.k≠k):Rg w k A (i+1) (W.alloc o):=by
 have hlt:=(Array.getElem?_eq_some_iff.1 h.blk).1;have hs:=h.below.size
 have e:gK (A.take (i+1)).reverse k=gK (A.take i).reverse k:=by
  rw[List.take_add_one,hx,List.reverse_append];exact uf x _ (Ne.symm hk)
 refine⟨by rw[e];exact(Below.heap_alloc W o _ hlt).trans h.blk,(Below.heap_alloc W o _ (by omega)).trans h.res,h.below.alloc hs o⟩
theorem JX (A:List O) (k:Int) (i:Nat):(bD (gK (A.take i).reverse k)).c<=A.length:=by
 rw[jZ];refine Nat.le_trans (List.length_filter_le _ _) ?_;simp;omega
theorem Sy (A:List O) (k:Int):(gK A k).Perm (gK A.reverse k):=ym (List.reverse_perm A).symm k
theorem ga1 (h:w.grownBy w' (some b)) (o:Obj) (hs:w'.heap.size=w.heap.size:=by simp):(w.alloc o).grownBy (w'.alloc o) (some b):=by
 refine⟨h.os,h.tape,h.output,by simp[hs],fun j hj hne=> ?_⟩
 by_cases e:j < w.heap.size
 ·rw[Below.heap_alloc _ _ _ e,Below.heap_alloc _ _ _ (by omega)];exact h.block j e hne
 ·have e2:j=w.heap.size:=by simp at hj;omega
  subst e2;have h1:=(MapKept.heap_alloc w' o).1;rw[hs] at h1;rw[h1,(MapKept.heap_alloc w o).1]
theorem Er (base g ck:Nat) (A:List O) (w:World) (h:w.ownsRow base 89 9 (.slice (some ⟨g,0,none⟩) A.length ck) A.length (A.flatMap ah)) (k:Int) (hA:A.length<=1000000) (h0:0 < A.length):
  Calls Tryz.prog 74 #[.slice (some ⟨g,0,none⟩) A.length ck,.int .i64 k] w fun e w'=>e= .returned (JW k (bK A k))∧Below w.heap.size w w':=by
 have HR:=hid h;clear h
 have HI:Hid (Rg w k A 0 ((w.alloc (.cells #[.int .i64 0,.int .i64 0,.int .i64 0,.int .i64 0,.int .i64 0,.bool false] 140)).alloc (.cells #[.int .i64 k,.int .i64 0,.int .i64 0,.int .i64 0,.int .i64 0,.bool false] 140))):=by
  refine⟨?_,?_,below_alloc2 _ _ _⟩
  ·have e:(w.alloc (.cells #[.int .i64 0,.int .i64 0,.int .i64 0,.int .i64 0,.int .i64 0,.bool false] 140)).heap.size=w.heap.size+1:=by simp
   have :=(MapKept.heap_alloc (w.alloc (.cells #[.int .i64 0,.int .i64 0,.int .i64 0,.int .i64 0,.int .i64 0,.bool false] 140)) (.cells #[.int .i64 k,.int .i64 0,.int .i64 0,.int .i64 0,.int .i64 0,.bool false] 140)).1;rw[e] at this;exact this
  ·exact(Below.heap_alloc _ _ _ (by simp)).trans (MapKept.heap_alloc w _).1
 go_enter Tryz.func74,Tryz.ntmps74;go_wp2
 go_loopg [14] A.length (fun gg v14 wr=>∃i:Nat,i<=A.length∧gg=A.length -i∧v14= .int .i64 i∧Hid (Rg w k A i wr))
 case atStart=>exact⟨0,Nat.zero_le _,rfl,rfl,HI.out⟩
 case round=>
  obtain⟨i,hile,hgi,rfl,HG⟩:=hrel;have sU:=hid hgi;clear hgi
  by_cases hlt:i < A.length
  ·obtain⟨x,hx⟩:∃x,A[i]? =some x:=⟨_,List.getElem?_eq_getElem hlt⟩;have hG:=HG.out;have hca:=AL (dA (dA HR.out hG.below) (Below.refl _ _)) i x hx;have hcl:=l5 hG.blk;have hob:w.heap.size+1 < wr.heap.size:=(Array.getElem?_eq_some_iff.1 hG.blk).1
   have hcl0:((bD (gK (A.take i).reverse k)).c:Int)<=1000000:=by have :=JX A k i;omega
   have ZA:(0:Int)<=((bD (gK (A.take i).reverse k)).c:Int):=by omega
   have acg:g < wr.heap.size:=by
    have h1:=(dA HR.out hG.below)
    rcases h1.2 with⟨h3,_⟩ | ⟨g',cap,cur,h3,h5,h4,_⟩
    ·cases h3
    ·cases h3;exact(Array.getElem?_eq_some_iff.1 h4).1
   have i1:(0:Int)<=(i:Int):=by omega
   have i2:(i:Int) < (A.length:Int):=by omega
   by_cases hkk:x.k=k
   ·have HS:Hid (∀W1,W1.heap[w.heap.size+1]? =some (.cells (fZ k (bE (bD (gK (A.take i).reverse k)) x)).toArray 140)->wr.grownBy W1 (some (w.heap.size+1))->W1.heap.size=wr.heap.size->∀o,Rg w k A (i+1) (W1.alloc o)):=fun W1 h1 h2 h3 o=>HG.out.next (o:=o) hx hkk ((Below.heap_alloc W1 o _ (by omega)).trans h1) (ga1 h2 o h3)
    have HB:=hid hG.blk;clear hG hx;generalize bD (gK (A.take i).reverse k)=τ at *;obtain⟨c,s,R⟩:=τ;obtain⟨xk,lk,lt,lv,rk,rt,rv,hl,hr⟩:=x;simp only at hkk hca hcl hcl0 ZA;subst hkk
    cases hl <;>cases hr
    ·go_wp2
     all_goals go_roundg (A.length -(i+1))
     case measure=>have :=sU.out;omega
     case rel=>
      refine⟨i+1,by omega,rfl,by go_num,?_⟩;refine HS.out _ ((WV HB.out).trans ?_) (gs1 (gs0 wr _) _ _) (by simp) _;simp[fZ,bE]
    ·by_cases hR:R=[]
     ·subst hR;simp only[lo,hi,some?,List.isEmpty_nil,Bool.not_true] at hcl;go_wp2
      all_goals go_roundg (A.length -(i+1))
      case measure=>have :=sU.out;omega
      case rel=>
       refine⟨i+1,by omega,rfl,by go_num,?_⟩;refine HS.out _ ((XL HB.out).trans ?_) (gs1 (gs1 (gs1 (gs1 (gs0 wr _) _ _) _ _) _ _) _ _) (by simp) _;simp[fZ,bE,lo,hi,some?]
     ·have hsm:some? R=true:=by cases R with
       | nil=>exact absurd rfl hR
       | cons a r=>rfl
      rw[hsm] at hcl;have HX:=hid hR;clear hR hsm
      by_cases hlo:rv < lo R <;>by_cases hhi:hi R < rv
      ·go_wp2
       all_goals go_roundg (A.length -(i+1))
       case measure=>have :=sU.out;omega
       case rel=>
        refine⟨i+1,by omega,rfl,by go_num,?_⟩;refine HS.out _ ((XL HB.out).trans ?_) (gs1 (gs1 (gs1 (gs1 (gs0 wr _) _ _) _ _) _ _) _ _) (by simp) _
        have e1:min rv (lo R)=rv:=by omega
        have e2:max rv (hi R)=rv:=by omega
        simp[fZ,bE,jC rv HX.out,jD rv HX.out,e1,e2,some?]
      ·go_wp2
       all_goals go_roundg (A.length -(i+1))
       case measure=>have :=sU.out;omega
       case rel=>
        refine⟨i+1,by omega,rfl,by go_num,?_⟩;refine HS.out _ ((YN HB.out).trans ?_) (gs1 (gs1 (gs1 (gs0 wr _) _ _) _ _) _ _) (by simp) _
        have e1:min rv (lo R)=rv:=by omega
        have e2:max rv (hi R)=hi R:=by omega
        simp[fZ,bE,jC rv HX.out,jD rv HX.out,e1,e2,some?]
      ·go_wp2
       all_goals go_roundg (A.length -(i+1))
       case measure=>have :=sU.out;omega
       case rel=>
        refine⟨i+1,by omega,rfl,by go_num,?_⟩;refine HS.out _ ((YN HB.out).trans ?_) (gs1 (gs1 (gs1 (gs0 wr _) _ _) _ _) _ _) (by simp) _
        have e1:min rv (lo R)=lo R:=by omega
        have e2:max rv (hi R)=rv:=by omega
        simp[fZ,bE,jC rv HX.out,jD rv HX.out,e1,e2,some?]
      ·go_wp2
       all_goals go_roundg (A.length -(i+1))
       case measure=>have :=sU.out;omega
       case rel=>
        refine⟨i+1,by omega,rfl,by go_num,?_⟩;refine HS.out _ ((Zz HB.out).trans ?_) (gs1 (gs1 (gs0 wr _) _ _) _ _) (by simp) _
        have e1:min rv (lo R)=lo R:=by omega
        have e2:max rv (hi R)=hi R:=by omega
        simp[fZ,bE,jC rv HX.out,jD rv HX.out,e1,e2,some?]
    ·go_wp2
     all_goals go_roundg (A.length -(i+1))
     case measure=>have :=sU.out;omega
     case rel=>
      refine⟨i+1,by omega,rfl,by go_num,?_⟩;refine HS.out _ ((Zz HB.out).trans ?_) (gs1 (gs1 (gs0 wr _) _ _) _ _) (by simp) _;simp[fZ,bE]
    ·by_cases hR:R=[]
     ·subst hR;simp only[lo,hi,some?,List.isEmpty_nil,Bool.not_true] at hcl;go_wp2
      all_goals go_roundg (A.length -(i+1))
      case measure=>have :=sU.out;omega
      case rel=>
       refine⟨i+1,by omega,rfl,by go_num,?_⟩;refine HS.out _ ((bs5 HB.out).trans ?_) (gs1 (gs1 (gs1 (gs1 (gs1 (gs0 wr _) _ _) _ _) _ _) _ _) _ _) (by simp) _;simp[fZ,bE,lo,hi,some?]
     ·have hsm:some? R=true:=by cases R with
       | nil=>exact absurd rfl hR
       | cons a r=>rfl
      rw[hsm] at hcl;have HX:=hid hR;clear hR hsm
      by_cases hlo:rv < lo R <;>by_cases hhi:hi R < rv
      ·go_wp2
       all_goals go_roundg (A.length -(i+1))
       case measure=>have :=sU.out;omega
       case rel=>
        refine⟨i+1,by omega,rfl,by go_num,?_⟩;refine HS.out _ ((bs5 HB.out).trans ?_) (gs1 (gs1 (gs1 (gs1 (gs1 (gs0 wr _) _ _) _ _) _ _) _ _) _ _) (by simp) _
        have e1:min rv (lo R)=rv:=by omega
        have e2:max rv (hi R)=rv:=by omega
        simp[fZ,bE,jC rv HX.out,jD rv HX.out,e1,e2,some?]
      ·go_wp2
       all_goals go_roundg (A.length -(i+1))
       case measure=>have :=sU.out;omega
       case rel=>
        refine⟨i+1,by omega,rfl,by go_num,?_⟩;refine HS.out _ ((XL HB.out).trans ?_) (gs1 (gs1 (gs1 (gs1 (gs0 wr _) _ _) _ _) _ _) _ _) (by simp) _
        have e1:min rv (lo R)=rv:=by omega
        have e2:max rv (hi R)=hi R:=by omega
        simp[fZ,bE,jC rv HX.out,jD rv HX.out,e1,e2,some?]
      ·go_wp2
       all_goals go_roundg (A.length -(i+1))
       case measure=>have :=sU.out;omega
       case rel=>
        refine⟨i+1,by omega,rfl,by go_num,?_⟩;refine HS.out _ ((XL HB.out).trans ?_) (gs1 (gs1 (gs1 (gs1 (gs0 wr _) _ _) _ _) _ _) _ _) (by simp) _
        have e1:min rv (lo R)=lo R:=by omega
        have e2:max rv (hi R)=rv:=by omega
        simp[fZ,bE,jC rv HX.out,jD rv HX.out,e1,e2,some?]
      ·go_wp2
       all_goals go_roundg (A.length -(i+1))
       case measure=>have :=sU.out;omega
       case rel=>
        refine⟨i+1,by omega,rfl,by go_num,?_⟩;refine HS.out _ ((YN HB.out).trans ?_) (gs1 (gs1 (gs1 (gs0 wr _) _ _) _ _) _ _) (by simp) _
        have e1:min rv (lo R)=lo R:=by omega
        have e2:max rv (hi R)=hi R:=by omega
        simp[fZ,bE,jC rv HX.out,jD rv HX.out,e1,e2,some?]
   ·have HS:Hid (∀o,Rg w k A (i+1) (wr.alloc o)):=fun o=>HG.out.skip o hx hkk
    clear hG hx;go_wp2
    go_roundg (A.length -(i+1))
    case measure=>have :=sU.out;omega
    case rel=>exact⟨i+1,by omega,rfl,by go_num,HS.out _⟩
  ·have e1:i=A.length:=by omega
   have hge:¬((i:Int) < (A.length:Int)):=by omega
   have hG:=HG.out;have hcz:=l5 hG.res;have hb:=hG.blk;rw[e1,List.take_length] at hb;have hcl:=l5 hb;have HBl:=hid hG.below;have hob:w.heap.size+1 < wr.heap.size:=(Array.getElem?_eq_some_iff.1 hb).1;have hte:=rQ (Sy A k)
   by_cases hem:gK A k=[]
   ·have hab:bK A k=none:=if_pos hem
    have HF:Hid (JW k (bK A k)=JW k none):=by show JW k (bK A k)=JW k none;rw[hab]
    have hc0:(bD (gK A.reverse k)).c=0:=by rw[<-hte.c,hem];rfl
    rw[hc0] at hcl;clear hG hb hte HG hab;go_wp2;refine bodyPost_ret (v:=JW k none) (by simp[results,Tryz.results74,go_sem,hcz,JW,zG]) rfl ⟨by rw[HF.out],?_⟩;exact(((((HBl.out.setCell (p:=⟨w.heap.size,0,none⟩) (Nat.le_refl _) _).setCell (p:=⟨w.heap.size,1,none⟩) (Nat.le_refl _) _).setCell (p:=⟨w.heap.size,2,none⟩) (Nat.le_refl _) _).setCell (p:=⟨w.heap.size,3,none⟩) (Nat.le_refl _) _).setCell (p:=⟨w.heap.size,4,none⟩) (Nat.le_refl _) _).setCell (p:=⟨w.heap.size,5,none⟩) (Nat.le_refl _) _
   ·have hab:bK A k=some (bD (gK A k)):=if_neg hem;have hv:=XK hte k
    have hcp:(0:Int) < ((bD (gK A.reverse k)).c:Int):=by
     rw[<-hte.c,jZ];have :=List.length_pos_iff.2 hem;omega
    have hcp2:((bD (gK A.reverse k)).c:Int)<=1000000:=by
     have :=JX A k A.length;rw[List.take_length] at this;omega
    have HF:Hid (JW k (bK A k)=JW k (some (bD (gK A.reverse k)))):=by
     show JW k (bK A k)=JW k (some (bD (gK A.reverse k)));rw[hab];show Value.tuple #[_,_]=Value.tuple #[_,_];rw[hv]
    clear hG hb hte HG hv hab;generalize bD (gK A.reverse k)=τ at *;go_wp2;refine bodyPost_ret (v:=JW k (some τ)) (by simp[results,Tryz.results74,go_sem,hcz,JW,vG]) rfl ⟨by rw[HF.out],?_⟩;exact(((((HBl.out.setCell (p:=⟨w.heap.size,0,none⟩) (Nat.le_refl _) _).setCell (p:=⟨w.heap.size,1,none⟩) (Nat.le_refl _) _).setCell (p:=⟨w.heap.size,2,none⟩) (Nat.le_refl _) _).setCell (p:=⟨w.heap.size,3,none⟩) (Nat.le_refl _) _).setCell (p:=⟨w.heap.size,4,none⟩) (Nat.le_refl _) _).setCell (p:=⟨w.heap.size,5,none⟩) (Nat.le_refl _) _
end
section
open Go.Proofs.Tryz
variable {A:List O} {k:Int} {w W w6:World} {i:Nat} {v v' vk:Value} {o1 o2:Obj} {Q ks:List Int}
theorem Es:(bK A k).isSome=true↔∃x∈A,x.k=k:=by
 unfold bK
 by_cases h:gK A k=[]
 ·rw[if_pos h]
  constructor
  ·intro h;cases h
  ·rintro⟨x,hx,rfl⟩;have :=Cv.2 hx;rw[h] at this;cases this
 ·rw[if_neg h]
  constructor
  ·intro _;obtain⟨x,hx⟩:=List.exists_mem_of_ne_nil _ h;simp only[gK,List.mem_filter,beq_iff_eq] at hx;exact⟨x,hx.1,hx.2⟩
  ·intro _;rfl
theorem Vf:(prog.info? 3).map (fun i=>(i.zero,i.size,i.bytes))=some (some (.int .i64 0),1,8):=by kernel_rfl
theorem Et (base:Nat) (v:Value) (ks:List Int) (w:World) (h:w.ownsRow base 3 1 v ks.length (ks.map encZ)) (hl:ks.length<=1000000):
  Calls prog 73 #[v] w fun e w'=>e= .returned (.tuple #[])∧w'.ownsRow base 3 1 v ks.length ((ks.mergeSort fun x y=>decide (x<=y)).map encZ)∧w.grownBy w' v.ownBlock:=by
 rcases h.2 with⟨rfl,hz⟩ | ⟨gb,cap,cur,rfl,hbase,hgb,r1,r2,r3,r4⟩
 ·have hss:ks=[]:=List.eq_nil_of_length_eq_zero hz;subst hss;have c:=AnyM.slices_Sort_int_none Tryz.sortG none 0 w
  change Calls prog 131 _ _ _ at c
  have HC:Hid _:=c;clear c;go_enter func73,ntmps73
  go_wp2_with (go_at_call 131;refine Calls.mono (Hid.out HC) ?_;rintro e w' ⟨rfl,rfl⟩)
  go_end0
  exact⟨rfl,by simpa using h,⟨rfl,rfl,rfl,Nat.le_refl _,fun _ _ _=>rfl⟩⟩
 ·have hH:Holds encZ w gb 0 ks.toArray:=holds_of_block_i hgb (by simpa using r4);have hgl:gb < w.heap.size:=(Array.getElem?_eq_some_iff.1 hgb).1;have c:=AnyM.slices_Sort_int Tryz.sortG gb 0 cap ks w hH hgl (by omega)
  change Calls prog 131 _ _ _ at c
  have HC:Hid (Calls prog 131 #[.slice (some ⟨gb,0,none⟩) ks.length cap] w fun e w'=>e= .returned (.tuple #[])∧(w'.ownsRow base 3 1 (.slice (some ⟨gb,0,none⟩) ks.length cap) ks.length ((ks.mergeSort fun x y=>decide (x<=y)).map encZ)∧w.grownBy w' (some gb))):=
   c.mono fun e w' ⟨h1,n,os,h2⟩=>⟨h1,by rw[h2];exact⟨ownsRow_sorted_i (by simp) hbase hgb r1 r2 r3,grownBy_sorted_i _⟩⟩
  clear c hH hgb r4 h;go_enter func73,ntmps73
  go_wp2_with (go_at_call 131;refine Calls.mono (Hid.out HC) ?_;rintro e w' ⟨rfl,hpost⟩)
  go_end0
  exact⟨rfl,hpost⟩
structure Rk (w:World) (g ck:Nat) (A:List O) (i:Nat) (v:Value) (W:World):Prop where
 below:Below w.heap.size w W
 row:W.ownsRow w.heap.size 3 1 v i (((A.take i).map (·.k)).map encZ)
theorem Rk.step {g ck:Nat} (h:Rk w g ck A i v W) {x:O} (hx:A[i]? =some x) (hown:w6.ownsRow w.heap.size 3 1 v' (i+1) (((A.take i).map (·.k)).map encZ++[.int .i64 x.k])) (hg:((W.alloc o1).alloc o2).grownBy w6 v.ownBlock):Rk w g ck A (i+1) v' w6:=by
 have hs:=h.below.size;refine⟨((h.below.alloc hs o1).alloc (by simp;omega) o2).grown hg (by simp;omega) (fun j e=> ?_),?_⟩
 ·rcases h.row.2 with⟨rfl,_⟩ | ⟨g,cap,cur,rfl,h3,_⟩
  ·simp[Value.ownBlock] at e
  ·simp[Value.ownBlock] at e;omega
 ·rw[List.take_add_one,hx];simpa[encZ] using hown
structure Rm (w:World) (vk:Value) (Q:List Int) (A:List O) (i:Nat) (ks:List Int) (v:Value) (W:World):Prop where
 below:Below w.heap.size w W
 keys:W.ownsRow w.heap.size 3 1 vk Q.length (Q.map encZ)
 row:W.ownsRow w.heap.size 140 6 v ks.length (ks.flatMap (gE (bK A)))
 ord:ks.Pairwise (fun x y=>x < y)
 mem:∀k,k∈ks↔k∈Q.take i
 len:ks.length<=i
 ne:∀g,vk.ownBlock=some g->v.ownBlock≠some g
theorem Rm.skip (h:Rm w vk Q A i ks v W) {k0:Int} (hk:Q[i]? =some k) (h0:Q[i -1]? =some k0) (hi:0 < i) (e:k0=k):Rm w vk Q A (i+1) ks v W:=by
 refine⟨h.below,h.keys,h.row,h.ord,fun x=> ?_,Nat.le_succ_of_le h.len,h.ne⟩;rw[h.mem,List.take_add_one,hk];simp only[Option.toList_some,List.mem_append,List.mem_singleton]
 constructor
 ·exact .inl
 ·rintro(h1 | rfl)
  ·exact h1
  ·subst e;rw[List.mem_take_iff_getElem];have hl:=(List.getElem?_eq_some_iff.1 h0).1;have hv:=(List.getElem?_eq_some_iff.1 h0).2;exact⟨i -1,by omega,hv⟩
theorem Rm.step {w5:World} (h:Rm w vk Q A i ks v W) (hQ:Q.Pairwise (fun x y=>x<=y)) (hk:Q[i]? =some k) (hnew:i=0∨∃k0,Q[i -1]? =some k0∧k0≠k)
  (hb:Below W.heap.size W w5) (hown:w6.ownsRow w.heap.size 140 6 v' (ks.length+1) (ks.flatMap (gE (bK A))++gE (bK A) k)) (hg:((w5.alloc o1).alloc o2).grownBy w6 v.ownBlock) (hloc:v'.ownBlock=v.ownBlock∨v'.ownBlock=some ((w5.alloc o1).alloc o2).heap.size):Rm w vk Q A (i+1) (ks++[k]) v' w6:=by
 have hs:=h.below.size;have hs5:=hb.size;have hk5:=dA h.keys hb;have hb5:Below w.heap.size w w5:=h.below.trans (hb.mono hs)
 have hkl:∀g,vk.ownBlock=some g->g < W.heap.size:=fun g e=>(h.keys.lt g e).2
 refine⟨((hb5.alloc (by omega) o1).alloc (by simp;omega) o2).grown hg (by simp;omega) (fun j e=> ?_),?_,by simpa[List.flatMap_append] using hown,?_,fun x=> ?_,by simp;have :=h.len;omega,fun g e=> ?_⟩
 ·rcases h.row.2 with⟨rfl,_⟩ | ⟨g,cap,cur,rfl,h3,_⟩
  ·simp[Value.ownBlock] at e
  ·simp[Value.ownBlock] at e;omega
 ·refine((hk5.alloc o1).alloc o2).kept hg ?_
  cases e:vk.ownBlock with
  | none=>exact .inl rfl
  | some g=>exact .inr (fun e'=>h.ne g e e'.symm)
 ·rw[List.pairwise_append];refine⟨h.ord,List.pairwise_singleton _ _,fun a ha b hb'=> ?_⟩;rw[List.mem_singleton] at hb';subst hb';rw[h.mem,List.mem_take_iff_getElem] at ha;obtain⟨j,hj,rfl⟩:=ha;have hil:=(List.getElem?_eq_some_iff.1 hk).1
  rcases hnew with rfl | ⟨k0,h0,hne⟩
  ·omega
  ·have hl0:=(List.getElem?_eq_some_iff.1 h0).1;have hv0:=(List.getElem?_eq_some_iff.1 h0).2;have hvi:=(List.getElem?_eq_some_iff.1 hk).2;have h1:Q[i -1]<=Q[i]:=List.pairwise_iff_getElem.1 hQ (i -1) i hl0 hil (by omega)
   have h2:Q[j]<=Q[i -1]:=by
    rcases Nat.lt_or_ge j (i -1) with h | h
    ·exact List.pairwise_iff_getElem.1 hQ j (i -1) (by omega) hl0 h
    ·have :j=i -1:=by omega
     subst this;exact Int.le_refl _
   rw[hv0,hvi] at h1;rw[hv0] at h2;omega
 ·rw[List.mem_append,h.mem,List.take_add_one,hk];simp
 ·rcases hloc with e' | e'
  ·rw[e'];exact h.ne g e
  ·rw[e'];have :=hkl g e;simp;omega
end
section
open Go.Proofs.Tryz Go.Joins
theorem Cw (v:Value) (base:Nat) (w:World) (h:w.ownsRow base 89 9 v 0 []):
  Calls prog 31 #[v] w fun e w'=>e= .returned (.slice none 0 0)∧Below w.heap.size w w':=by
 have HN:Hid (∀W,Calls prog 73 #[.slice none 0 0] W fun e w'=>e= .returned (.tuple #[])∧Below W.heap.size W w'):=fun W=>
  (Et 0 (.slice none 0 0) [] W (World.ownsRow_nil _ _ _ _) (by simp)).mono fun e w' ⟨h1,_,h2⟩=>⟨h1,h2.os,h2.tape,h2.output,h2.size,fun j hj=>h2.block j hj (by simp[Value.ownBlock])⟩
 rcases ownsRow_forms h with⟨rfl,_⟩ | ⟨ga,ca,rfl⟩
 all_goals
  clear h;go_enter func31,ntmps31;go_wp2;refine wp_loop_rounds 1 ?_;rw[rounds_succ]
  go_wp2_with (go_at_call 73;refine Calls.mono (HN.out _) ?_;rintro e w' ⟨rfl,hb⟩)
  refine wp_loop_rounds 1 ?_;rw[rounds_succ];go_wp2;go_ret;exact⟨rfl,hb⟩
theorem Cx (base g ck:Nat) (A:List O) (w:World) (h:w.ownsRow base 89 9 (.slice (some ⟨g,0,none⟩) A.length ck) A.length (A.flatMap ah)) (hA:A.length<=1000000) (h0:0 < A.length):
  Calls prog 31 #[.slice (some ⟨g,0,none⟩) A.length ck] w fun e w'=>∃(v:Value) (ks:List Int),e= .returned v∧ks.Pairwise (fun x y=>x < y)∧(∀k,k∈ks↔(bK A k).isSome=true)∧ks.length<=A.length∧w'.ownsRow w.heap.size 140 6 v ks.length (ks.flatMap (gE (bK A)))∧Below w.heap.size w w':=by
 obtain⟨i3,hi3,hz3,hs3,hb3⟩:=info_parts Vf;obtain⟨i0,hi0,hz0,hz1,hz2⟩:=info_parts OD;have HR:Hid (w.ownsRow base 89 9 (.slice (some ⟨g,0,none⟩) A.length ck) A.length (A.flatMap ah)):=h;clear h;go_enter func31,ntmps31;go_wp2
 go_loopg [3,13] A.length (fun gg v3 v13 wr=>∃i:Nat,i<=A.length∧gg=A.length -i∧v13= .int .i64 i∧Hid (Rk w g ck A i v3 wr))
 case atStart=>exact⟨0,Nat.zero_le _,rfl,rfl,⟨Below.refl _ _,World.ownsRow_nil _ _ _ _⟩⟩
 case round=>
  obtain⟨i,hile,hgi,rfl,HK⟩:=hrel;have sU:Hid (gk=A.length -i):=hgi;clear hgi
  by_cases hlt:i < A.length
  ·obtain⟨x,hx⟩:∃x,A[i]? =some x:=⟨_,List.getElem?_eq_getElem hlt⟩;have hK:=HK.out;have hca:=AL (dA HR.out hK.below) i x hx;have hrow:=hK.row;have hsz:=hK.below.size
   have i1:(0:Int)<=(i:Int):=by omega
   have i2:(i:Int) < (A.length:Int):=by omega
   have e1:(wr.alloc (.cells (ah x).toArray 89)).heap.size=wr.heap.size+1:=by simp
   have hn:=World.news_of_block (World.alloc_heap_new (wr.alloc (.cells (ah x).toArray 89)) (.cells #[.int .i64 x.k] 3));rw[e1] at hn;have HN:Hid _:=hn;have HX:Hid (A[i]? =some x):=hx;clear hn e1 hK hx;simp only[ah] at HN
   go_wp2_with (first
    | (at_builtin;refine wpList_append_own_at _ rfl _ _ 84 rfl w.heap.size 3 i3 (.int .i64 0) 1 8 underlying84 hi3 hz3 hs3 hb3 rfl (by decide) _ _ _ rfl ((hrow.alloc _).alloc _) ⟨wr.heap.size+1,0,none⟩ 1 1 [.int .i64 x.k] rfl rfl HN.out (by intro u hu;simp at hu;subst hu;rfl) (by unfold maxLen;omega) (by omega) (by simp;omega) ?_;intro v' w6 hown6 Gq _ qa)
    | fail)
   go_roundg (A.length -(i+1))
   case measure=>have :=sU.out;omega
   case rel=>exact⟨i+1,by omega,rfl,by go_num,HK.out.step HX.out hown6 Gq⟩
  ·have e1:i=A.length:=by omega
   have hge:¬((i:Int) < (A.length:Int)):=by omega
   have hK:=HK.out;have hrow:=hK.row;rw[e1,List.take_length] at hrow
   have hrow':wr.ownsRow w.heap.size 3 1 u3 (A.map (·.k)).length ((A.map (·.k)).map encZ):=by rw[List.length_map];exact hrow
   obtain⟨gq,cq,hu⟩:=ownsRow_form hrow (by omega);have HI:=Et w.heap.size u3 (A.map (·.k)) wr hrow' (by simpa using hA);have hblt:=hK.below;subst hu
   have XM:Hid (Calls prog 73 #[.slice (some ⟨gq,0,none⟩) A.length cq] wr fun e w'=>e= .returned (.tuple #[])∧Below w.heap.size w w'∧w'.ownsRow w.heap.size 3 1 (.slice (some ⟨gq,0,none⟩) A.length cq) A.length (((A.map (·.k)).mergeSort fun x y=>decide (x<=y)).map encZ)):=by
    refine HI.mono ?_;rintro e w' ⟨h1,h2,h3⟩;rw[List.length_map] at h2;refine⟨h1,hblt.grown h3 hblt.size (fun j e=> ?_),h2⟩;exact(hrow.lt j e).1
   clear HI hrow' hrow hK HK hblt;have hps:((A.map (·.k)).mergeSort fun x y=>decide (x<=y)).Perm (A.map (·.k)):=List.mergeSort_perm _ _;have hso:((A.map (·.k)).mergeSort fun x y=>decide (x<=y)).Pairwise (fun x y=>decide (x<=y)=true):=List.pairwise_mergeSort (fun a b c h1 h2=>by simp at *;omega) (fun a b=>by simp;omega) _;generalize ((A.map (·.k)).mergeSort fun x y=>decide (x<=y))=Q at *
   have HQ:Hid (Q.Pairwise (fun x y=>x<=y)):=hso.imp fun h=>by simpa using h
   have HQm:Hid (∀k,k∈Q↔∃x∈A,x.k=k):=fun k=>by rw[hps.mem_iff,List.mem_map]
   have ZB:Q.length=A.length:=by rw[hps.length_eq,List.length_map]
   rw[<-ZB] at XM;have ZC:Hid (Q.length=A.length):=ZB
   have hQA:Q.length<=1000000:=by omega
   have hQ0:0 < Q.length:=by omega
   clear hps hso ZB
   have HGr:Hid (∀W k,Below w.heap.size w W->Calls prog 74 #[.slice (some ⟨g,0,none⟩) Q.length ck,.int .i64 k] W fun e w'=>e= .returned (JW k (bK A k))∧Below W.heap.size W w'):=fun W k hb=>by
    rw[ZC.out];exact Er base g ck A W (dA HR.out hb) k hA h0
   go_wp2_with (go_at_call 73;rw[<-ZC.out];refine Calls.mono (Hid.out XM) ?_;rintro e w3 ⟨rfl,XN,hrow3⟩)
   have YO:Hid (Rm w (.slice (some ⟨gq,0,none⟩) Q.length cq) Q A 0 [] (.slice none 0 0) w3):=⟨XN,hrow3,World.ownsRow_nil _ _ _ _,List.Pairwise.nil,fun k=>by simp,Nat.le_refl _,fun _ _=>by simp[Value.ownBlock]⟩;clear XN hrow3 XM sU
   go_loopg [6,27] Q.length (fun gg v6 v27 wr=>∃(j:Nat) (ks:List Int),j<=Q.length∧gg=Q.length -j∧v27= .int .i64 j∧Hid (Rm w (.slice (some ⟨gq,0,none⟩) Q.length cq) Q A j ks v6 wr))
   case atStart=>exact⟨0,[],Nat.zero_le _,rfl,rfl,YO.out⟩
   case round=>
    obtain⟨j,ks,hjle,hgj,rfl,HM⟩:=hrel;have ZE:Hid (gk=Q.length -j):=hgj;clear hgj
    by_cases hjl:j < Q.length
    ·obtain⟨k,hk⟩:∃k,Q[j]? =some k:=⟨_,List.getElem?_eq_getElem hjl⟩;have hM:=HM.out;have hck:=Cy hM.keys j k hk;have YP:Hid (Q[j]? =some k):=hk;have hsm:(bK A k).isSome=true:=Es.2 ((HQm.out k).1 (List.mem_of_getElem? hk));obtain⟨τ,hτ⟩:=Option.isSome_iff_exists.1 hsm;have hgr:=HGr.out wr k hM.below;rw[hτ] at hgr;have HGc:Hid (Calls prog 74 #[.slice (some ⟨g,0,none⟩) Q.length ck,.int .i64 k] wr fun e w'=>e= .returned (.tuple #[vG k τ,.int .i64 0])∧Below wr.heap.size wr w'):=hgr
     have HE:Hid (gE (bK A) k=fZ k τ):=by show gE (bK A) k=fZ k τ;unfold gE;rw[hτ];rfl
     have Uj:=hM.row;have acj:=hM.below.size;have aa4:=hM.len
     have j1:(0:Int)<=(j:Int):=by omega
     have j2:(j:Int) < (Q.length:Int):=by omega
     clear hgr hsm hτ hk
     by_cases hj0:j=0
     ·subst hj0
      have HST:=fun w5 w6 v' o1 o2 hb hown hg hloc=>HM.out.step (w5:=w5) (w6:=w6) (v':=v') (o1:=o1) (o2:=o2) HQ.out YP.out (.inl rfl) hb hown hg hloc
      have HS:Hid _:=HST;clear HST hM
      go_wp2_with (first
       | (go_at_call 74;refine Calls.mono (Hid.out HGc) ?_;rintro e w5 ⟨rfl,hb5⟩;simp only[vG];have Vg:=World.news_of_block (World.alloc_heap_new (w5.alloc (.cells (fZ k τ).toArray 140)) (.cells (fZ k τ).toArray 140));rw[show(w5.alloc (.cells (fZ k τ).toArray 140)).heap.size=w5.heap.size+1 by simp] at Vg;have ZF:Hid _:=Vg;clear Vg)
       | (at_builtin;refine wpList_append_own_at _ rfl _ _ 74 rfl w.heap.size 140 i0 zG 6 48 underlying74 hi0 hz0 hz1 hz2 rfl (by decide) _ _ _ rfl (((dA Uj hb5).alloc _).alloc _) ⟨w5.heap.size+1,0,none⟩ 1 1 (fZ k τ) rfl rfl ZF.out (yo k τ) (by unfold maxLen;omega) (by omega) (by have :=hb5.size;simp;omega) ?_;intro v' w6 hown6 Gq _ qa)
       | fail)
      go_roundg (Q.length -(0+1))
      case measure=>have :=ZE.out;omega
      case rel=>exact⟨0+1,ks++[k],by omega,rfl,by go_num,HS.out w5 w6 v' _ _ hb5 (by rw[HE.out];exact hown6) Gq qa⟩
     ·obtain⟨j',rfl⟩:∃j',j=j'+1:=⟨j -1,by omega⟩;obtain⟨k0,hk0⟩:∃k0,Q[j']? =some k0:=⟨_,List.getElem?_eq_getElem (by omega)⟩;have ack:=Cy hM.keys j' k0 hk0;have YQ:Hid (Q[j'+1 -1]? =some k0):=hk0;clear hk0
      by_cases hkk:k0=k
      ·have HS:Hid (Rm w (.slice (some ⟨gq,0,none⟩) Q.length cq) Q A (j'+1+1) ks u6 wr):=HM.out.skip YP.out YQ.out (by omega) hkk;clear hM YQ YP;subst hkk;go_wp2
       go_roundg (Q.length -(j'+1+1))
       case measure=>have :=ZE.out;omega
       case rel=>exact⟨j'+1+1,ks,by omega,rfl,by go_num,HS.out⟩
      ·have HST:=fun w5 w6 v' o1 o2 hb hown hg hloc=>HM.out.step (w5:=w5) (w6:=w6) (v':=v') (o1:=o1) (o2:=o2) HQ.out YP.out (.inr ⟨k0,YQ.out,hkk⟩) hb hown hg hloc
       have HS:Hid _:=HST
       have hkb:(k0 !=k)=true:=by simpa using hkk
       have hkj:((j':Int)+1==0)=false:=by simp;omega
       clear HST hM YQ hkk
       go_wp2_with (first
        | (go_at_call 74;refine Calls.mono (Hid.out HGc) ?_;rintro e w5 ⟨rfl,hb5⟩;simp only[vG];have Vg:=World.news_of_block (World.alloc_heap_new (w5.alloc (.cells (fZ k τ).toArray 140)) (.cells (fZ k τ).toArray 140));rw[show(w5.alloc (.cells (fZ k τ).toArray 140)).heap.size=w5.heap.size+1 by simp] at Vg;have ZF:Hid _:=Vg;clear Vg)
        | (at_builtin;refine wpList_append_own_at _ rfl _ _ 74 rfl w.heap.size 140 i0 zG 6 48 underlying74 hi0 hz0 hz1 hz2 rfl (by decide) _ _ _ rfl (((dA Uj hb5).alloc _).alloc _) ⟨w5.heap.size+1,0,none⟩ 1 1 (fZ k τ) rfl rfl ZF.out (yo k τ) (by unfold maxLen;omega) (by omega) (by have :=hb5.size;simp;omega) ?_;intro v' w6 hown6 Gq _ qa)
        | fail)
       go_roundg (Q.length -(j'+1+1))
       case measure=>have :=ZE.out;omega
       case rel=>exact⟨j'+1+1,ks++[k],by omega,rfl,by go_num,HS.out w5 w6 v' _ _ hb5 (by rw[HE.out];exact hown6) Gq qa⟩
    ·have e2:j=Q.length:=by omega
     have acm:¬((j:Int) < (Q.length:Int)):=by omega
     go_wp2;go_ret;have hM:=HM.out;have hmem:=hM.mem;rw[e2,List.take_length] at hmem;exact⟨_,rfl,ks,hM.ord,fun k=>by rw[hmem,HQm.out k,Es],by have :=hM.len;have :=ZC.out;omega,hM.row,hM.below⟩
theorem vB (base:Nat) (v:Value) (A:List O) (w:World) (h:w.ownsRow base 89 9 v A.length (A.flatMap ah)) (hA:A.length<=1000000):
  Calls prog 31 #[v] w fun e w'=>∃(v:Value) (ks:List Int),e= .returned v∧ks.Pairwise (fun x y=>x < y)∧(∀k,k∈ks↔(bK A k).isSome=true)∧ks.length<=A.length∧w'.ownsRow w.heap.size 140 6 v ks.length (ks.flatMap (gE (bK A)))∧Below w.heap.size w w':=by
 cases A with
 | nil=>
  refine(Cw v base w h).mono fun e w' ⟨h1,h2⟩=>⟨_,[],h1,List.Pairwise.nil,fun k=> ?_,Nat.le_refl _,World.ownsRow_nil _ _ _ _,h2⟩
  rw[Co];simp
 | cons a r=>
  obtain⟨g,ck,rfl⟩:=ownsRow_form h (by simp);exact Cx base g ck (a::r) w h hA (by simp)
end
end Go.Proofs.YthfpipieboophaaGreatDoor
