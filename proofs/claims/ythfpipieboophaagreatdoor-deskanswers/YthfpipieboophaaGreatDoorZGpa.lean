import Derived.Test.YthfpipieboophaaGreatDoorZGrx
namespace Go.Proofs.YthfpipieboophaaGreatDoor
set_option maxRecDepth 100000
set_option maxHeartbeats 40000000
open Go.RowKit Go.Maps Go.Sort Go.Shelf
section
open Go.Joins
variable{W w l:World}{b d f m q i:Nat}{u1 u2 u3 u4:Value}{cs:Array Value}{T:TypeId}{k:Int}{A:List O}{x:O}
theorem tY(x:O):(ah x).length=9:=rfl
theorem Hy(xs:List O)(k j:Nat)(x:O)(c:xs[k]?=some x)(hj:j<9):(xs.flatMap ah)[k*9+j]?=(ah x)[j]? :=by
 induction xs generalizing k with
 |nil=>simp at c
 |cons a r ih=>
  rw[List.flatMap_cons]
  cases k with
  |zero=>
   simp at c;subst c;rw[sZ (by rw[tY];omega)];simp
  |succ k=>
   simp at c;rw[pY (by rw[tY];omega),tY,show(k+1)*9+j -9=k*9+j by omega];exact ih k c
theorem AL{base gs n a:Nat}{xs:List O}(h:W.ownsRow base 89 9 (.slice (some ⟨gs,0,none⟩) n a) n (xs.flatMap ah))(k:Nat)(x:O)(o:xs[k]?=some x):
  W.cell? ⟨gs,k*9,none⟩=some (.int .i64 x.k)/\W.cell? ⟨gs,k*9+1,none⟩=some (.int .i64 x.lk)/\W.cell? ⟨gs,k*9+2,none⟩=some (.int .i64 x.lt)/\W.cell? ⟨gs,k*9+3,none⟩=some (.int .i64 x.lv)/\W.cell? ⟨gs,k*9+4,none⟩=some (.int .i64 x.rk)/\W.cell? ⟨gs,k*9+5,none⟩=some (.int .i64 x.rt)/\W.cell? ⟨gs,k*9+6,none⟩=some (.int .i64 x.rv)/\W.cell? ⟨gs,k*9+7,none⟩=some (.bool x.hl)/\W.cell? ⟨gs,k*9+8,none⟩=some (.bool x.hr):=by
 have key:=λ(j:Nat) (v:Value) (c:j<9) (e:(ah x)[j]?=some v)=>h.cells (g:=gs) rfl (k*9+j) v ((Hy xs k j x o c).trans e)
 simp only[JV]at key;exact⟨key 0 _ (by omega) rfl,key 1 _ (by omega) rfl,key 2 _ (by omega) rfl,key 3 _ (by omega) rfl,key 4 _ (by omega) rfl,key 5 _ (by omega) rfl,key 6 _ (by omega) rfl,key 7 _ (by omega) rfl,key 8 _ (by omega) rfl⟩
def JW(k:Int):Option Tl->Value
 |none=>.tuple #[zG,.int .i64 8]
 |some τ=>.tuple #[vG k τ,.int .i64 0]
theorem XK{τ τ':Tl}(h:vF τ τ')(k:Int):vG k τ=vG k τ':=by
 have a:∀x,x∈τ.R↔x∈τ'.R:=λx=>h.R.mem_iff
 unfold vG;rw[h.c,h.s,Ct a,Cu a,tZ a]
theorem WV(h:w.heap[b]?=some (.cells cs T)):(w.setCell ⟨b,d,none⟩ u1).heap[b]?=some (.cells (cs.setIfInBounds d u1) T):=yc h _
theorem Zz(h:w.heap[b]?=some (.cells cs T)):((w.setCell ⟨b,d,none⟩ u1).setCell ⟨b,f,none⟩ u2).heap[b]?=some (.cells ((cs.setIfInBounds d u1).setIfInBounds f u2) T):=WV (WV h)
theorem YN(h:w.heap[b]?=some (.cells cs T)):(((w.setCell ⟨b,d,none⟩ u1).setCell ⟨b,f,none⟩ u2).setCell ⟨b,m,none⟩ u3).heap[b]?=some (.cells (((cs.setIfInBounds d u1).setIfInBounds f u2).setIfInBounds m u3) T):=WV (Zz h)
theorem XL(h:w.heap[b]?=some (.cells cs T)):((((w.setCell ⟨b,d,none⟩ u1).setCell ⟨b,f,none⟩ u2).setCell ⟨b,m,none⟩ u3).setCell ⟨b,q,none⟩ u4).heap[b]?=some (.cells ((((cs.setIfInBounds d u1).setIfInBounds f u2).setIfInBounds m u3).setIfInBounds q u4) T):=WV (YN h)
theorem bs5{a:Nat}{u5:Value}(h:w.heap[b]?=some (.cells cs T)):(((((w.setCell ⟨b,d,none⟩ u1).setCell ⟨b,f,none⟩ u2).setCell ⟨b,m,none⟩ u3).setCell ⟨b,q,none⟩ u4).setCell ⟨b,a,none⟩ u5).heap[b]?=some (.cells (((((cs.setIfInBounds d u1).setIfInBounds f u2).setIfInBounds m u3).setIfInBounds q u4).setIfInBounds a u5) T):=WV (XL h)
theorem gs0(w:World)(b:Nat):w.grownBy w (some b):=⟨rfl,rfl,rfl,aO _,λ_ _ _=>rfl⟩
theorem gs1(h:w.grownBy l (some b))(i:Nat)(u:Value):w.grownBy (l.setCell ⟨b,i,none⟩ u) (some b):=
 ⟨h.os,h.tape,h.output,by simpa using h.size,λj c a=>(zw _ _ _ _ (λe=>a (by rw[show j=b from e]))).trans (h.block j c a)⟩
structure Rg(w:World)(k:Int)(A:List O)(i:Nat)(W:World):Prop where
 blk:W.heap[w.heap.size+1]?=some (.cells (fZ k (bD (gK (A.take i).reverse k))).toArray 140)
 res:W.heap[w.heap.size]?=some (.cells #[.int .i64 0,.int .i64 0,.int .i64 0,.int .i64 0,.int .i64 0,.bool false] 140)
 below:Below w.heap.size w W
theorem Rg.next{a:World}{o:Obj}(h:Rg w k A i W)(r:A[i]?=some x)(p:x.k=k)(g:a.heap[w.heap.size+1]?=some (.cells (fZ k (bE (bD (gK (A.take i).reverse k)) x)).toArray 140))(c:(W.alloc o).grownBy a (some (w.heap.size+1))):Rg w k A (i+1) a:=by
 have hlt:=(aD.1 h.blk).1;have n:=h.below.size
 have e:gK (A.take (i+1)).reverse k=x::gK (A.take i).reverse k:=by
  rw[List.take_add_one,r,List.reverse_append];subst p;exact yl x _
 refine⟨by rw[e];exact g,?_,?_⟩
 .exact(c.block _ (by simp;omega) (λe=>by injection e;omega)).trans ((zk W o _ (by omega)).trans h.res)
 .exact(h.below.alloc n o).grown c (by simp;omega) (λj e=>by injection e;omega)
theorem Rg.skip(o:Obj)(h:Rg w k A i W)(j:A[i]?=some x)(g:x.k≠k):Rg w k A (i+1) (W.alloc o):=by
 have a:=(aD.1 h.blk).1;have c:=h.below.size
 have e:gK (A.take (i+1)).reverse k=gK (A.take i).reverse k:=by
  rw[List.take_add_one,j,List.reverse_append];exact uf x _ (Ne.symm g)
 refine⟨by rw[e];exact(zk W o _ a).trans h.blk,(zk W o _ (by omega)).trans h.res,h.below.alloc c o⟩
theorem JX(A:List O)(k:Int)(i:Nat):(bD (gK (A.take i).reverse k)).c<=A.length:=by
 rw[jZ];refine di (oo _ _) ?_;simp;omega
theorem Sy(A:List O)(k:Int):(gK A k).Perm (gK A.reverse k):=ym (List.reverse_perm A).symm k
theorem ga1(h:w.grownBy l (some b))(o:Obj)(g:l.heap.size=w.heap.size:=by simp):(w.alloc o).grownBy (l.alloc o) (some b):=by
 refine⟨h.os,h.tape,h.output,by simp[g],λj n a=>?_⟩
 by_cases e:j<w.heap.size
 .rw[zk _ _ _ e,zk _ _ _ (by omega)];exact h.block j e a
 .have p:j=w.heap.size:=by simp at n;omega
  subst p;have c:=(MapKept.heap_alloc l o).1;rw[g]at c;rw[c,(MapKept.heap_alloc w o).1]
theorem Er(base g ck:Nat)(A:List O)(w:World)(h:w.ownsRow base 89 9 (.slice (some ⟨g,0,none⟩) A.length ck) A.length (A.flatMap ah))(k:Int)(hA:A.length<=1000000)(h0:0<A.length):
  Calls Tryz.prog 74 #[.slice (some ⟨g,0,none⟩) A.length ck,.int .i64 k] w λe l=>e=.returned (JW k (bK A k))/\Below w.heap.size w l:=by
 have HR:=hid h;clear h
 have HI:Hid (Rg w k A 0 ((w.alloc (.cells #[.int .i64 0,.int .i64 0,.int .i64 0,.int .i64 0,.int .i64 0,.bool false] 140)).alloc (.cells #[.int .i64 k,.int .i64 0,.int .i64 0,.int .i64 0,.int .i64 0,.bool false] 140))):=by
  refine⟨?_,?_,wT _ _ _⟩
  .have e:(w.alloc (.cells #[.int .i64 0,.int .i64 0,.int .i64 0,.int .i64 0,.int .i64 0,.bool false] 140)).heap.size=w.heap.size+1:=by simp
   have:=(MapKept.heap_alloc (w.alloc (.cells #[.int .i64 0,.int .i64 0,.int .i64 0,.int .i64 0,.int .i64 0,.bool false] 140)) (.cells #[.int .i64 k,.int .i64 0,.int .i64 0,.int .i64 0,.int .i64 0,.bool false] 140)).1;rw[e]at this;exact this
  .exact(zk _ _ _ (by simp)).trans (MapKept.heap_alloc w _).1
 go_enter Tryz.func74,Tryz.ntmps74;go_wp2
 go_loopg [14] A.length (λgg U wr=>∃i:Nat,i<=A.length/\gg=A.length -i/\U=.int .i64 i/\Hid (Rg w k A i wr))
 case atStart=>exact⟨0,gy _,rfl,rfl,HI.out⟩
 case round=>
  obtain⟨i,hile,L,rfl,H⟩:=hrel;have z:=hid L;clear L
  by_cases hlt:i<A.length
  .obtain⟨x,hx⟩:∃x,A[i]?=some x:=⟨_,dK hlt⟩;have B:=H.out;have X:=AL (dA (dA HR.out B.below) (zI _ _)) i x hx;have u:=l5 B.blk;have V:w.heap.size+1<wr.heap.size:=(aD.1 B.blk).1
   have Q:((bD (gK (A.take i).reverse k)).c:Int)<=1000000:=by have:=JX A k i;omega
   have ZA:(0:Int)<=((bD (gK (A.take i).reverse k)).c:Int):=by omega
   have acg:g<wr.heap.size:=by
    have S:=(dA HR.out B.below)
    rcases S.2 with⟨N,_⟩|⟨g',cap,cur,N,h5,h4,_⟩
    .cases N
    .cases N;exact(aD.1 h4).1
   have d:(0:Int)<=(i:Int):=by omega
   have f:(i:Int)<(A.length:Int):=by omega
   by_cases hkk:x.k=k
   .have y:Hid (∀I,I.heap[w.heap.size+1]?=some (.cells (fZ k (bE (bD (gK (A.take i).reverse k)) x)).toArray 140)->wr.grownBy I (some (w.heap.size+1))->I.heap.size=wr.heap.size->∀o,Rg w k A (i+1) (I.alloc o)):=λI S h2 N o=>H.out.next (o:=o) hx hkk ((zk I o _ (by omega)).trans S) (ga1 h2 o N)
    have C:=hid B.blk;clear B hx;generalize bD (gK (A.take i).reverse k)=τ at *;obtain⟨c,s,R⟩:=τ;obtain⟨xk,lk,lt,lv,rk,rt,rv,hl,hr⟩:=x;simp only at hkk X u Q ZA;subst hkk
    cases hl <;>cases hr
    .go_wp2
     all_goals go_roundg (A.length -(i+1))
     case measure=>have:=z.out;omega
     case rel=>
      refine⟨i+1,by omega,rfl,by go_num,?_⟩;refine y.out _ ((WV C.out).trans ?_) (gs1 (gs0 wr _) _ _) (by simp) _;simp[fZ,bE]
    .by_cases hR:R=[]
     .subst hR;simp only[lo,hi,some?,List.isEmpty_nil,Bool.not_true]at u;go_wp2
      all_goals go_roundg (A.length -(i+1))
      case measure=>have:=z.out;omega
      case rel=>
       refine⟨i+1,by omega,rfl,by go_num,?_⟩;refine y.out _ ((XL C.out).trans ?_) (gs1 (gs1 (gs1 (gs1 (gs0 wr _) _ _) _ _) _ _) _ _) (by simp) _;simp[fZ,bE,lo,hi,some?]
     .have F:some? R=true:=by cases R with
       |nil=>exact absurd rfl hR
       |cons a r=>rfl
      rw[F]at u;have j:=hid hR;clear hR F
      by_cases hlo:rv<lo R <;>by_cases hhi:hi R<rv
      .go_wp2
       all_goals go_roundg (A.length -(i+1))
       case measure=>have:=z.out;omega
       case rel=>
        refine⟨i+1,by omega,rfl,by go_num,?_⟩;refine y.out _ ((XL C.out).trans ?_) (gs1 (gs1 (gs1 (gs1 (gs0 wr _) _ _) _ _) _ _) _ _) (by simp) _
        have n:min rv (lo R)=rv:=by omega
        have t:max rv (hi R)=rv:=by omega
        simp[fZ,bE,jC rv j.out,jD rv j.out,n,t,some?]
      .go_wp2
       all_goals go_roundg (A.length -(i+1))
       case measure=>have:=z.out;omega
       case rel=>
        refine⟨i+1,by omega,rfl,by go_num,?_⟩;refine y.out _ ((YN C.out).trans ?_) (gs1 (gs1 (gs1 (gs0 wr _) _ _) _ _) _ _) (by simp) _
        have n:min rv (lo R)=rv:=by omega
        have t:max rv (hi R)=hi R:=by omega
        simp[fZ,bE,jC rv j.out,jD rv j.out,n,t,some?]
      .go_wp2
       all_goals go_roundg (A.length -(i+1))
       case measure=>have:=z.out;omega
       case rel=>
        refine⟨i+1,by omega,rfl,by go_num,?_⟩;refine y.out _ ((YN C.out).trans ?_) (gs1 (gs1 (gs1 (gs0 wr _) _ _) _ _) _ _) (by simp) _
        have n:min rv (lo R)=lo R:=by omega
        have t:max rv (hi R)=rv:=by omega
        simp[fZ,bE,jC rv j.out,jD rv j.out,n,t,some?]
      .go_wp2
       all_goals go_roundg (A.length -(i+1))
       case measure=>have:=z.out;omega
       case rel=>
        refine⟨i+1,by omega,rfl,by go_num,?_⟩;refine y.out _ ((Zz C.out).trans ?_) (gs1 (gs1 (gs0 wr _) _ _) _ _) (by simp) _
        have n:min rv (lo R)=lo R:=by omega
        have t:max rv (hi R)=hi R:=by omega
        simp[fZ,bE,jC rv j.out,jD rv j.out,n,t,some?]
    .go_wp2
     all_goals go_roundg (A.length -(i+1))
     case measure=>have:=z.out;omega
     case rel=>
      refine⟨i+1,by omega,rfl,by go_num,?_⟩;refine y.out _ ((Zz C.out).trans ?_) (gs1 (gs1 (gs0 wr _) _ _) _ _) (by simp) _;simp[fZ,bE]
    .by_cases hR:R=[]
     .subst hR;simp only[lo,hi,some?,List.isEmpty_nil,Bool.not_true]at u;go_wp2
      all_goals go_roundg (A.length -(i+1))
      case measure=>have:=z.out;omega
      case rel=>
       refine⟨i+1,by omega,rfl,by go_num,?_⟩;refine y.out _ ((bs5 C.out).trans ?_) (gs1 (gs1 (gs1 (gs1 (gs1 (gs0 wr _) _ _) _ _) _ _) _ _) _ _) (by simp) _;simp[fZ,bE,lo,hi,some?]
     .have F:some? R=true:=by cases R with
       |nil=>exact absurd rfl hR
       |cons a r=>rfl
      rw[F]at u;have j:=hid hR;clear hR F
      by_cases hlo:rv<lo R <;>by_cases hhi:hi R<rv
      .go_wp2
       all_goals go_roundg (A.length -(i+1))
       case measure=>have:=z.out;omega
       case rel=>
        refine⟨i+1,by omega,rfl,by go_num,?_⟩;refine y.out _ ((bs5 C.out).trans ?_) (gs1 (gs1 (gs1 (gs1 (gs1 (gs0 wr _) _ _) _ _) _ _) _ _) _ _) (by simp) _
        have n:min rv (lo R)=rv:=by omega
        have t:max rv (hi R)=rv:=by omega
        simp[fZ,bE,jC rv j.out,jD rv j.out,n,t,some?]
      .go_wp2
       all_goals go_roundg (A.length -(i+1))
       case measure=>have:=z.out;omega
       case rel=>
        refine⟨i+1,by omega,rfl,by go_num,?_⟩;refine y.out _ ((XL C.out).trans ?_) (gs1 (gs1 (gs1 (gs1 (gs0 wr _) _ _) _ _) _ _) _ _) (by simp) _
        have n:min rv (lo R)=rv:=by omega
        have t:max rv (hi R)=hi R:=by omega
        simp[fZ,bE,jC rv j.out,jD rv j.out,n,t,some?]
      .go_wp2
       all_goals go_roundg (A.length -(i+1))
       case measure=>have:=z.out;omega
       case rel=>
        refine⟨i+1,by omega,rfl,by go_num,?_⟩;refine y.out _ ((XL C.out).trans ?_) (gs1 (gs1 (gs1 (gs1 (gs0 wr _) _ _) _ _) _ _) _ _) (by simp) _
        have n:min rv (lo R)=lo R:=by omega
        have t:max rv (hi R)=rv:=by omega
        simp[fZ,bE,jC rv j.out,jD rv j.out,n,t,some?]
      .go_wp2
       all_goals go_roundg (A.length -(i+1))
       case measure=>have:=z.out;omega
       case rel=>
        refine⟨i+1,by omega,rfl,by go_num,?_⟩;refine y.out _ ((YN C.out).trans ?_) (gs1 (gs1 (gs1 (gs0 wr _) _ _) _ _) _ _) (by simp) _
        have n:min rv (lo R)=lo R:=by omega
        have t:max rv (hi R)=hi R:=by omega
        simp[fZ,bE,jC rv j.out,jD rv j.out,n,t,some?]
   .have y:Hid (∀o,Rg w k A (i+1) (wr.alloc o)):=λo=>H.out.skip o hx hkk
    clear B hx;go_wp2
    go_roundg (A.length -(i+1))
    case measure=>have:=z.out;omega
    case rel=>exact⟨i+1,by omega,rfl,by go_num,y.out _⟩
  .have n:i=A.length:=by omega
   have hge:¬((i:Int)<(A.length:Int)):=by omega
   have B:=H.out;have M:=l5 B.res;have P:=B.blk;rw[n,List.take_length]at P;have u:=l5 P;have K:=hid B.below;have V:w.heap.size+1<wr.heap.size:=(aD.1 P).1;have E:=rQ (Sy A k)
   by_cases hem:gK A k=[]
   .have G:bK A k=none:=if_pos hem
    have Y:Hid (JW k (bK A k)=JW k none):=by show JW k (bK A k)=JW k none;rw[G]
    have Z:(bD (gK A.reverse k)).c=0:=by rw[<-E.c,hem];rfl
    rw[Z]at u;clear B P E H G;go_wp2;refine CU (v:=JW k none) (by simp[results,Tryz.results74,go_sem,M,JW,zG]) rfl ⟨by rw[Y.out],?_⟩;exact(((((K.out.setCell (p:=⟨w.heap.size,0,none⟩) (aO _) _).setCell (p:=⟨w.heap.size,1,none⟩) (aO _) _).setCell (p:=⟨w.heap.size,2,none⟩) (aO _) _).setCell (p:=⟨w.heap.size,3,none⟩) (aO _) _).setCell (p:=⟨w.heap.size,4,none⟩) (aO _) _).setCell (p:=⟨w.heap.size,5,none⟩) (aO _) _
   .have G:bK A k=some (bD (gK A k)):=if_neg hem;have hv:=XK E k
    have hcp:(0:Int)<((bD (gK A.reverse k)).c:Int):=by
     rw[<-E.c,jZ];have:=List.length_pos_iff.2 hem;omega
    have hcp2:((bD (gK A.reverse k)).c:Int)<=1000000:=by
     have:=JX A k A.length;rw[List.take_length]at this;omega
    have Y:Hid (JW k (bK A k)=JW k (some (bD (gK A.reverse k)))):=by
     show JW k (bK A k)=JW k (some (bD (gK A.reverse k)));rw[G];show Value.tuple #[_,_]=Value.tuple #[_,_];rw[hv]
    clear B P E H hv G;generalize bD (gK A.reverse k)=τ at *;go_wp2;refine CU (v:=JW k (some τ)) (by simp[results,Tryz.results74,go_sem,M,JW,vG]) rfl ⟨by rw[Y.out],?_⟩;exact(((((K.out.setCell (p:=⟨w.heap.size,0,none⟩) (aO _) _).setCell (p:=⟨w.heap.size,1,none⟩) (aO _) _).setCell (p:=⟨w.heap.size,2,none⟩) (aO _) _).setCell (p:=⟨w.heap.size,3,none⟩) (aO _) _).setCell (p:=⟨w.heap.size,4,none⟩) (aO _) _).setCell (p:=⟨w.heap.size,5,none⟩) (aO _) _
end
section
open Go.Proofs.Tryz
variable{A:List O}{k:Int}{w W w6:World}{i:Nat}{v v' d:Value}{o1 o2:Obj}{Q ks:List Int}
theorem Es:(bK A k).isSome=true↔∃x∈A,x.k=k:=by
 unfold bK
 by_cases h:gK A k=[]
 .rw[if_pos h]
  constructor
  .intro h;cases h
  .rintro⟨x,a,rfl⟩;have:=Cv.2 a;rw[h]at this;cases this
 .rw[if_neg h]
  constructor
  .intro _;obtain⟨x,a⟩:=List.exists_mem_of_ne_nil _ h;simp only[gK,List.mem_filter,beq_iff_eq]at a;exact⟨x,a.1,a.2⟩
  .intro _;rfl
theorem Vf:(prog.info? 3).map (λi=>(i.zero,i.size,i.bytes))=some (some (.int .i64 0),1,8):=by kernel_rfl
theorem Et(base:Nat)(v:Value)(ks:List Int)(w:World)(h:w.ownsRow base 3 1 v ks.length (ks.map encZ))(hl:ks.length<=1000000):
  Calls prog 73 #[v] w λe b=>e=.returned (.tuple #[])/\b.ownsRow base 3 1 v ks.length ((ks.mergeSort λx y=>decide (x<=y)).map encZ)/\w.grownBy b v.ownBlock:=by
 rcases h.2 with⟨rfl,r⟩|⟨g,cap,cur,rfl,f,a,u,s,z,p⟩
 .have m:ks=[]:=nD r;subst m;have c:=AnyM.slices_Sort_int_none Tryz.sortG none 0 w
  change Calls prog 131 _ _ _ at c
  have l:Hid _:=c;clear c;go_enter func73,ntmps73
  go_wp2_with (go_at_call 131;refine Calls.mono (Hid.out l) ?_;rintro e b ⟨rfl,rfl⟩)
  go_end0
  exact⟨rfl,by simpa using h,⟨rfl,rfl,rfl,aO _,λ_ _ _=>rfl⟩⟩
 .have o:Holds encZ w g 0 ks.toArray:=holds_of_block_i a (by simpa using p);have j:g<w.heap.size:=(aD.1 a).1;have c:=AnyM.slices_Sort_int Tryz.sortG g 0 cap ks w o j (by omega)
  change Calls prog 131 _ _ _ at c
  have l:Hid (Calls prog 131 #[.slice (some ⟨g,0,none⟩) ks.length cap] w λe b=>e=.returned (.tuple #[])/\(b.ownsRow base 3 1 (.slice (some ⟨g,0,none⟩) ks.length cap) ks.length ((ks.mergeSort λx y=>decide (x<=y)).map encZ)/\w.grownBy b (some g))):=
   c.mono λe b ⟨q,n,os,t⟩=>⟨q,by rw[t];exact⟨ownsRow_sorted_i (by simp) f a u s z,grownBy_sorted_i _⟩⟩
  clear c o a p h;go_enter func73,ntmps73
  go_wp2_with (go_at_call 131;refine Calls.mono (Hid.out l) ?_;rintro e b ⟨rfl,hpost⟩)
  go_end0
  exact⟨rfl,hpost⟩
structure Rk(w:World)(g ck:Nat)(A:List O)(i:Nat)(v:Value)(W:World):Prop where
 below:Below w.heap.size w W
 row:W.ownsRow w.heap.size 3 1 v i (((A.take i).map (·.k)).map encZ)
theorem Rk.step{g b:Nat}(h:Rk w g b A i v W){x:O}(f:A[i]?=some x)(a:w6.ownsRow w.heap.size 3 1 v' (i+1) (((A.take i).map (·.k)).map encZ++[.int .i64 x.k]))(l:((W.alloc o1).alloc o2).grownBy w6 v.ownBlock):Rk w g b A (i+1) v' w6:=by
 have c:=h.below.size;refine⟨((h.below.alloc c o1).alloc (by simp;omega) o2).grown l (by simp;omega) (λj e=>?_),?_⟩
 .rcases h.row.2 with⟨rfl,_⟩|⟨g,cap,cur,rfl,h3,_⟩
  .simp[Value.ownBlock]at e
  .simp[Value.ownBlock]at e;omega
 .rw[List.take_add_one,f];simpa[encZ]using a
structure Rm(w:World)(d:Value)(Q:List Int)(A:List O)(i:Nat)(ks:List Int)(v:Value)(W:World):Prop where
 below:Below w.heap.size w W
 keys:W.ownsRow w.heap.size 3 1 d Q.length (Q.map encZ)
 row:W.ownsRow w.heap.size 140 6 v ks.length (ks.flatMap (gE (bK A)))
 ord:ks.Pairwise (λx y=>x<y)
 mem:∀k,k∈ks↔k∈Q.take i
 len:ks.length<=i
 ne:∀g,d.ownBlock=some g->v.ownBlock≠some g
theorem Rm.skip(h:Rm w d Q A i ks v W){a:Int}(f:Q[i]?=some k)(b:Q[i -1]?=some a)(hi:0<i)(e:a=k):Rm w d Q A (i+1) ks v W:=by
 refine⟨h.below,h.keys,h.row,h.ord,λx=>?_,Nat.le_succ_of_le h.len,h.ne⟩;rw[h.mem,List.take_add_one,f];simp only[Option.toList_some,List.mem_append,List.mem_singleton]
 constructor
 .exact .inl
 .rintro(c|rfl)
  .exact c
  .subst e;rw[List.mem_take_iff_getElem];have hl:=(kH.1 b).1;have g:=(kH.1 b).2;exact⟨i -1,by omega,g⟩
theorem Rm.step{w5:World}(h:Rm w d Q A i ks v W)(E:Q.Pairwise (λx y=>x<=y))(C:Q[i]?=some k)(n:i=0∨∃s,Q[i -1]?=some s/\s≠k)
  (z:Below W.heap.size W w5) (l:w6.ownsRow w.heap.size 140 6 v' (ks.length+1) (ks.flatMap (gE (bK A))++gE (bK A) k)) (G:((w5.alloc o1).alloc o2).grownBy w6 v.ownBlock) (p:v'.ownBlock=v.ownBlock∨v'.ownBlock=some ((w5.alloc o1).alloc o2).heap.size):Rm w d Q A (i+1) (ks++[k]) v' w6:=by
 have I:=h.below.size;have hs5:=z.size;have B:=dA h.keys z;have u:Below w.heap.size w w5:=h.below.trans (z.mono I)
 have q:∀g,d.ownBlock=some g->g<W.heap.size:=λg e=>(h.keys.lt g e).2
 refine⟨((u.alloc (by omega) o1).alloc (by simp;omega) o2).grown G (by simp;omega) (λj e=>?_),?_,by simpa[List.flatMap_append]using l,?_,λx=>?_,by simp;have:=h.len;omega,λg e=>?_⟩
 .rcases h.row.2 with⟨rfl,_⟩|⟨g,cap,cur,rfl,h3,_⟩
  .simp[Value.ownBlock]at e
  .simp[Value.ownBlock]at e;omega
 .refine((B.alloc o1).alloc o2).kept G ?_
  cases e:d.ownBlock with
  |none=>exact .inl rfl
  |some g=>exact .inr (λm=>h.ne g e m.symm)
 .rw[List.pairwise_append];refine⟨h.ord,List.pairwise_singleton _ _,λa F b f=>?_⟩;rw[List.mem_singleton]at f;subst f;rw[h.mem,List.mem_take_iff_getElem]at F;obtain⟨j,hj,rfl⟩:=F;have r:=(kH.1 C).1
  rcases n with rfl|⟨s,h0,hne⟩
  .omega
  .have c:=(kH.1 h0).1;have o:=(kH.1 h0).2;have t:=(kH.1 C).2;have H:Q[i -1]<=Q[i]:=List.pairwise_iff_getElem.1 E (i -1) i c r (by omega)
   have K:Q[j]<=Q[i -1]:=by
    rcases Nat.lt_or_ge j (i -1)with h|h
    .exact List.pairwise_iff_getElem.1 E j (i -1) (by omega) c h
    .have:j=i -1:=by omega
     subst this;exact Int.le_refl _
   rw[o,t]at H;rw[o]at K;omega
 .rw[List.mem_append,h.mem,List.take_add_one,C];simp
 .rcases p with m|m
  .rw[m];exact h.ne g e
  .rw[m];have:=q g e;simp;omega
end
section
open Go.Proofs.Tryz Go.Joins
theorem Cw(v:Value)(base:Nat)(w:World)(h:w.ownsRow base 89 9 v 0 []):
  Calls prog 31 #[v] w λe b=>e=.returned (.slice none 0 0)/\Below w.heap.size w b:=by
 have d:Hid (∀W,Calls prog 73 #[.slice none 0 0] W λe b=>e=.returned (.tuple #[])/\Below W.heap.size W b):=λW=>
  (Et 0 (.slice none 0 0) [] W (Ak _ _ _ _) (by simp)).mono λe b ⟨f,_,a⟩=>⟨f,a.os,a.tape,a.output,a.size,λj c=>a.block j c (by simp[Value.ownBlock])⟩
 rcases ownsRow_forms h with⟨rfl,_⟩|⟨ga,ca,rfl⟩
 all_goals
  clear h;go_enter func31,ntmps31;go_wp2;refine wp_loop_rounds 1 ?_;rw[rounds_succ]
  go_wp2_with (go_at_call 73;refine Calls.mono (d.out _) ?_;rintro e b ⟨rfl,g⟩)
  refine wp_loop_rounds 1 ?_;rw[rounds_succ];go_wp2;go_ret;exact⟨rfl,g⟩
theorem Cx(base g F:Nat)(A:List O)(w:World)(h:w.ownsRow base 89 9 (.slice (some ⟨g,0,none⟩) A.length F) A.length (A.flatMap ah))(hA:A.length<=1000000)(h0:0<A.length):
  Calls prog 31 #[.slice (some ⟨g,0,none⟩) A.length F] w λe z=>∃(v:Value) (ks:List Int),e=.returned v/\ks.Pairwise (λx y=>x<y)/\(∀k,k∈ks↔(bK A k).isSome=true)/\ks.length<=A.length/\z.ownsRow w.heap.size 140 6 v ks.length (ks.flatMap (gE (bK A)))/\Below w.heap.size w z:=by
 obtain⟨i3,hi3,hz3,hs3,hb3⟩:=Dw Vf;obtain⟨i0,P,S,hz1,hz2⟩:=Dw OD;have HR:Hid (w.ownsRow base 89 9 (.slice (some ⟨g,0,none⟩) A.length F) A.length (A.flatMap ah)):=h;clear h;go_enter func31,ntmps31;go_wp2
 go_loopg [3,13] A.length (λgg v3 v13 wr=>∃i:Nat,i<=A.length/\gg=A.length -i/\v13=.int .i64 i/\Hid (Rk w g F A i v3 wr))
 case atStart=>exact⟨0,gy _,rfl,rfl,⟨zI _ _,Ak _ _ _ _⟩⟩
 case round=>
  obtain⟨i,hile,K,rfl,HK⟩:=hrel;have sU:Hid (gk=A.length -i):=K;clear K
  by_cases hlt:i<A.length
  .obtain⟨x,hx⟩:∃x,A[i]?=some x:=⟨_,dK hlt⟩;have C:=HK.out;have hca:=AL (dA HR.out C.below) i x hx;have d:=C.row;have hsz:=C.below.size
   have i1:(0:Int)<=(i:Int):=by omega
   have i2:(i:Int)<(A.length:Int):=by omega
   have e1:(wr.alloc (.cells (ah x).toArray 89)).heap.size=wr.heap.size+1:=by simp
   have hn:=World.news_of_block (World.alloc_heap_new (wr.alloc (.cells (ah x).toArray 89)) (.cells #[.int .i64 x.k] 3));rw[e1]at hn;have HN:Hid _:=hn;have HX:Hid (A[i]?=some x):=hx;clear hn e1 C hx;simp only[ah]at HN
   go_wp2_with (first
    |(at_builtin;refine wpList_append_own_at _ rfl _ _ 84 rfl w.heap.size 3 i3 (.int .i64 0) 1 8 underlying84 hi3 hz3 hs3 hb3 rfl (by decide) _ _ _ rfl ((d.alloc _).alloc _) ⟨wr.heap.size+1,0,none⟩ 1 1 [.int .i64 x.k] rfl rfl HN.out (by intro u hu;simp at hu;subst hu;rfl) (by unfold maxLen;omega) (by omega) (by simp;omega) ?_;intro v' w6 f U _ qa)
    |fail)
   go_roundg (A.length -(i+1))
   case measure=>have:=sU.out;omega
   case rel=>exact⟨i+1,by omega,rfl,by go_num,HK.out.step HX.out f U⟩
  .have e1:i=A.length:=by omega
   have hge:¬((i:Int)<(A.length:Int)):=by omega
   have C:=HK.out;have d:=C.row;rw[e1,List.take_length]at d
   have q:wr.ownsRow w.heap.size 3 1 u3 (A.map (·.k)).length ((A.map (·.k)).map encZ):=by rw[List.length_map];exact d
   obtain⟨R,X,hu⟩:=yg d (by omega);have HI:=Et w.heap.size u3 (A.map (·.k)) wr q (by simpa using hA);have p:=C.below;subst hu
   have XM:Hid (Calls prog 73 #[.slice (some ⟨R,0,none⟩) A.length X] wr λe z=>e=.returned (.tuple #[])/\Below w.heap.size w z/\z.ownsRow w.heap.size 3 1 (.slice (some ⟨R,0,none⟩) A.length X) A.length (((A.map (·.k)).mergeSort λx y=>decide (x<=y)).map encZ)):=by
    refine HI.mono ?_;rintro e z ⟨h1,h2,h3⟩;rw[List.length_map]at h2;refine⟨h1,p.grown h3 p.size (λj e=>?_),h2⟩;exact(d.lt j e).1
   clear HI q d C HK p;have G:((A.map (·.k)).mergeSort λx y=>decide (x<=y)).Perm (A.map (·.k)):=List.mergeSort_perm _ _;have Y:((A.map (·.k)).mergeSort λx y=>decide (x<=y)).Pairwise (λx y=>decide (x<=y)=true):=List.pairwise_mergeSort (λa b c h1 h2=>by simp at *;omega) (λa b=>by simp;omega) _;generalize((A.map (·.k)).mergeSort λx y=>decide (x<=y))=Q at *
   have HQ:Hid (Q.Pairwise (λx y=>x<=y)):=Y.imp λh=>by simpa using h
   have HQm:Hid (∀k,k∈Q↔∃x∈A,x.k=k):=λk=>by rw[G.mem_iff,List.mem_map]
   have ZB:Q.length=A.length:=by rw[G.length_eq,List.length_map]
   rw[<-ZB]at XM;have ZC:Hid (Q.length=A.length):=ZB
   have hQA:Q.length<=1000000:=by omega
   have hQ0:0<Q.length:=by omega
   clear G Y ZB
   have HGr:Hid (∀W k,Below w.heap.size w W->Calls prog 74 #[.slice (some ⟨g,0,none⟩) Q.length F,.int .i64 k] W λe z=>e=.returned (JW k (bK A k))/\Below W.heap.size W z):=λW k T=>by
    rw[ZC.out];exact Er base g F A W (dA HR.out T) k hA h0
   go_wp2_with (go_at_call 73;rw[<-ZC.out];refine Calls.mono (Hid.out XM) ?_;rintro e w3 ⟨rfl,XN,t⟩)
   have YO:Hid (Rm w (.slice (some ⟨R,0,none⟩) Q.length X) Q A 0 [] (.slice none 0 0) w3):=⟨XN,t,Ak _ _ _ _,List.Pairwise.nil,λk=>by simp,aO _,λ_ _=>by simp[Value.ownBlock]⟩;clear XN t XM sU
   go_loopg [6,27] Q.length (λgg v6 v27 wr=>∃(j:Nat) (ks:List Int),j<=Q.length/\gg=Q.length -j/\v27=.int .i64 j/\Hid (Rm w (.slice (some ⟨R,0,none⟩) Q.length X) Q A j ks v6 wr))
   case atStart=>exact⟨0,[],gy _,rfl,rfl,YO.out⟩
   case round=>
    obtain⟨j,ks,hjle,M,rfl,N⟩:=hrel;have ZE:Hid (gk=Q.length -j):=M;clear M
    by_cases hjl:j<Q.length
    .obtain⟨k,hk⟩:∃k,Q[j]?=some k:=⟨_,dK hjl⟩;have m:=N.out;have hck:=Cy m.keys j k hk;have YP:Hid (Q[j]?=some k):=hk;have L:(bK A k).isSome=true:=Es.2 ((HQm.out k).1 (mh hk));obtain⟨τ,hτ⟩:=qC.1 L;have E:=HGr.out wr k m.below;rw[hτ]at E;have Z:Hid (Calls prog 74 #[.slice (some ⟨g,0,none⟩) Q.length F,.int .i64 k] wr λe z=>e=.returned (.tuple #[vG k τ,.int .i64 0])/\Below wr.heap.size wr z):=E
     have HE:Hid (gE (bK A) k=fZ k τ):=by show gE (bK A) k=fZ k τ;unfold gE;rw[hτ];rfl
     have Uj:=m.row;have acj:=m.below.size;have aa4:=m.len
     have j1:(0:Int)<=(j:Int):=by omega
     have j2:(j:Int)<(Q.length:Int):=by omega
     clear E L hτ hk
     by_cases hj0:j=0
     .subst hj0
      have o:=λw5 w6 v' o1 o2 T n hg r=>N.out.step (w5:=w5) (w6:=w6) (v':=v') (o1:=o1) (o2:=o2) HQ.out YP.out (.inl rfl) T n hg r
      have V:Hid _:=o;clear o m
      go_wp2_with (first
       |(go_at_call 74;refine Calls.mono (Hid.out Z) ?_;rintro e w5 ⟨rfl,l⟩;simp only[vG];have H:=World.news_of_block (World.alloc_heap_new (w5.alloc (.cells (fZ k τ).toArray 140)) (.cells (fZ k τ).toArray 140));rw[show(w5.alloc (.cells (fZ k τ).toArray 140)).heap.size=w5.heap.size+1 by simp]at H;have ZF:Hid _:=H;clear H)
       |(at_builtin;refine wpList_append_own_at _ rfl _ _ 74 rfl w.heap.size 140 i0 zG 6 48 underlying74 P S hz1 hz2 rfl (by decide) _ _ _ rfl (((dA Uj l).alloc _).alloc _) ⟨w5.heap.size+1,0,none⟩ 1 1 (fZ k τ) rfl rfl ZF.out (yo k τ) (by unfold maxLen;omega) (by omega) (by have:=l.size;simp;omega) ?_;intro v' w6 f U _ qa)
       |fail)
      go_roundg (Q.length -(0+1))
      case measure=>have:=ZE.out;omega
      case rel=>exact⟨0+1,ks++[k],by omega,rfl,by go_num,V.out w5 w6 v' _ _ l (by rw[HE.out];exact f) U qa⟩
     .obtain⟨s,rfl⟩:∃s,j=s+1:=⟨j -1,by omega⟩;obtain⟨I,hk0⟩:∃I,Q[s]?=some I:=⟨_,dK (by omega)⟩;have ack:=Cy m.keys s I hk0;have YQ:Hid (Q[s+1 -1]?=some I):=hk0;clear hk0
      by_cases hkk:I=k
      .have V:Hid (Rm w (.slice (some ⟨R,0,none⟩) Q.length X) Q A (s+1+1) ks u6 wr):=N.out.skip YP.out YQ.out (by omega) hkk;clear m YQ YP;subst hkk;go_wp2
       go_roundg (Q.length -(s+1+1))
       case measure=>have:=ZE.out;omega
       case rel=>exact⟨s+1+1,ks,by omega,rfl,by go_num,V.out⟩
      .have o:=λw5 w6 v' o1 o2 T n hg r=>N.out.step (w5:=w5) (w6:=w6) (v':=v') (o1:=o1) (o2:=o2) HQ.out YP.out (.inr ⟨I,YQ.out,hkk⟩) T n hg r
       have V:Hid _:=o
       have hkb:(I !=k)=true:=by simpa using hkk
       have hkj:((s:Int)+1==0)=false:=by simp;omega
       clear o m YQ hkk
       go_wp2_with (first
        |(go_at_call 74;refine Calls.mono (Hid.out Z) ?_;rintro e w5 ⟨rfl,l⟩;simp only[vG];have H:=World.news_of_block (World.alloc_heap_new (w5.alloc (.cells (fZ k τ).toArray 140)) (.cells (fZ k τ).toArray 140));rw[show(w5.alloc (.cells (fZ k τ).toArray 140)).heap.size=w5.heap.size+1 by simp]at H;have ZF:Hid _:=H;clear H)
        |(at_builtin;refine wpList_append_own_at _ rfl _ _ 74 rfl w.heap.size 140 i0 zG 6 48 underlying74 P S hz1 hz2 rfl (by decide) _ _ _ rfl (((dA Uj l).alloc _).alloc _) ⟨w5.heap.size+1,0,none⟩ 1 1 (fZ k τ) rfl rfl ZF.out (yo k τ) (by unfold maxLen;omega) (by omega) (by have:=l.size;simp;omega) ?_;intro v' w6 f U _ qa)
        |fail)
       go_roundg (Q.length -(s+1+1))
       case measure=>have:=ZE.out;omega
       case rel=>exact⟨s+1+1,ks++[k],by omega,rfl,by go_num,V.out w5 w6 v' _ _ l (by rw[HE.out];exact f) U qa⟩
    .have e2:j=Q.length:=by omega
     have acm:¬((j:Int)<(Q.length:Int)):=by omega
     go_wp2;go_ret;have m:=N.out;have B:=m.mem;rw[e2,List.take_length]at B;exact⟨_,rfl,ks,m.ord,λk=>by rw[B,HQm.out k,Es],by have:=m.len;have:=ZC.out;omega,m.row,m.below⟩
theorem vB(base:Nat)(v:Value)(A:List O)(w:World)(h:w.ownsRow base 89 9 v A.length (A.flatMap ah))(i:A.length<=1000000):
  Calls prog 31 #[v] w λe b=>∃(v:Value) (ks:List Int),e=.returned v/\ks.Pairwise (λx y=>x<y)/\(∀k,k∈ks↔(bK A k).isSome=true)/\ks.length<=A.length/\b.ownsRow w.heap.size 140 6 v ks.length (ks.flatMap (gE (bK A)))/\Below w.heap.size w b:=by
 cases A with
 |nil=>
  refine(Cw v base w h).mono λe b ⟨c,f⟩=>⟨_,[],c,List.Pairwise.nil,λk=>?_,aO _,Ak _ _ _ _,f⟩
  rw[Co];simp
 |cons a r=>
  obtain⟨g,d,rfl⟩:=yg h (by simp);exact Cx base g d (a::r) w h i (by simp)
end
end Go.Proofs.YthfpipieboophaaGreatDoor
