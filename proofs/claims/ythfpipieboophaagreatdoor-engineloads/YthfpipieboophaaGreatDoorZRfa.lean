import Derived.Shelf.GgSortFunc.SmallK
import Derived.Laws.AppendOwnNone
import Derived.Deep.Onto
import Derived.Test.YthfpipieboophaaGreatDoorZBagm
import Derived.Test.YthfpipieboophaaGreatDoorZSgm
namespace Go.Proofs.YthfpipieboophaaGreatDoor
set_option maxRecDepth 100000
set_option maxHeartbeats 40000000
open Go.RowKit Go.Sort
section
open Go.Proofs.Tryz
theorem jF(a:Bool)(w:World):
  Calls prog 56 #[.bool a] w λe b=>e=.returned (.int .i64 (gY a))/\b=w:=by
 cases a <;>
 .go_enter func56,ntmps56;go_wp2;go_ret;exact⟨gu (by simp[gY]),rfl⟩
theorem yN(xs ys:List Int)(n:Nat)(o c1 s z:Nat)(w:World)(c:n=xs.length)(a:n=ys.length)(hl:n<=1000)
  (d:∀j,j<n->w.cell? ⟨o,j,none⟩=some (.int .i64 (xs.getD j 0))) (b:∀j,j<n->w.cell? ⟨s,j,none⟩=some (.int .i64 (ys.getD j 0))):
  Calls prog 119 #[.slice (some ⟨o,0,none⟩) n c1,.slice (some ⟨s,0,none⟩) n z] w λe t=>e=.returned (.int .i64 (iC xs ys))/\∃m,t=w.drewN m:=by
 have g:=hid c;have p:=hid a;clear c a;go_enter func119,ntmps119;go_wp2
 go_loopw [8] (λi v=>∃k m:Nat,k<=n/\i=.int .i64 k/\v=w.drewN m/\∀j,j<k->xs.getD j 0=ys.getD j 0) (λi _=>n -(intOf i).toNat)
 case atStart=>exact⟨0,0,aW _,rfl,rfl,λj h=>absurd h (Nat.not_lt_zero _)⟩
 case round=>
  obtain⟨k,m,hk,rfl,rfl,r⟩:=hrel;have l:=hid r;clear r
  by_cases hlt:k<n
  .have u:=d k hlt;have B:=b k hlt
   have h1:(0:Int)<=(k:Int):=by omega
   have h2:(k:Int)<(n:Int):=by omega
   clear d b;have f:=SS xs ys k (by rw[<-g.out,<-p.out]) (by rw[<-g.out];exact hlt) l.out;generalize c:xs.getD k 0=x at u f;generalize a:ys.getD k 0=y at B f;have C:=hid c;have A:=hid a;have q:=hid f;clear c a f
   by_cases hlt1:x<y
   .go_wp2;go_quiet (fail);go_wp2;go_ret;exact⟨gu (q.out.1 hlt1).symm,_,World.drewN_drewN _ _ _⟩
   .by_cases hlt2:y<x
    .go_wp2;go_quiet (fail);go_wp2;go_quiet (fail);go_wp2;go_ret;exact⟨gu (q.out.2 hlt2).symm,_,by rw[World.drewN_drewN,World.drewN_drewN]⟩
    .go_wp2;go_quiet (fail);go_wp2;go_quiet (fail);go_wp2
     go_roundw
     case rel=>exact⟨k+1,_,by omega,by go_num,rfl,λj h=>by
      rcases Nat.lt_or_ge j k with h'|h'
      .exact l.out j h'
      .have:j=k:=by omega
       subst this;rw[C.out,A.out];omega⟩
     case measure=>simp[intOf];omega
  .go_wp2;go_ret;exact⟨gu (PL xs ys (by rw[<-g.out,<-p.out]) (λj h=>l.out j (by have:=g.out;omega))).symm,_,rfl⟩
theorem oK(k t v:Int)(w:World):
  Calls prog 55 #[.agg #[.int .i64 k,.int .i64 t,.int .i64 v]] w λe a=>e=.returned (.slice (some ⟨w.heap.size+1,0,none⟩) 3 3)/\a=(w.alloc (.cells #[.int .i64 k,.int .i64 t,.int .i64 v] 37)).alloc (.cells #[.int .i64 k,.int .i64 t,.int .i64 v] 3):=by
 go_enter func55,ntmps55;go_wp2;go_ret;exact⟨rfl,rfl⟩
theorem P7(f h i g c d:Int)(a c1 b l:Nat)(w:World)
  (r:w.cell? ⟨a,0,none⟩=some (.int .i64 f)) (n:w.cell? ⟨a,1,none⟩=some (.int .i64 h)) (q:w.cell? ⟨a,2,none⟩=some (.int .i64 i))
  (o:w.cell? ⟨b,0,none⟩=some (.int .i64 g)) (s:w.cell? ⟨b,1,none⟩=some (.int .i64 c)) (t:w.cell? ⟨b,2,none⟩=some (.int .i64 d)):
  Calls prog 119 #[.slice (some ⟨a,0,none⟩) 3 c1,.slice (some ⟨b,0,none⟩) 3 l] w λe p=>e=.returned (.int .i64 (iC [f,h,i] [g,c,d]))/\∃m,p=w.drewN m:=by
 refine yN [f,h,i] [g,c,d] 3 a c1 b l w rfl rfl (by omega) ?_ ?_
 .intro j k
  match j,k with
  |0,_=>exact r
  |1,_=>exact n
  |2,_=>exact q
 .intro j k
  match j,k with
  |0,_=>exact o
  |1,_=>exact s
  |2,_=>exact t
end
section
open Go.Shelf Go.Lib
variable{W f:World}{blk g B b n cap bj bs bl a s:Nat}{d:Array Nat}
structure Hl where
 k:Int
 t:Int
 v:Int
 met:Int
 came:Int
 deriving DecidableEq,Inhabited
def bz(x:Hl):List Value:=[.int .i64 x.k,.int .i64 x.t,.int .i64 x.v,.int .i64 x.met,.int .i64 x.came]
def rY(x y:Hl):Bool:=decide (iC [x.k,x.t,x.came] [y.k,y.t,y.came]<0)
def vQ(R:Array Hl)(x y:Nat):Bool:=rY R[x]! R[y]!
structure IC(W:World)(blk o:Nat)(x:Hl):Prop where
 c0:W.cell? ⟨blk,o,none⟩=some (.int .i64 x.k)
 c1:W.cell? ⟨blk,o+1,none⟩=some (.int .i64 x.t)
 c2:W.cell? ⟨blk,o+2,none⟩=some (.int .i64 x.v)
 c3:W.cell? ⟨blk,o+3,none⟩=some (.int .i64 x.met)
 c4:W.cell? ⟨blk,o+4,none⟩=some (.int .i64 x.came)
theorem IC.all{o:Nat}{x:Hl}(h:IC W blk o x):W.cell? ⟨blk,o,none⟩=some (.int .i64 x.k)/\W.cell? ⟨blk,o+1,none⟩=some (.int .i64 x.t)/\W.cell? ⟨blk,o+2,none⟩=some (.int .i64 x.v)/\W.cell? ⟨blk,o+3,none⟩=some (.int .i64 x.met)/\W.cell? ⟨blk,o+4,none⟩=some (.int .i64 x.came):=
 ⟨h.c0,h.c1,h.c2,h.c3,h.c4⟩
theorem rZ{R:Array Hl}(h:HoldsK bz 5 W g 0 R)(i:Nat)(hi:i<R.size):IC W g (i*5) R[i]! :=by
 have c:=λ(u:Nat) (e:u<5)=>(HoldsK.cell h (i:=i) (c:=u) hi e).1
 simp only[Nat.zero_add]at c;exact⟨c 0 (by omega),c 1 (by omega),c 2 (by omega),c 3 (by omega),c 4 (by omega)⟩
theorem vR{R:Array Hl}(h:HoldsK bz 5 W g 0 R)(i:g<B)(e:Go.RowKit.Below B W f):HoldsK bz 5 f g 0 R:=
 λj c=>⟨(e.cell (p:=⟨g,0+j,none⟩) i).trans (h j c).1,(e.frozen (p:=⟨g,0+j,none⟩) i).trans (h j c).2⟩
structure Rq(B b g n cap bj bs bl blk a:Nat)(s:Nat)(R:Array Hl)(d:Array Nat)(W:World):Prop where
 irow:zV blk n a d W
 dlt:∀i,i<n->d[i]! < n
 rn:R.size=n
 rows:HoldsK bz 5 W g 0 R
 jc:W.cell? ⟨b,3+s,none⟩=some (.slice (some ⟨g,0,none⟩) n cap)
 cj:W.cell? ⟨bj,0,none⟩=some (.pointer (some ⟨b,0,none⟩))
 cs:W.cell? ⟨bs,0,none⟩=some (.int .i64 s)
 cl:W.cell? ⟨bl,0,none⟩=some (.slice (some ⟨blk,0,none⟩) n a)
 lt:blk<B/\g<B/\b<B/\bj<B/\bs<B/\bl<B
 le:B<=W.heap.size
 ne:g≠blk/\b≠blk/\bj≠blk/\bs≠blk/\bl≠blk
theorem Rq.kept{R:Array Hl}(h:Rq B b g n cap bj bs bl blk a s R d W)(c:Go.RowKit.Below B W f):Rq B b g n cap bj bs bl blk a s R d f:=
 ⟨h.irow.kept h.lt.1 c,h.dlt,h.rn,vR h.rows h.lt.2.1 c,(c.cell (p:=⟨b,3+s,none⟩) h.lt.2.2.1).trans h.jc,(c.cell (p:=⟨bj,0,none⟩) h.lt.2.2.2.1).trans h.cj,(c.cell (p:=⟨bs,0,none⟩) h.lt.2.2.2.2.1).trans h.cs,(c.cell (p:=⟨bl,0,none⟩) h.lt.2.2.2.2.2).trans h.cl,h.lt,aH h.le c.size,h.ne⟩
theorem Rq.reads{R:Array Hl}(h:Rq B b g n cap bj bs bl blk a s R d W):W.cell? ⟨b,3+s,none⟩=some (.slice (some ⟨g,0,none⟩) n cap)/\W.cell? ⟨bj,0,none⟩=some (.pointer (some ⟨b,0,none⟩))/\W.cell? ⟨bs,0,none⟩=some (.int .i64 s)/\W.cell? ⟨bl,0,none⟩=some (.slice (some ⟨blk,0,none⟩) n a):=
 ⟨h.jc,h.cj,h.cs,h.cl⟩
theorem Rq.place{R:Array Hl}(h:Rq B b g n cap bj bs bl blk a s R d W)(i:Nat)(hi:i<n):W.cell? ⟨blk,i,none⟩=some (.int .i64 (d[i]! :Nat)):=by
 have:=(h.irow.row i (by rw[h.irow.size];exact hi)).1;rw[Nat.zero_add]at this;exact this
theorem L6{R:Array Hl}(h:Rq B b g n cap bj bs bl blk a s R d W)(hs:s<2)(i j:Nat)(hi:i<n)(G:j<n):
  Calls Tryz.prog 118 #[.int .i64 i,.int .i64 j,.pointer (some ⟨bj,0,none⟩),.pointer (some ⟨bs,0,none⟩),.pointer (some ⟨bl,0,none⟩)] W λe K=>e=.returned (.bool (vQ R d[i]! d[j]!))/\Go.RowKit.Below W.heap.size W K:=by
 have H:=λV (o:Go.RowKit.Below W.heap.size W V)=>(h.kept (o.mono h.le)).reads
 have u:=λV (o:Go.RowKit.Below W.heap.size W V)=>(h.kept (o.mono h.le)).place i hi
 have w:=λV (o:Go.RowKit.Below W.heap.size W V)=>(h.kept (o.mono h.le)).place j G
 have I:=h.dlt i hi;have N:=h.dlt j G
 have p:=λV (o:Go.RowKit.Below W.heap.size W V)=>(rZ (h.kept (o.mono h.le)).rows d[i]! (by rw[h.rn];exact I)).all
 have q:=λV (o:Go.RowKit.Below W.heap.size W V)=>(rZ (h.kept (o.mono h.le)).rows d[j]! (by rw[h.rn];exact N)).all
 have h1:(0:Int)<=(i:Int):=by omega
 have h2:(i:Int)<(n:Int):=by omega
 have h3:(0:Int)<=(j:Int):=by omega
 have h4:(j:Int)<(n:Int):=by omega
 unfold vQ;clear h;generalize d[i]! =x at *;generalize d[j]! =y at *;generalize R[x]! =rx at p⊢;generalize R[y]! =ry at q⊢
 have h5:(0:Int)<=(x:Int):=by omega
 have h6:(x:Int)<(n:Int):=by omega
 have h7:(0:Int)<=(y:Int):=by omega
 have h8:(y:Int)<(n:Int):=by omega
 have r:Hid (∀V,Go.RowKit.Below W.heap.size W V->(V.cell? ⟨b,3+s,none⟩=some (.slice (some ⟨g,0,none⟩) n cap)/\V.cell? ⟨bj,0,none⟩=some (.pointer (some ⟨b,0,none⟩))/\V.cell? ⟨bs,0,none⟩=some (.int .i64 s)/\V.cell? ⟨bl,0,none⟩=some (.slice (some ⟨blk,0,none⟩) n a))/\V.cell? ⟨blk,i,none⟩=some (.int .i64 x)/\V.cell? ⟨blk,j,none⟩=some (.int .i64 y)/\(V.cell? ⟨g,x*5,none⟩=some (.int .i64 rx.k)/\V.cell? ⟨g,x*5+1,none⟩=some (.int .i64 rx.t)/\V.cell? ⟨g,x*5+2,none⟩=some (.int .i64 rx.v)/\V.cell? ⟨g,x*5+3,none⟩=some (.int .i64 rx.met)/\V.cell? ⟨g,x*5+4,none⟩=some (.int .i64 rx.came))/\(V.cell? ⟨g,y*5,none⟩=some (.int .i64 ry.k)/\V.cell? ⟨g,y*5+1,none⟩=some (.int .i64 ry.t)/\V.cell? ⟨g,y*5+2,none⟩=some (.int .i64 ry.v)/\V.cell? ⟨g,y*5+3,none⟩=some (.int .i64 ry.met)/\V.cell? ⟨g,y*5+4,none⟩=some (.int .i64 ry.came))):=λV o=>⟨H V o,u V o,w V o,p V o,q V o⟩
 clear H u w p q;go_enter Tryz.func118,Tryz.ntmps118
 rcases(by omega:s=0∨s=1)with rfl|rfl
 .have c0:=r.out W (iL _ _)
  go_upto_region 1 with fail
  go_cut [8,9]from 10 (λC E V=>∃c l:Nat,C=.pointer (some ⟨c,0,none⟩)/\E=.pointer (some ⟨l,0,none⟩)/\c<V.heap.size/\l<V.heap.size/\Go.RowKit.Below W.heap.size W V/\(V.cell? ⟨c,0,none⟩=some (.int .i64 rx.k)/\V.cell? ⟨c,1,none⟩=some (.int .i64 rx.t)/\V.cell? ⟨c,2,none⟩=some (.int .i64 rx.v)/\V.cell? ⟨c,3,none⟩=some (.int .i64 rx.met)/\V.cell? ⟨c,4,none⟩=some (.int .i64 rx.came))/\(V.cell? ⟨l,0,none⟩=some (.int .i64 ry.k)/\V.cell? ⟨l,1,none⟩=some (.int .i64 ry.t)/\V.cell? ⟨l,2,none⟩=some (.int .i64 ry.v)/\V.cell? ⟨l,3,none⟩=some (.int .i64 ry.met)/\V.cell? ⟨l,4,none⟩=some (.int .i64 ry.came)))
  case first=>
   go_region_held3 (λV=>(V.cell? ⟨b,3+0,none⟩=some (.slice (some ⟨g,0,none⟩) n cap)/\V.cell? ⟨bj,0,none⟩=some (.pointer (some ⟨b,0,none⟩))/\V.cell? ⟨bs,0,none⟩=some (.int .i64 (0:Nat))/\V.cell? ⟨bl,0,none⟩=some (.slice (some ⟨blk,0,none⟩) n a))/\V.cell? ⟨blk,i,none⟩=some (.int .i64 x)/\V.cell? ⟨blk,j,none⟩=some (.int .i64 y)/\(V.cell? ⟨g,x*5,none⟩=some (.int .i64 rx.k)/\V.cell? ⟨g,x*5+1,none⟩=some (.int .i64 rx.t)/\V.cell? ⟨g,x*5+2,none⟩=some (.int .i64 rx.v)/\V.cell? ⟨g,x*5+3,none⟩=some (.int .i64 rx.met)/\V.cell? ⟨g,x*5+4,none⟩=some (.int .i64 rx.came))/\(V.cell? ⟨g,y*5,none⟩=some (.int .i64 ry.k)/\V.cell? ⟨g,y*5+1,none⟩=some (.int .i64 ry.t)/\V.cell? ⟨g,y*5+2,none⟩=some (.int .i64 ry.v)/\V.cell? ⟨g,y*5+3,none⟩=some (.int .i64 ry.met)/\V.cell? ⟨g,y*5+4,none⟩=some (.int .i64 ry.came))) ((refine r.out _ ?_;repeat' (first|exact iL _ _|(refine Below.drew ?_)|(refine Below.alloc ?_ ?_ _)|(refine Below.setCell ?_ ?_ _)|(simp;try omega)))) (fail)
   all_goals
    (try go_wp2_with fail)
    go_meet
    case rel=>
     refine⟨_,_,rfl,rfl,?_,?_,?_,?_,?_⟩
     ·(simp;try omega)
     ·(simp;try omega)
     .repeat' (first|exact iL _ _|(refine Below.drew ?_)|(refine Below.alloc ?_ ?_ _)|(refine Below.setCell ?_ ?_ _)|(simp;try omega))
     ·(simp;try omega)
     ·(simp;try omega)
  case rest=>
   clear c0 r;obtain⟨c,l,rfl,rfl,M,P,A,p,q⟩:=hcut;have z:=hid A;have F:(wc.cell? ⟨c,0,none⟩=some (.int .i64 rx.k)/\wc.cell? ⟨c,1,none⟩=some (.int .i64 rx.t)/\wc.cell? ⟨c,2,none⟩=some (.int .i64 rx.v)/\wc.cell? ⟨c,3,none⟩=some (.int .i64 rx.met)/\wc.cell? ⟨c,4,none⟩=some (.int .i64 rx.came))/\(wc.cell? ⟨l,0,none⟩=some (.int .i64 ry.k)/\wc.cell? ⟨l,1,none⟩=some (.int .i64 ry.t)/\wc.cell? ⟨l,2,none⟩=some (.int .i64 ry.v)/\wc.cell? ⟨l,3,none⟩=some (.int .i64 ry.met)/\wc.cell? ⟨l,4,none⟩=some (.int .i64 ry.came)):=⟨p,q⟩;clear A p q;go_wp2_with fail;refine(P7 rx.k rx.t rx.came ry.k ry.t ry.came _ _ _ _ _ (by simp) (by simp) (by simp) (by simp) (by simp) (by simp)).mono ?_;rintro e L ⟨rfl,m,rfl⟩;go_wp2;go_ret;refine⟨rfl,z.out.trans ?_⟩;refine Below.mono ?_ z.out.size
   repeat' (first|exact iL _ _|(refine Below.drew ?_)|(refine below_drewN ?_ _)|(refine Below.alloc ?_ ?_ _)|(refine Below.setCell ?_ ?_ _)|(simp;try omega))
 .have c0:=r.out W (iL _ _)
  go_upto_region 1 with fail
  go_cut [8,9]from 10 (λC E V=>∃c l:Nat,C=.pointer (some ⟨c,0,none⟩)/\E=.pointer (some ⟨l,0,none⟩)/\c<V.heap.size/\l<V.heap.size/\Go.RowKit.Below W.heap.size W V/\(V.cell? ⟨c,0,none⟩=some (.int .i64 rx.k)/\V.cell? ⟨c,1,none⟩=some (.int .i64 rx.t)/\V.cell? ⟨c,2,none⟩=some (.int .i64 rx.v)/\V.cell? ⟨c,3,none⟩=some (.int .i64 rx.met)/\V.cell? ⟨c,4,none⟩=some (.int .i64 rx.came))/\(V.cell? ⟨l,0,none⟩=some (.int .i64 ry.k)/\V.cell? ⟨l,1,none⟩=some (.int .i64 ry.t)/\V.cell? ⟨l,2,none⟩=some (.int .i64 ry.v)/\V.cell? ⟨l,3,none⟩=some (.int .i64 ry.met)/\V.cell? ⟨l,4,none⟩=some (.int .i64 ry.came)))
  case first=>
   go_region_held3 (λV=>(V.cell? ⟨b,3+1,none⟩=some (.slice (some ⟨g,0,none⟩) n cap)/\V.cell? ⟨bj,0,none⟩=some (.pointer (some ⟨b,0,none⟩))/\V.cell? ⟨bs,0,none⟩=some (.int .i64 (1:Nat))/\V.cell? ⟨bl,0,none⟩=some (.slice (some ⟨blk,0,none⟩) n a))/\V.cell? ⟨blk,i,none⟩=some (.int .i64 x)/\V.cell? ⟨blk,j,none⟩=some (.int .i64 y)/\(V.cell? ⟨g,x*5,none⟩=some (.int .i64 rx.k)/\V.cell? ⟨g,x*5+1,none⟩=some (.int .i64 rx.t)/\V.cell? ⟨g,x*5+2,none⟩=some (.int .i64 rx.v)/\V.cell? ⟨g,x*5+3,none⟩=some (.int .i64 rx.met)/\V.cell? ⟨g,x*5+4,none⟩=some (.int .i64 rx.came))/\(V.cell? ⟨g,y*5,none⟩=some (.int .i64 ry.k)/\V.cell? ⟨g,y*5+1,none⟩=some (.int .i64 ry.t)/\V.cell? ⟨g,y*5+2,none⟩=some (.int .i64 ry.v)/\V.cell? ⟨g,y*5+3,none⟩=some (.int .i64 ry.met)/\V.cell? ⟨g,y*5+4,none⟩=some (.int .i64 ry.came))) ((refine r.out _ ?_;repeat' (first|exact iL _ _|(refine Below.drew ?_)|(refine Below.alloc ?_ ?_ _)|(refine Below.setCell ?_ ?_ _)|(simp;try omega)))) (fail)
   all_goals
    (try go_wp2_with fail)
    go_meet
    case rel=>
     refine⟨_,_,rfl,rfl,?_,?_,?_,?_,?_⟩
     ·(simp;try omega)
     ·(simp;try omega)
     .repeat' (first|exact iL _ _|(refine Below.drew ?_)|(refine Below.alloc ?_ ?_ _)|(refine Below.setCell ?_ ?_ _)|(simp;try omega))
     ·(simp;try omega)
     ·(simp;try omega)
  case rest=>
   clear c0 r;obtain⟨c,l,rfl,rfl,M,P,A,p,q⟩:=hcut;have z:=hid A;have F:(wc.cell? ⟨c,0,none⟩=some (.int .i64 rx.k)/\wc.cell? ⟨c,1,none⟩=some (.int .i64 rx.t)/\wc.cell? ⟨c,2,none⟩=some (.int .i64 rx.v)/\wc.cell? ⟨c,3,none⟩=some (.int .i64 rx.met)/\wc.cell? ⟨c,4,none⟩=some (.int .i64 rx.came))/\(wc.cell? ⟨l,0,none⟩=some (.int .i64 ry.k)/\wc.cell? ⟨l,1,none⟩=some (.int .i64 ry.t)/\wc.cell? ⟨l,2,none⟩=some (.int .i64 ry.v)/\wc.cell? ⟨l,3,none⟩=some (.int .i64 ry.met)/\wc.cell? ⟨l,4,none⟩=some (.int .i64 ry.came)):=⟨p,q⟩;clear A p q;go_wp2_with fail;refine(P7 rx.k rx.t rx.came ry.k ry.t ry.came _ _ _ _ _ (by simp) (by simp) (by simp) (by simp) (by simp) (by simp)).mono ?_;rintro e L ⟨rfl,m,rfl⟩;go_wp2;go_ret;refine⟨rfl,z.out.trans ?_⟩;refine Below.mono ?_ z.out.size
   repeat' (first|exact iL _ _|(refine Below.drew ?_)|(refine below_drewN ?_ _)|(refine Below.alloc ?_ ?_ _)|(refine Below.setCell ?_ ?_ _)|(simp;try omega))
end
section
open Go.Proofs.Tryz Go.Joins Go.Shelf Go.Lib
variable{α:Type}{w W c r:World}{base g cap n blk m B b s i:Nat}{ps:List Nat}{row:Option Nat}{a:Addr}{A:Array Value}{v:Value}{o:Obj}
theorem J8(x y:Hl):rY x y=true↔x.k<y.k∨x.k=y.k/\(x.t<y.t∨x.t=y.t/\x.came<y.came):=by
 unfold rY;rw[decide_eq_true_eq];simp only[iC]
 repeat' split
 all_goals omega
theorem mW(x y:Hl):rY x y=false↔¬(x.k<y.k∨x.k=y.k/\(x.t<y.t∨x.t=y.t/\x.came<y.came)):=by
 rw[<-J8,Bool.not_eq_true]
theorem Vx(R:Array Hl):SWO (vQ R) where
 irrefl x:=by unfold vQ;rw[mW];omega
 trans x y z h1 h2:=by unfold vQ at *;rw[J8]at *;omega
 ntrans x y z h1 h2:=by unfold vQ at *;rw[mW]at *;omega
theorem cB(enc:α->List Value)(k:Nat)(d:∀x,(enc x).length=k):∀(xs:List α) (i j:Nat) (x:α),xs[i]?=some x->j<k->(xs.flatMap enc)[i*k+j]?=(enc x)[j]?
 |[],i,j,x,h,_=>by simp at h
 |y::ys,0,j,x,h,hj=>by
  simp at h;subst h;rw[List.flatMap_cons,Nat.zero_mul,Nat.zero_add,eB (by rw[d];exact hj)]
 |y::ys,i+1,j,x,h,hj=>by
  simp at h
  have e:(i+1)*k+j=k+(i*k+j):=by rw[Nat.succ_mul];omega
  rw[List.flatMap_cons,e,dK (by rw[d];omega),d,Nat.add_sub_cancel_left];exact cB enc k d ys i j x h hj
theorem L8(enc:α->List Value)(k:Nat)(d:∀x,(enc x).length=k)(xs:List α):(xs.flatMap enc).length=xs.length*k:=by
 induction xs with
 |nil=>simp
 |cons x xs ih=>rw[List.flatMap_cons,List.length_append,ih,d,List.length_cons,Nat.succ_mul];omega
theorem Fg[Inhabited α](enc:α->List Value)(k:Nat)(d:∀x,(enc x).length=k)(f:0<k)(xs:List α):(flatK enc k xs.toArray).toList=xs.flatMap enc:=by
 apply eH;intro t
 by_cases ht:t<xs.length*k
 .have l:t/k<xs.length:=by rw[Nat.div_lt_iff_lt_mul f];exact ht
  have e:t % k<k:=Nat.mod_lt _ f;have j:=cB enc k d xs (t/k) (t % k) xs[t/k] (aO l) e;rw[Nat.mul_comm,Nat.div_add_mod]at j;rw[j,Array.getElem?_toList]
  have h:t<(flatK enc k xs.toArray).size:=by rw[size_flatK];simpa using ht
  rw[eX h,<-getElem!_pos (flatK enc k xs.toArray) t h,get_flatK _ _ _ _ (by simpa using ht)];rw[aO (by rw[d];exact e)];simp[l];rw[aO (by rw[d];exact e)];rfl
 .rw[dS (by simp;omega),dS (by rw[L8 enc k d];omega)]
theorem fM(x:Hl):(bz x).length=5:=rfl
theorem Vy{R:List Hl}(h:w.ownsRow base 117 5 (.slice (some ⟨g,0,none⟩) R.length cap) R.length (R.flatMap bz)):HoldsK bz 5 w g 0 R.toArray:=by
 intro j e
 have d:j<R.length*5:=by simpa using e
 have f:=h.cellAt j d;rw[<-Fg bz 5 fM (by omega),Array.getElem?_toList,eX e]at f;rw[Nat.zero_add];refine⟨?_,h.frozenAt j⟩;rw[f,getElem!_pos (flatK bz 5 R.toArray) j e];rfl
theorem Vz(h:w.ownsRow base 3 1 (.slice (some ⟨g,0,none⟩) n cap) n (ps.map lS))(hn:ps.length=n):Holds lS w g 0 ps.toArray:=by
 intro j f
 have d:j<ps.length:=by simpa using f
 have e:=h.cellAt j (by omega);rw[Nat.zero_add];refine⟨?_,h.frozenAt j⟩;rw[e,List.getElem?_map,aO d];simp[d]
theorem L9{d:Array Nat}(h:zV blk n m d W)(l:n<=m)(k:m<=maxLen)(p:base<=blk):W.ownsRow base 3 1 (.slice (some ⟨blk,0,none⟩) n m) n (d.toList.map lS):=by
 obtain⟨cur,f,hs⟩:=h.shape;refine⟨by simp[h.size],Or.inr ⟨blk,m,cur,rfl,p,f,l,k,by omega,?_⟩⟩;apply eH;intro j
 by_cases hj:j<n
 .rw[dQ (by omega),List.getElem?_map];have e:=(h.row j (by rw[h.size];exact hj)).1;rw[Nat.zero_add,fq f]at e
  have hd:j<d.size:=by rw[h.size];exact hj
  rw[Array.getElem?_toList,Array.getElem?_toList,e,eX hd,getElem!_pos d j hd];rfl
 .rw[dS (by simp;omega),dS (by simp[h.size];omega)]
theorem Ma(h:w.ownsRow base 3 1 (.slice (some ⟨g,0,none⟩) n cap) n (ps.map lS))(f:ps.length=n):zV g n cap ps.toArray w/\n<=cap/\cap<=maxLen/\base<=g:=by
 have p:=Vz h f;obtain⟨_,k⟩:=h
 rcases k with⟨d,_⟩|⟨g',cap',cur,d,l,e,j,q,h8,h9⟩
 .exact absurd d (by simp)
 .injection d with e1 e2 e3
  injection e1 with e1
  injection e1 with e1 _ _
  subst e1 e3;exact⟨⟨by simpa using f,p,(ax.1 e).1,cur,e,by omega⟩,j,q,l⟩
theorem yO(h:w.grownBy c row)(d:a.block<w.heap.size)(e:some a.block≠row):c.cell? a=w.cell? a:=World.cell?_of_block (w:=w) (h.block a.block d e)
theorem CQ(h:w.grownBy c row)(d:a.block<w.heap.size)(e:some a.block≠row):c.frozen? a=w.frozen? a:=World.frozen?_of_block (w:=w) (h.block a.block d e)
theorem ZT{bj bs bl:Nat}{R:Array Hl}(u:Tc (some ⟨blk,0,none⟩) n m A)(E:s<2):si (vQ R) B blk n 118 #[.pointer (some ⟨bj,0,none⟩),.pointer (some ⟨bs,0,none⟩),.pointer (some ⟨bl,0,none⟩)] (uE n) A (Rq B b g n cap bj bs bl blk m s R) where
 size _ _ h:=h.irow.size
 low _ _ h:=⟨h.lt.1,h.le⟩
 kept _ _ _ h u:=h.kept u
 enters:=enters_of func118 (by kernel_rfl) rfl
 less _ _ i j h hi e:=L6 h E i j hi e
 swap d W i j h hi e:=by
  obtain⟨x,z,y,t⟩:=Mc u h.irow i j hi e;have l:=h.le
  have p:∀(k o:Nat),k<B->k≠blk->x.cell? ⟨k,o,none⟩=W.cell? ⟨k,o,none⟩:=λk o q f=>yO t (a:=⟨k,o,none⟩) (aR q l) (by simp;exact f)
  have C:∀(k o:Nat),k<B->k≠blk->x.frozen? ⟨k,o,none⟩=W.frozen? ⟨k,o,none⟩:=λk o q f=>CQ t (a:=⟨k,o,none⟩) (aR q l) (by simp;exact f)
  refine⟨x,z,⟨y,?_,h.rn,λj e=>⟨(p g _ h.lt.2.1 h.ne.1).trans (h.rows j e).1,(C g _ h.lt.2.1 h.ne.1).trans (h.rows j e).2⟩,(p b _ h.lt.2.2.1 h.ne.2.1).trans h.jc,(p bj _ h.lt.2.2.2.1 h.ne.2.2.1).trans h.cj,(p bs _ h.lt.2.2.2.2.1 h.ne.2.2.2.1).trans h.cs,(p bl _ h.lt.2.2.2.2.2 h.ne.2.2.2.2).trans h.cl,h.lt,aH l t.size,h.ne⟩,t⟩;intro k q;have hds:=h.irow.size;rw[swp_get d (i:=i) (j:=j) (by omega) (by omega) k]
  split
  .first|exact h.dlt _ e|exact h.dlt _ hi
  .split
   .first|exact h.dlt _ hi|exact h.dlt _ e
   .exact h.dlt _ q
theorem ZU{e:Nat}{lb:Array Value}(f:blk<B):si (vQ #[]) B blk 0 118 lb e A (λd W=>d=#[]/\B<=W.heap.size) where
 size _ _ h:=by rw[h.1];rfl
 low _ _ h:=⟨f,h.2⟩
 kept _ _ _ h hb:=⟨h.1,aH h.2 hb.size⟩
 enters:=enters_of func118 (by kernel_rfl) rfl
 less _ _ _ _ _ hi _:=absurd hi (by omega)
 swap _ _ _ _ _ hi _:=absurd hi (by omega)
structure Sr(w:World)(b s i:Nat)(v:Value)(W:World):Prop where
 below:Go.RowKit.Below w.heap.size w W
 row:W.ownsRow (w.heap.size+3) 3 1 v i ((List.range i).map lS)
 cj:W.heap[w.heap.size]?=some (.cells #[.pointer (some ⟨b,0,none⟩)] 49)
 cs:W.heap[w.heap.size+1]?=some (.cells #[.int .i64 (s:Nat)] 3)
 cl:W.heap[w.heap.size+1+1]?=some (.cells #[v] 84)
theorem Sr.cells{u:Value}(h:Sr w b s i v W)(d:b<w.heap.size)(e:w.cell? ⟨b,3+s,none⟩=some u):W.cell? ⟨w.heap.size,0,none⟩=some (.pointer (some ⟨b,0,none⟩))/\W.cell? ⟨w.heap.size+1,0,none⟩=some (.int .i64 (s:Nat))/\W.cell? ⟨w.heap.size+1+1,0,none⟩=some v/\W.cell? ⟨b,3+s,none⟩=some u:=
 ⟨by rw[fq h.cj];rfl,by rw[fq h.cs];rfl,by rw[fq h.cl];rfl,(h.below.cell (p:=⟨b,3+s,none⟩) d).trans e⟩
theorem J9{o:Nat}(h:w.cell? ⟨b,o,none⟩=some v):b<w.heap.size:=by
 by_cases hb:b<w.heap.size
 .exact hb
 .simp[World.cell?,show w.heap[b]?=none from Array.getElem?_eq_none (by omega)]at h
theorem aj{e k:Nat}{xs:List Value}(h:w.ownsRow base e k v n xs):∃p cap,v=.slice p n cap:=by
 rcases ownsRow_forms h with⟨rfl,rfl⟩|⟨g,cap,rfl⟩
 .exact⟨_,_,rfl⟩
 .exact⟨_,_,rfl⟩
theorem Sr.drawn(h:Sr w b s i v W)(q:Nat):Sr w b s i v (W.drewN q):=
 ⟨⟨h.below.os,h.below.tape,h.below.output,h.below.size,h.below.block⟩,h.row,h.cj,h.cs,h.cl⟩
theorem Sr.box(h:Sr w b s i v W)(j:(W.alloc o).grownBy r v.ownBlock):r.heap[w.heap.size]?=some (.cells #[.pointer (some ⟨b,0,none⟩)] 49)/\r.heap[w.heap.size+1]?=some (.cells #[.int .i64 (s:Nat)] 3)/\r.heap[w.heap.size+1+1]?=some (.cells #[v] 84)/\Go.RowKit.Below w.heap.size w r:=by
 have d:∀k,k<w.heap.size+3->some k≠v.ownBlock:=λk l e=>by have:=(h.row.lt k e.symm).1;omega
 have hl:w.heap.size+1+1<W.heap.size:=(ax.1 h.cl).1
 have f:∀k,k<w.heap.size+3->r.heap[k]?=W.heap[k]? :=λk l=>(j.block k (by simp;omega) (d k l)).trans (gL _ _ _ (by omega))
 refine⟨(f _ (by omega)).trans h.cj,(f _ (by omega)).trans h.cs,(f _ (by omega)).trans h.cl,?_⟩;exact(h.below.alloc h.below.size o).grown j (by simp;have:=h.below.size;omega) (λk e=>by have:=(h.row.lt k e).1;omega)
theorem Sr.step{d:Value}(h:Sr w b s i v W)(x:(W.alloc o).grownBy r v.ownBlock)(j:r.ownsRow (w.heap.size+3) 3 1 d (i+1) ((List.range i).map lS++[.int .i64 (i:Nat)])):Sr w b s (i+1) d (r.setCell ⟨w.heap.size+1+1,0,none⟩ d):=by
 obtain⟨t,l,u,q⟩:=h.box x;refine⟨q.setCell (p:=⟨w.heap.size+1+1,0,none⟩) (by show w.heap.size<=w.heap.size+1+1;omega) _,?_,?_,?_,?_⟩
 .rw[List.range_succ,List.map_append];refine j.kept (row:=some (w.heap.size+1+1)) ⟨rfl,rfl,rfl,by simp,λk hk f=>iJ _ _ _ _ (λe=>f (by rw[e]))⟩ (Or.inr ?_);intro e;have:=(j.lt _ e).1;omega
 .rw[iJ _ _ _ _ (by simp;omega)];exact t
 .rw[iJ _ _ _ _ (by simp)];exact l
 .rw[fZ u];rfl
theorem IE:(prog.info? 3).map (λi=>(i.zero,i.size,i.bytes))=some (some (.int .i64 0),1,8):=by kernel_rfl
theorem zW(R:List Hl)(l:Nat):∃ps:List Nat,pdq (vQ R.toArray) (List.range R.length).toArray 0 R.length l true true=ps.toArray/\ps.Perm (List.range R.length)/\ps.Pairwise (λx y=>vQ R.toArray y x=false):=by
 obtain⟨h,k⟩:=pdq_sorts (vQ R.toArray) (Vx R.toArray) (List.range R.length).toArray 0 R.length l true true (by omega) (by simp) (Or.inl rfl);generalize pdq (vQ R.toArray) (List.range R.length).toArray 0 R.length l true true=d at *
 have p:d.size=R.length:=by rw[h.1];simp
 refine⟨d.toList,by simp,?_,?_⟩
 .have:=h.2.2;rw[Array.extract_eq_self_of_le (by omega),Array.extract_eq_self_of_le (by simp)]at this;exact this
 .rw[List.pairwise_iff_getElem];intro i j hi f e;have:=k i j (by omega) e (by simpa[p]using f);rw[getElem!_pos d i (by simpa using hi),getElem!_pos d j (by simpa using f)]at this;simpa using this
theorem sj{t:Value}(R:List Hl)(w W:World)(S:s<2)(H:w.cell? ⟨b,3+s,none⟩=some v)(G:w.ownsRow base 117 5 v R.length (R.flatMap bz))(hn:R.length<=1000)(f:Sr w b s R.length t W):
  Calls prog 117 #[.iface 84 t,.func (.func 118) #[] #[.pointer (some ⟨w.heap.size,0,none⟩),.pointer (some ⟨w.heap.size+1,0,none⟩),.pointer (some ⟨w.heap.size+1+1,0,none⟩)]] W λe c=>e=.returned (.tuple #[])/\c.cell? ⟨w.heap.size+1+1,0,none⟩=some t/\Hid (∃ps:List Nat,c.ownsRow w.heap.size 3 1 t R.length (ps.map lS)/\ps.Perm (List.range R.length)/\ps.Pairwise (λx y=>vQ R.toArray y x=false)/\Go.RowKit.Below w.heap.size w c):=by
 have u:b<w.heap.size:=J9 H;have q:=f.cells u H;have l:=f.below.size;have L:w.heap.size+1+1<W.heap.size:=(ax.1 f.cl).1
 by_cases h0:0<R.length
 .obtain⟨g,cap,rfl⟩:=gy G h0;obtain⟨blk,m,rfl⟩:=gy f.row h0;have E:=G.lt g rfl;obtain⟨I,C,z,hI3⟩:=Ma f.row (by simp)
  have hd:Rq W.heap.size b g R.length cap w.heap.size (w.heap.size+1) (w.heap.size+1+1) blk m s R.toArray (List.range R.length).toArray W:=by
   refine⟨I,?_,by simp,vR (Vy G) E.2 f.below,q.2.2.2,q.1,q.2.1,q.2.2.1,⟨I.lt,by omega,by omega,by omega,by omega,by omega⟩,aC _,by omega,by omega,by omega,by omega,by omega⟩;intro i hi;rw[getElem!_pos _ i (by simpa using hi)];simpa using hi
  have d:=Fh (lt:=vQ R.toArray) (B:=W.heap.size) (cap:=m) (some ⟨blk,0,none⟩) (λA K=>ZT (B:=W.heap.size) (b:=b) (g:=g) (cap:=cap) (bj:=w.heap.size) (bs:=w.heap.size+1) (bl:=w.heap.size+1+1) (R:=R.toArray) K S) (Vx R.toArray) (List.range R.length).toArray W hd (aC _) (by omega);refine d.mono ?_;rintro e c ⟨rfl,F,j⟩;obtain⟨ps,Q,M,T⟩:=zW R (bitsLen R.length);rw[Q]at F;refine⟨rfl,F.cl,ps,?_,M,T,?_⟩
  .have:=L9 (base:=w.heap.size) F.irow C z (by omega);simpa using this
  .exact f.below.grown j l (λk e=>by injection e with e;omega)
 .have N:R.length=0:=by omega
  have U:R=[]:=di N;subst U;obtain⟨p,m,rfl⟩:=aj f.row;have d:=Fh (lt:=vQ #[]) (B:=w.heap.size+1+1) (blk:=w.heap.size+1) (n:=0) (lf:=118) (cap:=m) (lb:= #[.pointer (some ⟨w.heap.size,0,none⟩),.pointer (some ⟨w.heap.size+1,0,none⟩),.pointer (some ⟨w.heap.size+1+1,0,none⟩)]) p (λA _=>ZU (by omega)) (Vx #[]) #[] W ⟨rfl,by omega⟩ (by omega) (by omega);refine d.mono ?_;rintro e c ⟨rfl,_,j⟩;refine⟨rfl,(yO j (a:=⟨w.heap.size+1+1,0,none⟩) L (by simp)).trans q.2.2.1,[],?_,by simp,by simp,?_⟩
  .have h:W.ownsRow (w.heap.size+3) 3 1 (.slice p 0 m) 0 []:=f.row;have P:=h.kept j (Or.inr (λe=>by have:=(h.lt _ e).1;omega));exact World.ownsRow.mono P (by omega)
  .exact f.below.grown j l (λk e=>by injection e with e;omega)
theorem mX(R:List Hl)(w:World)(hs:s<2)(U:w.cell? ⟨b,3+s,none⟩=some v)(hr:w.ownsRow base 117 5 v R.length (R.flatMap bz))(hn:R.length<=1000):
  Calls prog 66 #[.pointer (some ⟨b,0,none⟩),.int .i64 (s:Nat)] w λe c=>∃(Q:Value) (ps:List Nat),e=.returned Q/\c.ownsRow w.heap.size 3 1 Q R.length (ps.map lS)/\ps.Perm (List.range R.length)/\ps.Pairwise (λx y=>vQ R.toArray y x=false)/\Go.RowKit.Below w.heap.size w c:=by
 have z:b<w.heap.size:=J9 U;obtain⟨V,hV⟩:∃V,V=((w.alloc (.cells #[.pointer (some ⟨b,0,none⟩)] 49)).alloc (.cells #[.int .i64 (s:Nat)] 3)).alloc (.cells #[.slice none 0 0] 84):=⟨_,rfl⟩
 have hS:Sr w b s 0 (.slice none 0 0) V:=by
  rw[hV];refine⟨below_alloc3 _ _ _ _,iR _ _ _ _,?_,?_,?_⟩
  .rw[gL _ _ _ (by simp;omega),gL _ _ _ (by simp)];exact eZ _ _
  .rw[gL _ _ _ (by simp)];have:=eZ (w.alloc (.cells #[.pointer (some ⟨b,0,none⟩)] 49)) (.cells #[.int .i64 (s:Nat)] 3);simpa using this
  .have:=eZ ((w.alloc (.cells #[.pointer (some ⟨b,0,none⟩)] 49)).alloc (.cells #[.int .i64 (s:Nat)] 3)) (.cells #[.slice none 0 0] 84);simpa using this
 have c0:=hS.cells z U;have T:=hid hS;have HR:=hid hr;have S:=hid U;clear hS hr U;obtain⟨p,cap,rfl⟩:=aj HR.out;obtain⟨i3,N,M,G,P⟩:=je IE;go_enter func66,ntmps66
 rcases(by omega:s=0∨s=1)with rfl|rfl
 .go_wp2;have q:V=((w.alloc (.cells #[.pointer (some ⟨b,0,none⟩)] 49)).alloc (.cells #[.int .i64 0] 3)).alloc (.cells #[.slice none 0 0] 84):=hV;rw[<-q];clear hV q;go_quiet (fail);go_wp2;clear c0
  go_loopg [14] R.length (λgg F wr=>∃(i:Nat) (t:Value),i<=R.length/\gg=R.length -i/\F=.int .i64 i/\Hid (Sr w b 0 i t wr))
  case atStart=>exact⟨0,_,aW _,rfl,rfl,T.out.drawn nq⟩
  case round=>
   clear T;obtain⟨i,t,H,k,rfl,j⟩:=hrel;have sU:=hid k;clear k;have c1:=j.out.cells z S.out
   by_cases hlt:i<R.length
   .have i1:(i:Int)<(R.length:Int):=by omega
    have l:=j.out.row;have E:Hid _:=World.news_of_block (World.alloc_heap_new wr (.cells #[.int .i64 (i:Int)] 3));have Y:w.heap.size+1+1<wr.heap.size:=(ax.1 j.out.cl).1
    go_wp2_with (first
     |(at_builtin;refine wpList_append_own_at _ rfl _ _ 84 rfl (w.heap.size+3) 3 i3 (.int .i64 0) 1 8 underlying84 N M G P rfl (by decide) _ _ _ rfl (l.alloc _) ⟨wr.heap.size,0,none⟩ 1 1 [.int .i64 (i:Int)] rfl rfl E.out (by intro u L;simp at L;subst L;rfl) (by unfold maxLen;omega) (by omega) (by simp;omega) ?_;intro Q I d K _ qa;obtain⟨g6,cp6,rfl⟩:=gy d (by omega);have h:=j.out.box K;have f1:I.cell? ⟨w.heap.size+1+1,0,none⟩=some t:=(by rw[fq h.2.2.1];rfl);have f2:I.frozen? ⟨w.heap.size+1+1,0,none⟩=false:=fV h.2.2.1 0;have C:=j.out.step K d;clear h)
     |fail)
    go_roundg (R.length -(i+1))
    case measure=>have:=sU.out;omega
    case rel=>exact⟨i+1,_,by omega,rfl,by go_num,C⟩
   .have i1:¬(i:Int)<(R.length:Int):=by omega
    have e1:i=R.length:=by omega
    have X:Hid (Sr w b 0 R.length t wr):=by rw[<-e1];exact j
    clear j;have f:=sj R w wr (by omega:0<2) S.out HR.out hn X.out;go_wp2_with fail;refine f.mono ?_;rintro e w7 ⟨rfl,c7,Z⟩;clear f c1;go_wp2;go_ret;obtain⟨ps,q1,q2,q3,q4⟩:=Z.out;exact⟨_,ps,rfl,q1,q2,q3,q4⟩
 .go_wp2;have q:V=((w.alloc (.cells #[.pointer (some ⟨b,0,none⟩)] 49)).alloc (.cells #[.int .i64 1] 3)).alloc (.cells #[.slice none 0 0] 84):=hV;rw[<-q];clear hV q;go_quiet (fail);go_wp2;clear c0
  go_loopg [14] R.length (λgg F wr=>∃(i:Nat) (t:Value),i<=R.length/\gg=R.length -i/\F=.int .i64 i/\Hid (Sr w b 1 i t wr))
  case atStart=>exact⟨0,_,aW _,rfl,rfl,T.out.drawn nq⟩
  case round=>
   clear T;obtain⟨i,t,H,k,rfl,j⟩:=hrel;have sU:=hid k;clear k;have c1:=j.out.cells z S.out
   by_cases hlt:i<R.length
   .have i1:(i:Int)<(R.length:Int):=by omega
    have l:=j.out.row;have E:Hid _:=World.news_of_block (World.alloc_heap_new wr (.cells #[.int .i64 (i:Int)] 3));have Y:w.heap.size+1+1<wr.heap.size:=(ax.1 j.out.cl).1
    go_wp2_with (first
     |(at_builtin;refine wpList_append_own_at _ rfl _ _ 84 rfl (w.heap.size+3) 3 i3 (.int .i64 0) 1 8 underlying84 N M G P rfl (by decide) _ _ _ rfl (l.alloc _) ⟨wr.heap.size,0,none⟩ 1 1 [.int .i64 (i:Int)] rfl rfl E.out (by intro u L;simp at L;subst L;rfl) (by unfold maxLen;omega) (by omega) (by simp;omega) ?_;intro Q I d K _ qa;obtain⟨g6,cp6,rfl⟩:=gy d (by omega);have h:=j.out.box K;have f1:I.cell? ⟨w.heap.size+1+1,0,none⟩=some t:=(by rw[fq h.2.2.1];rfl);have f2:I.frozen? ⟨w.heap.size+1+1,0,none⟩=false:=fV h.2.2.1 0;have C:=j.out.step K d;clear h)
     |fail)
    go_roundg (R.length -(i+1))
    case measure=>have:=sU.out;omega
    case rel=>exact⟨i+1,_,by omega,rfl,by go_num,C⟩
   .have i1:¬(i:Int)<(R.length:Int):=by omega
    have e1:i=R.length:=by omega
    have X:Hid (Sr w b 1 R.length t wr):=by rw[<-e1];exact j
    clear j;have f:=sj R w wr (by omega:1<2) S.out HR.out hn X.out;go_wp2_with fail;refine f.mono ?_;rintro e w7 ⟨rfl,c7,Z⟩;clear f c1;go_wp2;go_ret;obtain⟨ps,q1,q2,q3,q4⟩:=Z.out;exact⟨_,ps,rfl,q1,q2,q3,q4⟩
end
end Go.Proofs.YthfpipieboophaaGreatDoor
