import Derived.Shelf.GgSortFunc.SmallK
import Derived.Laws.AppendOwnNone
import Derived.Deep.Onto
import Derived.Test.YthfpipieboophaaGreatDoorZab
import Derived.Test.YthfpipieboophaaGreatDoorZbe
namespace Go.Proofs.YthfpipieboophaaGreatDoor
set_option maxRecDepth 100000
set_option maxHeartbeats 40000000
open Go.RowKit Go.Sort
section
open Go.Proofs.Tryz
theorem jF (a:Bool) (w:World):
  Calls prog 56 #[.bool a] w fun e w'=>e= .returned (.int .i64 (gY a))∧w'=w:=by
 cases a <;>
 ·go_enter func56,ntmps56;go_wp2;go_ret;exact⟨gu (by simp[gY]),rfl⟩
theorem yN (xs ys:List Int) (n:Nat) (b1 c1 b2 c2:Nat) (w:World) (hx:n=xs.length) (hy:n=ys.length) (hl:n<=1000)
  (hc1:∀j,j < n->w.cell? ⟨b1,j,none⟩=some (.int .i64 (xs.getD j 0))) (hc2:∀j,j < n->w.cell? ⟨b2,j,none⟩=some (.int .i64 (ys.getD j 0))):
  Calls prog 119 #[.slice (some ⟨b1,0,none⟩) n c1,.slice (some ⟨b2,0,none⟩) n c2] w fun e w'=>e= .returned (.int .i64 (iC xs ys))∧∃m,w'=w.drewN m:=by
 have HN:=hid hx;have HM:=hid hy;clear hx hy;go_enter func119,ntmps119;go_wp2
 go_loopw [8] (fun i wx=>∃k m:Nat,k<=n∧i= .int .i64 k∧wx=w.drewN m∧∀j,j < k->xs.getD j 0=ys.getD j 0) (fun i _=>n -(intOf i).toNat)
 case atStart=>exact⟨0,0,Nat.zero_le _,rfl,rfl,fun j hj=>absurd hj (Nat.not_lt_zero _)⟩
 case round=>
  obtain⟨k,m,hk,rfl,rfl,hz⟩:=hrel;have HZ:=hid hz;clear hz
  by_cases hlt:k < n
  ·have ZR:=hc1 k hlt;have Vt:=hc2 k hlt
   have h1:(0:Int)<=(k:Int):=by omega
   have h2:(k:Int) < (n:Int):=by omega
   clear hc1 hc2;have HA:=SS xs ys k (by rw[<-HN.out,<-HM.out]) (by rw[<-HN.out];exact hlt) HZ.out;generalize hx:xs.getD k 0=x at ZR HA;generalize hy:ys.getD k 0=y at Vt HA;have HX:=hid hx;have HY:=hid hy;have HB:=hid HA;clear hx hy HA
   by_cases hlt1:x < y
   ·go_wp2;go_quiet (fail);go_wp2;go_ret;exact⟨gu (HB.out.1 hlt1).symm,_,World.drewN_drewN _ _ _⟩
   ·by_cases hlt2:y < x
    ·go_wp2;go_quiet (fail);go_wp2;go_quiet (fail);go_wp2;go_ret;exact⟨gu (HB.out.2 hlt2).symm,_,by rw[World.drewN_drewN,World.drewN_drewN]⟩
    ·go_wp2;go_quiet (fail);go_wp2;go_quiet (fail);go_wp2
     go_roundw
     case rel=>exact⟨k+1,_,by omega,by go_num,rfl,fun j hj=>by
      rcases Nat.lt_or_ge j k with h' | h'
      ·exact HZ.out j h'
      ·have :j=k:=by omega
       subst this;rw[HX.out,HY.out];omega⟩
     case measure=>simp[intOf];omega
  ·go_wp2;go_ret;exact⟨gu (PL xs ys (by rw[<-HN.out,<-HM.out]) (fun j hj=>HZ.out j (by have :=HN.out;omega))).symm,_,rfl⟩
theorem oK (k t v:Int) (w:World):
  Calls prog 55 #[.agg #[.int .i64 k,.int .i64 t,.int .i64 v]] w fun e w'=>e= .returned (.slice (some ⟨w.heap.size+1,0,none⟩) 3 3)∧w'=(w.alloc (.cells #[.int .i64 k,.int .i64 t,.int .i64 v] 37)).alloc (.cells #[.int .i64 k,.int .i64 t,.int .i64 v] 3):=by
 go_enter func55,ntmps55;go_wp2;go_ret;exact⟨rfl,rfl⟩
theorem P7 (a0 a1 a2 b0 b1 b2:Int) (g1 c1 g2 c2:Nat) (w:World)
  (p0:w.cell? ⟨g1,0,none⟩=some (.int .i64 a0)) (p1:w.cell? ⟨g1,1,none⟩=some (.int .i64 a1)) (p2:w.cell? ⟨g1,2,none⟩=some (.int .i64 a2))
  (q0:w.cell? ⟨g2,0,none⟩=some (.int .i64 b0)) (q1:w.cell? ⟨g2,1,none⟩=some (.int .i64 b1)) (q2:w.cell? ⟨g2,2,none⟩=some (.int .i64 b2)):
  Calls prog 119 #[.slice (some ⟨g1,0,none⟩) 3 c1,.slice (some ⟨g2,0,none⟩) 3 c2] w fun e w'=>e= .returned (.int .i64 (iC [a0,a1,a2] [b0,b1,b2]))∧∃m,w'=w.drewN m:=by
 refine yN [a0,a1,a2] [b0,b1,b2] 3 g1 c1 g2 c2 w rfl rfl (by omega) ?_ ?_
 ·intro j hj
  match j,hj with
  | 0,_=>exact p0
  | 1,_=>exact p1
  | 2,_=>exact p2
 ·intro j hj
  match j,hj with
  | 0,_=>exact q0
  | 1,_=>exact q1
  | 2,_=>exact q2
end
section
open Go.Shelf Go.Lib
variable {W W':World} {blk g B b n cap bj bs bl cp s:Nat} {d:Array Nat}
structure Hl where
 k:Int
 t:Int
 v:Int
 met:Int
 came:Int
 deriving DecidableEq,Inhabited
def bz (x:Hl):List Value:=[.int .i64 x.k,.int .i64 x.t,.int .i64 x.v,.int .i64 x.met,.int .i64 x.came]
def vH (x:Hl):Value:= .agg #[.agg #[.int .i64 x.k,.int .i64 x.t,.int .i64 x.v],.int .i64 x.met,.int .i64 x.came]
def rY (x y:Hl):Bool:=decide (iC [x.k,x.t,x.came] [y.k,y.t,y.came] < 0)
def vQ (R:Array Hl) (x y:Nat):Bool:=rY R[x]! R[y]!
structure IC (W:World) (blk o:Nat) (x:Hl):Prop where
 c0:W.cell? ⟨blk,o,none⟩=some (.int .i64 x.k)
 c1:W.cell? ⟨blk,o+1,none⟩=some (.int .i64 x.t)
 c2:W.cell? ⟨blk,o+2,none⟩=some (.int .i64 x.v)
 c3:W.cell? ⟨blk,o+3,none⟩=some (.int .i64 x.met)
 c4:W.cell? ⟨blk,o+4,none⟩=some (.int .i64 x.came)
theorem IC.all {o:Nat} {x:Hl} (h:IC W blk o x):W.cell? ⟨blk,o,none⟩=some (.int .i64 x.k)∧W.cell? ⟨blk,o+1,none⟩=some (.int .i64 x.t)∧W.cell? ⟨blk,o+2,none⟩=some (.int .i64 x.v)∧W.cell? ⟨blk,o+3,none⟩=some (.int .i64 x.met)∧W.cell? ⟨blk,o+4,none⟩=some (.int .i64 x.came):=
 ⟨h.c0,h.c1,h.c2,h.c3,h.c4⟩
theorem rZ {R:Array Hl} (h:HoldsK bz 5 W g 0 R) (i:Nat) (hi:i < R.size):IC W g (i * 5) R[i]! :=by
 have c:=fun(u:Nat) (hu:u < 5)=>(HoldsK.cell h (i:=i) (c:=u) hi hu).1
 simp only[Nat.zero_add] at c;exact⟨c 0 (by omega),c 1 (by omega),c 2 (by omega),c 3 (by omega),c 4 (by omega)⟩
theorem vR {R:Array Hl} (h:HoldsK bz 5 W g 0 R) (hl:g < B) (hb:Go.RowKit.Below B W W'):HoldsK bz 5 W' g 0 R:=
 fun j hj=>⟨(hb.cell (p:=⟨g,0+j,none⟩) hl).trans (h j hj).1,(hb.frozen (p:=⟨g,0+j,none⟩) hl).trans (h j hj).2⟩
structure Rq (B b g n cap bj bs bl blk cp:Nat) (s:Nat) (R:Array Hl) (d:Array Nat) (W:World):Prop where
 irow:zV blk n cp d W
 dlt:∀i,i < n->d[i]! < n
 rn:R.size=n
 rows:HoldsK bz 5 W g 0 R
 jc:W.cell? ⟨b,3+s,none⟩=some (.slice (some ⟨g,0,none⟩) n cap)
 cj:W.cell? ⟨bj,0,none⟩=some (.pointer (some ⟨b,0,none⟩))
 cs:W.cell? ⟨bs,0,none⟩=some (.int .i64 s)
 cl:W.cell? ⟨bl,0,none⟩=some (.slice (some ⟨blk,0,none⟩) n cp)
 lt:blk < B∧g < B∧b < B∧bj < B∧bs < B∧bl < B
 le:B<=W.heap.size
 ne:g≠blk∧b≠blk∧bj≠blk∧bs≠blk∧bl≠blk
theorem Rq.kept {R:Array Hl} (h:Rq B b g n cap bj bs bl blk cp s R d W) (hb:Go.RowKit.Below B W W'):Rq B b g n cap bj bs bl blk cp s R d W':=
 ⟨h.irow.kept h.lt.1 hb,h.dlt,h.rn,vR h.rows h.lt.2.1 hb,(hb.cell (p:=⟨b,3+s,none⟩) h.lt.2.2.1).trans h.jc,(hb.cell (p:=⟨bj,0,none⟩) h.lt.2.2.2.1).trans h.cj,(hb.cell (p:=⟨bs,0,none⟩) h.lt.2.2.2.2.1).trans h.cs,(hb.cell (p:=⟨bl,0,none⟩) h.lt.2.2.2.2.2).trans h.cl,h.lt,Nat.le_trans h.le hb.size,h.ne⟩
theorem Rq.reads {R:Array Hl} (h:Rq B b g n cap bj bs bl blk cp s R d W):W.cell? ⟨b,3+s,none⟩=some (.slice (some ⟨g,0,none⟩) n cap)∧W.cell? ⟨bj,0,none⟩=some (.pointer (some ⟨b,0,none⟩))∧W.cell? ⟨bs,0,none⟩=some (.int .i64 s)∧W.cell? ⟨bl,0,none⟩=some (.slice (some ⟨blk,0,none⟩) n cp):=
 ⟨h.jc,h.cj,h.cs,h.cl⟩
theorem Rq.place {R:Array Hl} (h:Rq B b g n cap bj bs bl blk cp s R d W) (i:Nat) (hi:i < n):W.cell? ⟨blk,i,none⟩=some (.int .i64 (d[i]! :Nat)):=by
 have :=(h.irow.row i (by rw[h.irow.size];exact hi)).1;rw[Nat.zero_add] at this;exact this
theorem L6 {R:Array Hl} (h:Rq B b g n cap bj bs bl blk cp s R d W) (hs:s < 2) (i j:Nat) (hi:i < n) (hj:j < n):
  Calls Tryz.prog 118 #[.int .i64 i,.int .i64 j,.pointer (some ⟨bj,0,none⟩),.pointer (some ⟨bs,0,none⟩),.pointer (some ⟨bl,0,none⟩)] W fun e w'=>e= .returned (.bool (vQ R d[i]! d[j]!))∧Go.RowKit.Below W.heap.size W w':=by
 have hk:=fun V (hV:Go.RowKit.Below W.heap.size W V)=>(h.kept (hV.mono h.le)).reads
 have hpi:=fun V (hV:Go.RowKit.Below W.heap.size W V)=>(h.kept (hV.mono h.le)).place i hi
 have hpj:=fun V (hV:Go.RowKit.Below W.heap.size W V)=>(h.kept (hV.mono h.le)).place j hj
 have di:=h.dlt i hi;have dj:=h.dlt j hj
 have hx:=fun V (hV:Go.RowKit.Below W.heap.size W V)=>(rZ (h.kept (hV.mono h.le)).rows d[i]! (by rw[h.rn];exact di)).all
 have hy:=fun V (hV:Go.RowKit.Below W.heap.size W V)=>(rZ (h.kept (hV.mono h.le)).rows d[j]! (by rw[h.rn];exact dj)).all
 have h1:(0:Int)<=(i:Int):=by omega
 have h2:(i:Int) < (n:Int):=by omega
 have h3:(0:Int)<=(j:Int):=by omega
 have h4:(j:Int) < (n:Int):=by omega
 unfold vQ;clear h;generalize d[i]! =x at *;generalize d[j]! =y at *;generalize R[x]! =rx at hx⊢;generalize R[y]! =ry at hy⊢
 have h5:(0:Int)<=(x:Int):=by omega
 have h6:(x:Int) < (n:Int):=by omega
 have h7:(0:Int)<=(y:Int):=by omega
 have h8:(y:Int) < (n:Int):=by omega
 have HC:Hid (∀V,Go.RowKit.Below W.heap.size W V->(V.cell? ⟨b,3+s,none⟩=some (.slice (some ⟨g,0,none⟩) n cap)∧V.cell? ⟨bj,0,none⟩=some (.pointer (some ⟨b,0,none⟩))∧V.cell? ⟨bs,0,none⟩=some (.int .i64 s)∧V.cell? ⟨bl,0,none⟩=some (.slice (some ⟨blk,0,none⟩) n cp))∧V.cell? ⟨blk,i,none⟩=some (.int .i64 x)∧V.cell? ⟨blk,j,none⟩=some (.int .i64 y)∧(V.cell? ⟨g,x * 5,none⟩=some (.int .i64 rx.k)∧V.cell? ⟨g,x * 5+1,none⟩=some (.int .i64 rx.t)∧V.cell? ⟨g,x * 5+2,none⟩=some (.int .i64 rx.v)∧V.cell? ⟨g,x * 5+3,none⟩=some (.int .i64 rx.met)∧V.cell? ⟨g,x * 5+4,none⟩=some (.int .i64 rx.came))∧(V.cell? ⟨g,y * 5,none⟩=some (.int .i64 ry.k)∧V.cell? ⟨g,y * 5+1,none⟩=some (.int .i64 ry.t)∧V.cell? ⟨g,y * 5+2,none⟩=some (.int .i64 ry.v)∧V.cell? ⟨g,y * 5+3,none⟩=some (.int .i64 ry.met)∧V.cell? ⟨g,y * 5+4,none⟩=some (.int .i64 ry.came))):=fun V hV=>⟨hk V hV,hpi V hV,hpj V hV,hx V hV,hy V hV⟩
 clear hk hpi hpj hx hy;go_enter Tryz.func118,Tryz.ntmps118
 rcases(by omega:s=0∨s=1) with rfl | rfl
 ·have c0:=HC.out W (Below.refl _ _)
  go_upto_region 1 with fail
  go_cut [8,9] from 10 (fun s8 s9 V=>∃gx gy:Nat,s8= .pointer (some ⟨gx,0,none⟩)∧s9= .pointer (some ⟨gy,0,none⟩)∧gx < V.heap.size∧gy < V.heap.size∧Go.RowKit.Below W.heap.size W V∧(V.cell? ⟨gx,0,none⟩=some (.int .i64 rx.k)∧V.cell? ⟨gx,1,none⟩=some (.int .i64 rx.t)∧V.cell? ⟨gx,2,none⟩=some (.int .i64 rx.v)∧V.cell? ⟨gx,3,none⟩=some (.int .i64 rx.met)∧V.cell? ⟨gx,4,none⟩=some (.int .i64 rx.came))∧(V.cell? ⟨gy,0,none⟩=some (.int .i64 ry.k)∧V.cell? ⟨gy,1,none⟩=some (.int .i64 ry.t)∧V.cell? ⟨gy,2,none⟩=some (.int .i64 ry.v)∧V.cell? ⟨gy,3,none⟩=some (.int .i64 ry.met)∧V.cell? ⟨gy,4,none⟩=some (.int .i64 ry.came)))
  case first=>
   go_region_held3 (fun V=>(V.cell? ⟨b,3+0,none⟩=some (.slice (some ⟨g,0,none⟩) n cap)∧V.cell? ⟨bj,0,none⟩=some (.pointer (some ⟨b,0,none⟩))∧V.cell? ⟨bs,0,none⟩=some (.int .i64 (0:Nat))∧V.cell? ⟨bl,0,none⟩=some (.slice (some ⟨blk,0,none⟩) n cp))∧V.cell? ⟨blk,i,none⟩=some (.int .i64 x)∧V.cell? ⟨blk,j,none⟩=some (.int .i64 y)∧(V.cell? ⟨g,x * 5,none⟩=some (.int .i64 rx.k)∧V.cell? ⟨g,x * 5+1,none⟩=some (.int .i64 rx.t)∧V.cell? ⟨g,x * 5+2,none⟩=some (.int .i64 rx.v)∧V.cell? ⟨g,x * 5+3,none⟩=some (.int .i64 rx.met)∧V.cell? ⟨g,x * 5+4,none⟩=some (.int .i64 rx.came))∧(V.cell? ⟨g,y * 5,none⟩=some (.int .i64 ry.k)∧V.cell? ⟨g,y * 5+1,none⟩=some (.int .i64 ry.t)∧V.cell? ⟨g,y * 5+2,none⟩=some (.int .i64 ry.v)∧V.cell? ⟨g,y * 5+3,none⟩=some (.int .i64 ry.met)∧V.cell? ⟨g,y * 5+4,none⟩=some (.int .i64 ry.came))) ((refine HC.out _ ?_;repeat' (first | exact Below.refl _ _ | (refine Below.drew ?_) | (refine Below.alloc ?_ ?_ _) | (refine Below.setCell ?_ ?_ _) | (simp;try omega)))) (fail)
   all_goals
    (try go_wp2_with fail)
    go_meet
    case rel=>
     refine⟨_,_,rfl,rfl,?_,?_,?_,?_,?_⟩
     ·(simp;try omega)
     ·(simp;try omega)
     ·repeat' (first | exact Below.refl _ _ | (refine Below.drew ?_) | (refine Below.alloc ?_ ?_ _) | (refine Below.setCell ?_ ?_ _) | (simp;try omega))
     ·(simp;try omega)
     ·(simp;try omega)
  case rest=>
   clear c0 HC;obtain⟨gx,gy,rfl,rfl,lx,ly,hB,hx,hy⟩:=hcut;have HB:=hid hB;have hcc:(wc.cell? ⟨gx,0,none⟩=some (.int .i64 rx.k)∧wc.cell? ⟨gx,1,none⟩=some (.int .i64 rx.t)∧wc.cell? ⟨gx,2,none⟩=some (.int .i64 rx.v)∧wc.cell? ⟨gx,3,none⟩=some (.int .i64 rx.met)∧wc.cell? ⟨gx,4,none⟩=some (.int .i64 rx.came))∧(wc.cell? ⟨gy,0,none⟩=some (.int .i64 ry.k)∧wc.cell? ⟨gy,1,none⟩=some (.int .i64 ry.t)∧wc.cell? ⟨gy,2,none⟩=some (.int .i64 ry.v)∧wc.cell? ⟨gy,3,none⟩=some (.int .i64 ry.met)∧wc.cell? ⟨gy,4,none⟩=some (.int .i64 ry.came)):=⟨hx,hy⟩;clear hB hx hy;go_wp2_with fail;refine(P7 rx.k rx.t rx.came ry.k ry.t ry.came _ _ _ _ _ (by simp) (by simp) (by simp) (by simp) (by simp) (by simp)).mono ?_;rintro e w3 ⟨rfl,m,rfl⟩;go_wp2;go_ret;refine⟨rfl,HB.out.trans ?_⟩;refine Below.mono ?_ HB.out.size
   repeat' (first | exact Below.refl _ _ | (refine Below.drew ?_) | (refine below_drewN ?_ _) | (refine Below.alloc ?_ ?_ _) | (refine Below.setCell ?_ ?_ _) | (simp;try omega))
 ·have c0:=HC.out W (Below.refl _ _)
  go_upto_region 1 with fail
  go_cut [8,9] from 10 (fun s8 s9 V=>∃gx gy:Nat,s8= .pointer (some ⟨gx,0,none⟩)∧s9= .pointer (some ⟨gy,0,none⟩)∧gx < V.heap.size∧gy < V.heap.size∧Go.RowKit.Below W.heap.size W V∧(V.cell? ⟨gx,0,none⟩=some (.int .i64 rx.k)∧V.cell? ⟨gx,1,none⟩=some (.int .i64 rx.t)∧V.cell? ⟨gx,2,none⟩=some (.int .i64 rx.v)∧V.cell? ⟨gx,3,none⟩=some (.int .i64 rx.met)∧V.cell? ⟨gx,4,none⟩=some (.int .i64 rx.came))∧(V.cell? ⟨gy,0,none⟩=some (.int .i64 ry.k)∧V.cell? ⟨gy,1,none⟩=some (.int .i64 ry.t)∧V.cell? ⟨gy,2,none⟩=some (.int .i64 ry.v)∧V.cell? ⟨gy,3,none⟩=some (.int .i64 ry.met)∧V.cell? ⟨gy,4,none⟩=some (.int .i64 ry.came)))
  case first=>
   go_region_held3 (fun V=>(V.cell? ⟨b,3+1,none⟩=some (.slice (some ⟨g,0,none⟩) n cap)∧V.cell? ⟨bj,0,none⟩=some (.pointer (some ⟨b,0,none⟩))∧V.cell? ⟨bs,0,none⟩=some (.int .i64 (1:Nat))∧V.cell? ⟨bl,0,none⟩=some (.slice (some ⟨blk,0,none⟩) n cp))∧V.cell? ⟨blk,i,none⟩=some (.int .i64 x)∧V.cell? ⟨blk,j,none⟩=some (.int .i64 y)∧(V.cell? ⟨g,x * 5,none⟩=some (.int .i64 rx.k)∧V.cell? ⟨g,x * 5+1,none⟩=some (.int .i64 rx.t)∧V.cell? ⟨g,x * 5+2,none⟩=some (.int .i64 rx.v)∧V.cell? ⟨g,x * 5+3,none⟩=some (.int .i64 rx.met)∧V.cell? ⟨g,x * 5+4,none⟩=some (.int .i64 rx.came))∧(V.cell? ⟨g,y * 5,none⟩=some (.int .i64 ry.k)∧V.cell? ⟨g,y * 5+1,none⟩=some (.int .i64 ry.t)∧V.cell? ⟨g,y * 5+2,none⟩=some (.int .i64 ry.v)∧V.cell? ⟨g,y * 5+3,none⟩=some (.int .i64 ry.met)∧V.cell? ⟨g,y * 5+4,none⟩=some (.int .i64 ry.came))) ((refine HC.out _ ?_;repeat' (first | exact Below.refl _ _ | (refine Below.drew ?_) | (refine Below.alloc ?_ ?_ _) | (refine Below.setCell ?_ ?_ _) | (simp;try omega)))) (fail)
   all_goals
    (try go_wp2_with fail)
    go_meet
    case rel=>
     refine⟨_,_,rfl,rfl,?_,?_,?_,?_,?_⟩
     ·(simp;try omega)
     ·(simp;try omega)
     ·repeat' (first | exact Below.refl _ _ | (refine Below.drew ?_) | (refine Below.alloc ?_ ?_ _) | (refine Below.setCell ?_ ?_ _) | (simp;try omega))
     ·(simp;try omega)
     ·(simp;try omega)
  case rest=>
   clear c0 HC;obtain⟨gx,gy,rfl,rfl,lx,ly,hB,hx,hy⟩:=hcut;have HB:=hid hB;have hcc:(wc.cell? ⟨gx,0,none⟩=some (.int .i64 rx.k)∧wc.cell? ⟨gx,1,none⟩=some (.int .i64 rx.t)∧wc.cell? ⟨gx,2,none⟩=some (.int .i64 rx.v)∧wc.cell? ⟨gx,3,none⟩=some (.int .i64 rx.met)∧wc.cell? ⟨gx,4,none⟩=some (.int .i64 rx.came))∧(wc.cell? ⟨gy,0,none⟩=some (.int .i64 ry.k)∧wc.cell? ⟨gy,1,none⟩=some (.int .i64 ry.t)∧wc.cell? ⟨gy,2,none⟩=some (.int .i64 ry.v)∧wc.cell? ⟨gy,3,none⟩=some (.int .i64 ry.met)∧wc.cell? ⟨gy,4,none⟩=some (.int .i64 ry.came)):=⟨hx,hy⟩;clear hB hx hy;go_wp2_with fail;refine(P7 rx.k rx.t rx.came ry.k ry.t ry.came _ _ _ _ _ (by simp) (by simp) (by simp) (by simp) (by simp) (by simp)).mono ?_;rintro e w3 ⟨rfl,m,rfl⟩;go_wp2;go_ret;refine⟨rfl,HB.out.trans ?_⟩;refine Below.mono ?_ HB.out.size
   repeat' (first | exact Below.refl _ _ | (refine Below.drew ?_) | (refine below_drewN ?_ _) | (refine Below.alloc ?_ ?_ _) | (refine Below.setCell ?_ ?_ _) | (simp;try omega))
end
section
open Go.Proofs.Tryz Go.Joins Go.Shelf Go.Lib
variable {α:Type} {w W w' W6:World} {base g cap n blk cp B b s i:Nat} {ps:List Nat} {row:Option Nat} {a:Addr} {sb:Array Value} {v:Value} {o:Obj}
theorem J8 (x y:Hl):rY x y=true↔x.k < y.k∨x.k=y.k∧(x.t < y.t∨x.t=y.t∧x.came < y.came):=by
 unfold rY;rw[decide_eq_true_eq];simp only[iC]
 repeat' split
 all_goals omega
theorem mW (x y:Hl):rY x y=false↔¬(x.k < y.k∨x.k=y.k∧(x.t < y.t∨x.t=y.t∧x.came < y.came)):=by
 rw[<-J8,Bool.not_eq_true]
theorem Vx (R:Array Hl):SWO (vQ R) where
 irrefl x:=by unfold vQ;rw[mW];omega
 trans x y z h1 h2:=by unfold vQ at *;rw[J8] at *;omega
 ntrans x y z h1 h2:=by unfold vQ at *;rw[mW] at *;omega
theorem cB (enc:α->List Value) (k:Nat) (hk:∀x,(enc x).length=k):∀(xs:List α) (i j:Nat) (x:α),xs[i]? =some x->j < k->(xs.flatMap enc)[i * k+j]? =(enc x)[j]?
 | [],i,j,x,h,_=>by simp at h
 | y::ys,0,j,x,h,hj=>by
  simp at h;subst h;rw[List.flatMap_cons,Nat.zero_mul,Nat.zero_add,List.getElem?_append_left (by rw[hk];exact hj)]
 | y::ys,i+1,j,x,h,hj=>by
  simp at h
  have e:(i+1) * k+j=k+(i * k+j):=by rw[Nat.succ_mul];omega
  rw[List.flatMap_cons,e,List.getElem?_append_right (by rw[hk];omega),hk,Nat.add_sub_cancel_left];exact cB enc k hk ys i j x h hj
theorem L8 (enc:α->List Value) (k:Nat) (hk:∀x,(enc x).length=k) (xs:List α):(xs.flatMap enc).length=xs.length * k:=by
 induction xs with
 | nil=>simp
 | cons x xs ih=>rw[List.flatMap_cons,List.length_append,ih,hk,List.length_cons,Nat.succ_mul];omega
theorem Fg [Inhabited α] (enc:α->List Value) (k:Nat) (hk:∀x,(enc x).length=k) (h0:0 < k) (xs:List α):(flatK enc k xs.toArray).toList=xs.flatMap enc:=by
 apply List.ext_getElem?;intro t
 by_cases ht:t < xs.length * k
 ·have hq:t/k < xs.length:=by rw[Nat.div_lt_iff_lt_mul h0];exact ht
  have hj:t % k < k:=Nat.mod_lt _ h0;have e1:=cB enc k hk xs (t/k) (t % k) xs[t/k] (List.getElem?_eq_getElem hq) hj;rw[Nat.mul_comm,Nat.div_add_mod] at e1;rw[e1,Array.getElem?_toList]
  have hs:t < (flatK enc k xs.toArray).size:=by rw[size_flatK];simpa using ht
  rw[Array.getElem?_eq_getElem hs,<-getElem!_pos (flatK enc k xs.toArray) t hs,get_flatK _ _ _ _ (by simpa using ht)];rw[List.getElem?_eq_getElem (by rw[hk];exact hj)];simp[hq];rw[List.getElem?_eq_getElem (by rw[hk];exact hj)];rfl
 ·rw[List.getElem?_eq_none (by simp;omega),List.getElem?_eq_none (by rw[L8 enc k hk];omega)]
theorem fM (x:Hl):(bz x).length=5:=rfl
theorem Vy {R:List Hl} (h:w.ownsRow base 117 5 (.slice (some ⟨g,0,none⟩) R.length cap) R.length (R.flatMap bz)):HoldsK bz 5 w g 0 R.toArray:=by
 intro j hj
 have hj':j < R.length * 5:=by simpa using hj
 have e1:=h.cellAt j hj';rw[<-Fg bz 5 fM (by omega),Array.getElem?_toList,Array.getElem?_eq_getElem hj] at e1;rw[Nat.zero_add];refine⟨?_,h.frozenAt j⟩;rw[e1,getElem!_pos (flatK bz 5 R.toArray) j hj];rfl
theorem Vz (h:w.ownsRow base 3 1 (.slice (some ⟨g,0,none⟩) n cap) n (ps.map lS)) (hn:ps.length=n):Holds lS w g 0 ps.toArray:=by
 intro j hj
 have hj':j < ps.length:=by simpa using hj
 have e1:=h.cellAt j (by omega);rw[Nat.zero_add];refine⟨?_,h.frozenAt j⟩;rw[e1,List.getElem?_map,List.getElem?_eq_getElem hj'];simp[hj']
theorem L9 {d:Array Nat} (h:zV blk n cp d W) (h1:n<=cp) (h2:cp<=maxLen) (h3:base<=blk):W.ownsRow base 3 1 (.slice (some ⟨blk,0,none⟩) n cp) n (d.toList.map lS):=by
 obtain⟨cur,hc,hs⟩:=h.shape;refine⟨by simp[h.size],Or.inr ⟨blk,cp,cur,rfl,h3,hc,h1,h2,by omega,?_⟩⟩;apply List.ext_getElem?;intro j
 by_cases hj:j < n
 ·rw[List.getElem?_take_of_lt (by omega),List.getElem?_map];have e:=(h.row j (by rw[h.size];exact hj)).1;rw[Nat.zero_add,cell_of_block hc] at e
  have hd:j < d.size:=by rw[h.size];exact hj
  rw[Array.getElem?_toList,Array.getElem?_toList,e,Array.getElem?_eq_getElem hd,getElem!_pos d j hd];rfl
 ·rw[List.getElem?_eq_none (by simp;omega),List.getElem?_eq_none (by simp[h.size];omega)]
theorem Ma (h:w.ownsRow base 3 1 (.slice (some ⟨g,0,none⟩) n cap) n (ps.map lS)) (hn:ps.length=n):zV g n cap ps.toArray w∧n<=cap∧cap<=maxLen∧base<=g:=by
 have hh:=Vz h hn;obtain⟨_,h2⟩:=h
 rcases h2 with⟨h3,_⟩ | ⟨g',cap',cur,h3,h4,h5,h6,h7,h8,h9⟩
 ·exact absurd h3 (by simp)
 ·injection h3 with e1 e2 e3
  injection e1 with e1
  injection e1 with e1 _ _
  subst e1 e3;exact⟨⟨by simpa using hn,hh,(Array.getElem?_eq_some_iff.1 h5).1,cur,h5,by omega⟩,h6,h7,h4⟩
theorem yO (h:w.grownBy w' row) (h1:a.block < w.heap.size) (h2:some a.block≠row):w'.cell? a=w.cell? a:=World.cell?_of_block (w:=w) (h.block a.block h1 h2)
theorem CQ (h:w.grownBy w' row) (h1:a.block < w.heap.size) (h2:some a.block≠row):w'.frozen? a=w.frozen? a:=World.frozen?_of_block (w:=w) (h.block a.block h1 h2)
theorem ZT {bj bs bl:Nat} {R:Array Hl} (hb:Tc (some ⟨blk,0,none⟩) n cp sb) (hs:s < 2):si (vQ R) B blk n 118 #[.pointer (some ⟨bj,0,none⟩),.pointer (some ⟨bs,0,none⟩),.pointer (some ⟨bl,0,none⟩)] (uE n) sb (Rq B b g n cap bj bs bl blk cp s R) where
 size _ _ h:=h.irow.size
 low _ _ h:=⟨h.lt.1,h.le⟩
 kept _ _ _ h hb:=h.kept hb
 enters:=enters_of func118 (by kernel_rfl) rfl
 less _ _ i j h hi hj:=L6 h hs i j hi hj
 swap d W i j h hi hj:=by
  obtain⟨W',h1,h2,h3⟩:=Mc hb h.irow i j hi hj;have hle:=h.le
  have cc:∀(k o:Nat),k < B->k≠blk->W'.cell? ⟨k,o,none⟩=W.cell? ⟨k,o,none⟩:=fun k o hk hne=>yO h3 (a:=⟨k,o,none⟩) (Nat.lt_of_lt_of_le hk hle) (by simp;exact hne)
  have ff:∀(k o:Nat),k < B->k≠blk->W'.frozen? ⟨k,o,none⟩=W.frozen? ⟨k,o,none⟩:=fun k o hk hne=>CQ h3 (a:=⟨k,o,none⟩) (Nat.lt_of_lt_of_le hk hle) (by simp;exact hne)
  refine⟨W',h1,⟨h2,?_,h.rn,fun j hj=>⟨(cc g _ h.lt.2.1 h.ne.1).trans (h.rows j hj).1,(ff g _ h.lt.2.1 h.ne.1).trans (h.rows j hj).2⟩,(cc b _ h.lt.2.2.1 h.ne.2.1).trans h.jc,(cc bj _ h.lt.2.2.2.1 h.ne.2.2.1).trans h.cj,(cc bs _ h.lt.2.2.2.2.1 h.ne.2.2.2.1).trans h.cs,(cc bl _ h.lt.2.2.2.2.2 h.ne.2.2.2.2).trans h.cl,h.lt,Nat.le_trans hle h3.size,h.ne⟩,h3⟩;intro k hk;have hds:=h.irow.size;rw[swp_get d (i:=i) (j:=j) (by omega) (by omega) k]
  split
  ·first | exact h.dlt _ hj | exact h.dlt _ hi
  ·split
   ·first | exact h.dlt _ hi | exact h.dlt _ hj
   ·exact h.dlt _ hk
theorem ZU {sf:Nat} {lb:Array Value} (hl:blk < B):si (vQ #[]) B blk 0 118 lb sf sb (fun d W=>d= #[]∧B<=W.heap.size) where
 size _ _ h:=by rw[h.1];rfl
 low _ _ h:=⟨hl,h.2⟩
 kept _ _ _ h hb:=⟨h.1,Nat.le_trans h.2 hb.size⟩
 enters:=enters_of func118 (by kernel_rfl) rfl
 less _ _ _ _ _ hi _:=absurd hi (by omega)
 swap _ _ _ _ _ hi _:=absurd hi (by omega)
structure Sr (w:World) (b s i:Nat) (v:Value) (W:World):Prop where
 below:Go.RowKit.Below w.heap.size w W
 row:W.ownsRow (w.heap.size+3) 3 1 v i ((List.range i).map lS)
 cj:W.heap[w.heap.size]? =some (.cells #[.pointer (some ⟨b,0,none⟩)] 49)
 cs:W.heap[w.heap.size+1]? =some (.cells #[.int .i64 (s:Nat)] 3)
 cl:W.heap[w.heap.size+1+1]? =some (.cells #[v] 84)
theorem Sr.cells {u:Value} (h:Sr w b s i v W) (hb:b < w.heap.size) (hc:w.cell? ⟨b,3+s,none⟩=some u):W.cell? ⟨w.heap.size,0,none⟩=some (.pointer (some ⟨b,0,none⟩))∧W.cell? ⟨w.heap.size+1,0,none⟩=some (.int .i64 (s:Nat))∧W.cell? ⟨w.heap.size+1+1,0,none⟩=some v∧W.cell? ⟨b,3+s,none⟩=some u:=
 ⟨by rw[cell_of_block h.cj];rfl,by rw[cell_of_block h.cs];rfl,by rw[cell_of_block h.cl];rfl,(h.below.cell (p:=⟨b,3+s,none⟩) hb).trans hc⟩
theorem J9 {o:Nat} (h:w.cell? ⟨b,o,none⟩=some v):b < w.heap.size:=by
 by_cases hb:b < w.heap.size
 ·exact hb
 ·simp[World.cell?,show w.heap[b]? =none from Array.getElem?_eq_none (by omega)] at h
theorem aj {e k:Nat} {xs:List Value} (h:w.ownsRow base e k v n xs):∃p cap,v= .slice p n cap:=by
 rcases ownsRow_forms h with⟨rfl,rfl⟩ | ⟨g,cap,rfl⟩
 ·exact⟨_,_,rfl⟩
 ·exact⟨_,_,rfl⟩
theorem Sr.drawn (h:Sr w b s i v W) (q:Nat):Sr w b s i v (W.drewN q):=
 ⟨⟨h.below.os,h.below.tape,h.below.output,h.below.size,h.below.block⟩,h.row,h.cj,h.cs,h.cl⟩
theorem Sr.box (h:Sr w b s i v W) (hg:(W.alloc o).grownBy W6 v.ownBlock):W6.heap[w.heap.size]? =some (.cells #[.pointer (some ⟨b,0,none⟩)] 49)∧W6.heap[w.heap.size+1]? =some (.cells #[.int .i64 (s:Nat)] 3)∧W6.heap[w.heap.size+1+1]? =some (.cells #[v] 84)∧Go.RowKit.Below w.heap.size w W6:=by
 have hne:∀k,k < w.heap.size+3->some k≠v.ownBlock:=fun k hk e=>by have :=(h.row.lt k e.symm).1;omega
 have hl:w.heap.size+1+1 < W.heap.size:=(Array.getElem?_eq_some_iff.1 h.cl).1
 have f:∀k,k < w.heap.size+3->W6.heap[k]? =W.heap[k]? :=fun k hk=>(hg.block k (by simp;omega) (hne k hk)).trans (Below.heap_alloc _ _ _ (by omega))
 refine⟨(f _ (by omega)).trans h.cj,(f _ (by omega)).trans h.cs,(f _ (by omega)).trans h.cl,?_⟩;exact(h.below.alloc h.below.size o).grown hg (by simp;have :=h.below.size;omega) (fun k e=>by have :=(h.row.lt k e).1;omega)
theorem Sr.step {v':Value} (h:Sr w b s i v W) (hg:(W.alloc o).grownBy W6 v.ownBlock) (hr:W6.ownsRow (w.heap.size+3) 3 1 v' (i+1) ((List.range i).map lS++[.int .i64 (i:Nat)])):Sr w b s (i+1) v' (W6.setCell ⟨w.heap.size+1+1,0,none⟩ v'):=by
 obtain⟨h1,h2,h3,h4⟩:=h.box hg;refine⟨h4.setCell (p:=⟨w.heap.size+1+1,0,none⟩) (by show w.heap.size<=w.heap.size+1+1;omega) _,?_,?_,?_,?_⟩
 ·rw[List.range_succ,List.map_append];refine hr.kept (row:=some (w.heap.size+1+1)) ⟨rfl,rfl,rfl,by simp,fun k hk hne=>Below.heap_setCell _ _ _ _ (fun e=>hne (by rw[e]))⟩ (Or.inr ?_);intro e;have :=(hr.lt _ e).1;omega
 ·rw[Below.heap_setCell _ _ _ _ (by simp;omega)];exact h1
 ·rw[Below.heap_setCell _ _ _ _ (by simp)];exact h2
 ·rw[block_setCell h3];rfl
theorem IE:(prog.info? 3).map (fun i=>(i.zero,i.size,i.bytes))=some (some (.int .i64 0),1,8):=by kernel_rfl
theorem zW (R:List Hl) (l:Nat):∃ps:List Nat,pdq (vQ R.toArray) (List.range R.length).toArray 0 R.length l true true=ps.toArray∧ps.Perm (List.range R.length)∧ps.Pairwise (fun x y=>vQ R.toArray y x=false):=by
 obtain⟨h1,h2⟩:=pdq_sorts (vQ R.toArray) (Vx R.toArray) (List.range R.length).toArray 0 R.length l true true (by omega) (by simp) (Or.inl rfl);generalize pdq (vQ R.toArray) (List.range R.length).toArray 0 R.length l true true=d at *
 have hs:d.size=R.length:=by rw[h1.1];simp
 refine⟨d.toList,by simp,?_,?_⟩
 ·have :=h1.2.2;rw[Array.extract_eq_self_of_le (by omega),Array.extract_eq_self_of_le (by simp)] at this;exact this
 ·rw[List.pairwise_iff_getElem];intro i j hi hj hij;have :=h2 i j (by omega) hij (by simpa[hs] using hj);rw[getElem!_pos d i (by simpa using hi),getElem!_pos d j (by simpa using hj)] at this;simpa using this
theorem sj {vl:Value} (R:List Hl) (w W:World) (hs:s < 2) (hc:w.cell? ⟨b,3+s,none⟩=some v) (hr:w.ownsRow base 117 5 v R.length (R.flatMap bz)) (hn:R.length<=1000) (hS:Sr w b s R.length vl W):
  Calls prog 117 #[.iface 84 vl,.func (.func 118) #[] #[.pointer (some ⟨w.heap.size,0,none⟩),.pointer (some ⟨w.heap.size+1,0,none⟩),.pointer (some ⟨w.heap.size+1+1,0,none⟩)]] W fun e w'=>e= .returned (.tuple #[])∧w'.cell? ⟨w.heap.size+1+1,0,none⟩=some vl∧Hid (∃ps:List Nat,w'.ownsRow w.heap.size 3 1 vl R.length (ps.map lS)∧ps.Perm (List.range R.length)∧ps.Pairwise (fun x y=>vQ R.toArray y x=false)∧Go.RowKit.Below w.heap.size w w'):=by
 have hbl:b < w.heap.size:=J9 hc;have cc:=hS.cells hbl hc;have hsz:=hS.below.size;have Rt:w.heap.size+1+1 < W.heap.size:=(Array.getElem?_eq_some_iff.1 hS.cl).1
 by_cases h0:0 < R.length
 ·obtain⟨g,cap,rfl⟩:=ownsRow_form hr h0;obtain⟨blk,cp,rfl⟩:=ownsRow_form hS.row h0;have hgl:=hr.lt g rfl;obtain⟨hI,hI1,hI2,hI3⟩:=Ma hS.row (by simp)
  have hd:Rq W.heap.size b g R.length cap w.heap.size (w.heap.size+1) (w.heap.size+1+1) blk cp s R.toArray (List.range R.length).toArray W:=by
   refine⟨hI,?_,by simp,vR (Vy hr) hgl.2 hS.below,cc.2.2.2,cc.1,cc.2.1,cc.2.2.1,⟨hI.lt,by omega,by omega,by omega,by omega,by omega⟩,Nat.le_refl _,by omega,by omega,by omega,by omega,by omega⟩;intro i hi;rw[getElem!_pos _ i (by simpa using hi)];simpa using hi
  have hcall:=Fh (lt:=vQ R.toArray) (B:=W.heap.size) (cap:=cp) (some ⟨blk,0,none⟩) (fun sb hb=>ZT (B:=W.heap.size) (b:=b) (g:=g) (cap:=cap) (bj:=w.heap.size) (bs:=w.heap.size+1) (bl:=w.heap.size+1+1) (R:=R.toArray) hb hs) (Vx R.toArray) (List.range R.length).toArray W hd (Nat.le_refl _) (by omega);refine hcall.mono ?_;rintro e w' ⟨rfl,h1,h2⟩;obtain⟨ps,e1,e2,e3⟩:=zW R (bitsLen R.length);rw[e1] at h1;refine⟨rfl,h1.cl,ps,?_,e2,e3,?_⟩
  ·have :=L9 (base:=w.heap.size) h1.irow hI1 hI2 (by omega);simpa using this
  ·exact hS.below.grown h2 hsz (fun k e=>by injection e with e;omega)
 ·have hz:R.length=0:=by omega
  have hR:R=[]:=List.eq_nil_of_length_eq_zero hz;subst hR;obtain⟨p,cp,rfl⟩:=aj hS.row;have hcall:=Fh (lt:=vQ #[]) (B:=w.heap.size+1+1) (blk:=w.heap.size+1) (n:=0) (lf:=118) (cap:=cp) (lb:= #[.pointer (some ⟨w.heap.size,0,none⟩),.pointer (some ⟨w.heap.size+1,0,none⟩),.pointer (some ⟨w.heap.size+1+1,0,none⟩)]) p (fun sb _=>ZU (by omega)) (Vx #[]) #[] W ⟨rfl,by omega⟩ (by omega) (by omega);refine hcall.mono ?_;rintro e w' ⟨rfl,_,h2⟩;refine⟨rfl,(yO h2 (a:=⟨w.heap.size+1+1,0,none⟩) Rt (by simp)).trans cc.2.2.1,[],?_,by simp,by simp,?_⟩
  ·have hrow:W.ownsRow (w.heap.size+3) 3 1 (.slice p 0 cp) 0 []:=hS.row;have h3:=hrow.kept h2 (Or.inr (fun e=>by have :=(hrow.lt _ e).1;omega));exact World.ownsRow.mono h3 (by omega)
  ·exact hS.below.grown h2 hsz (fun k e=>by injection e with e;omega)
theorem mX (R:List Hl) (w:World) (hs:s < 2) (hc:w.cell? ⟨b,3+s,none⟩=some v) (hr:w.ownsRow base 117 5 v R.length (R.flatMap bz)) (hn:R.length<=1000):
  Calls prog 66 #[.pointer (some ⟨b,0,none⟩),.int .i64 (s:Nat)] w fun e w'=>∃(v':Value) (ps:List Nat),e= .returned v'∧w'.ownsRow w.heap.size 3 1 v' R.length (ps.map lS)∧ps.Perm (List.range R.length)∧ps.Pairwise (fun x y=>vQ R.toArray y x=false)∧Go.RowKit.Below w.heap.size w w':=by
 have hbl:b < w.heap.size:=J9 hc;obtain⟨V,hV⟩:∃V,V=((w.alloc (.cells #[.pointer (some ⟨b,0,none⟩)] 49)).alloc (.cells #[.int .i64 (s:Nat)] 3)).alloc (.cells #[.slice none 0 0] 84):=⟨_,rfl⟩
 have hS:Sr w b s 0 (.slice none 0 0) V:=by
  rw[hV];refine⟨below_alloc3 _ _ _ _,World.ownsRow_nil _ _ _ _,?_,?_,?_⟩
  ·rw[Below.heap_alloc _ _ _ (by simp;omega),Below.heap_alloc _ _ _ (by simp)];exact heap_alloc_new _ _
  ·rw[Below.heap_alloc _ _ _ (by simp)];have :=heap_alloc_new (w.alloc (.cells #[.pointer (some ⟨b,0,none⟩)] 49)) (.cells #[.int .i64 (s:Nat)] 3);simpa using this
  ·have :=heap_alloc_new ((w.alloc (.cells #[.pointer (some ⟨b,0,none⟩)] 49)).alloc (.cells #[.int .i64 (s:Nat)] 3)) (.cells #[.slice none 0 0] 84);simpa using this
 have c0:=hS.cells hbl hc;have HS:=hid hS;have HR:=hid hr;have HC:=hid hc;clear hS hr hc;obtain⟨p,cap,rfl⟩:=aj HR.out;obtain⟨i3,hi3,hz3,hs3,hb3⟩:=info_parts IE;go_enter func66,ntmps66
 rcases(by omega:s=0∨s=1) with rfl | rfl
 ·go_wp2;have hV2:V=((w.alloc (.cells #[.pointer (some ⟨b,0,none⟩)] 49)).alloc (.cells #[.int .i64 0] 3)).alloc (.cells #[.slice none 0 0] 84):=hV;rw[<-hV2];clear hV hV2;go_quiet (fail);go_wp2;clear c0
  go_loopg [14] R.length (fun gg v14 wr=>∃(i:Nat) (vl:Value),i<=R.length∧gg=R.length -i∧v14= .int .i64 i∧Hid (Sr w b 0 i vl wr))
  case atStart=>exact⟨0,_,Nat.zero_le _,rfl,rfl,HS.out.drawn nq⟩
  case round=>
   clear HS;obtain⟨i,vl,hile,hgi,rfl,HK⟩:=hrel;have sU:=hid hgi;clear hgi;have c1:=HK.out.cells hbl HC.out
   by_cases hlt:i < R.length
   ·have i1:(i:Int) < (R.length:Int):=by omega
    have hrow:=HK.out.row;have hn2:Hid _:=World.news_of_block (World.alloc_heap_new wr (.cells #[.int .i64 (i:Int)] 3));have hl2:w.heap.size+1+1 < wr.heap.size:=(Array.getElem?_eq_some_iff.1 HK.out.cl).1
    go_wp2_with (first
     | (at_builtin;refine wpList_append_own_at _ rfl _ _ 84 rfl (w.heap.size+3) 3 i3 (.int .i64 0) 1 8 underlying84 hi3 hz3 hs3 hb3 rfl (by decide) _ _ _ rfl (hrow.alloc _) ⟨wr.heap.size,0,none⟩ 1 1 [.int .i64 (i:Int)] rfl rfl hn2.out (by intro u hu;simp at hu;subst hu;rfl) (by unfold maxLen;omega) (by omega) (by simp;omega) ?_;intro v' w6 hown6 Gq _ qa;obtain⟨g6,cp6,rfl⟩:=ownsRow_form hown6 (by omega);have hbx:=HK.out.box Gq;have f1:w6.cell? ⟨w.heap.size+1+1,0,none⟩=some vl:=(by rw[cell_of_block hbx.2.2.1];rfl);have f2:w6.frozen? ⟨w.heap.size+1+1,0,none⟩=false:=unfrozen_of_block hbx.2.2.1 0;have hst:=HK.out.step Gq hown6;clear hbx)
     | fail)
    go_roundg (R.length -(i+1))
    case measure=>have :=sU.out;omega
    case rel=>exact⟨i+1,_,by omega,rfl,by go_num,hst⟩
   ·have i1:¬(i:Int) < (R.length:Int):=by omega
    have e1:i=R.length:=by omega
    have Td:Hid (Sr w b 0 R.length vl wr):=by rw[<-e1];exact HK
    clear HK;have hcall:=sj R w wr (by omega:0 < 2) HC.out HR.out hn Td.out;go_wp2_with fail;refine hcall.mono ?_;rintro e w7 ⟨rfl,c7,h7⟩;clear hcall c1;go_wp2;go_ret;obtain⟨ps,q1,q2,q3,q4⟩:=h7.out;exact⟨_,ps,rfl,q1,q2,q3,q4⟩
 ·go_wp2;have hV2:V=((w.alloc (.cells #[.pointer (some ⟨b,0,none⟩)] 49)).alloc (.cells #[.int .i64 1] 3)).alloc (.cells #[.slice none 0 0] 84):=hV;rw[<-hV2];clear hV hV2;go_quiet (fail);go_wp2;clear c0
  go_loopg [14] R.length (fun gg v14 wr=>∃(i:Nat) (vl:Value),i<=R.length∧gg=R.length -i∧v14= .int .i64 i∧Hid (Sr w b 1 i vl wr))
  case atStart=>exact⟨0,_,Nat.zero_le _,rfl,rfl,HS.out.drawn nq⟩
  case round=>
   clear HS;obtain⟨i,vl,hile,hgi,rfl,HK⟩:=hrel;have sU:=hid hgi;clear hgi;have c1:=HK.out.cells hbl HC.out
   by_cases hlt:i < R.length
   ·have i1:(i:Int) < (R.length:Int):=by omega
    have hrow:=HK.out.row;have hn2:Hid _:=World.news_of_block (World.alloc_heap_new wr (.cells #[.int .i64 (i:Int)] 3));have hl2:w.heap.size+1+1 < wr.heap.size:=(Array.getElem?_eq_some_iff.1 HK.out.cl).1
    go_wp2_with (first
     | (at_builtin;refine wpList_append_own_at _ rfl _ _ 84 rfl (w.heap.size+3) 3 i3 (.int .i64 0) 1 8 underlying84 hi3 hz3 hs3 hb3 rfl (by decide) _ _ _ rfl (hrow.alloc _) ⟨wr.heap.size,0,none⟩ 1 1 [.int .i64 (i:Int)] rfl rfl hn2.out (by intro u hu;simp at hu;subst hu;rfl) (by unfold maxLen;omega) (by omega) (by simp;omega) ?_;intro v' w6 hown6 Gq _ qa;obtain⟨g6,cp6,rfl⟩:=ownsRow_form hown6 (by omega);have hbx:=HK.out.box Gq;have f1:w6.cell? ⟨w.heap.size+1+1,0,none⟩=some vl:=(by rw[cell_of_block hbx.2.2.1];rfl);have f2:w6.frozen? ⟨w.heap.size+1+1,0,none⟩=false:=unfrozen_of_block hbx.2.2.1 0;have hst:=HK.out.step Gq hown6;clear hbx)
     | fail)
    go_roundg (R.length -(i+1))
    case measure=>have :=sU.out;omega
    case rel=>exact⟨i+1,_,by omega,rfl,by go_num,hst⟩
   ·have i1:¬(i:Int) < (R.length:Int):=by omega
    have e1:i=R.length:=by omega
    have Td:Hid (Sr w b 1 R.length vl wr):=by rw[<-e1];exact HK
    clear HK;have hcall:=sj R w wr (by omega:1 < 2) HC.out HR.out hn Td.out;go_wp2_with fail;refine hcall.mono ?_;rintro e w7 ⟨rfl,c7,h7⟩;clear hcall c1;go_wp2;go_ret;obtain⟨ps,q1,q2,q3,q4⟩:=h7.out;exact⟨_,ps,rfl,q1,q2,q3,q4⟩
end
end Go.Proofs.YthfpipieboophaaGreatDoor
