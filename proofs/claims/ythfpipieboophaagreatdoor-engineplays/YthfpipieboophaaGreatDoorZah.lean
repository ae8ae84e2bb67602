import Derived.Test.YthfpipieboophaaGreatDoorZag
namespace Go.Proofs.YthfpipieboophaaGreatDoor
set_option maxRecDepth 100000
set_option maxHeartbeats 40000000
open Go.Joins Go.RowKit
section
open Go.Proofs.Tryz
def bM (s:Int):Bool:=s==0 || s==1
def kW (l r s:Int):Int:=if s=0 then l else if s=1 then r else -1099511627777
theorem dm (s:Int) (w:World):Calls prog 170 #[.int .i64 s] w fun e w'=>e= .returned (.bool (bM s))∧w'=w:=by
 by_cases h0:s=0
 ·subst h0;go_enter func170,ntmps170;go_wp2;go_ret;exact⟨aN (by simp[bM]),rfl⟩
 ·by_cases h1:s=1
  ·subst h1;go_enter func170,ntmps170;go_wp2;go_ret;exact⟨aN (by simp[bM]),rfl⟩
  ·go_enter func170,ntmps170;go_wp2;go_ret;exact⟨aN (by simp_all [bM]),rfl⟩
theorem ED (w:World):Calls prog 110 #[] w fun e w'=>e= .returned (.pointer (some ⟨w.heap.size,0,none⟩))∧w'=w.alloc (.cells #[.int .i64 (-1099511627777),.int .i64 (-1099511627777)] 250):=by
 go_enter func110,ntmps110;go_wp2;go_ret;exact⟨rfl,rfl⟩
theorem jl (b:Nat) (l r s:Int) (w:World) (hl:w.cell? ⟨b,0,none⟩=some (.int .i64 l)) (hr:w.cell? ⟨b,1,none⟩=some (.int .i64 r)):
  Calls prog 100 #[.pointer (some ⟨b,0,none⟩),.int .i64 s] w fun e w'=>e= .returned (.int .i64 (kW l r s))∧w'=w:=by
 by_cases h0:s=0
 ·subst h0;go_enter func100,ntmps100
  go_wp2_with (go_at_call 170;refine(dm _ _).mono ?_;rintro e w' ⟨rfl,rfl⟩;simp only[bM,beq_self_eq_true,Bool.true_or])
  go_ret;exact⟨gu (by simp[kW]),rfl⟩
 ·by_cases h1:s=1
  ·subst h1;go_enter func100,ntmps100
   go_wp2_with (go_at_call 170;refine(dm _ _).mono ?_;rintro e w' ⟨rfl,rfl⟩;simp only[bM,beq_self_eq_true,Bool.or_true])
   go_ret;exact⟨gu (by simp[kW]),rfl⟩
  ·have hs:bM s=false:=by simp[bM,h0,h1]
   go_enter func100,ntmps100
   go_wp2_with (go_at_call 170;refine(dm _ _).mono ?_;rintro e w' ⟨rfl,rfl⟩;rw[hs])
   go_ret;exact⟨gu (by simp[kW,h0,h1]),rfl⟩
theorem gB (b:Nat) (l r s t:Int) (w:World) (hl:w.cell? ⟨b,0,none⟩=some (.int .i64 l)) (hr:w.cell? ⟨b,1,none⟩=some (.int .i64 r)):
  Calls prog 97 #[.pointer (some ⟨b,0,none⟩),.int .i64 s,.int .i64 t] w fun e w'=>e= .returned (.bool (decide (t<=kW l r s)))∧w'=w:=by
 go_enter func97,ntmps97
 go_wp2_with (go_at_call 100;refine(jl b l r s _ hl hr).mono ?_;rintro e w' ⟨rfl,rfl⟩)
 go_ret;exact⟨rfl,rfl⟩
def SG (k:Int):Value:=if k=0 then .nilIface else .iface 24 (.int .i64 k)
def moveE (l r s t:Int):Int:=if bM s=false then 1 else if t < -1099511627776∨1099511627776 < t then 2 else if t < kW l r s then 10 else 0
def uh (l r s t:Int):Int:=if moveE l r s t=0∧s=0 then t else l
def uj (l r s t:Int):Int:=if moveE l r s t=0∧s=1 then t else r
structure Only (b:Nat) (w w':World):Prop where
 os:w'.os=w.os
 tape:w'.tape=w.tape
 output:w'.output=w.output
 size:w.heap.size=w'.heap.size
 block:∀k,k≠b->w'.heap[k]? =w.heap[k]?
theorem Only.refl (b:Nat) (w:World):Only b w w:=⟨rfl,rfl,rfl,rfl,fun _ _=>rfl⟩
theorem Only.setCell (b i:Nat) (w:World) (v:Value):Only b w (w.setCell ⟨b,i,none⟩ v):=
 ⟨rfl,rfl,rfl,by simp,fun k hk=>Below.heap_setCell w _ v k hk⟩
theorem Only.below {b B:Nat} {w w':World} (h:Only b w w') (hB:B<=b):Below B w w':=
 ⟨h.os,h.tape,h.output,Nat.le_of_eq h.size,fun k hk=>h.block k (by omega)⟩
theorem mQ (b:Nat) (l r s t:Int) (w:World) (hb:w.heap[b]? =some (.cells #[.int .i64 l,.int .i64 r] 250)):
  Calls prog 111 #[.pointer (some ⟨b,0,none⟩),.int .i64 s,.int .i64 t] w fun e w'=>e= .returned (SG (moveE l r s t))∧w'.heap[b]? =some (.cells #[.int .i64 (uh l r s t),.int .i64 (uj l r s t)] 250)∧Only b w w':=by
 have hl:w.cell? ⟨b,0,none⟩=some (.int .i64 l):=by rw[cell_of_block hb];rfl
 have hr:w.cell? ⟨b,1,none⟩=some (.int .i64 r):=by rw[cell_of_block hb];rfl
 have hfl:w.frozen? ⟨b,0,none⟩=false:=unfrozen_of_block hb 0;have hfr:w.frozen? ⟨b,1,none⟩=false:=unfrozen_of_block hb 1;have H0:=block_setCell (i:=0) hb (.int .i64 t);have H1:=block_setCell (i:=1) hb (.int .i64 t);have HB:=hid hb;have K0:Hid _:=H0;have K1:Hid _:=H1;clear hb H0 H1;cases hs:bM s
 ·have he:moveE l r s t=1:=by simp[moveE,hs]
  have HE:Hid _:=he;clear he;go_enter func111,ntmps111
  go_wp2_with (go_at_call 170;refine(dm _ _).mono ?_;rintro e w' ⟨rfl,rfl⟩;rw[hs])
  go_ret;refine⟨by rw[HE.out];rfl,?_,Only.refl _ _⟩;unfold uh uj;rw[HE.out];exact HB.out
 ·by_cases g1:t < -1099511627776
  ·have he:moveE l r s t=2:=by simp[moveE,hs,g1]
   have HE:Hid _:=he;clear he;go_enter func111,ntmps111
   go_wp2_with (go_at_call 170;refine(dm _ _).mono ?_;rintro e w' ⟨rfl,rfl⟩;rw[hs])
   go_ret;refine⟨by rw[HE.out];rfl,?_,Only.refl _ _⟩;unfold uh uj;rw[HE.out];exact HB.out
  ·by_cases g2:1099511627776 < t
   ·have he:moveE l r s t=2:=by simp[moveE,hs,g2]
    have HE:Hid _:=he;clear he;go_enter func111,ntmps111
    go_wp2_with (go_at_call 170;refine(dm _ _).mono ?_;rintro e w' ⟨rfl,rfl⟩;rw[hs])
    go_ret;refine⟨by rw[HE.out];rfl,?_,Only.refl _ _⟩;unfold uh uj;rw[HE.out];exact HB.out
   ·have hor:¬(t < -1099511627776∨1099511627776 < t):=by omega
    rcases(show s=0∨s=1 by simpa[bM] using hs) with rfl | rfl
    ·by_cases g3:t < l
     ·have he:moveE l r 0 t=10:=by unfold moveE;rw[if_neg (by simp[hs]),if_neg hor,if_pos (by simpa[kW] using g3)]
      have HE:Hid _:=he;clear he hor;go_enter func111,ntmps111
      go_wp2_with (go_at_call 170;refine(dm _ _).mono ?_;rintro e w' ⟨rfl,rfl⟩;rw[hs])
      go_ret;refine⟨by rw[HE.out];rfl,?_,Only.refl _ _⟩;unfold uh uj;rw[HE.out];exact HB.out
     ·have he:moveE l r 0 t=0:=by unfold moveE;rw[if_neg (by simp[hs]),if_neg hor,if_neg (by simpa[kW] using g3)]
      have HE:Hid _:=he;clear he hor;go_enter func111,ntmps111
      go_wp2_with (go_at_call 170;refine(dm _ _).mono ?_;rintro e w' ⟨rfl,rfl⟩;rw[hs])
      go_ret;refine⟨by rw[HE.out];rfl,?_,Only.setCell _ _ _ _⟩;unfold uh uj;rw[HE.out];exact K0.out
    ·by_cases g3:t < r
     ·have he:moveE l r 1 t=10:=by unfold moveE;rw[if_neg (by simp[hs]),if_neg hor,if_pos (by simpa[kW] using g3)]
      have HE:Hid _:=he;clear he hor;go_enter func111,ntmps111
      go_wp2_with (go_at_call 170;refine(dm _ _).mono ?_;rintro e w' ⟨rfl,rfl⟩;rw[hs])
      go_ret;refine⟨by rw[HE.out];rfl,?_,Only.refl _ _⟩;unfold uh uj;rw[HE.out];exact HB.out
     ·have he:moveE l r 1 t=0:=by unfold moveE;rw[if_neg (by simp[hs]),if_neg hor,if_neg (by simpa[kW] using g3)]
      have HE:Hid _:=he;clear he hor;go_enter func111,ntmps111
      go_wp2_with (go_at_call 170;refine(dm _ _).mono ?_;rintro e w' ⟨rfl,rfl⟩;rw[hs])
      go_ret;refine⟨by rw[HE.out];rfl,?_,Only.setCell _ _ _ _⟩;unfold uh uj;rw[HE.out];exact K1.out
end
section
open Go.Proofs.Tryz Go.Shelf
structure Ch where
 x:O
 g:Bool
 deriving DecidableEq,Inhabited
def aQ (c:Ch):List Value:=[.int .i64 c.x.k,.int .i64 c.x.lk,.int .i64 c.x.lt,.int .i64 c.x.lv,.int .i64 c.x.rk,.int .i64 c.x.rt,.int .i64 c.x.rv,.bool c.x.hl,.bool c.x.hr,.bool c.g]
def zC:Value:= .agg #[.int .i64 0,.int .i64 0,.int .i64 0,.int .i64 0,.int .i64 0,.int .i64 0,.int .i64 0,.bool false,.bool false,.bool false]
theorem kC (c:Ch):(aQ c).length=10:=rfl
theorem gQ (c:Ch):∀u∈aQ c,u.oneCell'=true:=by
 intro u hu;simp[aQ] at hu;rcases hu with rfl | rfl | rfl | rfl | rfl | rfl | rfl | rfl | rfl | rfl <;>rfl
theorem Ib:(prog.info? 95).map (fun i=>(i.zero,i.size,i.bytes))=some (some zC,10,72):=by kernel_rfl
def bn (s:Int) (k t v:Int):O:=if s=0 then⟨k,k,t,v,0,0,0,true,false⟩ else⟨k,0,0,0,k,t,v,false,true⟩
def bY (s:Int) (k t v k2 t2 v2:Int):O:=if s=0 then⟨k,k,t,v,k2,t2,v2,true,true⟩ else⟨k2,k2,t2,v2,k,t,v,true,true⟩
def bf (mode s:Int):Bool:=if s=0 then mode==1 || mode==3 else mode==2 || mode==3
theorem bH (s:Int) (w:World):Calls prog 95 #[.int .i64 s] w fun e w'=>e= .returned (.bool (bM s))∧w'=w:=by
 by_cases h0:s=0
 ·subst h0;go_enter func95,ntmps95;go_wp2;go_ret;exact⟨aN (by simp[bM]),rfl⟩
 ·by_cases h1:s=1
  ·subst h1;go_enter func95,ntmps95;go_wp2;go_ret;exact⟨aN (by simp[bM]),rfl⟩
  ·go_enter func95,ntmps95;go_wp2;go_ret;exact⟨aN (by simp_all [bM]),rfl⟩
theorem ig (w:World):Calls prog 101 #[.int .i64 0] w fun e w'=>e= .returned (.int .i64 1)∧w'=w:=by
 go_enter func101,ntmps101;go_wp2;go_ret;exact⟨rfl,rfl⟩
theorem jm (w:World):Calls prog 101 #[.int .i64 1] w fun e w'=>e= .returned (.int .i64 0)∧w'=w:=by
 go_enter func101,ntmps101;go_wp2;go_ret;exact⟨rfl,rfl⟩
theorem rT (n:Int) (w:World) (h1: -9223372036854775808<=n) (h2:n<=9223372036854775807):Calls prog 98 #[.int .i64 n] w fun e w'=>e= .returned (.int .i64 (bR n))∧w'=w:=by
 by_cases e:n=9223372036854775807
 ·subst e;go_enter func98,ntmps98;go_wp2;go_ret;exact⟨rfl,rfl⟩
 ·have hm:bR n=n+1:=by simp[bR,e]
  have he:(n==9223372036854775807)=false:=by simp[e]
  have h3:n < 9223372036854775807:=by omega
  rw[hm];clear hm;go_enter func98,ntmps98;go_wp2;go_ret;exact⟨rfl,rfl⟩
theorem qG (b:Nat) (lo hi:Int) (w:World) (h1:w.cell? ⟨b,0,none⟩=some (.int .i64 lo)) (h2:w.cell? ⟨b,1,none⟩=some (.int .i64 hi)):
  Calls prog 99 #[.pointer (some ⟨b,0,none⟩),.int .i64 0] w fun e w'=>e= .returned (.tuple #[.int .i64 lo,.int .i64 hi])∧w'=w.drew:=by
 go_enter func99,ntmps99;go_wp2
 go_region
 go_wp2;exact bodyPost_ret (v:= .tuple #[.int .i64 lo,.int .i64 hi]) (by simp[results,Tryz.results99,go_sem]) rfl ⟨rfl,rfl⟩
theorem oH (b:Nat) (lo hi:Int) (w:World) (h1:w.cell? ⟨b,0,none⟩=some (.int .i64 lo)) (h2:w.cell? ⟨b,1,none⟩=some (.int .i64 hi)) (g1: -1048576<=lo) (g2:lo<=1048576) (g3: -1048576<=hi) (g4:hi<=1048576):
  Calls prog 99 #[.pointer (some ⟨b,0,none⟩),.int .i64 1] w fun e w'=>e= .returned (.tuple #[.int .i64 (-hi),.int .i64 (-lo)])∧w'=w.drew:=by
 have e1:IntKind.i64.wrap (-hi)= -hi:=uk (by omega) (by omega);have e2:IntKind.i64.wrap (-lo)= -lo:=uk (by omega) (by omega);go_enter func99,ntmps99;go_wp2
 go_region
 go_wp2;exact bodyPost_ret (v:= .tuple #[.int .i64 (-hi),.int .i64 (-lo)]) (by simp[results,Tryz.results99,go_sem]) rfl ⟨rfl,rfl⟩
theorem pI (b:Nat) (mode s:Int) (w:World) (h:w.cell? ⟨b,2,none⟩=some (.int .i64 mode)) (hs:s=0∨s=1):
  Calls prog 174 #[.pointer (some ⟨b,0,none⟩),.int .i64 s] w fun e w'=>e= .returned (.bool (bf mode s))∧w'=w:=by
 rcases hs with rfl | rfl
 ·cases hm:(mode==1)
  ·go_enter func174,ntmps174;go_wp2;go_ret;exact⟨aN (by simp[bf,hm]),rfl⟩
  ·go_enter func174,ntmps174;go_wp2;go_ret;exact⟨aN (by simp[bf,hm]),rfl⟩
 ·cases hm:(mode==2)
  ·go_enter func174,ntmps174;go_wp2;go_ret;exact⟨aN (by simp[bf,hm]),rfl⟩
  ·go_enter func174,ntmps174;go_wp2;go_ret;exact⟨aN (by simp[bf,hm]),rfl⟩
def aa7 (s k t v:Int):Value:=if s=0 then .agg #[.int .i64 k,.int .i64 k,.int .i64 t,.int .i64 v,.int .i64 0,.int .i64 0,.int .i64 0,.bool true,.bool false] else .agg #[.int .i64 k,.int .i64 0,.int .i64 0,.int .i64 0,.int .i64 k,.int .i64 t,.int .i64 v,.bool false,.bool true]
theorem um (k t v:Int) (w:World):
  Calls prog 167 #[.int .i64 0,.agg #[.int .i64 k,.int .i64 t,.int .i64 v]] w fun e w'=>e= .returned (.agg #[.int .i64 k,.int .i64 k,.int .i64 t,.int .i64 v,.int .i64 0,.int .i64 0,.int .i64 0,.bool true,.bool false])∧Below w.heap.size w w':=by
 go_enter func167,ntmps167;go_wp2;exact bodyPost_ret (v:= .agg #[.int .i64 k,.int .i64 k,.int .i64 t,.int .i64 v,.int .i64 0,.int .i64 0,.int .i64 0,.bool true,.bool false]) (by simp[results,Tryz.results167,go_sem]) rfl ⟨rfl,below_alloc2 _ _ _⟩
theorem qH (k t v:Int) (w:World):
  Calls prog 167 #[.int .i64 1,.agg #[.int .i64 k,.int .i64 t,.int .i64 v]] w fun e w'=>e= .returned (.agg #[.int .i64 k,.int .i64 0,.int .i64 0,.int .i64 0,.int .i64 k,.int .i64 t,.int .i64 v,.bool false,.bool true])∧Below w.heap.size w w':=by
 go_enter func167,ntmps167;go_wp2;exact bodyPost_ret (v:= .agg #[.int .i64 k,.int .i64 0,.int .i64 0,.int .i64 0,.int .i64 k,.int .i64 t,.int .i64 v,.bool false,.bool true]) (by simp[results,Tryz.results167,go_sem]) rfl ⟨rfl,below_alloc2 _ _ _⟩
theorem uq (k1 t1 v1 k2 t2 v2:Int) (w:World):
  Calls prog 168 #[.agg #[.int .i64 k1,.int .i64 t1,.int .i64 v1],.agg #[.int .i64 k2,.int .i64 t2,.int .i64 v2]] w fun e w'=>e= .returned (.agg #[.int .i64 k1,.int .i64 k1,.int .i64 t1,.int .i64 v1,.int .i64 k2,.int .i64 t2,.int .i64 v2,.bool true,.bool true])∧w'=((w.alloc (.cells #[.int .i64 k1,.int .i64 t1,.int .i64 v1] 37)).alloc (.cells #[.int .i64 k2,.int .i64 t2,.int .i64 v2] 37)).alloc (.cells #[.int .i64 k1,.int .i64 k1,.int .i64 t1,.int .i64 v1,.int .i64 k2,.int .i64 t2,.int .i64 v2,.bool true,.bool true] 89):=by
 go_enter func168,ntmps168;go_wp2;exact bodyPost_ret (v:= .agg #[.int .i64 k1,.int .i64 k1,.int .i64 t1,.int .i64 v1,.int .i64 k2,.int .i64 t2,.int .i64 v2,.bool true,.bool true]) (by simp[results,Tryz.results168,go_sem]) rfl ⟨rfl,rfl⟩
theorem Ic (k t v k2 t2 v2:Int) (w:World):
  Calls prog 175 #[.int .i64 0,.agg #[.int .i64 k,.int .i64 t,.int .i64 v],.agg #[.int .i64 k2,.int .i64 t2,.int .i64 v2]] w fun e w'=>e= .returned (.agg #[.int .i64 k,.int .i64 k,.int .i64 t,.int .i64 v,.int .i64 k2,.int .i64 t2,.int .i64 v2,.bool true,.bool true])∧Below w.heap.size w w':=by
 go_enter func175,ntmps175
 go_wp2_with (go_at_call 168;refine(uq _ _ _ _ _ _ _).mono ?_;rintro e w' ⟨rfl,rfl⟩)
 refine bodyPost_ret (v:= .agg #[.int .i64 k,.int .i64 k,.int .i64 t,.int .i64 v,.int .i64 k2,.int .i64 t2,.int .i64 v2,.bool true,.bool true]) (by simp[results,Tryz.results175,go_sem]) rfl ⟨rfl,?_⟩
 repeat (first | exact Below.refl _ _ | refine Below.setCell ?_ (by simp;omega) _ | refine Below.alloc ?_ (by simp;omega) _ | refine Below.alloc ?_ (by simp) _)
theorem EE (k t v k2 t2 v2:Int) (w:World):
  Calls prog 175 #[.int .i64 1,.agg #[.int .i64 k,.int .i64 t,.int .i64 v],.agg #[.int .i64 k2,.int .i64 t2,.int .i64 v2]] w fun e w'=>e= .returned (.agg #[.int .i64 k2,.int .i64 k2,.int .i64 t2,.int .i64 v2,.int .i64 k,.int .i64 t,.int .i64 v,.bool true,.bool true])∧Below w.heap.size w w':=by
 go_enter func175,ntmps175
 go_wp2_with (go_at_call 168;refine(uq _ _ _ _ _ _ _).mono ?_;rintro e w' ⟨rfl,rfl⟩)
 refine bodyPost_ret (v:= .agg #[.int .i64 k2,.int .i64 k2,.int .i64 t2,.int .i64 v2,.int .i64 k,.int .i64 t,.int .i64 v,.bool true,.bool true]) (by simp[results,Tryz.results175,go_sem]) rfl ⟨rfl,?_⟩
 repeat (first | exact Below.refl _ _ | refine Below.setCell ?_ (by simp;omega) _ | refine Below.alloc ?_ (by simp;omega) _ | refine Below.alloc ?_ (by simp) _)
end
section
open Go.Proofs.Tryz Go.Shelf
variable {w1 W:World} {X:List Ch} {v9:Value}
def dU (T:Bool) (s s':Int) (k t v:Int) (m:D):List Ch:=(if m.n=0∧T=true then[⟨bn s' m.k m.t m.v,true⟩] else[])++[⟨bY s k t v m.k m.t m.v,false⟩]
theorem O3 (T:Bool) (s s':Int) (k t v:Int) (m:D):(dU T s s' k t v m).length<=2:=by unfold dU;split <;>simp
theorem rP (T:Bool) (s s':Int) (k t v:Int) (M:List D):(M.flatMap (dU T s s' k t v)).length<=2 * M.length:=by
 induction M with
 | nil=>simp
 | cons a r ih=>have :=O3 T s s' k t v a;simp only[List.flatMap_cons,List.length_append,List.length_cons];omega
structure Cg (w1:World) (X:List Ch) (v9:Value) (wr:World):Prop where
 low:Below w1.heap.size w1 wr
 row:wr.ownsRow w1.heap.size 95 10 v9 X.length (X.flatMap aQ)
theorem Cg.start (w1:World):Cg w1 [] (.slice none 0 0) w1:=⟨Below.refl _ _,World.ownsRow_nil _ _ _ _⟩
theorem CE {w w':World} {base:Nat} {v:Value} {n:Nat} {xs:List Value} (h:w.ownsRow base 95 10 v n xs) (hb:Below w.heap.size w w'):w'.ownsRow base 95 10 v n xs:=
 h.kept (row:=none) ⟨hb.os,hb.tape,hb.output,hb.size,fun k hk _=>hb.block k hk⟩ (by cases h':v.ownBlock with | none=>exact .inl rfl | some g=>exact .inr (by simp))
theorem Cg.go {wr:World} (h:Cg w1 X v9 wr) (hb:Below wr.heap.size wr W):Cg w1 X v9 W:=
 ⟨h.low.trans (hb.mono h.low.size),CE h.row hb⟩
theorem Cg.step {w3:World} {c:Ch} {g cap:Nat} (h:Cg w1 X v9 W) (hown:w3.ownsRow w1.heap.size 95 10 (.slice (some ⟨g,0,none⟩) (X.length+1) cap) (X.length+1) (X.flatMap aQ++aQ c)) (hg:W.grownBy w3 v9.ownBlock):
  Cg w1 (X++[c]) (.slice (some ⟨g,0,none⟩) (X.length+1) cap) w3:=
 ⟨h.low.grown hg h.low.size (fun k e=>(h.row.lt k e).1),by rw[List.length_append,List.flatMap_append];simpa using hown⟩
theorem Cg.far (h:Cg w1 X v9 W) (k:Nat) (hk:W.heap.size<=k):v9.ownBlock≠some k:=fun e=>by have :=(h.row.lt k e).2;omega
theorem yA {B:Nat} {x:D} (h:W.heap[B]? =some (.cells #[.int .i64 x.k,.int .i64 x.t,.int .i64 x.v,.int .i64 x.n] 130)):
  W.cell? ⟨B,0,none⟩=some (.int .i64 x.k)∧W.cell? ⟨B,1,none⟩=some (.int .i64 x.t)∧W.cell? ⟨B,2,none⟩=some (.int .i64 x.v)∧W.cell? ⟨B,3,none⟩=some (.int .i64 x.n):=by
 refine⟨?_,?_,?_,?_⟩ <;>(rw[cell_of_block h];rfl)
abbrev qZ (c:Ch):Obj:= .cells #[.int .i64 c.x.k,.int .i64 c.x.lk,.int .i64 c.x.lt,.int .i64 c.x.lv,.int .i64 c.x.rk,.int .i64 c.x.rt,.int .i64 c.x.rv,.bool c.x.hl,.bool c.x.hr,.bool c.g] 95
theorem rU (base b gs ck:Nat) (mode s s':Int) (T:Bool) (k t v:Int) (M:List D) (w:World)
  (ho:∀W,Calls prog 101 #[.int .i64 s] W fun e w'=>e= .returned (.int .i64 s')∧w'=W)
  (ht:∀W,W.cell? ⟨b,2,none⟩=some (.int .i64 mode)->Calls prog 174 #[.pointer (some ⟨b,0,none⟩),.int .i64 s'] W fun e w'=>e= .returned (.bool T)∧w'=W)
  (hl:∀k t v W,Calls prog 167 #[.int .i64 s',.agg #[.int .i64 k,.int .i64 t,.int .i64 v]] W fun e w'=>e= .returned (vO (bn s' k t v))∧Below W.heap.size W w')
  (hp:∀k t v k2 t2 v2 W,Calls prog 175 #[.int .i64 s,.agg #[.int .i64 k,.int .i64 t,.int .i64 v],.agg #[.int .i64 k2,.int .i64 t2,.int .i64 v2]] W fun e w'=>e= .returned (vO (bY s k t v k2 t2 v2))∧Below W.heap.size W w')
  (h:w.cell? ⟨b,2,none⟩=some (.int .i64 mode)) (hb:b < w.heap.size) (hM:w.ownsRow base 130 4 (.slice (some ⟨gs,0,none⟩) M.length ck) M.length (M.flatMap ak)) (h0:0 < M.length) (hlen:M.length<=100000):
  Calls prog 105 #[.pointer (some ⟨b,0,none⟩),.int .i64 s,.agg #[.int .i64 k,.int .i64 t,.int .i64 v],.slice (some ⟨gs,0,none⟩) M.length ck] w fun e w'=>∃v9,e= .returned v9∧w'.ownsRow w.heap.size 95 10 v9 (M.flatMap (dU T s s' k t v)).length ((M.flatMap (dU T s s' k t v)).flatMap aQ)∧Below w.heap.size w w':=by
 obtain⟨i0,hi,hz0,hz1,hz2⟩:=info_parts Ib;obtain⟨Z,hZ⟩:∃Z,Z=M.flatMap (dU T s s' k t v):=⟨_,rfl⟩;rw[<-hZ];have HZ:=hid hZ;clear hZ;have HO:=hid ho;have HT:=hid ht;simp only[vO] at hl hp;have HL:=hl;have HP:=hp;have HM:=hid hM
 have iz:((M.length:Int)==0)=false:=by simp only[beq_eq_false_iff_ne];omega
 have i1:(M.length:Int)<=100000:=by omega
 clear ho ht hl hp hM;revert HL HP;intro HL HP;go_enter func105,ntmps105;go_wp2;have W1:Hid (Below w.heap.size w (w.alloc (.cells #[.int .i64 k,.int .i64 t,.int .i64 v] 37))∧(w.alloc (.cells #[.int .i64 k,.int .i64 t,.int .i64 v] 37)).heap[w.heap.size]? =some (.cells #[.int .i64 k,.int .i64 t,.int .i64 v] 37)∧w.heap.size < (w.alloc (.cells #[.int .i64 k,.int .i64 t,.int .i64 v] 37)).heap.size):=⟨below_alloc1 _ _,heap_alloc_new _ _,by simp⟩;revert W1;generalize w.alloc (.cells #[.int .i64 k,.int .i64 t,.int .i64 v] 37)=w1;intro W1;have C0:Hid (Cg w1 [] (.slice none 0 0) w1):=Cg.start w1
 go_loopg [9,27] M.length (fun gg v9 v27 wr=>∃(i:Nat),i<=M.length∧gg=M.length -i∧v27= .int .i64 i∧Hid (Cg w1 ((M.take i).flatMap (dU T s s' k t v)) v9 wr))
 case atStart=>exact⟨0,Nat.zero_le _,rfl,rfl,C0⟩
 case round=>
  obtain⟨i,hi2,hg,rfl,I⟩:=hrel;have HG:=hid hg;clear hg C0;have hlw:w.heap.size < wr.heap.size:=Nat.lt_of_lt_of_le W1.out.2.2 I.out.low.size;have hBw:Hid (Below w.heap.size w wr):=(W1.out.1.trans (I.out.low.mono (Nat.le_of_lt W1.out.2.2)))
  by_cases hlt:i < M.length
  ·obtain⟨x,hx⟩:∃x,M[i]? =some x:=⟨_,List.getElem?_eq_getElem hlt⟩;have hcx:=jo (aL HM.out hBw.out) i x hx;have hrb:=(I.out.low.block _ W1.out.2.2).trans W1.out.2.1;have hrc:=iq hrb;have hmc:wr.cell? ⟨b,2,none⟩=some (.int .i64 mode):=(hBw.out.cell (p:=⟨b,2,none⟩) hb).trans h
   have htk:Hid ((M.take (i+1)).flatMap (dU T s s' k t v)=(M.take i).flatMap (dU T s s' k t v)++dU T s s' k t v x):=by
    show(M.take (i+1)).flatMap (dU T s s' k t v)=(M.take i).flatMap (dU T s s' k t v)++dU T s s' k t v x;rw[List.take_add_one,hx];simp
   have wL:((M.take i).flatMap (dU T s s' k t v)).length<=200000:=by
    have h1:=rP T s s' k t v (M.take i);have h2:=List.length_take_le i M;omega
   generalize (M.take i).flatMap (dU T s s' k t v)=X at *
   have j1:(0:Int)<=(i:Int):=by omega
   have j2:(i:Int) < (M.length:Int):=by omega
   have hbw:b < wr.heap.size:=by omega
   have HB:=hid hrb;clear hx hrb
   --behind whatever is told of the met row alone,the pair is told
   by_cases hc:x.n=0∧T=true
   ·have hcg:Hid (dU T s s' k t v x=[⟨bn s' x.k x.t x.v,true⟩,⟨bY s k t v x.k x.t x.v,false⟩]):=by
     show dU T s s' k t v x=[⟨bn s' x.k x.t x.v,true⟩,⟨bY s k t v x.k x.t x.v,false⟩];unfold dU;rw[if_pos hc];rfl
    have hnb:Hid (Below wr.heap.size wr (wr.alloc (.cells #[.int .i64 x.k,.int .i64 x.t,.int .i64 x.v,.int .i64 x.n] 130))):=below_alloc1 _ _
    have hn2:(x.n==0)=true:=by simp[hc.1]
    have hT:=hc.2;subst hT;have hbx:Hid ((wr.alloc (.cells #[.int .i64 x.k,.int .i64 x.t,.int .i64 x.v,.int .i64 x.n] 130)).heap[wr.heap.size]? =some (.cells #[.int .i64 x.k,.int .i64 x.t,.int .i64 x.v,.int .i64 x.n] 130)):=heap_alloc_new _ _;clear hc
    go_wp2_with (first
     | (go_at_call 101;refine(HO.out _).mono ?_;rintro e w' ⟨rfl,rfl⟩)
     | (go_at_call 174;refine(HT.out _ ?_).mono ?_;(go_simp);rintro e w' ⟨rfl,rfl⟩)
     | fail)
    go_region_held3 (fun W=>W.cell? ⟨wr.heap.size,0,none⟩=some (.int .i64 x.k)∧W.cell? ⟨wr.heap.size,1,none⟩=some (.int .i64 x.t)∧W.cell? ⟨wr.heap.size,2,none⟩=some (.int .i64 x.v)) (first | (go_keep;done) | fail) (first
     | (go_at_call 101;refine(HO.out _).mono ?_;rintro e w' ⟨rfl,rfl⟩)
     | (go_at_call 167;refine(HL _ _ _ _).mono ?_;rintro e w2 ⟨rfl,hb2⟩;have hbz:=(hb2.block wr.heap.size (by simp)).trans hbx.out;have C2:Hid (Cg w1 X u9 (w2.alloc (qZ ⟨bn s' x.k x.t x.v,true⟩))∧w2.heap[wr.heap.size]? =some (.cells #[.int .i64 x.k,.int .i64 x.t,.int .i64 x.v,.int .i64 x.n] 130)∧wr.heap.size < w2.heap.size):=⟨(I.out.go hnb.out.drew).go (hb2.trans ((below_alloc1 w2 _).mono hb2.size)),hbz,(Array.getElem?_eq_some_iff.1 hbz).1⟩;have hl2:w1.heap.size<=w2.heap.size:=Nat.le_trans I.out.low.size (Nat.le_trans hnb.out.size hb2.size);have hx2:=yA hbz;have N2:Hid (∀j u,(aQ ⟨bn s' x.k x.t x.v,true⟩)[j]? =some u->(w2.alloc (qZ ⟨bn s' x.k x.t x.v,true⟩)).cell? ((⟨w2.heap.size,0,none⟩:Addr).add j)=some u):=World.news_of_block (heap_alloc_new w2 (qZ ⟨bn s' x.k x.t x.v,true⟩));clear hb2 hbz)
     | (refine step_append_lies _ (by rfl) _ _ _ (by rfl) w1.heap.size 95 i0 zC 10 72 underlying33 hi hz0 hz1 hz2 rfl (by omega) u9 X.length (X.flatMap aQ) (by rfl) ?_ ⟨w2.heap.size,0,none⟩ 1 1 (aQ ⟨bn s' x.k x.t x.v,true⟩) (by rfl) (by rfl) ?_ (gQ _) (by omega) (by unfold maxLen;omega) (by omega) ?_ _ rfl ?_;(exact C2.out.1.row);(exact N2.out);(simp;omega);intro g3 O4 w3 hown3 hgrow3 SH hlt3;have XV:=(hgrow3.block wr.heap.size (Nat.lt_trans C2.out.2.2 (by simp)) (fun e=>I.out.far _ (Nat.le_refl _) e.symm)).trans ((Below.heap_alloc _ _ _ C2.out.2.2).trans C2.out.2.1);have hx3:=yA XV;have C3:Hid (Cg w1 (X++[⟨bn s' x.k x.t x.v,true⟩]) (.slice (some ⟨g3,0,none⟩) (X.length+1) O4) w3):=C2.out.1.step hown3 hgrow3;clear hown3 hgrow3 SH hlt3 XV)
     | fail)
    have hr3:=iq ((C3.out.low.block _ W1.out.2.2).trans W1.out.2.1)
    have e3:(X++[(⟨bn s' x.k x.t x.v,true⟩:Ch)]).length=X.length+1:=by simp
    go_wp2_with (first
     | (go_at_call 175;refine(HP _ _ _ _ _ _ _).mono ?_;rintro e w4 ⟨rfl,hb4⟩;have C4:Hid (Cg w1 (X++[⟨bn s' x.k x.t x.v,true⟩]) (.slice (some ⟨g3,0,none⟩) (X.length+1) O4) (w4.alloc (qZ ⟨bY s k t v x.k x.t x.v,false⟩))):=C3.out.go (hb4.trans ((below_alloc1 w4 _).mono hb4.size));have hl4:w1.heap.size<=w4.heap.size:=Nat.le_trans C3.out.low.size hb4.size;have N4:Hid (∀j u,(aQ ⟨bY s k t v x.k x.t x.v,false⟩)[j]? =some u->(w4.alloc (qZ ⟨bY s k t v x.k x.t x.v,false⟩)).cell? ((⟨w4.heap.size,0,none⟩:Addr).add j)=some u):=World.news_of_block (heap_alloc_new w4 (qZ ⟨bY s k t v x.k x.t x.v,false⟩));clear hb4)
     | (refine wpList_append_lies _ rfl _ _ _ rfl w1.heap.size 95 i0 zC 10 72 underlying33 hi hz0 hz1 hz2 rfl (by omega) (.slice (some ⟨g3,0,none⟩) (X.length+1) O4) (X++[(⟨bn s' x.k x.t x.v,true⟩:Ch)]).length ((X++[(⟨bn s' x.k x.t x.v,true⟩:Ch)]).flatMap aQ) rfl C4.out.row ⟨w4.heap.size,0,none⟩ 1 1 (aQ ⟨bY s k t v x.k x.t x.v,false⟩) rfl rfl N4.out (gQ _) (by omega) (by unfold maxLen;omega) (by omega) (by simp;omega) _ rfl ?_;intro g5 cap5 w5 hown5 aK gI gJ;have C5:Hid (Cg w1 ((X++[⟨bn s' x.k x.t x.v,true⟩])++[⟨bY s k t v x.k x.t x.v,false⟩]) (.slice (some ⟨g5,0,none⟩) ((X++[(⟨bn s' x.k x.t x.v,true⟩:Ch)]).length+1) cap5) w5):=C4.out.step hown5 aK;clear hown5 aK gI gJ)
     | fail)
    go_roundg (M.length -(i+1))
    case measure=>have :=HG.out;omega
    case rel=>
     have h5:=C5.out;rw[List.append_assoc] at h5;exact⟨i+1,by omega,rfl,by first | rfl | (congr 1;omega) | go_num,by rw[htk.out,hcg.out];show Cg _ _ _ _;simpa using h5⟩
   ·have hcg:Hid (dU T s s' k t v x=[⟨bY s k t v x.k x.t x.v,false⟩]):=by
     show dU T s s' k t v x=[⟨bY s k t v x.k x.t x.v,false⟩];unfold dU;rw[if_neg hc];rfl
    have hnb:Hid (Below wr.heap.size wr (wr.alloc (.cells #[.int .i64 x.k,.int .i64 x.t,.int .i64 x.v,.int .i64 x.n] 130))):=below_alloc1 _ _
    by_cases hn:x.n=0
    ·have hT:T=false:=by
      cases hT:T
      ·rfl
      ·exact absurd ⟨hn,hT⟩ hc
     subst hT
     have hn2:(x.n==0)=true:=by simp[hn]
     clear hn hc
     go_wp2_with (first
      | (go_at_call 101;refine(HO.out _).mono ?_;rintro e w' ⟨rfl,rfl⟩)
      | (go_at_call 174;refine(HT.out _ ?_).mono ?_;(go_simp);rintro e w' ⟨rfl,rfl⟩)
      | (go_at_call 175;refine(HP _ _ _ _ _ _ _).mono ?_;rintro e w4 ⟨rfl,hb4⟩;have C4:Hid (Cg w1 X u9 (w4.alloc (qZ ⟨bY s k t v x.k x.t x.v,false⟩))):=(I.out.go hnb.out).go (hb4.trans ((below_alloc1 w4 _).mono hb4.size));have hl4:w1.heap.size<=w4.heap.size:=Nat.le_trans I.out.low.size (Nat.le_trans hnb.out.size hb4.size);have N4:Hid (∀j u,(aQ ⟨bY s k t v x.k x.t x.v,false⟩)[j]? =some u->(w4.alloc (qZ ⟨bY s k t v x.k x.t x.v,false⟩)).cell? ((⟨w4.heap.size,0,none⟩:Addr).add j)=some u):=World.news_of_block (heap_alloc_new w4 (qZ ⟨bY s k t v x.k x.t x.v,false⟩));clear hb4)
      | (refine wpList_append_lies _ rfl _ _ _ rfl w1.heap.size 95 i0 zC 10 72 underlying33 hi hz0 hz1 hz2 rfl (by omega) u9 X.length (X.flatMap aQ) rfl C4.out.row ⟨w4.heap.size,0,none⟩ 1 1 (aQ ⟨bY s k t v x.k x.t x.v,false⟩) rfl rfl N4.out (gQ _) (by omega) (by unfold maxLen;omega) (by omega) (by simp;omega) _ rfl ?_;intro g5 cap5 w5 hown5 aK gI gJ;have C5:Hid (Cg w1 (X++[⟨bY s k t v x.k x.t x.v,false⟩]) (.slice (some ⟨g5,0,none⟩) (X.length+1) cap5) w5):=C4.out.step hown5 aK;clear hown5 aK gI gJ)
      | fail)
     go_roundg (M.length -(i+1))
     case measure=>have :=HG.out;omega
     case rel=>exact⟨i+1,by omega,rfl,by first | rfl | (congr 1;omega) | go_num,by rw[htk.out,hcg.out];exact C5.out⟩
    ·have hn2:(x.n==0)=false:=by simp[hn]
     clear hn hc
     go_wp2_with (first
      | (go_at_call 101;refine(HO.out _).mono ?_;rintro e w' ⟨rfl,rfl⟩)
      | (go_at_call 174;refine(HT.out _ ?_).mono ?_;(go_simp);rintro e w' ⟨rfl,rfl⟩)
      | (go_at_call 175;refine(HP _ _ _ _ _ _ _).mono ?_;rintro e w4 ⟨rfl,hb4⟩;have C4:Hid (Cg w1 X u9 (w4.alloc (qZ ⟨bY s k t v x.k x.t x.v,false⟩))):=(I.out.go hnb.out).go (hb4.trans ((below_alloc1 w4 _).mono hb4.size));have hl4:w1.heap.size<=w4.heap.size:=Nat.le_trans I.out.low.size (Nat.le_trans hnb.out.size hb4.size);have N4:Hid (∀j u,(aQ ⟨bY s k t v x.k x.t x.v,false⟩)[j]? =some u->(w4.alloc (qZ ⟨bY s k t v x.k x.t x.v,false⟩)).cell? ((⟨w4.heap.size,0,none⟩:Addr).add j)=some u):=World.news_of_block (heap_alloc_new w4 (qZ ⟨bY s k t v x.k x.t x.v,false⟩));clear hb4)
      | (refine wpList_append_lies _ rfl _ _ _ rfl w1.heap.size 95 i0 zC 10 72 underlying33 hi hz0 hz1 hz2 rfl (by omega) u9 X.length (X.flatMap aQ) rfl C4.out.row ⟨w4.heap.size,0,none⟩ 1 1 (aQ ⟨bY s k t v x.k x.t x.v,false⟩) rfl rfl N4.out (gQ _) (by omega) (by unfold maxLen;omega) (by omega) (by simp;omega) _ rfl ?_;intro g5 cap5 w5 hown5 aK gI gJ;have C5:Hid (Cg w1 (X++[⟨bY s k t v x.k x.t x.v,false⟩]) (.slice (some ⟨g5,0,none⟩) (X.length+1) cap5) w5):=C4.out.step hown5 aK;clear hown5 aK gI gJ)
      | fail)
     go_roundg (M.length -(i+1))
     case measure=>have :=HG.out;omega
     case rel=>exact⟨i+1,by omega,rfl,by first | rfl | (congr 1;omega) | go_num,by rw[htk.out,hcg.out];exact C5.out⟩
  ·have j2:¬((i:Int) < (M.length:Int)):=by omega
   go_wp2;go_ret;have e1:M.take i=M:=List.take_of_length_le (by omega);have hI:=I.out;rw[e1,<-HZ.out] at hI;exact⟨u9,rfl,ownsRow_le hI.row (Nat.le_of_lt W1.out.2.2),hBw.out⟩
end
section
open Go.Proofs.Tryz Go.Shelf
def bU (mode s:Int) (k t v:Int) (M:List D):List Ch:=if M=[] then(if bf mode s=true then[⟨bn s k t v,false⟩] else[]) else M.flatMap (dU (bf mode (1 -s)) s (1 -s) k t v)
theorem CF (b c:Nat) (oa:Option Addr) (mode s:Int) (k t v:Int) (w:World)
  (ht:∀W,W.cell? ⟨b,2,none⟩=some (.int .i64 mode)->Calls prog 174 #[.pointer (some ⟨b,0,none⟩),.int .i64 s] W fun e w'=>e= .returned (.bool true)∧w'=W)
  (hl:∀k t v W,Calls prog 167 #[.int .i64 s,.agg #[.int .i64 k,.int .i64 t,.int .i64 v]] W fun e w'=>e= .returned (vO (bn s k t v))∧Below W.heap.size W w')
  (h:w.cell? ⟨b,2,none⟩=some (.int .i64 mode)) (hb:b < w.heap.size):
  Calls prog 105 #[.pointer (some ⟨b,0,none⟩),.int .i64 s,.agg #[.int .i64 k,.int .i64 t,.int .i64 v],.slice oa 0 c] w fun e w'=>∃v9,e= .returned v9∧w'.ownsRow w.heap.size 95 10 v9 1 (aQ ⟨bn s k t v,false⟩)∧Below w.heap.size w w':=by
 simp only[vO] at hl;have HT:=hid ht;clear ht;go_enter func105,ntmps105
 go_wp2_with (first
  | (go_at_call 174;refine(HT.out _ ?_).mono ?_;(go_simp);rintro e w' ⟨rfl,rfl⟩)
  | (go_at_call 167;refine(hl _ _ _ _).mono ?_;rintro e w2 ⟨rfl,hb2⟩;have B2:Hid (Below w.heap.size w w2):=(below_alloc1 w _).trans (hb2.mono (by simp));clear hb2)
  | fail)
 go_ret;refine⟨_,rfl,⟨rfl,.inr ⟨w2.heap.size,1,_,rfl,B2.out.size,heap_alloc_new _ _,Nat.le_refl _,by unfold maxLen;omega,rfl,rfl⟩⟩,B2.out.trans ((below_alloc1 w2 _).mono B2.out.size)⟩
theorem zN (b c:Nat) (oa:Option Addr) (mode s:Int) (k t v:Int) (w:World)
  (ht:∀W,W.cell? ⟨b,2,none⟩=some (.int .i64 mode)->Calls prog 174 #[.pointer (some ⟨b,0,none⟩),.int .i64 s] W fun e w'=>e= .returned (.bool false)∧w'=W)
  (h:w.cell? ⟨b,2,none⟩=some (.int .i64 mode)) (hb:b < w.heap.size):
  Calls prog 105 #[.pointer (some ⟨b,0,none⟩),.int .i64 s,.agg #[.int .i64 k,.int .i64 t,.int .i64 v],.slice oa 0 c] w fun e w'=>∃v9,e= .returned v9∧w'.ownsRow w.heap.size 95 10 v9 0 []∧Below w.heap.size w w':=by
 have HT:=hid ht;clear ht;go_enter func105,ntmps105
 go_wp2_with (first
  | (go_at_call 174;refine(HT.out _ ?_).mono ?_;(go_simp);rintro e w' ⟨rfl,rfl⟩)
  | fail)
 refine wp_loop_rounds 1 ?_;rw[rounds_succ];go_wp2;go_ret;exact⟨_,rfl,World.ownsRow_nil _ _ _ _,below_alloc1 _ _⟩
theorem vJ (base b:Nat) (vm:Value) (mode s:Int) (k t v:Int) (M:List D) (w:World) (hs:s=0∨s=1)
  (h:w.cell? ⟨b,2,none⟩=some (.int .i64 mode)) (hb:b < w.heap.size) (hM:w.ownsRow base 130 4 vm M.length (M.flatMap ak)) (hlen:M.length<=100000):
  Calls prog 105 #[.pointer (some ⟨b,0,none⟩),.int .i64 s,.agg #[.int .i64 k,.int .i64 t,.int .i64 v],vm] w fun e w'=>∃v9,e= .returned v9∧w'.ownsRow w.heap.size 95 10 v9 (bU mode s k t v M).length ((bU mode s k t v M).flatMap aQ)∧Below w.heap.size w w':=by
 by_cases h0:M=[]
 ·subst h0;obtain⟨oa,c,rfl⟩:=jq hM;cases hT:bf mode s
  ·have e1:bU mode s k t v []=[]:=by simp[bU,hT]
   rw[e1];exact zN b c oa mode s k t v w (fun W hW=>by have :=pI b mode s W hW hs;rwa [hT] at this) h hb
  ·have e1:bU mode s k t v []=[⟨bn s k t v,false⟩]:=by simp[bU,hT]
   rw[e1];refine CF b c oa mode s k t v w (fun W hW=>by have :=pI b mode s W hW hs;rwa [hT] at this) ?_ h hb;intro k t v W
   rcases hs with rfl | rfl
   ·exact um k t v W
   ·exact qH k t v W
 ·have hp:0 < M.length:=List.length_pos_iff.2 h0;obtain⟨gs,ck,rfl⟩:=ownsRow_form hM hp
  have e1:bU mode s k t v M=M.flatMap (dU (bf mode (1 -s)) s (1 -s) k t v):=by simp[bU,h0]
  rw[e1]
  rcases hs with rfl | rfl
  ·exact rU base b gs ck mode 0 1 (bf mode 1) k t v M w ig (fun W hW=>pI b mode 1 W hW (Or.inr rfl)) (fun k t v W=>qH k t v W) (fun k t v k2 t2 v2 W=>Ic k t v k2 t2 v2 W) h hb hM hp hlen
  ·exact rU base b gs ck mode 1 0 (bf mode 0) k t v M w jm (fun W hW=>pI b mode 0 W hW (Or.inl rfl)) (fun k t v W=>um k t v W) (fun k t v k2 t2 v2 W=>EE k t v k2 t2 v2 W) h hb hM hp hlen
end
section
open Go.Shelf
variable {S S':Nat->Prop} {b base n bm:Nat} {w w':World} {om:Option Nat} {v v0 v1 v':Value} {xs:List Value} {R':List D}
structure J where
 lo:Int
 hi:Int
 mode:Int
 m0:Int
 m1:Int
 late:Int
 R0:List D
 R1:List D
structure Turned (S:Nat->Prop) (w w':World):Prop where
 os:w'.os=w.os
 tape:w'.tape=w.tape
 output:w'.output=w.output
 size:w.heap.size<=w'.heap.size
 block:∀k,k < w.heap.size->¬S k->w'.heap[k]? =w.heap[k]?
theorem Turned.trans {a b c:World} (h:Turned S a b) (h2:Turned S' b c) (hS:∀k,k < a.heap.size->S' k->S k):Turned S a c:=
 ⟨h2.os.trans h.os,h2.tape.trans h.tape,h2.output.trans h.output,Nat.le_trans h.size h2.size,fun k hk hn=>(h2.block k (Nat.lt_of_lt_of_le hk h.size) (fun e=>hn (hS k hk e))).trans (h.block k hk hn)⟩
theorem Turned.of_below (h:Below w.heap.size w w'):Turned S w w':=⟨h.os,h.tape,h.output,h.size,fun k hk _=>h.block k hk⟩
theorem Turned.of_grown (h:w.grownBy w' om) (hS:∀k,om=some k->S k):Turned S w w':=⟨h.os,h.tape,h.output,h.size,fun k hk hn=>h.block k hk (fun e=>hn (hS k e.symm))⟩
theorem Turned.of_keep {o:Nat} {u:Value} (h:l8 b o u om w w') (hb:S b) (hS:∀k,om=some k->S k):Turned S w w':=
 ⟨h.os,h.tape,h.output,h.size,fun k hk hn=>h.block k hk (fun e=>hn (by rw[e];exact hb)) (fun e=>hn (hS k e))⟩
theorem Turned.mono (h:Turned S w w') (hS:∀k,S k->S' k):Turned S' w w':=⟨h.os,h.tape,h.output,h.size,fun k hk hn=>h.block k hk (fun e=>hn (hS k e))⟩
theorem Turned.below {B:Nat} (h:Turned S w w') (hB:B<=w.heap.size) (hS:∀k,S k->B<=k):Below B w w':=
 ⟨h.os,h.tape,h.output,h.size,fun k hk=>h.block k (by omega) (fun e=>by have :=hS k e;omega)⟩
def dF (w:World) (v v':Value):Prop:=v'.ownBlock=v.ownBlock∨∃g,v'.ownBlock=some g∧w.heap.size<=g
structure ai (w:World) (base b bm:Nat) (v0 v1:Value) (x:J):Prop where
 blk:w.heap[b]? =some (.cells #[.int .i64 x.lo,.int .i64 x.hi,.int .i64 x.mode,.pointer (some ⟨bm,0,none⟩),v0,v1,.int .i64 x.late] 186)
 mks:w.heap[bm]? =some (.cells #[.int .i64 x.m0,.int .i64 x.m1] 250)
 r0:w.ownsRow base 130 4 v0 x.R0.length (x.R0.flatMap ak)
 r1:w.ownsRow base 130 4 v1 x.R1.length (x.R1.flatMap ak)
 apart:∀g,v0.ownBlock=some g->v1.ownBlock≠some g
theorem own_ne {T:Nat} {cs:Array Value} (h:w.ownsRow base 130 4 v n xs) (hb:w.heap[b]? =some (.cells cs T)) (hT:T≠130):v.ownBlock≠some b:=by
 rcases h.2 with⟨rfl,_⟩ | ⟨g,cap,cur,rfl,_,hg,_⟩
 ·simp[Value.ownBlock]
 ·intro e;simp[Value.ownBlock] at e;subst e;rw[hb] at hg;cases hg;exact hT rfl
theorem ai.lt {x:J} (h:ai w base b bm v0 v1 x):b < w.heap.size:=(Array.getElem?_eq_some_iff.1 h.blk).1
theorem ai.ltm {x:J} (h:ai w base b bm v0 v1 x):bm < w.heap.size:=(Array.getElem?_eq_some_iff.1 h.mks).1
theorem ai.ne {x:J} (h:ai w base b bm v0 v1 x):bm≠b:=fun e=>by
 have h1:=h.mks;rw[e,h.blk] at h1;simp at h1
theorem ai.side0 {x:J} (h:ai w base b bm v0 v1 x):bB w base b 4 v0 x.R0:=⟨⟨_,_,h.blk,rfl⟩,h.r0,own_ne h.r0 h.blk (by omega)⟩
theorem ai.side1 {x:J} (h:ai w base b bm v0 v1 x):bB w base b 5 v1 x.R1:=⟨⟨_,_,h.blk,rfl⟩,h.r1,own_ne h.r1 h.blk (by omega)⟩
theorem ai.below {x:J} (h:ai w base b bm v0 v1 x) (hb:Below w.heap.size w w'):ai w' base b bm v0 v1 x:=
 ⟨(hb.block _ h.lt).trans h.blk,(hb.block _ h.ltm).trans h.mks,aL h.r0 hb,aL h.r1 hb,h.apart⟩
theorem ai.cells {x:J} (h:ai w base b bm v0 v1 x):
  w.cell? ⟨b,0,none⟩=some (.int .i64 x.lo)∧w.cell? ⟨b,1,none⟩=some (.int .i64 x.hi)∧w.cell? ⟨b,2,none⟩=some (.int .i64 x.mode)∧w.cell? ⟨b,3,none⟩=some (.pointer (some ⟨bm,0,none⟩))∧w.cell? ⟨b,6,none⟩=some (.int .i64 x.late)∧w.frozen? ⟨b,6,none⟩=false:=by
 refine⟨?_,?_,?_,?_,?_,unfrozen_of_block h.blk 6⟩ <;>(rw[cell_of_block h.blk];rfl)
theorem ai.marks {x:J} (h:ai w base b bm v0 v1 x):w.cell? ⟨bm,0,none⟩=some (.int .i64 x.m0)∧w.cell? ⟨bm,1,none⟩=some (.int .i64 x.m1):=by
 refine⟨?_,?_⟩ <;>(rw[cell_of_block h.mks];rfl)
theorem ag {size:Nat} {e:TypeId} (h:w.ownsRow base e size v n xs) (hb:∀g,v.ownBlock=some g->w'.heap[g]? =w.heap[g]?):w'.ownsRow base e size v n xs:=by
 refine⟨h.1,?_⟩
 rcases h.2 with hn | ⟨g,cap,cur,rfl,hb2,hgg,rest⟩
 ·exact .inl hn
 ·exact .inr ⟨g,cap,cur,rfl,hb2,(hb g rfl).trans hgg,rest⟩
theorem ai.met1 {x:J} (h:ai w base b bm v0 v1 x) (hg:w.grownBy w' v1.ownBlock) (hS:bB w' base b 5 v1 R'):ai w' base b bm v0 v1 { x with R1:=R'}:=by
 have hb:w'.heap[b]? =w.heap[b]? :=hg.block b h.lt (fun e=>(own_ne h.r1 h.blk (by omega)) e.symm);have hm:w'.heap[bm]? =w.heap[bm]? :=hg.block bm h.ltm (fun e=>(own_ne h.r1 h.mks (by omega)) e.symm);have hr:w'.ownsRow base 130 4 v0 x.R0.length (x.R0.flatMap ak):=ag h.r0 (fun g e=>hg.block g (h.r0.lt g e).2 (fun e2=>h.apart g e e2.symm));exact⟨hb.trans h.blk,hm.trans h.mks,hr,hS.row,h.apart⟩
theorem ai.put0 {x:J} (h:ai w base b bm v0 v1 x) (hS:bB w' base b 4 v' R') (hk:l8 b 4 v' v0.ownBlock w w') (hf:dF w v0 v'):ai w' base b bm v' v1 { x with R0:=R'}:=by
 have hb:w'.heap[b]? =some (.cells #[.int .i64 x.lo,.int .i64 x.hi,.int .i64 x.mode,.pointer (some ⟨bm,0,none⟩),v',v1,.int .i64 x.late] 186):=hk.this.trans (block_setCell h.blk v');have hm:w'.heap[bm]? =w.heap[bm]? :=hk.block bm h.ltm h.ne (own_ne h.r0 h.mks (by omega))
 have hne:∀g,v1.ownBlock=some g->v0.ownBlock≠some g:=fun g e e2=>h.apart g e2 e
 have hr:w'.ownsRow base 130 4 v1 x.R1.length (x.R1.flatMap ak):=ag h.r1 (fun g e=>hk.block g (h.r1.lt g e).2 (fun e2=>own_ne h.r1 h.blk (by omega) (by rw[<-e2];exact e)) (hne g e));refine⟨hb,hm.trans h.mks,hS.row,hr,?_⟩;intro g e1 e2
 rcases hf with hf | ⟨g',hf,hl⟩
 ·rw[hf] at e1;exact h.apart g e1 e2
 ·rw[hf] at e1;cases e1;have :=(h.r1.lt _ e2).2;omega
theorem ai.met0 {x:J} (h:ai w base b bm v0 v1 x) (hg:w.grownBy w' v0.ownBlock) (hS:bB w' base b 4 v0 R'):ai w' base b bm v0 v1 { x with R0:=R'}:=by
 have hb:w'.heap[b]? =w.heap[b]? :=hg.block b h.lt (fun e=>(own_ne h.r0 h.blk (by omega)) e.symm);have hm:w'.heap[bm]? =w.heap[bm]? :=hg.block bm h.ltm (fun e=>(own_ne h.r0 h.mks (by omega)) e.symm);have hr:w'.ownsRow base 130 4 v1 x.R1.length (x.R1.flatMap ak):=ag h.r1 (fun g e=>hg.block g (h.r1.lt g e).2 (fun e2=>h.apart g e2.symm e));exact⟨hb.trans h.blk,hm.trans h.mks,hS.row,hr,h.apart⟩
theorem ai.put1 {x:J} (h:ai w base b bm v0 v1 x) (hS:bB w' base b 5 v' R') (hk:l8 b 5 v' v1.ownBlock w w') (hf:dF w v1 v'):ai w' base b bm v0 v' { x with R1:=R'}:=by
 have hb:w'.heap[b]? =some (.cells #[.int .i64 x.lo,.int .i64 x.hi,.int .i64 x.mode,.pointer (some ⟨bm,0,none⟩),v0,v',.int .i64 x.late] 186):=hk.this.trans (block_setCell h.blk v');have hm:w'.heap[bm]? =w.heap[bm]? :=hk.block bm h.ltm h.ne (own_ne h.r1 h.mks (by omega))
 have hne:∀g,v0.ownBlock=some g->v1.ownBlock≠some g:=fun g e e2=>h.apart g e e2
 have hr:w'.ownsRow base 130 4 v0 x.R0.length (x.R0.flatMap ak):=ag h.r0 (fun g e=>hk.block g (h.r0.lt g e).2 (fun e2=>own_ne h.r0 h.blk (by omega) (by rw[<-e2];exact e)) (hne g e));refine⟨hb,hm.trans h.mks,hr,hS.row,?_⟩;intro g e1 e2
 rcases hf with hf | ⟨g',hf,hl⟩
 ·rw[hf] at e2;exact h.apart g e1 e2
 ·rw[hf] at e2;cases e2;have :=(h.r0.lt _ e1).2;omega
end
section
open Go.Proofs.Tryz Go.Shelf
variable {w W w':World} {base b bm:Nat} {v0 v1 u0 u1 v':Value} {x:J} {k t v:Int} {R':List D}
def J.fed0 (x:J) (k t v:Int):J:={ x with
 R1:=fo x.R1 (aV k (t+x.lo) x.R1) (bF k (t+x.lo) (t+x.hi) x.R1).length
 R0:=if x.m1 < t+x.hi then bT x.R0 (aV k (t+1) x.R0) ⟨k,t,v,((bF k (t+x.lo) (t+x.hi) x.R1).length:Int)⟩ else x.R0}
def J.fed1 (x:J) (k t v:Int):J:={ x with
 R0:=fo x.R0 (aV k (t+ -x.hi) x.R0) (bF k (t+ -x.hi) (t+ -x.lo) x.R0).length
 R1:=if x.m0 < t+ -x.lo then bT x.R1 (aV k (t+1) x.R1) ⟨k,t,v,((bF k (t+ -x.hi) (t+ -x.lo) x.R0).length:Int)⟩ else x.R1}
theorem wP (key fH av:Int) (R:List D):(bF key fH av R).length<=R.length:=
 Nat.le_trans (List.takeWhile_sublist _).length_le (by simp)
structure Fd (w:World) (base b bm:Nat) (v0 v1 u0 u1:Value) (x:J) (k t v:Int) (W:World):Prop where
 here:ai W base b bm u0 u1 x
 box:W.heap[w.heap.size]? =some (.cells #[.int .i64 k,.int .i64 t,.int .i64 v] 37)
 turned:Turned (fun j=>j=b∨v0.ownBlock=some j∨v1.ownBlock=some j) w W
 f0:dF w v0 u0
 f1:dF w v1 u1
theorem Fd.below {W':World} (h:Fd w base b bm v0 v1 u0 u1 x k t v W) (hb:Below W.heap.size W W'):Fd w base b bm v0 v1 u0 u1 x k t v W':=
 ⟨h.here.below hb,(hb.block _ (Array.getElem?_eq_some_iff.1 h.box).1).trans h.box,h.turned.trans (S':=fun _=>False) (Turned.of_below hb) (fun _ _ e=>e.elim),h.f0,h.f1⟩
theorem Fd.drew (h:Fd w base b bm v0 v1 u0 u1 x k t v W):Fd w base b bm v0 v1 u0 u1 x k t v W.drew:=h.below (Below.refl _ _).drew
theorem Fd.cells (h:Fd w base b bm v0 v1 u0 u1 x k t v W):W.cell? ⟨w.heap.size,0,none⟩=some (.int .i64 k)∧W.cell? ⟨w.heap.size,1,none⟩=some (.int .i64 t)∧W.cell? ⟨w.heap.size,2,none⟩=some (.int .i64 v):=iq h.box
theorem Fd.meet0 (h:Fd w base b bm v0 v1 v0 v1 x k t v W) (h0:ai w base b bm v0 v1 x) (hg:W.grownBy w' v1.ownBlock) (hS:bB w' base b 5 v1 R'):Fd w base b bm v0 v1 v0 v1 { x with R1:=R'} k t v w':=
 ⟨h.here.met1 hg hS,(hg.block _ (Array.getElem?_eq_some_iff.1 h.box).1 (fun e=>by have :=(h0.r1.lt _ e.symm).2;omega)).trans h.box,
  h.turned.trans (Turned.of_grown (S:=fun j=>v1.ownBlock=some j) hg (fun k e=>e)) (fun j _ e=>Or.inr (Or.inr e)),h.f0,h.f1⟩
theorem Fd.add0 (h:Fd w base b bm v0 v1 v0 v1 x k t v W) (hb:b < w.heap.size) (hr:∀g,v0.ownBlock=some g->g < w.heap.size) (hS:bB w' base b 4 v' R') (hk:l8 b 4 v' v0.ownBlock W w') (hf:dF W v0 v'):
  Fd w base b bm v0 v1 v' v1 { x with R0:=R'} k t v w':=
 ⟨h.here.put0 hS hk hf,(hk.block _ (Array.getElem?_eq_some_iff.1 h.box).1 (by omega) (fun e=>by have :=hr _ e;omega)).trans h.box,
  h.turned.trans (Turned.of_keep (S:=fun j=>j=b∨v0.ownBlock=some j) hk (Or.inl rfl) (fun k e=>Or.inr e)) (fun j _ e=>e.elim Or.inl (fun e=>Or.inr (Or.inl e))),hf.imp id (fun⟨g,h1,h2⟩=>⟨g,h1,Nat.le_trans h.turned.size h2⟩),h.f1⟩
theorem O5 (base b bm:Nat) (v0 v1:Value) (x:J) (k t v:Int) (w:World) (h:ai w base b bm v0 v1 x) (hbase:base<=w.heap.size) (hg:au k t v=true)
  (p1: -1048576<=x.lo) (p2:x.lo<=1048576) (p3: -1048576<=x.hi) (p4:x.hi<=1048576) (hs0:ay x.R0) (hs1:ay x.R1) (hL0:x.R0.length<=300) (hL1:x.R1.length<=300)
  (hN:∀y∈x.R1,-9223372036854775808<=y.n∧y.n<=9223372036854775807) (gN:¬t<=x.m0) (hroom:x.m1 < t+x.hi->x.R0.length < 300):
  Calls prog 45 #[.pointer (some ⟨b,0,none⟩),.int .i64 0,.agg #[.int .i64 k,.int .i64 t,.int .i64 v]] w fun e w'=>∃v9 v',e= .returned (.tuple #[v9,.nilIface])∧ai w' base b bm v' v1 (x.fed0 k t v)∧
   w'.ownsRow w.heap.size 95 10 v9 (bU x.mode 0 k t v (bF k (t+x.lo) (t+x.hi) x.R1)).length ((bU x.mode 0 k t v (bF k (t+x.lo) (t+x.hi) x.R1)).flatMap aQ)∧
   Turned (fun j=>j=b∨v0.ownBlock=some j∨v1.ownBlock=some j) w w'∧dF w v0 v':=by
 have hgo:=iN k t v (w.alloc (.cells #[.int .i64 k,.int .i64 t,.int .i64 v] 37));rw[hg] at hgo
 have g1: -1099511627776<=t∧t<=1099511627776:=by simp[au,iG] at hg;omega
 have e1:IntKind.i64.wrap (t+x.lo)=t+x.lo:=uk (by omega) (by omega);have e2:IntKind.i64.wrap (t+x.hi)=t+x.hi:=uk (by omega) (by omega);have HJ:=hid h;have hlt:=h.lt;have O6:=h.ltm;have hsd:bM 0=true:=rfl
 have Gj:Hid (∀W,W.cell? ⟨bm,0,none⟩=some (.int .i64 x.m0)->W.cell? ⟨bm,1,none⟩=some (.int .i64 x.m1)->Calls prog 97 #[.pointer (some ⟨bm,0,none⟩),.int .i64 0,.int .i64 t] W fun e w'=>e= .returned (.bool false)∧w'=W):=by
  intro W h1 h2;have :=gB bm x.m0 x.m1 0 t W h1 h2
  have e:decide (t<=kW x.m0 x.m1 0)=false:=by simp[kW];omega
  rwa [e] at this
 have SI:Hid (∀W,W.cell? ⟨bm,0,none⟩=some (.int .i64 x.m0)->W.cell? ⟨bm,1,none⟩=some (.int .i64 x.m1)->Calls prog 100 #[.pointer (some ⟨bm,0,none⟩),.int .i64 1] W fun e w'=>e= .returned (.int .i64 x.m1)∧w'=W):=by
  intro W h1 h2;have :=jl bm x.m0 x.m1 1 W h1 h2
  have e:kW x.m0 x.m1 1=x.m1:=by simp[kW]
  rwa [e] at this
 have SK:Hid (∀W,Fd w base b bm v0 v1 v0 v1 x k t v W->Calls prog 103 #[.pointer (some ⟨b,5,none⟩),.int .i64 k,.int .i64 (t+x.lo),.int .i64 (t+x.hi)] W fun e w'=>∃vm,e= .returned vm∧w'.ownsRow W.heap.size 130 4 vm (bF k (t+x.lo) (t+x.hi) x.R1).length ((bF k (t+x.lo) (t+x.hi) x.R1).flatMap ak)∧Fd w base b bm v0 v1 v0 v1 { x with R1:=fo x.R1 (aV k (t+x.lo) x.R1) (bF k (t+x.lo) (t+x.hi) x.R1).length} k t v w'):=by
  intro W hW;refine(AU base b 5 v1 x.R1 k (t+x.lo) (t+x.hi) W hW.here.side1 hs1 (by omega) hN).mono ?_;rintro e w' ⟨vm,rfl,h1,h2,h3⟩;exact⟨vm,rfl,h1,hW.meet0 h h3 h2⟩
 have XW:Hid (∀(W:World) (B:Nat) (u0 u1:Value) (xx:J) (vm:Value) (M:List D),Fd w base b bm v0 v1 u0 u1 xx k t v W->xx.mode=x.mode->W.ownsRow B 130 4 vm M.length (M.flatMap ak)->M.length<=300->Calls prog 105 #[.pointer (some ⟨b,0,none⟩),.int .i64 0,.agg #[.int .i64 k,.int .i64 t,.int .i64 v],vm] W fun e w'=>∃v9,e= .returned v9∧w'.ownsRow w.heap.size 95 10 v9 (bU x.mode 0 k t v M).length ((bU x.mode 0 k t v M).flatMap aQ)∧Fd w base b bm v0 v1 u0 u1 xx k t v w'):=by
  intro W B u0 u1 xx vm M hW hm hM hl;refine(vJ B b vm x.mode 0 k t v M W (by decide) (by rw[<-hm];exact hW.here.cells.2.2.1) hW.here.lt hM (by omega)).mono ?_;rintro e w' ⟨v9,rfl,h1,h2⟩;exact⟨v9,rfl,ownsRow_le h1 hW.turned.size,hW.below h2⟩
 have XX:Hid (∀(W:World) (B:Nat) (xx:J) (vm:Value) (M:List D),Fd w base b bm v0 v1 v0 v1 xx k t v W->xx.R0=x.R0->x.R0.length < 300->W.ownsRow B 130 4 vm M.length (M.flatMap ak)->w.heap.size<=B->Calls prog 104 #[.pointer (some ⟨b,4,none⟩),.agg #[.int .i64 k,.int .i64 t,.int .i64 v],.int .i64 (M.length:Nat)] W fun e w'=>e= .returned .nilIface∧w'.ownsRow B 130 4 vm M.length (M.flatMap ak)∧∃v',Fd w base b bm v0 v1 v' v1 { xx with R0:=bT x.R0 (aV k (t+1) x.R0) ⟨k,t,v,(M.length:Nat)⟩} k t v w'∧dF w v0 v'):=by
  intro W B xx vm M hW hx hl hM hB;refine(lD base b 4 v0 x.R0 k t v (M.length:Nat) W (by rw[<-hx];exact hW.here.side0) hs0 hl (Nat.le_trans hbase hW.turned.size) hg (by omega)).mono ?_;rintro e w' ⟨rfl,v',h1,h2,h3⟩;have hfr:dF W v0 v':=h3;have hF:=hW.add0 h.lt (fun g e=>(h.r0.lt g e).2) h1 h2 hfr;refine⟨rfl,ag hM (fun g e=>h2.block g (hM.lt g e).2 (fun e2=>own_ne hM hW.here.blk (by omega) (by rw[<-e2];exact e)) (fun e2=> ?_)),v',hF,hF.f0⟩;have a1:=(hM.lt g e).1;have a2:=(h.r0.lt g e2).2;omega
 have Vl:Hid (∀W,Fd w base b bm v0 v1 v0 v1 x k t v W->Calls prog 102 #[.pointer (some ⟨b,4,none⟩)] W fun e w'=>e= .returned (.int .i64 x.R0.length)∧w'=W):=fun W hW=>kg base b 4 v0 x.R0 W hW.here.side0
 have EF:(bF k (t+x.lo) (t+x.hi) x.R1).length<=300:=Nat.le_trans (wP _ _ _ _) hL1;have HX:Hid (x.fed0 k t v={ x with R1:=fo x.R1 (aV k (t+x.lo) x.R1) (bF k (t+x.lo) (t+x.hi) x.R1).length,R0:=if x.m1 < t+x.hi then bT x.R0 (aV k (t+1) x.R0) ⟨k,t,v,((bF k (t+x.lo) (t+x.hi) x.R1).length:Int)⟩ else x.R0}):=rfl;generalize bF k (t+x.lo) (t+x.hi) x.R1=M at *;generalize x.fed0 k t v=xf at *;clear h hs0 hs1 hN gN g1;go_enter func45,ntmps45
 go_wp2_with (first
  | (go_at_call 95;refine(bH _ _).mono ?_;rintro e w' ⟨rfl,rfl⟩;rw[hsd])
  | (go_at_call 96;refine hgo.mono ?_;rintro e w1 ⟨rfl,hb1⟩;have A1:Hid (fF w k t v w1):=(show fF w k t v w1 from⟨(below_alloc1 w _).trans (hb1.mono (by simp)),(hb1.block _ (by simp)).trans (heap_alloc_new _ _)⟩);clear hb1)
  | fail)
 clear hgo;have hc1:=(HJ.out.below A1.out.low).cells;have hm1:=(HJ.out.below A1.out.low).marks;have hx1:=A1.out.cells
 go_region_held3 (fun W=>W.cell? ⟨b,3,none⟩=some (.pointer (some ⟨bm,0,none⟩))∧W.cell? ⟨w.heap.size,1,none⟩=some (.int .i64 t)∧W.cell? ⟨bm,0,none⟩=some (.int .i64 x.m0)∧W.cell? ⟨bm,1,none⟩=some (.int .i64 x.m1)) (first | (go_keep;done) | fail) (first
  | (go_at_call 97;refine(Gj.out _ ?_ ?_).mono ?_;(go_simp);(go_simp);rintro e w' ⟨rfl,rfl⟩)
  | fail)
 go_wp2_with (first
  | (go_at_call 99;refine(qG b x.lo x.hi _ (by go_simp) (by go_simp)).mono ?_;rintro e w' ⟨rfl,rfl⟩)
  | fail)
 have F3:Hid (Fd w base b bm v0 v1 v0 v1 x k t v w1.drew.drew):=(show Fd w base b bm v0 v1 v0 v1 x k t v w1.drew.drew from(Fd.drew (Fd.drew ⟨HJ.out.below A1.out.low,A1.out.box,Turned.of_below A1.out.low,Or.inl rfl,Or.inl rfl⟩)));clear hc1 hm1 hx1 A1 Gj;revert F3;generalize w1.drew.drew=w2;intro F3;have hc2:=F3.out.here.cells;have hm2:=F3.out.here.marks;have hx2:=F3.out.cells
 go_region_held3 (fun W=>W.cell? ⟨b,3,none⟩=some (.pointer (some ⟨bm,0,none⟩))∧W.cell? ⟨w.heap.size,1,none⟩=some (.int .i64 t)∧W.cell? ⟨bm,0,none⟩=some (.int .i64 x.m0)∧W.cell? ⟨bm,1,none⟩=some (.int .i64 x.m1)) (first | (go_keep;done) | fail) (first
  | (go_at_call 101;refine(ig _).mono ?_;rintro e w' ⟨rfl,rfl⟩)
  | (go_at_call 100;refine(SI.out _ ?_ ?_).mono ?_;(go_simp);(go_simp);rintro e w' ⟨rfl,rfl⟩)
  | fail)
 have F4:Hid (Fd w base b bm v0 v1 v0 v1 x k t v w2.drew∧Fd w base b bm v0 v1 v0 v1 x k t v w2.drew.drew):=⟨F3.out.drew,F3.out.drew.drew⟩;clear hc2 hm2 hx2 F3 SI
 by_cases hh:x.m1 < t+x.hi
 ·have hlen:=hroom hh
  have i1:¬(300:Int)<=(x.R0.length:Int):=by omega
  have hx3:=F4.out.2.cells
  go_wp2_with (first
   | (go_at_call 102;refine(Vl.out _ F4.out.1).mono ?_;rintro e w' ⟨rfl,rfl⟩)
   | fail)
  go_region_held3 (fun W=>W.cell? ⟨w.heap.size,0,none⟩=some (.int .i64 k)∧W.cell? ⟨w.heap.size,1,none⟩=some (.int .i64 t)) (first | (go_keep;done) | fail) (first
   | (go_at_call 101;refine(ig _).mono ?_;rintro e w' ⟨rfl,rfl⟩)
   | (go_at_call 103;refine(SK.out _ F4.out.2).mono ?_;rintro e w4 ⟨vm,rfl,Ie,h4⟩;have hx4:=h4.cells;have F5:=hid h4;have M4:Hid (w4.ownsRow w.heap.size 130 4 vm M.length (M.flatMap ak)):=ownsRow_le Ie F4.out.2.turned.size;obtain⟨Vm,cm,Vn⟩:=jq Ie;subst Vn;clear Ie h4)
   | fail)
  clear hx3 F4 SK;have F6:Hid (Fd w base b bm v0 v1 v0 v1 { x with R1:=fo x.R1 (aV k (t+x.lo) x.R1) M.length} k t v w4.drew∧w4.drew.ownsRow w.heap.size 130 4 (.slice Vm M.length cm) M.length (M.flatMap ak)):=⟨F5.out.drew,aL M4.out (Below.refl _ _).drew⟩
  have i3:(M.length:Int)<=300:=by omega
  go_wp2
  go_region_held3 (fun W=>W.cell? ⟨w.heap.size,0,none⟩=some (.int .i64 k)∧W.cell? ⟨w.heap.size,1,none⟩=some (.int .i64 t)∧W.cell? ⟨w.heap.size,2,none⟩=some (.int .i64 v)) (first | (go_keep;done) | fail) (first
   | (go_at_call 104;refine(XX.out _ _ _ _ M F6.out.1 rfl hlen F6.out.2 (Nat.le_refl _)).mono ?_;rintro e w5 ⟨rfl,XY,v',h5,O7⟩;have hx5:=h5.cells;have F7:Hid (Fd w base b bm v0 v1 v' v1 { x with R1:=fo x.R1 (aV k (t+x.lo) x.R1) M.length,R0:=bT x.R0 (aV k (t+1) x.R0) ⟨k,t,v,(M.length:Nat)⟩} k t v w5∧w5.ownsRow w.heap.size 130 4 (.slice Vm M.length cm) M.length (M.flatMap ak)∧dF w v0 v'):=⟨h5,XY,O7⟩;clear h5 XY O7)
   | fail)
  clear hx4 F5 F6 XX
  go_wp2_with (first
   | (go_at_call 105;refine(XW.out _ _ _ _ _ _ M F7.out.1 rfl F7.out.2.1 EF).mono ?_;rintro e w6 ⟨v9,rfl,h6,h7⟩;have F8:Hid (w6.ownsRow w.heap.size 95 10 v9 (bU x.mode 0 k t v M).length ((bU x.mode 0 k t v M).flatMap aQ)∧Fd w base b bm v0 v1 v' v1 { x with R1:=fo x.R1 (aV k (t+x.lo) x.R1) M.length,R0:=bT x.R0 (aV k (t+1) x.R0) ⟨k,t,v,(M.length:Nat)⟩} k t v w6):=⟨h6,h7⟩;clear h6 h7)
   | fail)
  refine bodyPost_ret (v:= .tuple #[v9,.nilIface]) (by simp[results,Tryz.results45,go_sem]) rfl ⟨v9,v',rfl,?_,F8.out.1,F8.out.2.turned,F7.out.2.2⟩;rw[HX.out,if_pos hh];exact F8.out.2.here
 ·have hx3:=F4.out.2.cells;go_wp2
  go_region_held3 (fun W=>W.cell? ⟨w.heap.size,0,none⟩=some (.int .i64 k)∧W.cell? ⟨w.heap.size,1,none⟩=some (.int .i64 t)) (first | (go_keep;done) | fail) (first
   | (go_at_call 101;refine(ig _).mono ?_;rintro e w' ⟨rfl,rfl⟩)
   | (go_at_call 103;refine(SK.out _ F4.out.2).mono ?_;rintro e w4 ⟨vm,rfl,Ie,h4⟩;have hx4:=h4.cells;have F5:=hid h4;have M4:Hid (w4.ownsRow w.heap.size 130 4 vm M.length (M.flatMap ak)):=ownsRow_le Ie F4.out.2.turned.size;obtain⟨Vm,cm,Vn⟩:=jq Ie;subst Vn;clear Ie h4)
   | fail)
  clear hx3 F4 SK
  go_wp2_with (first
   | (go_at_call 105;refine(XW.out _ _ _ _ _ _ M F5.out rfl M4.out EF).mono ?_;rintro e w6 ⟨v9,rfl,h6,h7⟩;have F8:Hid (w6.ownsRow w.heap.size 95 10 v9 (bU x.mode 0 k t v M).length ((bU x.mode 0 k t v M).flatMap aQ)∧Fd w base b bm v0 v1 v0 v1 { x with R1:=fo x.R1 (aV k (t+x.lo) x.R1) M.length} k t v w6):=⟨h6,h7⟩;clear h6 h7)
   | fail)
  refine bodyPost_ret (v:= .tuple #[v9,.nilIface]) (by simp[results,Tryz.results45,go_sem]) rfl ⟨v9,v0,rfl,?_,F8.out.1,F8.out.2.turned,Or.inl rfl⟩;rw[HX.out,if_neg (by omega)];exact F8.out.2.here
theorem Fd.meet1 (h:Fd w base b bm v0 v1 v0 v1 x k t v W) (h0:ai w base b bm v0 v1 x) (hg:W.grownBy w' v0.ownBlock) (hS:bB w' base b 4 v0 R'):Fd w base b bm v0 v1 v0 v1 { x with R0:=R'} k t v w':=
 ⟨h.here.met0 hg hS,(hg.block _ (Array.getElem?_eq_some_iff.1 h.box).1 (fun e=>by have :=(h0.r0.lt _ e.symm).2;omega)).trans h.box,
  h.turned.trans (Turned.of_grown (S:=fun j=>v0.ownBlock=some j) hg (fun k e=>e)) (fun j _ e=>Or.inr (Or.inl e)),h.f0,h.f1⟩
theorem Fd.add1 (h:Fd w base b bm v0 v1 v0 v1 x k t v W) (hb:b < w.heap.size) (hr:∀g,v1.ownBlock=some g->g < w.heap.size) (hS:bB w' base b 5 v' R') (hk:l8 b 5 v' v1.ownBlock W w') (hf:dF W v1 v'):
  Fd w base b bm v0 v1 v0 v' { x with R1:=R'} k t v w':=
 ⟨h.here.put1 hS hk hf,(hk.block _ (Array.getElem?_eq_some_iff.1 h.box).1 (by omega) (fun e=>by have :=hr _ e;omega)).trans h.box,
  h.turned.trans (Turned.of_keep (S:=fun j=>j=b∨v1.ownBlock=some j) hk (Or.inl rfl) (fun k e=>Or.inr e)) (fun j _ e=>e.elim Or.inl (fun e=>Or.inr (Or.inr e))),h.f0,hf.imp id (fun⟨g,h1,h2⟩=>⟨g,h1,Nat.le_trans h.turned.size h2⟩)⟩
theorem O8 (base b bm:Nat) (v0 v1:Value) (x:J) (k t v:Int) (w:World) (h:ai w base b bm v0 v1 x) (hbase:base<=w.heap.size) (hg:au k t v=true)
  (p1: -1048576<=x.lo) (p2:x.lo<=1048576) (p3: -1048576<=x.hi) (p4:x.hi<=1048576) (hs0:ay x.R0) (hs1:ay x.R1) (hL0:x.R0.length<=300) (hL1:x.R1.length<=300)
  (hN:∀y∈x.R0,-9223372036854775808<=y.n∧y.n<=9223372036854775807) (gN:¬t<=x.m1) (hroom:x.m0 < t+ -x.lo->x.R1.length < 300):
  Calls prog 45 #[.pointer (some ⟨b,0,none⟩),.int .i64 1,.agg #[.int .i64 k,.int .i64 t,.int .i64 v]] w fun e w'=>∃v9 v',e= .returned (.tuple #[v9,.nilIface])∧ai w' base b bm v0 v' (x.fed1 k t v)∧
   w'.ownsRow w.heap.size 95 10 v9 (bU x.mode 1 k t v (bF k (t+ -x.hi) (t+ -x.lo) x.R0)).length ((bU x.mode 1 k t v (bF k (t+ -x.hi) (t+ -x.lo) x.R0)).flatMap aQ)∧
   Turned (fun j=>j=b∨v0.ownBlock=some j∨v1.ownBlock=some j) w w'∧dF w v1 v':=by
 have hgo:=iN k t v (w.alloc (.cells #[.int .i64 k,.int .i64 t,.int .i64 v] 37));rw[hg] at hgo
 have g1: -1099511627776<=t∧t<=1099511627776:=by simp[au,iG] at hg;omega
 have e1:IntKind.i64.wrap (t+ -x.hi)=t+ -x.hi:=uk (by omega) (by omega);have e2:IntKind.i64.wrap (t+ -x.lo)=t+ -x.lo:=uk (by omega) (by omega);have HJ:=hid h;have hlt:=h.lt;have O6:=h.ltm;have hsd:bM 1=true:=rfl
 have Gj:Hid (∀W,W.cell? ⟨bm,0,none⟩=some (.int .i64 x.m0)->W.cell? ⟨bm,1,none⟩=some (.int .i64 x.m1)->Calls prog 97 #[.pointer (some ⟨bm,0,none⟩),.int .i64 1,.int .i64 t] W fun e w'=>e= .returned (.bool false)∧w'=W):=by
  intro W h1 h2;have :=gB bm x.m0 x.m1 1 t W h1 h2
  have e:decide (t<=kW x.m0 x.m1 1)=false:=by simp[kW];omega
  rwa [e] at this
 have SI:Hid (∀W,W.cell? ⟨bm,0,none⟩=some (.int .i64 x.m0)->W.cell? ⟨bm,1,none⟩=some (.int .i64 x.m1)->Calls prog 100 #[.pointer (some ⟨bm,0,none⟩),.int .i64 0] W fun e w'=>e= .returned (.int .i64 x.m0)∧w'=W):=by
  intro W h1 h2;have :=jl bm x.m0 x.m1 0 W h1 h2
  have e:kW x.m0 x.m1 0=x.m0:=by simp[kW]
  rwa [e] at this
 have SK:Hid (∀W,Fd w base b bm v0 v1 v0 v1 x k t v W->Calls prog 103 #[.pointer (some ⟨b,4,none⟩),.int .i64 k,.int .i64 (t+ -x.hi),.int .i64 (t+ -x.lo)] W fun e w'=>∃vm,e= .returned vm∧w'.ownsRow W.heap.size 130 4 vm (bF k (t+ -x.hi) (t+ -x.lo) x.R0).length ((bF k (t+ -x.hi) (t+ -x.lo) x.R0).flatMap ak)∧Fd w base b bm v0 v1 v0 v1 { x with R0:=fo x.R0 (aV k (t+ -x.hi) x.R0) (bF k (t+ -x.hi) (t+ -x.lo) x.R0).length} k t v w'):=by
  intro W hW;refine(AU base b 4 v0 x.R0 k (t+ -x.hi) (t+ -x.lo) W hW.here.side0 hs0 (by omega) hN).mono ?_;rintro e w' ⟨vm,rfl,h1,h2,h3⟩;exact⟨vm,rfl,h1,hW.meet1 h h3 h2⟩
 have XW:Hid (∀(W:World) (B:Nat) (u0 u1:Value) (xx:J) (vm:Value) (M:List D),Fd w base b bm v0 v1 u0 u1 xx k t v W->xx.mode=x.mode->W.ownsRow B 130 4 vm M.length (M.flatMap ak)->M.length<=300->Calls prog 105 #[.pointer (some ⟨b,0,none⟩),.int .i64 1,.agg #[.int .i64 k,.int .i64 t,.int .i64 v],vm] W fun e w'=>∃v9,e= .returned v9∧w'.ownsRow w.heap.size 95 10 v9 (bU x.mode 1 k t v M).length ((bU x.mode 1 k t v M).flatMap aQ)∧Fd w base b bm v0 v1 u0 u1 xx k t v w'):=by
  intro W B u0 u1 xx vm M hW hm hM hl;refine(vJ B b vm x.mode 1 k t v M W (by decide) (by rw[<-hm];exact hW.here.cells.2.2.1) hW.here.lt hM (by omega)).mono ?_;rintro e w' ⟨v9,rfl,h1,h2⟩;exact⟨v9,rfl,ownsRow_le h1 hW.turned.size,hW.below h2⟩
 have XX:Hid (∀(W:World) (B:Nat) (xx:J) (vm:Value) (M:List D),Fd w base b bm v0 v1 v0 v1 xx k t v W->xx.R1=x.R1->x.R1.length < 300->W.ownsRow B 130 4 vm M.length (M.flatMap ak)->w.heap.size<=B->Calls prog 104 #[.pointer (some ⟨b,5,none⟩),.agg #[.int .i64 k,.int .i64 t,.int .i64 v],.int .i64 (M.length:Nat)] W fun e w'=>e= .returned .nilIface∧w'.ownsRow B 130 4 vm M.length (M.flatMap ak)∧∃v',Fd w base b bm v0 v1 v0 v' { xx with R1:=bT x.R1 (aV k (t+1) x.R1) ⟨k,t,v,(M.length:Nat)⟩} k t v w'∧dF w v1 v'):=by
  intro W B xx vm M hW hx hl hM hB;refine(lD base b 5 v1 x.R1 k t v (M.length:Nat) W (by rw[<-hx];exact hW.here.side1) hs1 hl (Nat.le_trans hbase hW.turned.size) hg (by omega)).mono ?_;rintro e w' ⟨rfl,v',h1,h2,h3⟩;have hfr:dF W v1 v':=h3;have hF:=hW.add1 h.lt (fun g e=>(h.r1.lt g e).2) h1 h2 hfr;refine⟨rfl,ag hM (fun g e=>h2.block g (hM.lt g e).2 (fun e2=>own_ne hM hW.here.blk (by omega) (by rw[<-e2];exact e)) (fun e2=> ?_)),v',hF,hF.f1⟩;have a1:=(hM.lt g e).1;have a2:=(h.r1.lt g e2).2;omega
 have Vl:Hid (∀W,Fd w base b bm v0 v1 v0 v1 x k t v W->Calls prog 102 #[.pointer (some ⟨b,5,none⟩)] W fun e w'=>e= .returned (.int .i64 x.R1.length)∧w'=W):=fun W hW=>kg base b 5 v1 x.R1 W hW.here.side1
 have EF:(bF k (t+ -x.hi) (t+ -x.lo) x.R0).length<=300:=Nat.le_trans (wP _ _ _ _) hL0;have HX:Hid (x.fed1 k t v={ x with R0:=fo x.R0 (aV k (t+ -x.hi) x.R0) (bF k (t+ -x.hi) (t+ -x.lo) x.R0).length,R1:=if x.m0 < t+ -x.lo then bT x.R1 (aV k (t+1) x.R1) ⟨k,t,v,((bF k (t+ -x.hi) (t+ -x.lo) x.R0).length:Int)⟩ else x.R1}):=rfl;generalize bF k (t+ -x.hi) (t+ -x.lo) x.R0=M at *;generalize x.fed1 k t v=xf at *;clear h hs0 hs1 hN gN g1;go_enter func45,ntmps45
 go_wp2_with (first
  | (go_at_call 95;refine(bH _ _).mono ?_;rintro e w' ⟨rfl,rfl⟩;rw[hsd])
  | (go_at_call 96;refine hgo.mono ?_;rintro e w1 ⟨rfl,hb1⟩;have A1:Hid (fF w k t v w1):=(show fF w k t v w1 from⟨(below_alloc1 w _).trans (hb1.mono (by simp)),(hb1.block _ (by simp)).trans (heap_alloc_new _ _)⟩);clear hb1)
  | fail)
 clear hgo;have hc1:=(HJ.out.below A1.out.low).cells;have hm1:=(HJ.out.below A1.out.low).marks;have hx1:=A1.out.cells
 go_region_held3 (fun W=>W.cell? ⟨b,3,none⟩=some (.pointer (some ⟨bm,0,none⟩))∧W.cell? ⟨w.heap.size,1,none⟩=some (.int .i64 t)∧W.cell? ⟨bm,0,none⟩=some (.int .i64 x.m0)∧W.cell? ⟨bm,1,none⟩=some (.int .i64 x.m1)) (first | (go_keep;done) | fail) (first
  | (go_at_call 97;refine(Gj.out _ ?_ ?_).mono ?_;(go_simp);(go_simp);rintro e w' ⟨rfl,rfl⟩)
  | fail)
 go_wp2_with (first
  | (go_at_call 99;refine(oH b x.lo x.hi _ (by go_simp) (by go_simp) p1 p2 p3 p4).mono ?_;rintro e w' ⟨rfl,rfl⟩)
  | fail)
 have F3:Hid (Fd w base b bm v0 v1 v0 v1 x k t v w1.drew.drew):=(show Fd w base b bm v0 v1 v0 v1 x k t v w1.drew.drew from(Fd.drew (Fd.drew ⟨HJ.out.below A1.out.low,A1.out.box,Turned.of_below A1.out.low,Or.inl rfl,Or.inl rfl⟩)));clear hc1 hm1 hx1 A1 Gj;revert F3;generalize w1.drew.drew=w2;intro F3;have hc2:=F3.out.here.cells;have hm2:=F3.out.here.marks;have hx2:=F3.out.cells
 go_region_held3 (fun W=>W.cell? ⟨b,3,none⟩=some (.pointer (some ⟨bm,0,none⟩))∧W.cell? ⟨w.heap.size,1,none⟩=some (.int .i64 t)∧W.cell? ⟨bm,0,none⟩=some (.int .i64 x.m0)∧W.cell? ⟨bm,1,none⟩=some (.int .i64 x.m1)) (first | (go_keep;done) | fail) (first
  | (go_at_call 101;refine(jm _).mono ?_;rintro e w' ⟨rfl,rfl⟩)
  | (go_at_call 100;refine(SI.out _ ?_ ?_).mono ?_;(go_simp);(go_simp);rintro e w' ⟨rfl,rfl⟩)
  | fail)
 have F4:Hid (Fd w base b bm v0 v1 v0 v1 x k t v w2.drew∧Fd w base b bm v0 v1 v0 v1 x k t v w2.drew.drew):=⟨F3.out.drew,F3.out.drew.drew⟩;clear hc2 hm2 hx2 F3 SI
 by_cases hh:x.m0 < t+ -x.lo
 ·have hlen:=hroom hh
  have i1:¬(300:Int)<=(x.R1.length:Int):=by omega
  have hx3:=F4.out.2.cells
  go_wp2_with (first
   | (go_at_call 102;refine(Vl.out _ F4.out.1).mono ?_;rintro e w' ⟨rfl,rfl⟩)
   | fail)
  go_region_held3 (fun W=>W.cell? ⟨w.heap.size,0,none⟩=some (.int .i64 k)∧W.cell? ⟨w.heap.size,1,none⟩=some (.int .i64 t)) (first | (go_keep;done) | fail) (first
   | (go_at_call 101;refine(jm _).mono ?_;rintro e w' ⟨rfl,rfl⟩)
   | (go_at_call 103;refine(SK.out _ F4.out.2).mono ?_;rintro e w4 ⟨vm,rfl,Ie,h4⟩;have hx4:=h4.cells;have F5:=hid h4;have M4:Hid (w4.ownsRow w.heap.size 130 4 vm M.length (M.flatMap ak)):=ownsRow_le Ie F4.out.2.turned.size;obtain⟨Vm,cm,Vn⟩:=jq Ie;subst Vn;clear Ie h4)
   | fail)
  clear hx3 F4 SK;have F6:Hid (Fd w base b bm v0 v1 v0 v1 { x with R0:=fo x.R0 (aV k (t+ -x.hi) x.R0) M.length} k t v w4.drew∧w4.drew.ownsRow w.heap.size 130 4 (.slice Vm M.length cm) M.length (M.flatMap ak)):=⟨F5.out.drew,aL M4.out (Below.refl _ _).drew⟩
  have i3:(M.length:Int)<=300:=by omega
  go_wp2
  go_region_held3 (fun W=>W.cell? ⟨w.heap.size,0,none⟩=some (.int .i64 k)∧W.cell? ⟨w.heap.size,1,none⟩=some (.int .i64 t)∧W.cell? ⟨w.heap.size,2,none⟩=some (.int .i64 v)) (first | (go_keep;done) | fail) (first
   | (go_at_call 104;refine(XX.out _ _ _ _ M F6.out.1 rfl hlen F6.out.2 (Nat.le_refl _)).mono ?_;rintro e w5 ⟨rfl,XY,v',h5,O7⟩;have hx5:=h5.cells;have F7:Hid (Fd w base b bm v0 v1 v0 v' { x with R0:=fo x.R0 (aV k (t+ -x.hi) x.R0) M.length,R1:=bT x.R1 (aV k (t+1) x.R1) ⟨k,t,v,(M.length:Nat)⟩} k t v w5∧w5.ownsRow w.heap.size 130 4 (.slice Vm M.length cm) M.length (M.flatMap ak)∧dF w v1 v'):=⟨h5,XY,O7⟩;clear h5 XY O7)
   | fail)
  clear hx4 F5 F6 XX
  go_wp2_with (first
   | (go_at_call 105;refine(XW.out _ _ _ _ _ _ M F7.out.1 rfl F7.out.2.1 EF).mono ?_;rintro e w6 ⟨v9,rfl,h6,h7⟩;have F8:Hid (w6.ownsRow w.heap.size 95 10 v9 (bU x.mode 1 k t v M).length ((bU x.mode 1 k t v M).flatMap aQ)∧Fd w base b bm v0 v1 v0 v' { x with R0:=fo x.R0 (aV k (t+ -x.hi) x.R0) M.length,R1:=bT x.R1 (aV k (t+1) x.R1) ⟨k,t,v,(M.length:Nat)⟩} k t v w6):=⟨h6,h7⟩;clear h6 h7)
   | fail)
  refine bodyPost_ret (v:= .tuple #[v9,.nilIface]) (by simp[results,Tryz.results45,go_sem]) rfl ⟨v9,v',rfl,?_,F8.out.1,F8.out.2.turned,F7.out.2.2⟩;rw[HX.out,if_pos hh];exact F8.out.2.here
 ·have hx3:=F4.out.2.cells;go_wp2
  go_region_held3 (fun W=>W.cell? ⟨w.heap.size,0,none⟩=some (.int .i64 k)∧W.cell? ⟨w.heap.size,1,none⟩=some (.int .i64 t)) (first | (go_keep;done) | fail) (first
   | (go_at_call 101;refine(jm _).mono ?_;rintro e w' ⟨rfl,rfl⟩)
   | (go_at_call 103;refine(SK.out _ F4.out.2).mono ?_;rintro e w4 ⟨vm,rfl,Ie,h4⟩;have hx4:=h4.cells;have F5:=hid h4;have M4:Hid (w4.ownsRow w.heap.size 130 4 vm M.length (M.flatMap ak)):=ownsRow_le Ie F4.out.2.turned.size;obtain⟨Vm,cm,Vn⟩:=jq Ie;subst Vn;clear Ie h4)
   | fail)
  clear hx3 F4 SK
  go_wp2_with (first
   | (go_at_call 105;refine(XW.out _ _ _ _ _ _ M F5.out rfl M4.out EF).mono ?_;rintro e w6 ⟨v9,rfl,h6,h7⟩;have F8:Hid (w6.ownsRow w.heap.size 95 10 v9 (bU x.mode 1 k t v M).length ((bU x.mode 1 k t v M).flatMap aQ)∧Fd w base b bm v0 v1 v0 v1 { x with R0:=fo x.R0 (aV k (t+ -x.hi) x.R0) M.length} k t v w6):=⟨h6,h7⟩;clear h6 h7)
   | fail)
  refine bodyPost_ret (v:= .tuple #[v9,.nilIface]) (by simp[results,Tryz.results45,go_sem]) rfl ⟨v9,v1,rfl,?_,F8.out.1,F8.out.2.turned,Or.inl rfl⟩;rw[HX.out,if_neg (by omega)];exact F8.out.2.here
end
end Go.Proofs.YthfpipieboophaaGreatDoor
