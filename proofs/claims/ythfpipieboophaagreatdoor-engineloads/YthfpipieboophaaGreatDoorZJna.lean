import Derived.Test.YthfpipieboophaaGreatDoorZSidh
namespace Go.Proofs.YthfpipieboophaaGreatDoor
set_option maxRecDepth 100000
set_option maxHeartbeats 40000000
open Go.Joins Go.RowKit
section
open Go.Proofs.Tryz
def bM(s:Int):Bool:=s==0 || s==1
def kW(l r s:Int):Int:=if s=0 then l else if s=1 then r else -1099511627777
theorem dm(s:Int)(w:World):Calls prog 170 #[.int .i64 s] w λe a=>e=.returned (.bool (bM s))/\a=w:=by
 by_cases h0:s=0
 .subst h0;go_enter func170,ntmps170;go_wp2;go_ret;exact⟨aN (by simp[bM]),rfl⟩
 .by_cases h1:s=1
  .subst h1;go_enter func170,ntmps170;go_wp2;go_ret;exact⟨aN (by simp[bM]),rfl⟩
  .go_enter func170,ntmps170;go_wp2;go_ret;exact⟨aN (by simp_all [bM]),rfl⟩
theorem ED(w:World):Calls prog 110 #[] w λe a=>e=.returned (.pointer (some ⟨w.heap.size,0,none⟩))/\a=w.alloc (.cells #[.int .i64 (-1099511627777),.int .i64 (-1099511627777)] 250):=by
 go_enter func110,ntmps110;go_wp2;go_ret;exact⟨rfl,rfl⟩
theorem jl(b:Nat)(l r s:Int)(w:World)(hl:w.cell? ⟨b,0,none⟩=some (.int .i64 l))(hr:w.cell? ⟨b,1,none⟩=some (.int .i64 r)):
  Calls prog 100 #[.pointer (some ⟨b,0,none⟩),.int .i64 s] w λe a=>e=.returned (.int .i64 (kW l r s))/\a=w:=by
 by_cases h0:s=0
 .subst h0;go_enter func100,ntmps100
  go_wp2_with (go_at_call 170;refine(dm _ _).mono ?_;rintro e a ⟨rfl,rfl⟩;simp only[bM,beq_self_eq_true,Bool.true_or])
  go_ret;exact⟨gu (by simp[kW]),rfl⟩
 .by_cases h1:s=1
  .subst h1;go_enter func100,ntmps100
   go_wp2_with (go_at_call 170;refine(dm _ _).mono ?_;rintro e a ⟨rfl,rfl⟩;simp only[bM,beq_self_eq_true,Bool.or_true])
   go_ret;exact⟨gu (by simp[kW]),rfl⟩
  .have c:bM s=false:=by simp[bM,h0,h1]
   go_enter func100,ntmps100
   go_wp2_with (go_at_call 170;refine(dm _ _).mono ?_;rintro e a ⟨rfl,rfl⟩;rw[c])
   go_ret;exact⟨gu (by simp[kW,h0,h1]),rfl⟩
theorem gB(b:Nat)(l r s t:Int)(w:World)(c:w.cell? ⟨b,0,none⟩=some (.int .i64 l))(d:w.cell? ⟨b,1,none⟩=some (.int .i64 r)):
  Calls prog 97 #[.pointer (some ⟨b,0,none⟩),.int .i64 s,.int .i64 t] w λe a=>e=.returned (.bool (decide (t<=kW l r s)))/\a=w:=by
 go_enter func97,ntmps97
 go_wp2_with (go_at_call 100;refine(jl b l r s _ c d).mono ?_;rintro e a ⟨rfl,rfl⟩)
 go_ret;exact⟨rfl,rfl⟩
def SG(k:Int):Value:=if k=0 then .nilIface else .iface 24 (.int .i64 k)
def vk(l r s t:Int):Int:=if bM s=false then 1 else if t < -1099511627776∨1099511627776<t then 2 else if t<kW l r s then 10 else 0
def uh(l r s t:Int):Int:=if vk l r s t=0/\s=0 then t else l
def uj(l r s t:Int):Int:=if vk l r s t=0/\s=1 then t else r
structure Only(b:Nat)(w w':World):Prop where
 os:w'.os=w.os
 tape:w'.tape=w.tape
 output:w'.output=w.output
 size:w.heap.size=w'.heap.size
 block:∀k,k≠b->w'.heap[k]?=w.heap[k]?
theorem Only.refl(b:Nat)(w:World):Only b w w:=⟨rfl,rfl,rfl,rfl,λ_ _=>rfl⟩
theorem Only.setCell(b i:Nat)(w:World)(v:Value):Only b w (w.setCell ⟨b,i,none⟩ v):=
 ⟨rfl,rfl,rfl,by simp,λk a=>iJ w _ v k a⟩
theorem mQ(b:Nat)(l r s t:Int)(w:World)(g:w.heap[b]?=some (.cells #[.int .i64 l,.int .i64 r] 250)):
  Calls prog 111 #[.pointer (some ⟨b,0,none⟩),.int .i64 s,.int .i64 t] w λe f=>e=.returned (SG (vk l r s t))/\f.heap[b]?=some (.cells #[.int .i64 (uh l r s t),.int .i64 (uj l r s t)] 250)/\Only b w f:=by
 have hl:w.cell? ⟨b,0,none⟩=some (.int .i64 l):=by rw[fq g];rfl
 have hr:w.cell? ⟨b,1,none⟩=some (.int .i64 r):=by rw[fq g];rfl
 have hfl:w.frozen? ⟨b,0,none⟩=false:=fV g 0;have hfr:w.frozen? ⟨b,1,none⟩=false:=fV g 1;have j:=fZ (i:=0) g (.int .i64 t);have k:=fZ (i:=1) g (.int .i64 t);have h:=hid g;have m:Hid _:=j;have n:Hid _:=k;clear g j k;cases hs:bM s
 .have a:vk l r s t=1:=by simp[vk,hs]
  have c:Hid _:=a;clear a;go_enter func111,ntmps111
  go_wp2_with (go_at_call 170;refine(dm _ _).mono ?_;rintro e f ⟨rfl,rfl⟩;rw[hs])
  go_ret;refine⟨by rw[c.out];rfl,?_,Only.refl _ _⟩;unfold uh uj;rw[c.out];exact h.out
 .by_cases g1:t < -1099511627776
  .have a:vk l r s t=2:=by simp[vk,hs,g1]
   have c:Hid _:=a;clear a;go_enter func111,ntmps111
   go_wp2_with (go_at_call 170;refine(dm _ _).mono ?_;rintro e f ⟨rfl,rfl⟩;rw[hs])
   go_ret;refine⟨by rw[c.out];rfl,?_,Only.refl _ _⟩;unfold uh uj;rw[c.out];exact h.out
  .by_cases g2:1099511627776<t
   .have a:vk l r s t=2:=by simp[vk,hs,g2]
    have c:Hid _:=a;clear a;go_enter func111,ntmps111
    go_wp2_with (go_at_call 170;refine(dm _ _).mono ?_;rintro e f ⟨rfl,rfl⟩;rw[hs])
    go_ret;refine⟨by rw[c.out];rfl,?_,Only.refl _ _⟩;unfold uh uj;rw[c.out];exact h.out
   .have d:¬(t < -1099511627776∨1099511627776<t):=by omega
    rcases(show s=0∨s=1 by simpa[bM]using hs)with rfl|rfl
    .by_cases g3:t<l
     .have a:vk l r 0 t=10:=by unfold vk;rw[if_neg (by simp[hs]),if_neg d,if_pos (by simpa[kW]using g3)]
      have c:Hid _:=a;clear a d;go_enter func111,ntmps111
      go_wp2_with (go_at_call 170;refine(dm _ _).mono ?_;rintro e f ⟨rfl,rfl⟩;rw[hs])
      go_ret;refine⟨by rw[c.out];rfl,?_,Only.refl _ _⟩;unfold uh uj;rw[c.out];exact h.out
     .have a:vk l r 0 t=0:=by unfold vk;rw[if_neg (by simp[hs]),if_neg d,if_neg (by simpa[kW]using g3)]
      have c:Hid _:=a;clear a d;go_enter func111,ntmps111
      go_wp2_with (go_at_call 170;refine(dm _ _).mono ?_;rintro e f ⟨rfl,rfl⟩;rw[hs])
      go_ret;refine⟨by rw[c.out];rfl,?_,Only.setCell _ _ _ _⟩;unfold uh uj;rw[c.out];exact m.out
    .by_cases g3:t<r
     .have a:vk l r 1 t=10:=by unfold vk;rw[if_neg (by simp[hs]),if_neg d,if_pos (by simpa[kW]using g3)]
      have c:Hid _:=a;clear a d;go_enter func111,ntmps111
      go_wp2_with (go_at_call 170;refine(dm _ _).mono ?_;rintro e f ⟨rfl,rfl⟩;rw[hs])
      go_ret;refine⟨by rw[c.out];rfl,?_,Only.refl _ _⟩;unfold uh uj;rw[c.out];exact h.out
     .have a:vk l r 1 t=0:=by unfold vk;rw[if_neg (by simp[hs]),if_neg d,if_neg (by simpa[kW]using g3)]
      have c:Hid _:=a;clear a d;go_enter func111,ntmps111
      go_wp2_with (go_at_call 170;refine(dm _ _).mono ?_;rintro e f ⟨rfl,rfl⟩;rw[hs])
      go_ret;refine⟨by rw[c.out];rfl,?_,Only.setCell _ _ _ _⟩;unfold uh uj;rw[c.out];exact n.out
end
section
open Go.Proofs.Tryz Go.Shelf
structure Ch where
 x:O
 g:Bool
 deriving DecidableEq,Inhabited
def aQ(c:Ch):List Value:=[.int .i64 c.x.k,.int .i64 c.x.lk,.int .i64 c.x.lt,.int .i64 c.x.lv,.int .i64 c.x.rk,.int .i64 c.x.rt,.int .i64 c.x.rv,.bool c.x.hl,.bool c.x.hr,.bool c.g]
def zC:Value:= .agg #[.int .i64 0,.int .i64 0,.int .i64 0,.int .i64 0,.int .i64 0,.int .i64 0,.int .i64 0,.bool false,.bool false,.bool false]
theorem kC(c:Ch):(aQ c).length=10:=rfl
theorem gQ(c:Ch):∀u∈aQ c,u.oneCell'=true:=by
 intro u a;simp[aQ]at a;rcases a with rfl|rfl|rfl|rfl|rfl|rfl|rfl|rfl|rfl|rfl <;>rfl
theorem Ib:(prog.info? 95).map (λi=>(i.zero,i.size,i.bytes))=some (some zC,10,72):=by kernel_rfl
def bn(s:Int)(k t v:Int):O:=if s=0 then⟨k,k,t,v,0,0,0,true,false⟩else⟨k,0,0,0,k,t,v,false,true⟩
def bY(s:Int)(k t v k2 t2 v2:Int):O:=if s=0 then⟨k,k,t,v,k2,t2,v2,true,true⟩else⟨k2,k2,t2,v2,k,t,v,true,true⟩
def bf(mode s:Int):Bool:=if s=0 then mode==1 || mode==3 else mode==2 || mode==3
theorem bH(s:Int)(w:World):Calls prog 95 #[.int .i64 s] w λe a=>e=.returned (.bool (bM s))/\a=w:=by
 by_cases h0:s=0
 .subst h0;go_enter func95,ntmps95;go_wp2;go_ret;exact⟨aN (by simp[bM]),rfl⟩
 .by_cases h1:s=1
  .subst h1;go_enter func95,ntmps95;go_wp2;go_ret;exact⟨aN (by simp[bM]),rfl⟩
  .go_enter func95,ntmps95;go_wp2;go_ret;exact⟨aN (by simp_all [bM]),rfl⟩
theorem ig(w:World):Calls prog 101 #[.int .i64 0] w λe a=>e=.returned (.int .i64 1)/\a=w:=by
 go_enter func101,ntmps101;go_wp2;go_ret;exact⟨rfl,rfl⟩
theorem jm(w:World):Calls prog 101 #[.int .i64 1] w λe a=>e=.returned (.int .i64 0)/\a=w:=by
 go_enter func101,ntmps101;go_wp2;go_ret;exact⟨rfl,rfl⟩
theorem rT(n:Int)(w:World)(h1: -9223372036854775808<=n)(h2:n<=9223372036854775807):Calls prog 98 #[.int .i64 n] w λe b=>e=.returned (.int .i64 (bR n))/\b=w:=by
 by_cases e:n=9223372036854775807
 .subst e;go_enter func98,ntmps98;go_wp2;go_ret;exact⟨rfl,rfl⟩
 .have a:bR n=n+1:=by simp[bR,e]
  have he:(n==9223372036854775807)=false:=by simp[e]
  have h3:n<9223372036854775807:=by omega
  rw[a];clear a;go_enter func98,ntmps98;go_wp2;go_ret;exact⟨rfl,rfl⟩
theorem qG(b:Nat)(lo hi:Int)(w:World)(h1:w.cell? ⟨b,0,none⟩=some (.int .i64 lo))(h2:w.cell? ⟨b,1,none⟩=some (.int .i64 hi)):
  Calls prog 99 #[.pointer (some ⟨b,0,none⟩),.int .i64 0] w λe a=>e=.returned (.tuple #[.int .i64 lo,.int .i64 hi])/\a=w.drew:=by
 go_enter func99,ntmps99;go_wp2
 go_region
 go_wp2;exact ja (v:= .tuple #[.int .i64 lo,.int .i64 hi]) (by simp[results,Tryz.results99,go_sem]) rfl ⟨rfl,rfl⟩
theorem oH(b:Nat)(lo hi:Int)(w:World)(h1:w.cell? ⟨b,0,none⟩=some (.int .i64 lo))(h2:w.cell? ⟨b,1,none⟩=some (.int .i64 hi))(g1: -1048576<=lo)(g2:lo<=1048576)(g3: -1048576<=hi)(g4:hi<=1048576):
  Calls prog 99 #[.pointer (some ⟨b,0,none⟩),.int .i64 1] w λe a=>e=.returned (.tuple #[.int .i64 (-hi),.int .i64 (-lo)])/\a=w.drew:=by
 have e1:IntKind.i64.wrap (-hi)= -hi:=uk (by omega) (by omega);have e2:IntKind.i64.wrap (-lo)= -lo:=uk (by omega) (by omega);go_enter func99,ntmps99;go_wp2
 go_region
 go_wp2;exact ja (v:= .tuple #[.int .i64 (-hi),.int .i64 (-lo)]) (by simp[results,Tryz.results99,go_sem]) rfl ⟨rfl,rfl⟩
theorem pI(b:Nat)(mode s:Int)(w:World)(h:w.cell? ⟨b,2,none⟩=some (.int .i64 mode))(a:s=0∨s=1):
  Calls prog 174 #[.pointer (some ⟨b,0,none⟩),.int .i64 s] w λe c=>e=.returned (.bool (bf mode s))/\c=w:=by
 rcases a with rfl|rfl
 .cases hm:(mode==1)
  .go_enter func174,ntmps174;go_wp2;go_ret;exact⟨aN (by simp[bf,hm]),rfl⟩
  .go_enter func174,ntmps174;go_wp2;go_ret;exact⟨aN (by simp[bf,hm]),rfl⟩
 .cases hm:(mode==2)
  .go_enter func174,ntmps174;go_wp2;go_ret;exact⟨aN (by simp[bf,hm]),rfl⟩
  .go_enter func174,ntmps174;go_wp2;go_ret;exact⟨aN (by simp[bf,hm]),rfl⟩
theorem um(k t v:Int)(w:World):
  Calls prog 167 #[.int .i64 0,.agg #[.int .i64 k,.int .i64 t,.int .i64 v]] w λe a=>e=.returned (.agg #[.int .i64 k,.int .i64 k,.int .i64 t,.int .i64 v,.int .i64 0,.int .i64 0,.int .i64 0,.bool true,.bool false])/\Below w.heap.size w a:=by
 go_enter func167,ntmps167;go_wp2;exact ja (v:= .agg #[.int .i64 k,.int .i64 k,.int .i64 t,.int .i64 v,.int .i64 0,.int .i64 0,.int .i64 0,.bool true,.bool false]) (by simp[results,Tryz.results167,go_sem]) rfl ⟨rfl,fK _ _ _⟩
theorem qH(k t v:Int)(w:World):
  Calls prog 167 #[.int .i64 1,.agg #[.int .i64 k,.int .i64 t,.int .i64 v]] w λe a=>e=.returned (.agg #[.int .i64 k,.int .i64 0,.int .i64 0,.int .i64 0,.int .i64 k,.int .i64 t,.int .i64 v,.bool false,.bool true])/\Below w.heap.size w a:=by
 go_enter func167,ntmps167;go_wp2;exact ja (v:= .agg #[.int .i64 k,.int .i64 0,.int .i64 0,.int .i64 0,.int .i64 k,.int .i64 t,.int .i64 v,.bool false,.bool true]) (by simp[results,Tryz.results167,go_sem]) rfl ⟨rfl,fK _ _ _⟩
theorem uq(a t1 d b t2 c:Int)(w:World):
  Calls prog 168 #[.agg #[.int .i64 a,.int .i64 t1,.int .i64 d],.agg #[.int .i64 b,.int .i64 t2,.int .i64 c]] w λe f=>e=.returned (.agg #[.int .i64 a,.int .i64 a,.int .i64 t1,.int .i64 d,.int .i64 b,.int .i64 t2,.int .i64 c,.bool true,.bool true])/\f=((w.alloc (.cells #[.int .i64 a,.int .i64 t1,.int .i64 d] 37)).alloc (.cells #[.int .i64 b,.int .i64 t2,.int .i64 c] 37)).alloc (.cells #[.int .i64 a,.int .i64 a,.int .i64 t1,.int .i64 d,.int .i64 b,.int .i64 t2,.int .i64 c,.bool true,.bool true] 89):=by
 go_enter func168,ntmps168;go_wp2;exact ja (v:= .agg #[.int .i64 a,.int .i64 a,.int .i64 t1,.int .i64 d,.int .i64 b,.int .i64 t2,.int .i64 c,.bool true,.bool true]) (by simp[results,Tryz.results168,go_sem]) rfl ⟨rfl,rfl⟩
theorem Ic(k t v a t2 b:Int)(w:World):
  Calls prog 175 #[.int .i64 0,.agg #[.int .i64 k,.int .i64 t,.int .i64 v],.agg #[.int .i64 a,.int .i64 t2,.int .i64 b]] w λe c=>e=.returned (.agg #[.int .i64 k,.int .i64 k,.int .i64 t,.int .i64 v,.int .i64 a,.int .i64 t2,.int .i64 b,.bool true,.bool true])/\Below w.heap.size w c:=by
 go_enter func175,ntmps175
 go_wp2_with (go_at_call 168;refine(uq _ _ _ _ _ _ _).mono ?_;rintro e c ⟨rfl,rfl⟩)
 refine ja (v:= .agg #[.int .i64 k,.int .i64 k,.int .i64 t,.int .i64 v,.int .i64 a,.int .i64 t2,.int .i64 b,.bool true,.bool true]) (by simp[results,Tryz.results175,go_sem]) rfl ⟨rfl,?_⟩
 repeat (first|exact iL _ _|refine Below.setCell ?_ (by simp;omega) _|refine Below.alloc ?_ (by simp;omega) _|refine Below.alloc ?_ (by simp) _)
theorem EE(k t v a t2 b:Int)(w:World):
  Calls prog 175 #[.int .i64 1,.agg #[.int .i64 k,.int .i64 t,.int .i64 v],.agg #[.int .i64 a,.int .i64 t2,.int .i64 b]] w λe c=>e=.returned (.agg #[.int .i64 a,.int .i64 a,.int .i64 t2,.int .i64 b,.int .i64 k,.int .i64 t,.int .i64 v,.bool true,.bool true])/\Below w.heap.size w c:=by
 go_enter func175,ntmps175
 go_wp2_with (go_at_call 168;refine(uq _ _ _ _ _ _ _).mono ?_;rintro e c ⟨rfl,rfl⟩)
 refine ja (v:= .agg #[.int .i64 a,.int .i64 a,.int .i64 t2,.int .i64 b,.int .i64 k,.int .i64 t,.int .i64 v,.bool true,.bool true]) (by simp[results,Tryz.results175,go_sem]) rfl ⟨rfl,?_⟩
 repeat (first|exact iL _ _|refine Below.setCell ?_ (by simp;omega) _|refine Below.alloc ?_ (by simp;omega) _|refine Below.alloc ?_ (by simp) _)
end
section
open Go.Proofs.Tryz Go.Shelf
variable{d W:World}{X:List Ch}{f:Value}
def dU(T:Bool)(s s':Int)(k t v:Int)(m:D):List Ch:=(if m.n=0/\T=true then[⟨bn s' m.k m.t m.v,true⟩]else[])++[⟨bY s k t v m.k m.t m.v,false⟩]
theorem O3(T:Bool)(s a:Int)(k t v:Int)(m:D):(dU T s a k t v m).length<=2:=by unfold dU;split <;>simp
theorem rP(T:Bool)(s b:Int)(k t v:Int)(M:List D):(M.flatMap (dU T s b k t v)).length<=2*M.length:=by
 induction M with
 |nil=>simp
 |cons a r ih=>have:=O3 T s b k t v a;simp only[List.flatMap_cons,List.length_append,List.length_cons];omega
structure Cg(d:World)(X:List Ch)(f:Value)(wr:World):Prop where
 low:Below d.heap.size d wr
 row:wr.ownsRow d.heap.size 95 10 f X.length (X.flatMap aQ)
theorem Cg.start(d:World):Cg d [] (.slice none 0 0) d:=⟨iL _ _,iR _ _ _ _⟩
theorem CE{w b:World}{base:Nat}{v:Value}{n:Nat}{xs:List Value}(h:w.ownsRow base 95 10 v n xs)(a:Below w.heap.size w b):b.ownsRow base 95 10 v n xs:=
 h.kept (row:=none) ⟨a.os,a.tape,a.output,a.size,λk c _=>a.block k c⟩ (by cases h':v.ownBlock with|none=>exact .inl rfl|some g=>exact .inr (by simp))
theorem Cg.go{wr:World}(h:Cg d X f wr)(a:Below wr.heap.size wr W):Cg d X f W:=
 ⟨h.low.trans (a.mono h.low.size),CE h.row a⟩
theorem Cg.step{b:World}{c:Ch}{g cap:Nat}(h:Cg d X f W)(a:b.ownsRow d.heap.size 95 10 (.slice (some ⟨g,0,none⟩) (X.length+1) cap) (X.length+1) (X.flatMap aQ++aQ c))(i:W.grownBy b f.ownBlock):
  Cg d (X++[c]) (.slice (some ⟨g,0,none⟩) (X.length+1) cap) b:=
 ⟨h.low.grown i h.low.size (λk e=>(h.row.lt k e).1),by rw[List.length_append,List.flatMap_append];simpa using a⟩
theorem Cg.far(h:Cg d X f W)(k:Nat)(hk:W.heap.size<=k):f.ownBlock≠some k:=λe=>by have:=(h.row.lt k e).2;omega
theorem yA{B:Nat}{x:D}(h:W.heap[B]?=some (.cells #[.int .i64 x.k,.int .i64 x.t,.int .i64 x.v,.int .i64 x.n] 130)):
  W.cell? ⟨B,0,none⟩=some (.int .i64 x.k)/\W.cell? ⟨B,1,none⟩=some (.int .i64 x.t)/\W.cell? ⟨B,2,none⟩=some (.int .i64 x.v)/\W.cell? ⟨B,3,none⟩=some (.int .i64 x.n):=by
 refine⟨?_,?_,?_,?_⟩ <;>(rw[fq h];rfl)
abbrev qZ(c:Ch):Obj:= .cells #[.int .i64 c.x.k,.int .i64 c.x.lk,.int .i64 c.x.lt,.int .i64 c.x.lv,.int .i64 c.x.rk,.int .i64 c.x.rt,.int .i64 c.x.rv,.bool c.x.hl,.bool c.x.hr,.bool c.g] 95
theorem rU(base b gs ck:Nat)(mode s c:Int)(T:Bool)(k t v:Int)(M:List D)(w:World)
  (ho:∀W,Calls prog 101 #[.int .i64 s] W λe q=>e=.returned (.int .i64 c)/\q=W)
  (ht:∀W,W.cell? ⟨b,2,none⟩=some (.int .i64 mode)->Calls prog 174 #[.pointer (some ⟨b,0,none⟩),.int .i64 c] W λe q=>e=.returned (.bool T)/\q=W)
  (hl:∀k t v W,Calls prog 167 #[.int .i64 c,.agg #[.int .i64 k,.int .i64 t,.int .i64 v]] W λe q=>e=.returned (vO (bn c k t v))/\Below W.heap.size W q)
  (hp:∀k t v k2 t2 v2 W,Calls prog 175 #[.int .i64 s,.agg #[.int .i64 k,.int .i64 t,.int .i64 v],.agg #[.int .i64 k2,.int .i64 t2,.int .i64 v2]] W λe q=>e=.returned (vO (bY s k t v k2 t2 v2))/\Below W.heap.size W q)
  (h:w.cell? ⟨b,2,none⟩=some (.int .i64 mode)) (hb:b<w.heap.size) (hM:w.ownsRow base 130 4 (.slice (some ⟨gs,0,none⟩) M.length ck) M.length (M.flatMap ak)) (h0:0<M.length) (hlen:M.length<=100000):
  Calls prog 105 #[.pointer (some ⟨b,0,none⟩),.int .i64 s,.agg #[.int .i64 k,.int .i64 t,.int .i64 v],.slice (some ⟨gs,0,none⟩) M.length ck] w λe q=>∃f,e=.returned f/\q.ownsRow w.heap.size 95 10 f (M.flatMap (dU T s c k t v)).length ((M.flatMap (dU T s c k t v)).flatMap aQ)/\Below w.heap.size w q:=by
 obtain⟨i0,hi,E,G,F⟩:=je Ib;obtain⟨Z,hZ⟩:∃Z,Z=M.flatMap (dU T s c k t v):=⟨_,rfl⟩;rw[<-hZ];have HZ:=hid hZ;clear hZ;have HO:=hid ho;have HT:=hid ht;simp only[vO]at hl hp;have HL:=hl;have HP:=hp;have HM:=hid hM
 have iz:((M.length:Int)==0)=false:=by simp only[beq_eq_false_iff_ne];omega
 have i1:(M.length:Int)<=100000:=by omega
 clear ho ht hl hp hM;revert HL HP;intro HL HP;go_enter func105,ntmps105;go_wp2;have A:Hid (Below w.heap.size w (w.alloc (.cells #[.int .i64 k,.int .i64 t,.int .i64 v] 37))/\(w.alloc (.cells #[.int .i64 k,.int .i64 t,.int .i64 v] 37)).heap[w.heap.size]?=some (.cells #[.int .i64 k,.int .i64 t,.int .i64 v] 37)/\w.heap.size<(w.alloc (.cells #[.int .i64 k,.int .i64 t,.int .i64 v] 37)).heap.size):=⟨fC _ _,eZ _ _,by simp⟩;revert A;generalize w.alloc (.cells #[.int .i64 k,.int .i64 t,.int .i64 v] 37)=d;intro A;have C0:Hid (Cg d [] (.slice none 0 0) d):=Cg.start d
 go_loopg [9,27] M.length (λgg f v27 wr=>∃(i:Nat),i<=M.length/\gg=M.length -i/\v27=.int .i64 i/\Hid (Cg d ((M.take i).flatMap (dU T s c k t v)) f wr))
 case atStart=>exact⟨0,aW _,rfl,rfl,C0⟩
 case round=>
  obtain⟨i,hi2,hg,rfl,I⟩:=hrel;have HG:=hid hg;clear hg C0;have hlw:w.heap.size<wr.heap.size:=aR A.out.2.2 I.out.low.size;have N:Hid (Below w.heap.size w wr):=(A.out.1.trans (I.out.low.mono (Nat.le_of_lt A.out.2.2)))
  by_cases hlt:i<M.length
  .obtain⟨x,hx⟩:∃x,M[i]?=some x:=⟨_,aO hlt⟩;have hcx:=jo (aL HM.out N.out) i x hx;have Q:=(I.out.low.block _ A.out.2.2).trans A.out.2.1;have hrc:=iq Q;have hmc:wr.cell? ⟨b,2,none⟩=some (.int .i64 mode):=(N.out.cell (p:=⟨b,2,none⟩) hb).trans h
   have P:Hid ((M.take (i+1)).flatMap (dU T s c k t v)=(M.take i).flatMap (dU T s c k t v)++dU T s c k t v x):=by
    show(M.take (i+1)).flatMap (dU T s c k t v)=(M.take i).flatMap (dU T s c k t v)++dU T s c k t v x;rw[List.take_add_one,hx];simp
   have wL:((M.take i).flatMap (dU T s c k t v)).length<=200000:=by
    have h1:=rP T s c k t v (M.take i);have h2:=eG i M;omega
   generalize(M.take i).flatMap (dU T s c k t v)=X at *
   have j1:(0:Int)<=(i:Int):=by omega
   have j2:(i:Int)<(M.length:Int):=by omega
   have hbw:b<wr.heap.size:=by omega
   have HB:=hid Q;clear hx Q
   by_cases hc:x.n=0/\T=true
   .have C:Hid (dU T s c k t v x=[⟨bn c x.k x.t x.v,true⟩,⟨bY s k t v x.k x.t x.v,false⟩]):=by
     show dU T s c k t v x=[⟨bn c x.k x.t x.v,true⟩,⟨bY s k t v x.k x.t x.v,false⟩];unfold dU;rw[if_pos hc];rfl
    have r:Hid (Below wr.heap.size wr (wr.alloc (.cells #[.int .i64 x.k,.int .i64 x.t,.int .i64 x.v,.int .i64 x.n] 130))):=fC _ _
    have hn2:(x.n==0)=true:=by simp[hc.1]
    have U:=hc.2;subst U;have hbx:Hid ((wr.alloc (.cells #[.int .i64 x.k,.int .i64 x.t,.int .i64 x.v,.int .i64 x.n] 130)).heap[wr.heap.size]?=some (.cells #[.int .i64 x.k,.int .i64 x.t,.int .i64 x.v,.int .i64 x.n] 130)):=eZ _ _;clear hc
    go_wp2_with (first
     |(go_at_call 101;refine(HO.out _).mono ?_;rintro e q ⟨rfl,rfl⟩)
     |(go_at_call 174;refine(HT.out _ ?_).mono ?_;(go_simp);rintro e q ⟨rfl,rfl⟩)
     |fail)
    go_region_held3 (λW=>W.cell? ⟨wr.heap.size,0,none⟩=some (.int .i64 x.k)/\W.cell? ⟨wr.heap.size,1,none⟩=some (.int .i64 x.t)/\W.cell? ⟨wr.heap.size,2,none⟩=some (.int .i64 x.v)) (first|(go_keep;done)|fail) (first
     |(go_at_call 101;refine(HO.out _).mono ?_;rintro e q ⟨rfl,rfl⟩)
     |(go_at_call 167;refine(HL _ _ _ _).mono ?_;rintro e H ⟨rfl,z⟩;have B:=(z.block wr.heap.size (by simp)).trans hbx.out;have S:Hid (Cg d X u9 (H.alloc (qZ ⟨bn c x.k x.t x.v,true⟩))/\H.heap[wr.heap.size]?=some (.cells #[.int .i64 x.k,.int .i64 x.t,.int .i64 x.v,.int .i64 x.n] 130)/\wr.heap.size<H.heap.size):=⟨(I.out.go r.out.drew).go (z.trans ((fC H _).mono z.size)),B,(ax.1 B).1⟩;have hl2:d.heap.size<=H.heap.size:=aH I.out.low.size (aH r.out.size z.size);have hx2:=yA B;have N2:Hid (∀j u,(aQ ⟨bn c x.k x.t x.v,true⟩)[j]?=some u->(H.alloc (qZ ⟨bn c x.k x.t x.v,true⟩)).cell? ((⟨H.heap.size,0,none⟩:Addr).add j)=some u):=World.news_of_block (eZ H (qZ ⟨bn c x.k x.t x.v,true⟩));clear z B)
     |(refine step_append_lies _ (by rfl) _ _ _ (by rfl) d.heap.size 95 i0 zC 10 72 underlying33 hi E G F rfl (by omega) u9 X.length (X.flatMap aQ) (by rfl) ?_ ⟨H.heap.size,0,none⟩ 1 1 (aQ ⟨bn c x.k x.t x.v,true⟩) (by rfl) (by rfl) ?_ (gQ _) (by omega) (by unfold maxLen;omega) (by omega) ?_ _ rfl ?_;(exact S.out.1.row);(exact N2.out);(simp;omega);intro g3 O4 w3 y m SH hlt3;have XV:=(m.block wr.heap.size (Nat.lt_trans S.out.2.2 (by simp)) (λe=>I.out.far _ (aC _) e.symm)).trans ((gL _ _ _ S.out.2.2).trans S.out.2.1);have hx3:=yA XV;have C3:Hid (Cg d (X++[⟨bn c x.k x.t x.v,true⟩]) (.slice (some ⟨g3,0,none⟩) (X.length+1) O4) w3):=S.out.1.step y m;clear y m SH hlt3 XV)
     |fail)
    have hr3:=iq ((C3.out.low.block _ A.out.2.2).trans A.out.2.1)
    have e3:(X++[(⟨bn c x.k x.t x.v,true⟩:Ch)]).length=X.length+1:=by simp
    go_wp2_with (first
     |(go_at_call 175;refine(HP _ _ _ _ _ _ _).mono ?_;rintro e l ⟨rfl,g⟩;have K:Hid (Cg d (X++[⟨bn c x.k x.t x.v,true⟩]) (.slice (some ⟨g3,0,none⟩) (X.length+1) O4) (l.alloc (qZ ⟨bY s k t v x.k x.t x.v,false⟩))):=C3.out.go (g.trans ((fC l _).mono g.size));have Y:d.heap.size<=l.heap.size:=aH C3.out.low.size g.size;have N4:Hid (∀j u,(aQ ⟨bY s k t v x.k x.t x.v,false⟩)[j]?=some u->(l.alloc (qZ ⟨bY s k t v x.k x.t x.v,false⟩)).cell? ((⟨l.heap.size,0,none⟩:Addr).add j)=some u):=World.news_of_block (eZ l (qZ ⟨bY s k t v x.k x.t x.v,false⟩));clear g)
     |(refine wpList_append_lies _ rfl _ _ _ rfl d.heap.size 95 i0 zC 10 72 underlying33 hi E G F rfl (by omega) (.slice (some ⟨g3,0,none⟩) (X.length+1) O4) (X++[(⟨bn c x.k x.t x.v,true⟩:Ch)]).length ((X++[(⟨bn c x.k x.t x.v,true⟩:Ch)]).flatMap aQ) rfl K.out.row ⟨l.heap.size,0,none⟩ 1 1 (aQ ⟨bY s k t v x.k x.t x.v,false⟩) rfl rfl N4.out (gQ _) (by omega) (by unfold maxLen;omega) (by omega) (by simp;omega) _ rfl ?_;intro V o w5 a L gI gJ;have R:Hid (Cg d ((X++[⟨bn c x.k x.t x.v,true⟩])++[⟨bY s k t v x.k x.t x.v,false⟩]) (.slice (some ⟨V,0,none⟩) ((X++[(⟨bn c x.k x.t x.v,true⟩:Ch)]).length+1) o) w5):=K.out.step a L;clear a L gI gJ)
     |fail)
    go_roundg (M.length -(i+1))
    case measure=>have:=HG.out;omega
    case rel=>
     have h5:=R.out;rw[List.append_assoc]at h5;exact⟨i+1,by omega,rfl,by first|rfl|(congr 1;omega)|go_num,by rw[P.out,C.out];show Cg _ _ _ _;simpa using h5⟩
   .have C:Hid (dU T s c k t v x=[⟨bY s k t v x.k x.t x.v,false⟩]):=by
     show dU T s c k t v x=[⟨bY s k t v x.k x.t x.v,false⟩];unfold dU;rw[if_neg hc];rfl
    have r:Hid (Below wr.heap.size wr (wr.alloc (.cells #[.int .i64 x.k,.int .i64 x.t,.int .i64 x.v,.int .i64 x.n] 130))):=fC _ _
    by_cases hn:x.n=0
    .have U:T=false:=by
      cases U:T
      .rfl
      .exact absurd ⟨hn,U⟩ hc
     subst U
     have hn2:(x.n==0)=true:=by simp[hn]
     clear hn hc
     go_wp2_with (first
      |(go_at_call 101;refine(HO.out _).mono ?_;rintro e q ⟨rfl,rfl⟩)
      |(go_at_call 174;refine(HT.out _ ?_).mono ?_;(go_simp);rintro e q ⟨rfl,rfl⟩)
      |(go_at_call 175;refine(HP _ _ _ _ _ _ _).mono ?_;rintro e l ⟨rfl,g⟩;have K:Hid (Cg d X u9 (l.alloc (qZ ⟨bY s k t v x.k x.t x.v,false⟩))):=(I.out.go r.out).go (g.trans ((fC l _).mono g.size));have Y:d.heap.size<=l.heap.size:=aH I.out.low.size (aH r.out.size g.size);have N4:Hid (∀j u,(aQ ⟨bY s k t v x.k x.t x.v,false⟩)[j]?=some u->(l.alloc (qZ ⟨bY s k t v x.k x.t x.v,false⟩)).cell? ((⟨l.heap.size,0,none⟩:Addr).add j)=some u):=World.news_of_block (eZ l (qZ ⟨bY s k t v x.k x.t x.v,false⟩));clear g)
      |(refine wpList_append_lies _ rfl _ _ _ rfl d.heap.size 95 i0 zC 10 72 underlying33 hi E G F rfl (by omega) u9 X.length (X.flatMap aQ) rfl K.out.row ⟨l.heap.size,0,none⟩ 1 1 (aQ ⟨bY s k t v x.k x.t x.v,false⟩) rfl rfl N4.out (gQ _) (by omega) (by unfold maxLen;omega) (by omega) (by simp;omega) _ rfl ?_;intro V o w5 a L gI gJ;have R:Hid (Cg d (X++[⟨bY s k t v x.k x.t x.v,false⟩]) (.slice (some ⟨V,0,none⟩) (X.length+1) o) w5):=K.out.step a L;clear a L gI gJ)
      |fail)
     go_roundg (M.length -(i+1))
     case measure=>have:=HG.out;omega
     case rel=>exact⟨i+1,by omega,rfl,by first|rfl|(congr 1;omega)|go_num,by rw[P.out,C.out];exact R.out⟩
    .have hn2:(x.n==0)=false:=by simp[hn]
     clear hn hc
     go_wp2_with (first
      |(go_at_call 101;refine(HO.out _).mono ?_;rintro e q ⟨rfl,rfl⟩)
      |(go_at_call 174;refine(HT.out _ ?_).mono ?_;(go_simp);rintro e q ⟨rfl,rfl⟩)
      |(go_at_call 175;refine(HP _ _ _ _ _ _ _).mono ?_;rintro e l ⟨rfl,g⟩;have K:Hid (Cg d X u9 (l.alloc (qZ ⟨bY s k t v x.k x.t x.v,false⟩))):=(I.out.go r.out).go (g.trans ((fC l _).mono g.size));have Y:d.heap.size<=l.heap.size:=aH I.out.low.size (aH r.out.size g.size);have N4:Hid (∀j u,(aQ ⟨bY s k t v x.k x.t x.v,false⟩)[j]?=some u->(l.alloc (qZ ⟨bY s k t v x.k x.t x.v,false⟩)).cell? ((⟨l.heap.size,0,none⟩:Addr).add j)=some u):=World.news_of_block (eZ l (qZ ⟨bY s k t v x.k x.t x.v,false⟩));clear g)
      |(refine wpList_append_lies _ rfl _ _ _ rfl d.heap.size 95 i0 zC 10 72 underlying33 hi E G F rfl (by omega) u9 X.length (X.flatMap aQ) rfl K.out.row ⟨l.heap.size,0,none⟩ 1 1 (aQ ⟨bY s k t v x.k x.t x.v,false⟩) rfl rfl N4.out (gQ _) (by omega) (by unfold maxLen;omega) (by omega) (by simp;omega) _ rfl ?_;intro V o w5 a L gI gJ;have R:Hid (Cg d (X++[⟨bY s k t v x.k x.t x.v,false⟩]) (.slice (some ⟨V,0,none⟩) (X.length+1) o) w5):=K.out.step a L;clear a L gI gJ)
      |fail)
     go_roundg (M.length -(i+1))
     case measure=>have:=HG.out;omega
     case rel=>exact⟨i+1,by omega,rfl,by first|rfl|(congr 1;omega)|go_num,by rw[P.out,C.out];exact R.out⟩
  .have j2:¬((i:Int)<(M.length:Int)):=by omega
   go_wp2;go_ret;have e1:M.take i=M:=dA (by omega);have hI:=I.out;rw[e1,<-HZ.out]at hI;exact⟨u9,rfl,ownsRow_le hI.row (Nat.le_of_lt A.out.2.2),N.out⟩
end
section
open Go.Proofs.Tryz Go.Shelf
def bU(mode s:Int)(k t v:Int)(M:List D):List Ch:=if M=[]then(if bf mode s=true then[⟨bn s k t v,false⟩]else[])else M.flatMap (dU (bf mode (1 -s)) s (1 -s) k t v)
theorem CF(b c:Nat)(m:Option Addr)(mode s:Int)(k t v:Int)(w:World)
  (j:∀W,W.cell? ⟨b,2,none⟩=some (.int .i64 mode)->Calls prog 174 #[.pointer (some ⟨b,0,none⟩),.int .i64 s] W λe a=>e=.returned (.bool true)/\a=W)
  (i:∀k t v W,Calls prog 167 #[.int .i64 s,.agg #[.int .i64 k,.int .i64 t,.int .i64 v]] W λe a=>e=.returned (vO (bn s k t v))/\Below W.heap.size W a)
  (h:w.cell? ⟨b,2,none⟩=some (.int .i64 mode)) (hb:b<w.heap.size):
  Calls prog 105 #[.pointer (some ⟨b,0,none⟩),.int .i64 s,.agg #[.int .i64 k,.int .i64 t,.int .i64 v],.slice m 0 c] w λe a=>∃l,e=.returned l/\a.ownsRow w.heap.size 95 10 l 1 (aQ ⟨bn s k t v,false⟩)/\Below w.heap.size w a:=by
 simp only[vO]at i;have n:=hid j;clear j;go_enter func105,ntmps105
 go_wp2_with (first
  |(go_at_call 174;refine(n.out _ ?_).mono ?_;(go_simp);rintro e a ⟨rfl,rfl⟩)
  |(go_at_call 167;refine(i _ _ _ _).mono ?_;rintro e f ⟨rfl,d⟩;have g:Hid (Below w.heap.size w f):=(fC w _).trans (d.mono (by simp));clear d)
  |fail)
 go_ret;refine⟨_,rfl,⟨rfl,.inr ⟨f.heap.size,1,_,rfl,g.out.size,eZ _ _,aC _,by unfold maxLen;omega,rfl,rfl⟩⟩,g.out.trans ((fC f _).mono g.out.size)⟩
theorem zN(b c:Nat)(g:Option Addr)(mode s:Int)(k t v:Int)(w:World)
  (d:∀W,W.cell? ⟨b,2,none⟩=some (.int .i64 mode)->Calls prog 174 #[.pointer (some ⟨b,0,none⟩),.int .i64 s] W λe a=>e=.returned (.bool false)/\a=W)
  (h:w.cell? ⟨b,2,none⟩=some (.int .i64 mode)) (hb:b<w.heap.size):
  Calls prog 105 #[.pointer (some ⟨b,0,none⟩),.int .i64 s,.agg #[.int .i64 k,.int .i64 t,.int .i64 v],.slice g 0 c] w λe a=>∃f,e=.returned f/\a.ownsRow w.heap.size 95 10 f 0 []/\Below w.heap.size w a:=by
 have i:=hid d;clear d;go_enter func105,ntmps105
 go_wp2_with (first
  |(go_at_call 174;refine(i.out _ ?_).mono ?_;(go_simp);rintro e a ⟨rfl,rfl⟩)
  |fail)
 refine wp_loop_rounds 1 ?_;rw[rounds_succ];go_wp2;go_ret;exact⟨_,rfl,iR _ _ _ _,fC _ _⟩
theorem vJ(base b:Nat)(r:Value)(mode s:Int)(k t v:Int)(M:List D)(w:World)(j:s=0∨s=1)
  (h:w.cell? ⟨b,2,none⟩=some (.int .i64 mode)) (i:b<w.heap.size) (g:w.ownsRow base 130 4 r M.length (M.flatMap ak)) (a:M.length<=100000):
  Calls prog 105 #[.pointer (some ⟨b,0,none⟩),.int .i64 s,.agg #[.int .i64 k,.int .i64 t,.int .i64 v],r] w λe o=>∃p,e=.returned p/\o.ownsRow w.heap.size 95 10 p (bU mode s k t v M).length ((bU mode s k t v M).flatMap aQ)/\Below w.heap.size w o:=by
 by_cases h0:M=[]
 .subst h0;obtain⟨q,c,rfl⟩:=jq g;cases hT:bf mode s
  .have f:bU mode s k t v []=[]:=by simp[bU,hT]
   rw[f];exact zN b c q mode s k t v w (λW d=>by have:=pI b mode s W d j;rwa [hT]at this) h i
  .have f:bU mode s k t v []=[⟨bn s k t v,false⟩]:=by simp[bU,hT]
   rw[f];refine CF b c q mode s k t v w (λW d=>by have:=pI b mode s W d j;rwa [hT]at this) ?_ h i;intro k t v W
   rcases j with rfl|rfl
   .exact um k t v W
   .exact qH k t v W
 .have l:0<M.length:=List.length_pos_iff.2 h0;obtain⟨gs,u,rfl⟩:=gy g l
  have f:bU mode s k t v M=M.flatMap (dU (bf mode (1 -s)) s (1 -s) k t v):=by simp[bU,h0]
  rw[f]
  rcases j with rfl|rfl
  .exact rU base b gs u mode 0 1 (bf mode 1) k t v M w ig (λW d=>pI b mode 1 W d (Or.inr rfl)) (λk t v W=>qH k t v W) (λk t v n t2 m W=>Ic k t v n t2 m W) h i g l a
  .exact rU base b gs u mode 1 0 (bf mode 0) k t v M w jm (λW d=>pI b mode 0 W d (Or.inl rfl)) (λk t v W=>um k t v W) (λk t v n t2 m W=>EE k t v n t2 m W) h i g l a
end
section
open Go.Shelf
variable{S S':Nat->Prop}{b base n f:Nat}{w d:World}{m:Option Nat}{v j i l:Value}{p:List Value}{R':List D}
structure J where
 lo:Int
 hi:Int
 mode:Int
 m0:Int
 m1:Int
 late:Int
 R0:List D
 R1:List D
structure Turned(S:Nat->Prop)(w d:World):Prop where
 os:d.os=w.os
 tape:d.tape=w.tape
 output:d.output=w.output
 size:w.heap.size<=d.heap.size
 block:∀k,k<w.heap.size->¬S k->d.heap[k]?=w.heap[k]?
theorem Turned.trans{a b c:World}(h:Turned S a b)(g:Turned S' b c)(r:∀k,k<a.heap.size->S' k->S k):Turned S a c:=
 ⟨g.os.trans h.os,g.tape.trans h.tape,g.output.trans h.output,aH h.size g.size,λk o q=>(g.block k (aR o h.size) (λe=>q (r k o e))).trans (h.block k o q)⟩
theorem Turned.of_below(h:Below w.heap.size w d):Turned S w d:=⟨h.os,h.tape,h.output,h.size,λk a _=>h.block k a⟩
theorem Turned.of_grown(h:w.grownBy d m)(c:∀k,m=some k->S k):Turned S w d:=⟨h.os,h.tape,h.output,h.size,λk a g=>h.block k a (λe=>g (c k e.symm))⟩
theorem Turned.of_keep{o:Nat}{u:Value}(h:l8 b o u m w d)(q:S b)(g:∀k,m=some k->S k):Turned S w d:=
 ⟨h.os,h.tape,h.output,h.size,λk c a=>h.block k c (λe=>a (by rw[e];exact q)) (λe=>a (g k e))⟩
theorem Turned.mono(h:Turned S w d)(c:∀k,S k->S' k):Turned S' w d:=⟨h.os,h.tape,h.output,h.size,λk a g=>h.block k a (λe=>g (c k e))⟩
theorem Turned.below{B:Nat}(h:Turned S w d)(hB:B<=w.heap.size)(a:∀k,S k->B<=k):Below B w d:=
 ⟨h.os,h.tape,h.output,h.size,λk hk=>h.block k (by omega) (λe=>by have:=a k e;omega)⟩
def dF(w:World)(v l:Value):Prop:=l.ownBlock=v.ownBlock∨∃g,l.ownBlock=some g/\w.heap.size<=g
structure ai(w:World)(base b f:Nat)(j i:Value)(x:J):Prop where
 blk:w.heap[b]?=some (.cells #[.int .i64 x.lo,.int .i64 x.hi,.int .i64 x.mode,.pointer (some ⟨f,0,none⟩),j,i,.int .i64 x.late] 186)
 mks:w.heap[f]?=some (.cells #[.int .i64 x.m0,.int .i64 x.m1] 250)
 r0:w.ownsRow base 130 4 j x.R0.length (x.R0.flatMap ak)
 r1:w.ownsRow base 130 4 i x.R1.length (x.R1.flatMap ak)
 apart:∀g,j.ownBlock=some g->i.ownBlock≠some g
theorem own_ne{T:Nat}{cs:Array Value}(h:w.ownsRow base 130 4 v n p)(k:w.heap[b]?=some (.cells cs T))(c:T≠130):v.ownBlock≠some b:=by
 rcases h.2 with⟨rfl,_⟩|⟨g,cap,cur,rfl,_,a,_⟩
 .simp[Value.ownBlock]
 .intro e;simp[Value.ownBlock]at e;subst e;rw[k]at a;cases a;exact c rfl
theorem ai.lt{x:J}(h:ai w base b f j i x):b<w.heap.size:=(ax.1 h.blk).1
theorem ai.ltm{x:J}(h:ai w base b f j i x):f<w.heap.size:=(ax.1 h.mks).1
theorem ai.ne{x:J}(h:ai w base b f j i x):f≠b:=λe=>by
 have a:=h.mks;rw[e,h.blk]at a;simp at a
theorem ai.side0{x:J}(h:ai w base b f j i x):bB w base b 4 j x.R0:=⟨⟨_,_,h.blk,rfl⟩,h.r0,own_ne h.r0 h.blk (by omega)⟩
theorem ai.side1{x:J}(h:ai w base b f j i x):bB w base b 5 i x.R1:=⟨⟨_,_,h.blk,rfl⟩,h.r1,own_ne h.r1 h.blk (by omega)⟩
theorem ai.below{x:J}(h:ai w base b f j i x)(a:Below w.heap.size w d):ai d base b f j i x:=
 ⟨(a.block _ h.lt).trans h.blk,(a.block _ h.ltm).trans h.mks,aL h.r0 a,aL h.r1 a,h.apart⟩
theorem ai.cells{x:J}(h:ai w base b f j i x):
  w.cell? ⟨b,0,none⟩=some (.int .i64 x.lo)/\w.cell? ⟨b,1,none⟩=some (.int .i64 x.hi)/\w.cell? ⟨b,2,none⟩=some (.int .i64 x.mode)/\w.cell? ⟨b,3,none⟩=some (.pointer (some ⟨f,0,none⟩))/\w.cell? ⟨b,6,none⟩=some (.int .i64 x.late)/\w.frozen? ⟨b,6,none⟩=false:=by
 refine⟨?_,?_,?_,?_,?_,fV h.blk 6⟩ <;>(rw[fq h.blk];rfl)
theorem ai.marks{x:J}(h:ai w base b f j i x):w.cell? ⟨f,0,none⟩=some (.int .i64 x.m0)/\w.cell? ⟨f,1,none⟩=some (.int .i64 x.m1):=by
 refine⟨?_,?_⟩ <;>(rw[fq h.mks];rfl)
theorem ag{size:Nat}{e:TypeId}(h:w.ownsRow base e size v n p)(a:∀g,v.ownBlock=some g->d.heap[g]?=w.heap[g]?):d.ownsRow base e size v n p:=by
 refine⟨h.1,?_⟩
 rcases h.2 with hn|⟨g,cap,cur,rfl,hb2,hgg,rest⟩
 .exact .inl hn
 .exact .inr ⟨g,cap,cur,rfl,hb2,(a g rfl).trans hgg,rest⟩
theorem ai.met1{x:J}(h:ai w base b f j i x)(a:w.grownBy d i.ownBlock)(q:bB d base b 5 i R'):ai d base b f j i { x with R1:=R'}:=by
 have k:d.heap[b]?=w.heap[b]? :=a.block b h.lt (λe=>(own_ne h.r1 h.blk (by omega)) e.symm);have o:d.heap[f]?=w.heap[f]? :=a.block f h.ltm (λe=>(own_ne h.r1 h.mks (by omega)) e.symm);have c:d.ownsRow base 130 4 j x.R0.length (x.R0.flatMap ak):=ag h.r0 (λg e=>a.block g (h.r0.lt g e).2 (λr=>h.apart g e r.symm));exact⟨k.trans h.blk,o.trans h.mks,c,q.row,h.apart⟩
theorem ai.put0{x:J}(h:ai w base b f j i x)(s:bB d base b 4 l R')(o:l8 b 4 l j.ownBlock w d)(c:dF w j l):ai d base b f l i { x with R0:=R'}:=by
 have u:d.heap[b]?=some (.cells #[.int .i64 x.lo,.int .i64 x.hi,.int .i64 x.mode,.pointer (some ⟨f,0,none⟩),l,i,.int .i64 x.late] 186):=o.this.trans (fZ h.blk l);have r:d.heap[f]?=w.heap[f]? :=o.block f h.ltm h.ne (own_ne h.r0 h.mks (by omega))
 have q:∀g,i.ownBlock=some g->j.ownBlock≠some g:=λg e a=>h.apart g a e
 have t:d.ownsRow base 130 4 i x.R1.length (x.R1.flatMap ak):=ag h.r1 (λg e=>o.block g (h.r1.lt g e).2 (λa=>own_ne h.r1 h.blk (by omega) (by rw[<-a];exact e)) (q g e));refine⟨u,r.trans h.mks,s.row,t,?_⟩;intro g k a
 rcases c with c|⟨g',c,hl⟩
 .rw[c]at k;exact h.apart g k a
 .rw[c]at k;cases k;have:=(h.r1.lt _ a).2;omega
theorem ai.met0{x:J}(h:ai w base b f j i x)(a:w.grownBy d j.ownBlock)(q:bB d base b 4 j R'):ai d base b f j i { x with R0:=R'}:=by
 have k:d.heap[b]?=w.heap[b]? :=a.block b h.lt (λe=>(own_ne h.r0 h.blk (by omega)) e.symm);have o:d.heap[f]?=w.heap[f]? :=a.block f h.ltm (λe=>(own_ne h.r0 h.mks (by omega)) e.symm);have c:d.ownsRow base 130 4 i x.R1.length (x.R1.flatMap ak):=ag h.r1 (λg e=>a.block g (h.r1.lt g e).2 (λr=>h.apart g r.symm e));exact⟨k.trans h.blk,o.trans h.mks,q.row,c,h.apart⟩
theorem ai.put1{x:J}(h:ai w base b f j i x)(s:bB d base b 5 l R')(k:l8 b 5 l i.ownBlock w d)(c:dF w i l):ai d base b f j l { x with R1:=R'}:=by
 have u:d.heap[b]?=some (.cells #[.int .i64 x.lo,.int .i64 x.hi,.int .i64 x.mode,.pointer (some ⟨f,0,none⟩),j,l,.int .i64 x.late] 186):=k.this.trans (fZ h.blk l);have r:d.heap[f]?=w.heap[f]? :=k.block f h.ltm h.ne (own_ne h.r1 h.mks (by omega))
 have o:∀g,j.ownBlock=some g->i.ownBlock≠some g:=λg e a=>h.apart g e a
 have t:d.ownsRow base 130 4 j x.R0.length (x.R0.flatMap ak):=ag h.r0 (λg e=>k.block g (h.r0.lt g e).2 (λa=>own_ne h.r0 h.blk (by omega) (by rw[<-a];exact e)) (o g e));refine⟨u,r.trans h.mks,t,s.row,?_⟩;intro g q a
 rcases c with c|⟨g',c,hl⟩
 .rw[c]at a;exact h.apart g q a
 .rw[c]at a;cases a;have:=(h.r0.lt _ q).2;omega
end
section
open Go.Proofs.Tryz Go.Shelf
variable{w W f:World}{base b d:Nat}{c a u0 u1 i:Value}{x:J}{k t v:Int}{R':List D}
def J.fed0(x:J)(k t v:Int):J:={ x with
 R1:=fo x.R1 (aV k (t+x.lo) x.R1) (bF k (t+x.lo) (t+x.hi) x.R1).length
 R0:=if x.m1<t+x.hi then bT x.R0 (aV k (t+1) x.R0) ⟨k,t,v,((bF k (t+x.lo) (t+x.hi) x.R1).length:Int)⟩else x.R0}
def J.fed1(x:J)(k t v:Int):J:={ x with
 R0:=fo x.R0 (aV k (t+ -x.hi) x.R0) (bF k (t+ -x.hi) (t+ -x.lo) x.R0).length
 R1:=if x.m0<t+ -x.lo then bT x.R1 (aV k (t+1) x.R1) ⟨k,t,v,((bF k (t+ -x.hi) (t+ -x.lo) x.R0).length:Int)⟩else x.R1}
theorem wP(key fH av:Int)(R:List D):(bF key fH av R).length<=R.length:=
 aH (List.takeWhile_sublist _).length_le (by simp)
structure Fd(w:World)(base b d:Nat)(c a u0 u1:Value)(x:J)(k t v:Int)(W:World):Prop where
 here:ai W base b d u0 u1 x
 box:W.heap[w.heap.size]?=some (.cells #[.int .i64 k,.int .i64 t,.int .i64 v] 37)
 turned:Turned (λj=>j=b∨c.ownBlock=some j∨a.ownBlock=some j) w W
 f0:dF w c u0
 f1:dF w a u1
theorem Fd.below{j:World}(h:Fd w base b d c a u0 u1 x k t v W)(g:Below W.heap.size W j):Fd w base b d c a u0 u1 x k t v j:=
 ⟨h.here.below g,(g.block _ (ax.1 h.box).1).trans h.box,h.turned.trans (S':=λ_=>False) (Turned.of_below g) (λ_ _ e=>e.elim),h.f0,h.f1⟩
theorem Fd.drew(h:Fd w base b d c a u0 u1 x k t v W):Fd w base b d c a u0 u1 x k t v W.drew:=h.below (iL _ _).drew
theorem Fd.cells(h:Fd w base b d c a u0 u1 x k t v W):W.cell? ⟨w.heap.size,0,none⟩=some (.int .i64 k)/\W.cell? ⟨w.heap.size,1,none⟩=some (.int .i64 t)/\W.cell? ⟨w.heap.size,2,none⟩=some (.int .i64 v):=iq h.box
theorem Fd.meet0(h:Fd w base b d c a c a x k t v W)(m:ai w base b d c a x)(g:W.grownBy f a.ownBlock)(l:bB f base b 5 a R'):Fd w base b d c a c a { x with R1:=R'} k t v f:=
 ⟨h.here.met1 g l,(g.block _ (ax.1 h.box).1 (λe=>by have:=(m.r1.lt _ e.symm).2;omega)).trans h.box,
  h.turned.trans (Turned.of_grown (S:=λj=>a.ownBlock=some j) g (λk e=>e)) (λj _ e=>Or.inr (Or.inr e)),h.f0,h.f1⟩
theorem Fd.add0(h:Fd w base b d c a c a x k t v W)(hb:b<w.heap.size)(p:∀g,c.ownBlock=some g->g<w.heap.size)(o:bB f base b 4 i R')(l:l8 b 4 i c.ownBlock W f)(m:dF W c i):
  Fd w base b d c a i a { x with R0:=R'} k t v f:=
 ⟨h.here.put0 o l m,(l.block _ (ax.1 h.box).1 (by omega) (λe=>by have:=p _ e;omega)).trans h.box,
  h.turned.trans (Turned.of_keep (S:=λj=>j=b∨c.ownBlock=some j) l (Or.inl rfl) (λk e=>Or.inr e)) (λj _ e=>e.elim Or.inl (λe=>Or.inr (Or.inl e))),m.imp id (λ⟨g,q,n⟩=>⟨g,q,aH h.turned.size n⟩),h.f1⟩
theorem Fd.meet1(h:Fd w base b d c a c a x k t v W)(m:ai w base b d c a x)(g:W.grownBy f c.ownBlock)(l:bB f base b 4 c R'):Fd w base b d c a c a { x with R0:=R'} k t v f:=
 ⟨h.here.met0 g l,(g.block _ (ax.1 h.box).1 (λe=>by have:=(m.r0.lt _ e.symm).2;omega)).trans h.box,
  h.turned.trans (Turned.of_grown (S:=λj=>c.ownBlock=some j) g (λk e=>e)) (λj _ e=>Or.inr (Or.inl e)),h.f0,h.f1⟩
theorem Fd.add1(h:Fd w base b d c a c a x k t v W)(hb:b<w.heap.size)(p:∀g,a.ownBlock=some g->g<w.heap.size)(o:bB f base b 5 i R')(l:l8 b 5 i a.ownBlock W f)(m:dF W a i):
  Fd w base b d c a c i { x with R1:=R'} k t v f:=
 ⟨h.here.put1 o l m,(l.block _ (ax.1 h.box).1 (by omega) (λe=>by have:=p _ e;omega)).trans h.box,
  h.turned.trans (Turned.of_keep (S:=λj=>j=b∨a.ownBlock=some j) l (Or.inl rfl) (λk e=>Or.inr e)) (λj _ e=>e.elim Or.inl (λe=>Or.inr (Or.inr e))),h.f0,m.imp id (λ⟨g,q,n⟩=>⟨g,q,aH h.turned.size n⟩)⟩
def aaA(w:World)(base b d:Nat)(c a:Value)(x x1:J)(k t v fr av:Int)(M:List D)(o:Nat):Prop:=∀W,Fd w base b d c a c a x k t v W->Calls prog 103 #[.pointer (some ⟨b,o,none⟩),.int .i64 k,.int .i64 fr,.int .i64 av] W λe f=>∃vm,e=.returned vm/\f.ownsRow W.heap.size 130 4 vm M.length (M.flatMap ak)/\Fd w base b d c a c a x1 k t v f
def aaB(w:World)(base b d:Nat)(c a:Value)(x1 x2:J)(k t v:Int)(M:List D)(o:Nat):Prop:=∀(W:World) (B:Nat) (vm:Value),Fd w base b d c a c a x1 k t v W->W.ownsRow B 130 4 vm M.length (M.flatMap ak)->w.heap.size<=B->Calls prog 104 #[.pointer (some ⟨b,o,none⟩),.agg #[.int .i64 k,.int .i64 t,.int .i64 v],.int .i64 (M.length:Nat)] W λe f=>e=.returned .nilIface/\f.ownsRow B 130 4 vm M.length (M.flatMap ak)/\∃u0 u1,Fd w base b d c a u0 u1 x2 k t v f/\dF w c u0/\dF w a u1
theorem aam{B o:Nat}{m:Value}{l:Option Nat}{M:List D}(n:Fd w base b d c a c a x k t v W)(h:W.ownsRow B 130 4 m M.length (M.flatMap ak))(q:l8 b o i l W f)(hB:w.heap.size<=B)(p:∀g,l=some g->g<w.heap.size):f.ownsRow B 130 4 m M.length (M.flatMap ak):=
 ag h (λg e=>q.block g (h.lt g e).2 (λj=>own_ne h n.here.blk (by omega) (by rw[<-j];exact e)) (λj=>by have a1:=(h.lt g e).1;have a2:=p g j;omega))
theorem aap(base b d:Nat)(c a:Value)(x Y:J)(M:List D)(s k t v:Int)(w:World)(h:ai w base b d c a x)(F:base<=w.heap.size)(hg:au k t v=true)
  (p1: -1048576<=x.lo) (p2:x.lo<=1048576) (p3: -1048576<=x.hi) (p4:x.hi<=1048576) (T:ay x.R0) (V:ay x.R1) (hL0:x.R0.length<=300) (hL1:x.R1.length<=300)
  (hs:s=0/\Y=x.fed0 k t v/\M=bF k (t+x.lo) (t+x.hi) x.R1/\(∀y∈x.R1,-9223372036854775808<=y.n/\y.n<=9223372036854775807)/\¬t<=x.m0/\(x.m1<t+x.hi->x.R0.length<300)∨
   s=1/\Y=x.fed1 k t v/\M=bF k (t+ -x.hi) (t+ -x.lo) x.R0/\(∀y∈x.R0,-9223372036854775808<=y.n/\y.n<=9223372036854775807)/\¬t<=x.m1/\(x.m0<t+ -x.lo->x.R1.length<300)):
  Calls prog 45 #[.pointer (some ⟨b,0,none⟩),.int .i64 s,.agg #[.int .i64 k,.int .i64 t,.int .i64 v]] w λe f=>∃u u0 u1,e=.returned (.tuple #[u,.nilIface])/\ai f base b d u0 u1 Y/\
   f.ownsRow w.heap.size 95 10 u (bU x.mode s k t v M).length ((bU x.mode s k t v M).flatMap aQ)/\
   Turned (λj=>j=b∨c.ownBlock=some j∨a.ownBlock=some j) w f/\dF w c u0/\dF w a u1:=by
 have Z:=iN k t v (w.alloc (.cells #[.int .i64 k,.int .i64 t,.int .i64 v] 37));rw[hg]at Z
 have g1: -1099511627776<=t/\t<=1099511627776:=by simp[au,iG]at hg;omega
 have HJ:=hid h;have hlt:=h.lt;have O6:=h.ltm
 have XW:Hid (∀(W:World) (B:Nat) (u0 u1:Value) (xx:J) (A:Value),bM s=true->Fd w base b d c a u0 u1 xx k t v W->xx.mode=x.mode->W.ownsRow B 130 4 A M.length (M.flatMap ak)->M.length<=300->Calls prog 105 #[.pointer (some ⟨b,0,none⟩),.int .i64 s,.agg #[.int .i64 k,.int .i64 t,.int .i64 v],A] W λe f=>∃u,e=.returned u/\f.ownsRow w.heap.size 95 10 u (bU x.mode s k t v M).length ((bU x.mode s k t v M).flatMap aQ)/\Fd w base b d c a u0 u1 xx k t v f):=by
  intro W B u0 u1 xx A hs m hm hM hl;refine(vJ B b A x.mode s k t v M W (by simpa[bM]using hs) (by rw[<-hm];exact m.here.cells.2.2.1) m.here.lt hM (by omega)).mono ?_;rintro e f ⟨u,rfl,G,r⟩;exact⟨u,rfl,ownsRow_le G m.turned.size,m.below r⟩
 rcases hs with⟨rfl,z,H,hN,gN,E⟩|⟨rfl,z,H,hN,gN,E⟩
 case' inl=>
  have e1:IntKind.i64.wrap (t+x.lo)=t+x.lo:=uk (by omega) (by omega);have e2:IntKind.i64.wrap (t+x.hi)=t+x.hi:=uk (by omega) (by omega);have K:bM 0=true:=rfl
  have el:decide (t<=kW x.m0 x.m1 0)=false:=by simp[kW];omega
  have eo:kW x.m0 x.m1 1=x.m1:=by simp[kW]
  obtain⟨p,l⟩:∃p:J,p={ x with R1:=fo x.R1 (aV k (t+x.lo) x.R1) M.length}:=⟨_,rfl⟩
  have SK:Hid (aaA w base b d c a x p k t v (t+x.lo) (t+x.hi) M 5):=by
   intro W m;refine(AU base b 5 a x.R1 k (t+x.lo) (t+x.hi) W m.here.side1 V (by omega) hN).mono ?_;rintro e f ⟨A,rfl,G,r,R⟩;rw[<-H]at G r;exact⟨A,rfl,G,by rw[l];exact m.meet0 h R r⟩
  obtain⟨C,o⟩:∃C:J,C={ p with R0:=bT x.R0 (aV k (t+1) x.R0) ⟨k,t,v,(M.length:Nat)⟩}:=⟨_,rfl⟩
  have XX:Hid (x.R0.length<300->aaB w base b d c a p C k t v M 4):=by
   intro hl W B A m hM hB;refine(lD base b 4 c x.R0 k t v (M.length:Nat) W (by have:=m.here.side0;rwa [l]at this) T hl (aH F m.turned.size) hg (by omega)).mono ?_;rintro e f ⟨rfl,i,G,r,R⟩;have hF:=m.add0 h.lt (λg e=>(h.r0.lt g e).2) G r R;exact⟨rfl,aam m hM r hB (λg e=>(h.r0.lt g e).2),i,a,by rw[o];exact hF,hF.f0,Or.inl rfl⟩
  have Vl:=hid λ(W:World) (m:Fd w base b d c a c a x k t v W)=>kg base b 4 c x.R0 W m.here.side0
  have EF:M.length<=300:=by rw[H];exact aH (wP _ _ _ _) hL1
  have HX:Hid ((x.m1<t+x.hi->Y=C)/\(¬x.m1<t+x.hi->Y=p)/\p.mode=x.mode/\C.mode=x.mode):=⟨λq=>by rw[z,o,l,H];unfold J.fed0;rw[if_pos q],λq=>by rw[z,l,H];unfold J.fed0;rw[if_neg q],by rw[l],by rw[o,l]⟩;have HC:=hid (Classical.em (x.m1<t+x.hi));have Pe:=trivial
 case' inr=>
  have e1:IntKind.i64.wrap (t+ -x.hi)=t+ -x.hi:=uk (by omega) (by omega);have e2:IntKind.i64.wrap (t+ -x.lo)=t+ -x.lo:=uk (by omega) (by omega);have K:bM 1=true:=rfl
  have el:decide (t<=kW x.m0 x.m1 1)=false:=by simp[kW];omega
  have eo:kW x.m0 x.m1 0=x.m0:=by simp[kW]
  obtain⟨p,l⟩:∃p:J,p={ x with R0:=fo x.R0 (aV k (t+ -x.hi) x.R0) M.length}:=⟨_,rfl⟩
  have SK:Hid (aaA w base b d c a x p k t v (t+ -x.hi) (t+ -x.lo) M 4):=by
   intro W m;refine(AU base b 4 c x.R0 k (t+ -x.hi) (t+ -x.lo) W m.here.side0 T (by omega) hN).mono ?_;rintro e f ⟨A,rfl,G,r,R⟩;rw[<-H]at G r;exact⟨A,rfl,G,by rw[l];exact m.meet1 h R r⟩
  obtain⟨C,o⟩:∃C:J,C={ p with R1:=bT x.R1 (aV k (t+1) x.R1) ⟨k,t,v,(M.length:Nat)⟩}:=⟨_,rfl⟩
  have XX:Hid (x.R1.length<300->aaB w base b d c a p C k t v M 5):=by
   intro hl W B A m hM hB;refine(lD base b 5 a x.R1 k t v (M.length:Nat) W (by have:=m.here.side1;rwa [l]at this) V hl (aH F m.turned.size) hg (by omega)).mono ?_;rintro e f ⟨rfl,i,G,r,R⟩;have hF:=m.add1 h.lt (λg e=>(h.r1.lt g e).2) G r R;exact⟨rfl,aam m hM r hB (λg e=>(h.r1.lt g e).2),c,i,by rw[o];exact hF,Or.inl rfl,hF.f1⟩
  have Vl:=hid λ(W:World) (m:Fd w base b d c a c a x k t v W)=>kg base b 5 a x.R1 W m.here.side1
  have EF:M.length<=300:=by rw[H];exact aH (wP _ _ _ _) hL0
  have HX:Hid ((x.m0<t+ -x.lo->Y=C)/\(¬x.m0<t+ -x.lo->Y=p)/\p.mode=x.mode/\C.mode=x.mode):=⟨λq=>by rw[z,o,l,H];unfold J.fed1;rw[if_pos q],λq=>by rw[z,l,H];unfold J.fed1;rw[if_neg q],by rw[l],by rw[o,l]⟩;have HC:=hid (Classical.em (x.m0<t+ -x.lo))
 all_goals
  clear h T V hN gN g1 z H l o;go_enter func45,ntmps45
  go_wp2_with (first
   |(go_at_call 95;refine(bH _ _).mono ?_;rintro e f ⟨rfl,rfl⟩;rw[K])
   |(go_at_call 96;refine Z.mono ?_;rintro e w1 ⟨rfl,hb1⟩;have Q:Hid (fF w k t v w1):=(show fF w k t v w1 from⟨(fC w _).trans (hb1.mono (by simp)),(hb1.block _ (by simp)).trans (eZ _ _)⟩);clear hb1)
   |fail)
  clear Z;have hc1:=(HJ.out.below Q.out.low).cells;have hm1:=(HJ.out.below Q.out.low).marks;have l:=Q.out.cells
  go_region_held3 (λW=>W.cell? ⟨b,3,none⟩=some (.pointer (some ⟨d,0,none⟩))/\W.cell? ⟨w.heap.size,1,none⟩=some (.int .i64 t)/\W.cell? ⟨d,0,none⟩=some (.int .i64 x.m0)/\W.cell? ⟨d,1,none⟩=some (.int .i64 x.m1)) (first|(go_keep;done)|fail) (first
   |(go_at_call 97;refine(gB d x.m0 x.m1 _ t _ ?_ ?_).mono ?_;(go_simp);(go_simp);rintro e f ⟨rfl,rfl⟩;rw[el])
   |fail)
  go_wp2_with (first
   |(go_at_call 99;(first|(have _:=Pe;refine(qG b x.lo x.hi _ (by go_simp) (by go_simp)).mono ?_)|(refine(oH b x.lo x.hi _ (by go_simp) (by go_simp) p1 p2 p3 p4).mono ?_));rintro e f ⟨rfl,rfl⟩)
   |fail)
  have N:=hid (show Fd w base b d c a c a x k t v w1.drew.drew from(Fd.drew (Fd.drew ⟨HJ.out.below Q.out.low,Q.out.box,Turned.of_below Q.out.low,Or.inl rfl,Or.inl rfl⟩)));clear hc1 hm1 l Q;revert N;generalize w1.drew.drew=w2;intro N;have hc2:=N.out.here.cells;have hm2:=N.out.here.marks;have o:=N.out.cells
  go_region_held3 (λW=>W.cell? ⟨b,3,none⟩=some (.pointer (some ⟨d,0,none⟩))/\W.cell? ⟨w.heap.size,1,none⟩=some (.int .i64 t)/\W.cell? ⟨d,0,none⟩=some (.int .i64 x.m0)/\W.cell? ⟨d,1,none⟩=some (.int .i64 x.m1)) (first|(go_keep;done)|fail) (first
   |(go_at_call 101;(first|(have _:=Pe;refine(ig _).mono ?_)|(refine(jm _).mono ?_));rintro e f ⟨rfl,rfl⟩)
   |(go_at_call 100;refine(jl d x.m0 x.m1 _ _ ?_ ?_).mono ?_;(go_simp);(go_simp);rintro e f ⟨rfl,rfl⟩;rw[eo])
   |fail)
  have I:=hid (And.intro N.out.drew N.out.drew.drew);clear hc2 hm2 o N
  rcases HC.out with hh|hh
  .have L:=E hh;have i1:=Int.not_le.2 (Int.ofNat_lt.2 L);have S:=I.out.2.cells
   go_wp2_with (first
    |(go_at_call 102;refine(Vl.out _ I.out.1).mono ?_;rintro e f ⟨rfl,rfl⟩)
    |fail)
   go_region_held3 (λW=>W.cell? ⟨w.heap.size,0,none⟩=some (.int .i64 k)/\W.cell? ⟨w.heap.size,1,none⟩=some (.int .i64 t)) (first|(go_keep;done)|fail) (first
    |(go_at_call 101;(first|(have _:=Pe;refine(ig _).mono ?_)|(refine(jm _).mono ?_));rintro e f ⟨rfl,rfl⟩)
    |(go_at_call 103;refine(SK.out _ I.out.2).mono ?_;rintro e w4 ⟨A,rfl,P,U⟩;have hx4:=U.cells;have F5:=hid U;have M4:=hid (ownsRow_le P I.out.2.turned.size);obtain⟨Vm,cm,Vn⟩:=jq P;subst Vn;clear P U)
    |fail)
   clear S I SK;have F6:=hid (And.intro F5.out.drew (aL M4.out (iL _ _).drew))
   have i3:(M.length:Int)<=300:=by omega
   go_wp2
   go_region_held3 (λW=>W.cell? ⟨w.heap.size,0,none⟩=some (.int .i64 k)/\W.cell? ⟨w.heap.size,1,none⟩=some (.int .i64 t)/\W.cell? ⟨w.heap.size,2,none⟩=some (.int .i64 v)) (first|(go_keep;done)|fail) (first
    |(go_at_call 104;refine(XX.out L _ _ _ F6.out.1 F6.out.2 (aC _)).mono ?_;rintro e w5 ⟨rfl,XY,u0,u1,h5,hf5⟩;have hx5:=h5.cells;have F7:=hid (And.intro h5 (And.intro XY hf5));clear h5 XY hf5)
    |fail)
   clear hx4 F5 F6 XX
   go_wp2_with (first
    |(go_at_call 105;refine(XW.out _ _ _ _ _ _ K F7.out.1 HX.out.2.2.2 F7.out.2.1 EF).mono ?_;rintro e w6 ⟨u,rfl,h6,h7⟩;have X:=hid (And.intro h6 h7);clear h6 h7)
    |fail)
   refine ja (v:= .tuple #[u,.nilIface]) (by simp[results,Tryz.results45,go_sem]) rfl ⟨u,u0,u1,rfl,?_,X.out.1,X.out.2.turned,F7.out.2.2⟩;rw[HX.out.1 hh];exact X.out.2.here
  .have S:=I.out.2.cells;go_wp2
   go_region_held3 (λW=>W.cell? ⟨w.heap.size,0,none⟩=some (.int .i64 k)/\W.cell? ⟨w.heap.size,1,none⟩=some (.int .i64 t)) (first|(go_keep;done)|fail) (first
    |(go_at_call 101;(first|(have _:=Pe;refine(ig _).mono ?_)|(refine(jm _).mono ?_));rintro e f ⟨rfl,rfl⟩)
    |(go_at_call 103;refine(SK.out _ I.out.2).mono ?_;rintro e w4 ⟨A,rfl,P,U⟩;have hx4:=U.cells;have F5:=hid U;have M4:=hid (ownsRow_le P I.out.2.turned.size);obtain⟨Vm,cm,Vn⟩:=jq P;subst Vn;clear P U)
    |fail)
   clear S I SK
   go_wp2_with (first
    |(go_at_call 105;refine(XW.out _ _ _ _ _ _ K F5.out HX.out.2.2.1 M4.out EF).mono ?_;rintro e w6 ⟨u,rfl,h6,h7⟩;have X:=hid (And.intro h6 h7);clear h6 h7)
    |fail)
   refine ja (v:= .tuple #[u,.nilIface]) (by simp[results,Tryz.results45,go_sem]) rfl ⟨u,c,a,rfl,?_,X.out.1,X.out.2.turned,Or.inl rfl,Or.inl rfl⟩;rw[HX.out.2.1 hh];exact X.out.2.here
end
end Go.Proofs.YthfpipieboophaaGreatDoor
