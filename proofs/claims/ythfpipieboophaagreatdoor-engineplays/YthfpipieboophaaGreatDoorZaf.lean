import Derived.Deep.RegionLaw
import Derived.Laws.AppendOwnNone
import Derived.Lib.SliceRun
import Derived.Test.YthfpipieboophaaGreatDoorZab
namespace Go.Proofs.YthfpipieboophaaGreatDoor
set_option maxRecDepth 100000
set_option maxHeartbeats 40000000
open Go.RowKit
section
open Go.Proofs.Tryz Go.Joins
variable {W w:World} {base b o:Nat} {v:Value}
structure D where
 k:Int
 t:Int
 v:Int
 n:Int
 deriving DecidableEq,Inhabited
def ak (x:D):List Value:=[.int .i64 x.k,.int .i64 x.t,.int .i64 x.v,.int .i64 x.n]
def vD (x:D):Value:= .agg #[.int .i64 x.k,.int .i64 x.t,.int .i64 x.v,.int .i64 x.n]
def zD:Value:= .agg #[.int .i64 0,.int .i64 0,.int .i64 0,.int .i64 0]
theorem bS (x:D):(ak x).length=4:=rfl
theorem xm:(prog.info? 130).map (fun i=>(i.zero,i.size,i.bytes))=some (some zD,4,32):=by kernel_rfl
theorem gG (xs:List D):(xs.flatMap ak).length=xs.length * 4:=by
 induction xs with
 | nil=>rfl
 | cons a r ih=>rw[List.flatMap_cons,List.length_append,ih,bS,List.length_cons];omega
theorem mo (x:D):∀u∈ak x,u.oneCell'=true:=by
 intro u hu;simp[ak] at hu;rcases hu with rfl | rfl | rfl | rfl <;>rfl
theorem uQ (R:List D):∀u∈R.flatMap ak,u.oneCell'=true:=by
 intro u hu;obtain⟨x,_,h⟩:=List.mem_flatMap.1 hu;exact mo x u h
theorem MG (xs:List D) (k j:Nat) (x:D) (hx:xs[k]? =some x) (hj:j < 4):(xs.flatMap ak)[k * 4+j]? =(ak x)[j]? :=by
 induction xs generalizing k with
 | nil=>simp at hx
 | cons a r ih=>
  rw[List.flatMap_cons]
  cases k with
  | zero=>
   simp at hx;subst hx;rw[List.getElem?_append_left (by rw[bS];omega)];congr 1;omega
  | succ k=>
   rw[List.getElem?_append_right (by rw[bS];omega),bS,show(k+1) * 4+j -4=k * 4+j by omega];exact ih k (by simpa using hx)
theorem jo {gs n ck:Nat} {xs:List D} (h:W.ownsRow base 130 4 (.slice (some ⟨gs,0,none⟩) n ck) n (xs.flatMap ak)) (k:Nat) (x:D) (hx:xs[k]? =some x):
  W.cell? ⟨gs,k * 4,none⟩=some (.int .i64 x.k)∧W.cell? ⟨gs,k * 4+1,none⟩=some (.int .i64 x.t)∧W.cell? ⟨gs,k * 4+2,none⟩=some (.int .i64 x.v)∧W.cell? ⟨gs,k * 4+3,none⟩=some (.int .i64 x.n):=by
 have key:=fun(j:Nat) (v:Value) (hj:j < 4) (hv:(ak x)[j]? =some v)=>h.cells (g:=gs) rfl (k * 4+j) v ((MG xs k j x hx hj).trans hv)
 simp only[bZ] at key;exact⟨key 0 _ (by omega) rfl,key 1 _ (by omega) rfl,key 2 _ (by omega) rfl,key 3 _ (by omega) rfl⟩
structure bB (w:World) (base b o:Nat) (v:Value) (R:List D):Prop where
 blk:∃cs T,w.heap[b]? =some (.cells cs T)∧cs[o]? =some v
 row:w.ownsRow base 130 4 v R.length (R.flatMap ak)
 own:v.ownBlock≠some b
theorem bB.lt {R:List D} (h:bB w base b o v R):b < w.heap.size:=by
 obtain⟨cs,T,h1,_⟩:=h.blk;exact(Array.getElem?_eq_some_iff.1 h1).1
theorem bB.cell {R:List D} (h:bB w base b o v R):w.cell? ⟨b,o,none⟩=some v∧w.frozen? ⟨b,o,none⟩=false:=by
 obtain⟨cs,T,h1,h2⟩:=h.blk;exact⟨by rw[cell_of_block h1];exact h2,unfrozen_of_block h1 o⟩
theorem bB.below {w':World} {R:List D} (h:bB w base b o v R) (hb:Below w.heap.size w w'):bB w' base b o v R:=by
 have hl:=h.lt;obtain⟨cs,T,h1,h2⟩:=h.blk;exact⟨⟨cs,T,(hb.block _ hl).trans h1,h2⟩,aL h.row hb,h.own⟩
theorem bB.form {R:List D} (h:bB w base b o v R):∃oa c,v= .slice oa R.length c:=by
 rcases h.row.2 with⟨rfl,h0⟩ | ⟨g,cap,cur,rfl,_⟩
 ·exact⟨none,0,by rw[h0]⟩
 ·exact⟨_,_,rfl⟩
theorem kg (base b o:Nat) (v:Value) (R:List D) (w:World) (h:bB w base b o v R):
  Calls prog 102 #[.pointer (some ⟨b,o,none⟩)] w fun e w'=>e= .returned (.int .i64 R.length)∧w'=w:=by
 have hc:=h.cell;obtain⟨oa,c,rfl⟩:=h.form;clear h;go_enter func102,ntmps102;go_wp2;go_ret;exact⟨rfl,rfl⟩
def bR (n:Int):Int:=if n=9223372036854775807 then n else n+1
theorem FW (n:Int) (w:World) (h1: -9223372036854775808<=n) (h2:n<=9223372036854775807):Calls prog 172 #[.int .i64 n] w fun e w'=>e= .returned (.int .i64 (bR n))∧w'=w:=by
 by_cases e:n=9223372036854775807
 ·subst e;go_enter func172,ntmps172;go_wp2;go_ret;exact⟨rfl,rfl⟩
 ·have hm:bR n=n+1:=by simp[bR,e]
  have he:(n==9223372036854775807)=false:=by simp[e]
  have h3:n < 9223372036854775807:=by omega
  rw[hm];clear hm;go_enter func172,ntmps172;go_wp2;go_ret;exact⟨rfl,rfl⟩
theorem IZ (hb:base<=W.heap.size):(W.alloc (.cells #[] 130)).ownsRow base 130 4 (.slice (some ⟨W.heap.size,0,none⟩) 0 0) 0 []:=
 ⟨rfl,.inr ⟨W.heap.size,0,#[],rfl,hb,heap_alloc_new _ _,Nat.le_refl _,Nat.zero_le _,rfl,rfl⟩⟩
theorem qR {P:Program} (w:World) {ops:Array Oper} {rest:List Oper} {o:Oper} {a:Act} {Q:Exit->Act->World->Prop} (hgd:o.guard=none) (s x:Operand) (t:TypeId)
  (ho:o.op= .call { callee:= .builtin .append,args:= #[s,x],argTypes:= #[t,t]})
  (base:Nat) (e:TypeId) (i:TypeInfo) (z:Value) (size bytes:Nat) (ht:P.underlying t=some (.slice e)) (hi:P.info? e=some i) (hz:i.zero=some z)
  (hsize:i.size=size) (hby:i.bytes=bytes) (hzs:z.cells.size=size) (hsz:0 < size)
  (g0 c0 n:Nat) (xs:List Value) (hs:a.eval s= .slice (some ⟨g0,0,none⟩) n c0) (hown:w.ownsRow base e size (.slice (some ⟨g0,0,none⟩) n c0) n xs)
  (ad:Addr) (m c:Nat) (news:List Value) (hx:a.eval x= .slice (some ad) m c) (hl:news.length=m * size) (hnews:∀j u,news[j]? =some u->w.cell? (ad.add j)=some u) (h1:∀u∈news,u.oneCell'=true)
  (h63:n+m<=maxLen) (hbytes:(n+m) * bytes<=140737488355328) (hbase:base<=w.heap.size)
  (h:∀g cap w',w'.ownsRow base e size (.slice (some ⟨g,0,none⟩) (n+m) cap) (n+m) (xs++news)->w.grownBy w' (some g0)->(g=g0∨g=w.heap.size)->wpList P ops Q rest (a.put o.dst (.slice (some ⟨g,0,none⟩) (n+m) cap)) w'):wpList P ops Q (o::rest) a w:=by
 refine wpList_plain hgd fun _ hK=> ?_
 obtain⟨v',w',hr,h2,h3,h4,h5⟩:=run_append_own_at (P:=P) w base t o.type e i z size bytes ht hi hz hsize hby hzs hsz _ n xs hown ad m c news hl hnews h1 h63 hbytes hbase
 rcases h2.2 with⟨rfl,_⟩ | ⟨g,cap,cur,rfl,_⟩
 ·have :=(h4.1 rfl).1;cases this
 ·unfold Oper.wp execOp;simp only[ho,resolve,invoke,builtin,Sem.run_bind,Sem.run_pure,Result.andThen_ok,List.map_toArray,List.map_cons,List.map_nil,hs,hx,hr];refine hK _ _ (h g cap w' h2 h3 ?_);simpa[Value.ownBlock] using h5
theorem QV (w:World):(binOp .eql 67 (.slice none 0 0) (.slice none 0 0)).run prog w= .ok (.bool true) w:=by kernel_rfl
theorem MH (a:Addr) (n c:Nat) (w:World):(binOp .eql 67 (.slice (some a) n c) (.slice none 0 0)).run prog w= .ok (.bool false) w:=by kernel_rfl
theorem MI (base:Nat) (v:Value) (R:List D) (w:World) (h:w.ownsRow base 130 4 v R.length (R.flatMap ak)) (hR:R.length<=100000):
  Calls prog 189 #[v] w fun e w'=>∃v',e= .returned v'∧w'.ownsRow w.heap.size 130 4 v' R.length (R.flatMap ak)∧Below w.heap.size w w':=by
 obtain⟨i0,hi,hz0,hz1,hz2⟩:=info_parts xm
 rcases ownsRow_forms h with⟨rfl,h0⟩ | ⟨gs,ck,rfl⟩
 ·obtain rfl:R=[]:=List.eq_nil_of_length_eq_zero h0;clear h h0;have hq:=QV;go_enter func189,ntmps189;go_wp2;go_ret;exact⟨_,rfl,World.ownsRow_nil _ _ _ _,Below.refl _ _⟩
 ·have HE:Hid ((w.alloc (.cells #[] 130)).ownsRow w.heap.size 130 4 (.slice (some ⟨w.heap.size,0,none⟩) 0 0) 0 []):=IZ (Nat.le_refl _)
  have HN:Hid (∀j u,(R.flatMap ak)[j]? =some u->(w.alloc (.cells #[] 130)).cell? ((⟨gs,0,none⟩:Addr).add j)=some u):=fun j u hu=>
   (aL h (below_alloc1 w (.cells #[] 130))).cells (g:=gs) rfl j u hu
  clear h;have hq:=MH ⟨gs,0,none⟩ R.length ck;go_enter func189,ntmps189
  go_wp2_with (first
   | (refine qR _ rfl _ _ _ rfl w.heap.size 130 i0 zD 4 32 underlying67 hi hz0 hz1 hz2 rfl (by omega) w.heap.size 0 0 [] rfl HE.out ⟨gs,0,none⟩ R.length ck (R.flatMap ak) rfl (gG R) HN.out (uQ R) (by unfold maxLen;omega) (by omega) (by simp) ?_;intro g1 oL w1 hown1 hgrow1 wF)
   | fail)
  go_ret;rw[Nat.zero_add,List.nil_append] at hown1;refine⟨_,rfl,?_,(below_alloc1 w _).grown hgrow1 (by simp) (fun k e=>by cases e;exact Nat.le_refl _)⟩
  first | exact hown1 | simpa using hown1
theorem EG (base b o:Nat) (v:Value) (R:List D) (w:World) (h:bB w base b o v R) (hR:R.length<=100000):
  Calls prog 116 #[.pointer (some ⟨b,o,none⟩)] w fun e w'=>∃v',e= .returned v'∧w'.ownsRow w.heap.size 130 4 v' R.length (R.flatMap ak)∧Below w.heap.size w w':=by
 have hc:=h.cell;have hcl:=MI base v R w h.row hR;clear h;go_enter func116,ntmps116
 go_wp2_with (go_at_call 189;refine hcl.mono ?_;rintro e w' ⟨v',rfl,h1,h2⟩)
 go_ret;exact⟨v',rfl,h1,h2⟩
end
section
open Go.Proofs.Tryz Go.Joins Go.Shelf
variable {x:D} {R:List D}
theorem Ja (g:Nat) (cb:Array Value) (n:Nat) (p:Nat->Bool) (w:World) (eg:∀args w,(callFunc g args).run prog w= .ok (.enter g args) w) (hn:n<=1000000)
  (hf:∀(W:World) (i:Nat),Below w.heap.size w W->i < n->Calls prog g (#[.int .i64 i]++cb) W fun e w'=>e= .returned (.bool (p i))∧Below W.heap.size W w')
  (hmono:∀a b,a<=b->b < n->p a=true->p b=true):
  Calls prog 243 #[.int .i64 n,.func (.func g) #[] cb] w fun e w'=>∃r:Nat,e= .returned (.int .i64 r)∧r<=n∧(∀t,t < r->p t=false)∧(∀t,r<=t->t < n->p t=true)∧Below w.heap.size w w':=by
 have HF:=hid hf;have HM:=hid hmono
 have i1:(n:Int)<=1000000:=by omega
 clear hf hmono;go_enter func243,ntmps243;go_wp2
 go_loopg [5,6] n (fun kx s5 s6 wr=>∃(lo hi:Nat),s5= .int .i64 lo∧s6= .int .i64 hi∧lo<=hi∧hi<=n∧hi -lo<=kx∧Hid ((∀t,t < lo->p t=false)∧(∀t,hi<=t->t < n->p t=true)∧Below w.heap.size w wr))
 case atStart=>exact⟨0,n,rfl,rfl,Nat.zero_le _,Nat.le_refl _,by omega,⟨fun t ht=>absurd ht (Nat.not_lt_zero _),fun t h1 h2=>by omega,Below.refl _ _⟩⟩
 case round=>
  obtain⟨lo,hi,rfl,rfl,hlh,hin,hg,I⟩:=hrel;have HG:=hid hg;clear hg
  by_cases hlt:lo < hi
  ·have k1:(lo:Int) < (hi:Int):=by omega
   have k2:(hi:Int)<=1000000:=by omega
   have hl:=HF.out wr ((lo+hi)/2) I.out.2.2 (by omega);rw[show(((lo+hi)/2:Nat):Int)=((lo:Int)+(hi:Int))/2 by omega] at hl;go_wp2_with fail;refine hl.mono ?_;rintro e w3 ⟨rfl,hb3⟩;have B3:Hid (Below w.heap.size w w3):=I.out.2.2.trans (hb3.mono I.out.2.2.size);clear hl hb3;cases hp:p ((lo+hi)/2)
   ·have I2:Hid ((∀t,t < (lo+hi)/2+1->p t=false)∧(∀t,hi<=t->t < n->p t=true)∧Below w.heap.size w w3):=⟨fun t ht=>(by
     cases h:p t with
     | false=>rfl
     | true=>have :=HM.out t ((lo+hi)/2) (by omega) (by omega) h;rw[hp] at this;cases this),I.out.2.1,B3.out⟩
    clear hp;go_wp2
    go_roundg (hi -((lo+hi)/2+1))
    case measure=>have :=HG.out;omega
    case rel=>exact⟨(lo+hi)/2+1,hi,by first | rfl | (congr 1;omega) | go_num,rfl,by omega,hin,Nat.le_refl _,I2⟩
   ·have I2:Hid ((∀t,t < lo->p t=false)∧(∀t,(lo+hi)/2<=t->t < n->p t=true)∧Below w.heap.size w w3):=⟨I.out.1,fun t ht htn=>HM.out ((lo+hi)/2) t ht htn hp,B3.out⟩;clear hp;go_wp2
    go_roundg ((lo+hi)/2 -lo)
    case measure=>have :=HG.out;omega
    case rel=>exact⟨lo,(lo+hi)/2,rfl,by first | rfl | (congr 1;omega) | go_num,by omega,by omega,Nat.le_refl _,I2⟩
  ·have k1:¬((lo:Int) < (hi:Int)):=by omega
   go_wp2;go_ret;refine⟨lo,rfl,by omega,I.out.1,fun t h1 h2=>I.out.2.1 t (by omega) h2,I.out.2.2⟩
def aX (key time:Int) (x:D):Bool:=decide (x.k < key∨(x.k=key∧x.t < time))
def ay (R:List D):Prop:=R.Pairwise fun a b=>a.k < b.k∨(a.k=b.k∧a.t<=b.t)
theorem bI {key time:Int}:aX key time x=false↔(key < x.k∨(x.k=key∧time<=x.t)):=by
 simp only[aX,decide_eq_false_iff_not];omega
theorem Jb (base b o bs bk bt:Nat) (v:Value) (R:List D) (key time:Int) (i:Nat) (x:D) (w:World) (h:bB w base b o v R) (hx:R[i]? =some x)
  (h1:w.cell? ⟨bs,0,none⟩=some (.pointer (some ⟨b,o,none⟩))) (h2:w.cell? ⟨bk,0,none⟩=some (.int .i64 key)) (h3:w.cell? ⟨bt,0,none⟩=some (.int .i64 time)) (hbk:bk < w.heap.size) (hbt:bt < w.heap.size):
  Calls prog 244 #[.int .i64 i,.pointer (some ⟨bs,0,none⟩),.pointer (some ⟨bk,0,none⟩),.pointer (some ⟨bt,0,none⟩)] w fun e w'=>e= .returned (.bool (!aX key time x))∧Below w.heap.size w w':=by
 have hc:=h.cell;have hi:i < R.length:=(List.getElem?_eq_some_iff.1 hx).1;obtain⟨gs,ck,rfl⟩:=ownsRow_form h.row (by omega);have hr:=jo h.row i x hx;have hgs:gs < w.heap.size:=(h.row.lt gs rfl).2
 have i1:(0:Int)<=(i:Int):=by omega
 have i2:(i:Int) < (R.length:Int):=by omega
 have hlt:=h.lt;clear h hx
 by_cases c1:key < x.k
 ·have hv:aX key time x=false:=bI.2 (Or.inl c1);rw[hv];clear hv;go_enter func244,ntmps244;go_wp2;go_ret;exact⟨rfl,below_alloc1 _ _⟩
 ·have c1':¬key < x.k:=c1
  by_cases c2:x.k=key
  ·subst c2
   by_cases c3:time<=x.t
   ·have hv:aX x.k time x=false:=bI.2 (Or.inr ⟨rfl,c3⟩);rw[hv];clear hv;go_enter func244,ntmps244;go_wp2;go_ret;exact⟨rfl,below_alloc1 _ _⟩
   ·have hv:aX x.k time x=true:=by
     cases h:aX x.k time x with
     | true=>rfl
     | false=>rcases bI.1 h with h | h <;>omega
    have c3':¬time<=x.t:=c3;rw[hv];clear hv;go_enter func244,ntmps244;go_wp2;go_ret;exact⟨rfl,below_alloc1 _ _⟩
  ·have hv:aX key time x=true:=by
    cases h:aX key time x with
    | true=>rfl
    | false=>rcases bI.1 h with h | h <;>omega
   have c2':(x.k==key)=false:=by simp[c2]
   rw[hv];clear hv;go_enter func244,ntmps244;go_wp2;go_ret;exact⟨rfl,below_alloc1 _ _⟩
def aV (key time:Int) (R:List D):Nat:=R.countP (aX key time)
theorem Jc (h:ay R) (key time:Int) {i j:Nat} {y:D} (hij:i<=j) (hx:R[i]? =some x) (hy:R[j]? =some y) (hp:aX key time x=false):aX key time y=false:=by
 by_cases e:i=j
 ·subst e;rw[hx] at hy;cases hy;exact hp
 ·obtain⟨h1,e1⟩:=List.getElem?_eq_some_iff.1 hx;obtain⟨h2,e2⟩:=List.getElem?_eq_some_iff.1 hy;have :=List.pairwise_iff_getElem.1 h i j h1 h2 (by omega);rw[e1,e2] at this;rw[bI] at *;omega
theorem WC (key time:Int) (r:Nat) (hr:r<=R.length) (h1:∀t x,t < r->R[t]? =some x->aX key time x=true) (h2:∀t x,r<=t->R[t]? =some x->aX key time x=false):aV key time R=r:=by
 unfold aV;rw[<-List.take_append_drop r R,List.countP_append]
 have a1:(R.take r).countP (aX key time)=r:=by
  rw[List.countP_eq_length.2]
  ·rw[List.length_take];omega
  ·intro x hx;obtain⟨t,ht,e⟩:=List.mem_iff_getElem.1 hx;rw[List.length_take] at ht;rw[List.getElem_take] at e;exact h1 t x (by omega) (by rw[List.getElem?_eq_getElem (by omega),e])
 have a2:(R.drop r).countP (aX key time)=0:=by
  rw[List.countP_eq_zero];intro x hx;obtain⟨t,ht,e⟩:=List.mem_iff_getElem.1 hx;rw[List.length_drop] at ht;rw[List.getElem_drop] at e;rw[h2 (r+t) x (by omega) (by rw[List.getElem?_eq_getElem (by omega),e])];simp
 omega
theorem QW (key time:Int) (R:List D):aV key time R<=R.length:=List.countP_le_length
theorem oW (w:World) (p:Value) (key time:Int):
  (((w.alloc (.cells #[p] 251)).alloc (.cells #[.int .i64 key] 3)).alloc (.cells #[.int .i64 time] 3)).cell? ⟨w.heap.size,0,none⟩=some p∧
  (((w.alloc (.cells #[p] 251)).alloc (.cells #[.int .i64 key] 3)).alloc (.cells #[.int .i64 time] 3)).cell? ⟨w.heap.size+1,0,none⟩=some (.int .i64 key)∧
  (((w.alloc (.cells #[p] 251)).alloc (.cells #[.int .i64 key] 3)).alloc (.cells #[.int .i64 time] 3)).cell? ⟨w.heap.size+1+1,0,none⟩=some (.int .i64 time):=by
 have h2:=heap_alloc_new (w.alloc (.cells #[p] 251)) (.cells #[.int .i64 key] 3);have h3:=heap_alloc_new ((w.alloc (.cells #[p] 251)).alloc (.cells #[.int .i64 key] 3)) (.cells #[.int .i64 time] 3);simp only[World.size_alloc] at h2 h3;refine⟨?_,?_,?_⟩
 ·rw[cell_of_block (((Below.heap_alloc _ _ _ (by simp;omega)).trans (Below.heap_alloc _ _ _ (by simp))).trans (heap_alloc_new _ _))];rfl
 ·rw[cell_of_block ((Below.heap_alloc _ _ _ (by simp)).trans h2)];rfl
 ·rw[cell_of_block h3];rfl
theorem BG (base b o:Nat) (v:Value) (R:List D) (key time:Int) (w:World) (h:bB w base b o v R) (hs:ay R) (hR:R.length<=100000):
  Calls prog 171 #[.pointer (some ⟨b,o,none⟩),.int .i64 key,.int .i64 time] w fun e w'=>e= .returned (.int .i64 (aV key time R))∧Below w.heap.size w w':=by
 have hc:=h.cell;have hlt:=h.lt;obtain⟨oa,cv,rfl⟩:=h.form;have eg:∀args w,(callFunc 244 args).run prog w= .ok (.enter 244 args) w:=enters_of func244 (by kernel_rfl) rfl
 have hs3:=Ja 244 #[.pointer (some ⟨w.heap.size,0,none⟩),.pointer (some ⟨w.heap.size+1,0,none⟩),.pointer (some ⟨w.heap.size+1+1,0,none⟩)] R.length (fun i=>match R[i]? with | some x=> !aX key time x | none=>true)
  (((w.alloc (.cells #[.pointer (some ⟨b,o,none⟩)] 251)).alloc (.cells #[.int .i64 key] 3)).alloc (.cells #[.int .i64 time] 3)) eg (by omega) (by
   intro W i hW hi;obtain⟨x,hx⟩:∃x,R[i]? =some x:=⟨_,List.getElem?_eq_getElem hi⟩;have hB:Below w.heap.size w (((w.alloc (.cells #[.pointer (some ⟨b,o,none⟩)] 251)).alloc (.cells #[.int .i64 key] 3)).alloc (.cells #[.int .i64 time] 3)):=(((Below.refl _ _).alloc (by simp) _).alloc (by simp) _).alloc (by simp;omega) _;have hsz:=hW.size;simp only[World.size_alloc] at hsz;have hS:bB W base b o (.slice oa R.length cv) R:=(h.below hB).below hW;simp only[hx];refine Jb base b o w.heap.size (w.heap.size+1) (w.heap.size+1+1) _ R key time i x W hS hx ?_ ?_ ?_ (by omega) (by omega)
   ·exact(hW.cell (p:=⟨w.heap.size,0,none⟩) (by simp;omega)).trans (oW w _ _ _).1
   ·exact(hW.cell (p:=⟨w.heap.size+1,0,none⟩) (by simp)).trans (oW w _ _ _).2.1
   ·exact(hW.cell (p:=⟨w.heap.size+1+1,0,none⟩) (by simp)).trans (oW w _ _ _).2.2) (by
   intro i j hij hj hp;obtain⟨x,hx⟩:∃x,R[i]? =some x:=⟨_,List.getElem?_eq_getElem (by omega)⟩;obtain⟨y,hy⟩:∃y,R[j]? =some y:=⟨_,List.getElem?_eq_getElem hj⟩;simp only[hx,Bool.not_eq_true'] at hp;simp only[hy,Bool.not_eq_true']
   exact Jc hs key time hij hx hy hp)
 have hs4:Calls prog 243 #[.int .i64 R.length,.func (.func 244) #[] #[.pointer (some ⟨w.heap.size,0,none⟩),.pointer (some ⟨w.heap.size+1,0,none⟩),.pointer (some ⟨w.heap.size+1+1,0,none⟩)]] (((w.alloc (.cells #[.pointer (some ⟨b,o,none⟩)] 251)).alloc (.cells #[.int .i64 key] 3)).alloc (.cells #[.int .i64 time] 3)) fun e w'=>e= .returned (.int .i64 (aV key time R))∧Below w.heap.size w w':=by
  refine hs3.mono ?_;rintro e w' ⟨r,rfl,hr,h1,h2,hB⟩
  have e1:aV key time R=r:=WC key time r hr (fun t x ht hx=>by have :=h1 t ht;simp only[hx] at this;simpa using this) (fun t x ht hx=>by
   have :=h2 t ht (List.getElem?_eq_some_iff.1 hx).1;simp only[hx] at this;simpa using this)
  have hB0:Below w.heap.size w (((w.alloc (.cells #[.pointer (some ⟨b,o,none⟩)] 251)).alloc (.cells #[.int .i64 key] 3)).alloc (.cells #[.int .i64 time] 3)):=(((Below.refl _ _).alloc (by simp) _).alloc (by simp) _).alloc (by simp;omega) _;exact⟨by rw[e1],hB0.trans (hB.mono (by simp;omega))⟩
 have hc3:=(h.below (show Below w.heap.size w (((w.alloc (.cells #[.pointer (some ⟨b,o,none⟩)] 251)).alloc (.cells #[.int .i64 key] 3)).alloc (.cells #[.int .i64 time] 3)) from(((Below.refl _ _).alloc (by simp) _).alloc (by simp) _).alloc (by simp;omega) _)).cell;clear h hs3;go_enter func171,ntmps171
 go_wp2_with (go_at_call 243;refine hs4.mono ?_;rintro e w' ⟨rfl,hb⟩)
 go_ret;exact⟨rfl,hb⟩
end
section
open Go.Proofs.Tryz Go.Joins Go.Shelf
variable {W:World} {base g n cap size:Nat} {e:TypeId} {xs:List Value}
def ni (xs:List Value):Nat->List Value->List Value
 | _,[]=>xs
 | o,v::r=>ni (xs.set o v) (o+1) r
theorem MJ (vs:List Value):∀(xs:List Value) (o k:Nat),k<=o->(ni xs o vs).take k=xs.take k:=by
 induction vs with
 | nil=>intro xs o k _;rfl
 | cons v r ih=>
  intro xs o k hk;rw[ni,ih _ _ _ (by omega),List.take_set_of_le hk]
theorem vW (h:W.ownsRow base e size (.slice (some ⟨g,0,none⟩) n cap) n xs) (j:Nat) (u:Value):
  (W.setCell ⟨g,j,none⟩ u).ownsRow base e size (.slice (some ⟨g,0,none⟩) n cap) n (xs.set j u):=by
 rcases h.2 with⟨h1,_⟩ | ⟨g',cap',cur,h1,hb,hg,h2,h3,h4,h5⟩
 ·cases h1
 ·cases h1;refine⟨by rw[List.length_set];exact h.1,.inr ⟨g,cap,cur.setIfInBounds j u,rfl,hb,block_setCell hg u,h2,h3,by simp[h4],?_⟩⟩;rw[Array.toList_setIfInBounds,<-h5,List.take_set]
theorem gH (vs:List Value):∀{W:World} {xs:List Value} (o:Nat),W.ownsRow base e size (.slice (some ⟨g,0,none⟩) n cap) n xs->
  (W.setCells g o vs).ownsRow base e size (.slice (some ⟨g,0,none⟩) n cap) n (ni xs o vs):=by
 induction vs with
 | nil=>intro W xs o h;exact h
 | cons v r ih=>intro W xs o h;exact ih (o+1) (vW h o v)
theorem Jd (h:W.ownsRow base e size (.slice (some ⟨g,0,none⟩) n cap) n xs) (i:Nat) (hi:i<=n):
  W.ownsRow base e size (.slice (some ⟨g,0,none⟩) i cap) i (xs.take (i * size)):=by
 rcases h.2 with⟨h1,_⟩ | ⟨g',cap',cur,h1,hb,hg,h2,h3,h4,h5⟩
 ·cases h1
 ·cases h1;have hm:i * size<=n * size:=Nat.mul_le_mul_right _ hi;refine⟨by rw[List.length_take,h.1];omega,.inr ⟨g,cap,cur,rfl,hb,hg,by omega,h3,h4,?_⟩⟩;rw[<-h5,List.take_take,Nat.min_eq_left hm]
theorem qU (M:List D) (i:Nat):(M.take i).flatMap ak=(M.flatMap ak).take (i * 4):=by
 induction M generalizing i with
 | nil=>simp
 | cons a r ih=>
  cases i with
  | zero=>simp
  | succ i=>
   rw[List.take_succ_cons,List.flatMap_cons,List.flatMap_cons,ih,List.take_append,bS,List.take_of_length_le (l:=ak a) (by rw[bS];omega),show(i+1) * 4 -4=i * 4 by omega]
theorem MK (R:List D) (i:Nat) (x:D):(R.set i x).flatMap ak=ni (R.flatMap ak) (i * 4) (ak x)∨R.length<=i:=by
 by_cases h:R.length<=i
 ·exact Or.inr h
 ·left
  induction R generalizing i with
  | nil=>simp at h
  | cons a r ih=>
   cases i with
   | zero=>simp[ni,ak]
   | succ i=>
    have hh:=ih i (by simpa using h);rw[List.set_cons_succ,List.flatMap_cons,List.flatMap_cons,hh];simp[ni,ak,show(i+1) * 4=i * 4+1+1+1+1 by omega]
theorem ML {R:List D} (h:W.ownsRow base 130 4 (.slice (some ⟨g,0,none⟩) n cap) n (R.flatMap ak)) (i:Nat) (x:D) (hi:i < R.length):
  ((((W.setCell ⟨g,i * 4,none⟩ (.int .i64 x.k)).setCell ⟨g,i * 4+1,none⟩ (.int .i64 x.t)).setCell ⟨g,i * 4+2,none⟩ (.int .i64 x.v)).setCell ⟨g,i * 4+3,none⟩ (.int .i64 x.n)).ownsRow base 130 4 (.slice (some ⟨g,0,none⟩) n cap) n ((R.set i x).flatMap ak):=by
 rcases MK R i x with e | e
 ·rw[e];exact gH (ak x) (i * 4) h
 ·omega
theorem wH {P:Program} (w:World) (t e ty:TypeId) (z:Value) (ht:P.underlying t=some (.slice e)) (hv:∀w,(zeroValue e).run P w= .ok z w) (b o n c:Nat) (hn:0 < n) (h1:∀v∈(Builtin.zeroCells z.cells n).toList,v.oneCell'=true)
  (hc:∀j,j < (Builtin.zeroCells z.cells n).toList.length->(w.cell? ⟨b,o+j,none⟩).isSome=true) (hf:∀j,j < (Builtin.zeroCells z.cells n).toList.length->w.frozen? ⟨b,o+j,none⟩=false):
  (Builtin.clear_ #[t] ty #[.slice (some ⟨b,o,none⟩) n c]).run P w= .ok (.tuple #[]) (w.setCells b o (Builtin.zeroCells z.cells n).toList):=by
 have hst:=run_storeCells_cells (P:=P) b o (Builtin.zeroCells z.cells n).toList 0 w (by simpa using hc) (by simpa using hf) h1;simp only[Nat.add_zero] at hst;obtain⟨m,rfl⟩:∃m,n=m+1:=⟨n -1,by omega⟩;simp[Builtin.clear_,run_underlying ht,hv,hst]
theorem MM (bt:Nat) (av:Int) (x:D) (w:World) (h:w.cell? ⟨bt,0,none⟩=some (.int .i64 av)) (hb:bt < w.heap.size):
  Calls prog 186 #[vD x,.pointer (some ⟨bt,0,none⟩)] w fun e w'=>e= .returned (.bool (decide (x.t<=av)))∧Below w.heap.size w w':=by
 simp only[vD];go_enter func186,ntmps186;go_wp2;go_ret;exact⟨rfl,below_alloc1 _ _⟩
theorem Aa (base:Nat) (v:Value) (R:List D) (g:Nat) (cb:Array Value) (q:D->Bool) (w:World) (eg:∀args w,(callFunc g args).run prog w= .ok (.enter g args) w) (h:w.ownsRow base 130 4 v R.length (R.flatMap ak)) (hR:R.length<=100000)
  (hf:∀(W:World) (x:D),Below w.heap.size w W->Calls prog g (#[vD x]++cb) W fun e w'=>e= .returned (.bool (q x))∧Below W.heap.size W w'):
  Calls prog 251 #[v,.func (.func g) #[] cb] w fun e w'=>Below w.heap.size w w'∧((e= .returned (.int .i64 (-1))∧∀x∈R,q x=false)∨∃k:Nat,k < R.length∧e= .returned (.int .i64 k)∧(∀x,R[k]? =some x->q x=true)∧∀j x,j < k->R[j]? =some x->q x=false):=by
 rcases ownsRow_forms h with⟨rfl,h0⟩ | ⟨gs,ck,rfl⟩
 ·obtain rfl:R=[]:=List.eq_nil_of_length_eq_zero h0;clear h h0 hf;go_enter func251,ntmps251;go_wp2;refine wp_loop_rounds 1 ?_;rw[rounds_succ];go_wp2;go_ret;exact⟨Below.refl _ _,Or.inl ⟨rfl,by simp⟩⟩
 ·have HR:=hid h;have HF:=hid hf;clear h hf;go_enter func251,ntmps251;go_wp2
  go_loopg [8] R.length (fun g v8 wr=>∃k:Nat,k<=R.length∧g=R.length -k∧v8= .int .i64 k∧Hid (Below w.heap.size w wr∧∀j x,j < k->R[j]? =some x->q x=false))
  case atStart=>exact⟨0,Nat.zero_le _,rfl,rfl,⟨Below.refl _ _,fun j x hj=>absurd hj (Nat.not_lt_zero _)⟩⟩
  case round=>
   obtain⟨k,hk,hg,rfl,I⟩:=hrel;have HG:=hid hg;clear hg
   by_cases hlt:k < R.length
   ·obtain⟨x,hx⟩:∃x,R[k]? =some x:=⟨_,List.getElem?_eq_getElem hlt⟩;have hcx:=jo (aL HR.out I.out.1) k x hx;have HX:=hid hx;have hl:=HF.out wr x I.out.1
    have i1:(0:Int)<=(k:Int):=by omega
    have i2:(k:Int) < (R.length:Int):=by omega
    have i3:(R.length:Int)<=100000:=by omega
    simp only[vD] at hl;clear hx;go_wp2_with fail;refine hl.mono ?_;rintro e w3 ⟨rfl,hb3⟩;have B3:Hid (Below w.heap.size w w3):=I.out.1.trans (hb3.mono I.out.1.size);clear hl hb3 hcx;cases hq:q x
    ·have I2:Hid (Below w.heap.size w w3∧∀j x,j < k+1->R[j]? =some x->q x=false):=⟨B3.out,fun j y hj hy=>by
      by_cases e:j=k
      ·subst e;rw[HX.out] at hy;cases hy;exact hq
      ·exact I.out.2 j y (by omega) hy⟩
     clear hq;go_wp2
     go_roundg (R.length -(k+1))
     case measure=>have :=HG.out;omega
     case rel=>exact⟨k+1,by omega,rfl,by first | rfl | (congr 1;omega) | go_num,I2⟩
    ·have Q2:=hid hq;clear hq;go_wp2;go_ret;exact⟨B3.out,Or.inr ⟨k,hlt,rfl,fun y hy=>by rw[HX.out] at hy;cases hy;exact Q2.out,I.out.2⟩⟩
   ·have i2:¬((k:Int) < (R.length:Int)):=by omega
    go_wp2;go_ret;refine⟨I.out.1,Or.inl ⟨rfl,fun y hy=> ?_⟩⟩;obtain⟨j,hj,e⟩:=List.mem_iff_getElem.1 hy;exact I.out.2 j y (by omega) (by rw[List.getElem?_eq_getElem hj,e])
end
section
open Go.Proofs.Tryz Go.Joins Go.Shelf
variable {q:D->Bool} {R L:List D} {i j g:Nat} {x:D} {w W:World}
def keepR (q:D->Bool) (R:List D):List D:=R.filter fun x=> !q x
structure Kept (q:D->Bool) (R L:List D) (i j:Nat):Prop where
 len:L.length=R.length
 front:L.take i=keepR q (R.take j)
 rest:∀k,j<=k->L[k]? =R[k]?
theorem uR (q:D->Bool) (R:List D) (j:Nat) (x:D) (h:R[j]? =some x):keepR q (R.take (j+1))=keepR q (R.take j)++if q x=true then[] else[x]:=by
 unfold keepR;rw[List.take_add_one,h,List.filter_append]
 cases hq:q x <;>simp[hq]
theorem Kept.start {k:Nat} (hk:k < R.length) (h1:∀x,R[k]? =some x->q x=true) (h2:∀j x,j < k->R[j]? =some x->q x=false):Kept q R R k (k+1):=by
 refine⟨rfl,?_,fun _ _=>rfl⟩;obtain⟨x,hx⟩:∃x,R[k]? =some x:=⟨_,List.getElem?_eq_getElem hk⟩;rw[uR q R k x hx,if_pos (h1 x hx),List.append_nil];unfold keepR;rw[List.filter_eq_self.2];intro y hy;obtain⟨j,hj,e⟩:=List.mem_iff_getElem.1 hy;rw[List.length_take] at hj;rw[List.getElem_take] at e;rw[h2 j y (by omega) (by rw[List.getElem?_eq_getElem (by omega),e])];rfl
theorem Kept.skip (h:Kept q R L i j) (hx:R[j]? =some x) (hq:q x=true):Kept q R L i (j+1):=
 ⟨h.len,by rw[uR q R j x hx,if_pos hq,List.append_nil];exact h.front,fun k hk=>h.rest k (by omega)⟩
theorem Kept.put (h:Kept q R L i j) (hij:i < j) (hj:j < R.length) (hx:R[j]? =some x) (hq:q x=false):Kept q R (L.set i x) (i+1) (j+1):=by
 have hl:=h.len;refine⟨by rw[List.length_set];exact h.len,?_,fun k hk=> ?_⟩
 ·rw[uR q R j x hx,if_neg (by rw[hq];simp),<-h.front,List.take_add_one,List.take_set_of_le (Nat.le_refl _),List.getElem?_set_self (by omega)];rfl
 ·rw[List.getElem?_set_ne (by omega)];exact h.rest k (by omega)
theorem Kept.all (h:Kept q R L i R.length):L.take i=keepR q R:=by
 rw[h.front,List.take_length]
theorem lJ {W':World} {r:Option Nat} (h:w.grownBy W r) (hb:Below W.heap.size W W'):w.grownBy W' r:=
 h.trans ⟨hb.os,hb.tape,hb.output,hb.size,fun k hk _=>hb.block k hk⟩
theorem kr {u:Value} (h:w.grownBy W (some g)):w.grownBy (W.setCell ⟨g,j,none⟩ u) (some g):=
 h.trans ⟨rfl,rfl,rfl,by simp,fun k _ hne=>Below.heap_setCell _ _ _ _ (fun e=>hne (by rw[e]))⟩
theorem kV (vs:List Value):∀{W:World} (o:Nat),w.grownBy W (some g)->w.grownBy (W.setCells g o vs) (some g):=by
 induction vs with
 | nil=>intro W o h;exact h
 | cons v r ih=>intro W o h;exact ih (o+1) (kr h)
theorem TP (w:World):(zeroValue 130).run prog w= .ok zD w:=by kernel_rfl
theorem C8 (n:Nat):(Builtin.zeroCells zD.cells n).toList.length=n * 4:=by
 simp[Builtin.zeroCells,zD,Value.cells]
theorem WE (n:Nat):∀v∈(Builtin.zeroCells zD.cells n).toList,v.oneCell'=true:=by
 intro v hv;simp[Builtin.zeroCells,zD,Value.cells] at hv;obtain⟨a,_,rfl⟩:=hv;have :a % 4 < 4:=Nat.mod_lt _ (by omega)
 rcases(show a % 4=0∨a % 4=1∨a % 4=2∨a % 4=3 by omega) with h | h | h | h <;>(simp only[h];rfl)
theorem pU {base n cap:Nat} (h:W.ownsRow base 130 4 (.slice (some ⟨g,0,none⟩) n cap) n (R.flatMap ak)) (hn:R.length=n) (j:Nat) (hj:j < n * 4):(W.cell? ⟨g,j,none⟩).isSome=true∧W.frozen? ⟨g,j,none⟩=false:=by
 rcases h.2 with⟨h1,_⟩ | ⟨g',cap',cur,h1,hb,hg,h2,h3,h4,h5⟩
 ·cases h1
 ·cases h1
  have hl:j < (R.flatMap ak).length:=by rw[gG];omega
  have hc:=h.cells (g:=g) rfl j _ (List.getElem?_eq_getElem hl);rw[bZ] at hc;exact⟨by rw[hc];rfl,unfrozen_of_block hg j⟩
theorem y8 (base:Nat) (v:Value) (R:List D) (g:Nat) (cb:Array Value) (q:D->Bool) (w:World) (eg:∀args w,(callFunc g args).run prog w= .ok (.enter g args) w) (h:w.ownsRow base 130 4 v R.length (R.flatMap ak)) (hR:R.length<=100000)
  (hf:∀(W:World) (x:D),w.grownBy W v.ownBlock->Calls prog g (#[vD x]++cb) W fun e w'=>e= .returned (.bool (q x))∧Below W.heap.size W w'):
  Calls prog 185 #[v,.func (.func g) #[] cb] w fun e w'=>∃v',e= .returned v'∧w'.ownsRow base 130 4 v' (keepR q R).length ((keepR q R).flatMap ak)∧w.grownBy w' v.ownBlock∧v'.ownBlock=v.ownBlock:=by
 have hif:=Aa base v R g cb q w eg h hR (fun W x hb=>hf W x ⟨hb.os,hb.tape,hb.output,hb.size,fun k hk _=>hb.block k hk⟩);have HR:=hid h;have HF:=hid hf;clear h hf;have hmono:=hif;clear hif;go_enter func185,ntmps185;go_wp2_with fail;refine hmono.mono ?_;rintro e w1 ⟨hb1,hor⟩;have G1:Hid (w.grownBy w1 v.ownBlock):=⟨hb1.os,hb1.tape,hb1.output,hb1.size,fun k hk _=>hb1.block k hk⟩;have R1:Hid (w1.ownsRow base 130 4 v R.length (R.flatMap ak)):=aL HR.out hb1;clear hb1 hmono
 rcases hor with⟨rfl,hno⟩ | ⟨k,hk,rfl,hk1,hk2⟩
 ·have e1:Hid (keepR q R=R):=by
   show keepR q R=R;unfold keepR;rw[List.filter_eq_self.2];intro x hx;rw[hno x hx];rfl
  clear hno;go_wp2;go_ret;exact⟨v,rfl,by rw[e1.out];exact R1.out,G1.out,rfl⟩
 ·have K0:Hid (Kept q R R k (k+1)):=Kept.start hk hk1 hk2;clear hk1 hk2;obtain⟨gs,ck,rfl⟩:=ownsRow_form HR.out (by omega)
  have hck:R.length<=ck:=by
   rcases HR.out.2 with⟨h1,_⟩ | ⟨g',cap',cur,h1,_,_,h2,_⟩
   ·cases h1
   ·cases h1;exact h2
  have hgs:gs < w.heap.size:=(HR.out.lt gs rfl).2
  have i0:(k:Int)<=100000:=by omega
  have i3:(R.length:Int)<=100000:=by omega
  have k1:((k:Int)== -1)=false:=by rw[beq_eq_false_iff_ne];omega
  have k1':(k:Int)≠ -1:=by omega
  go_wp2
  go_loopg [5,6] (R.length -(k+1)) (fun gg v5 v6 wr=>∃(i j:Nat) (L:List D),i < j∧j<=R.length∧gg=R.length -j∧v5= .int .i64 i∧v6= .int .i64 j∧Hid (Kept q R L i j∧wr.ownsRow base 130 4 (.slice (some ⟨gs,0,none⟩) R.length ck) R.length (L.flatMap ak)∧w.grownBy wr (some gs)))
  case atStart=>exact⟨k,k+1,R,by omega,by omega,rfl,rfl,by first | rfl | (congr 1;omega) | go_num,⟨K0.out,R1.out,G1.out⟩⟩
  case round=>
   obtain⟨i,j,L,hij,hjn,hg,rfl,rfl,I⟩:=hrel;have HG:=hid hg;clear hg;have hgw:gs < wr.heap.size:=Nat.lt_of_lt_of_le hgs I.out.2.2.size
   by_cases hlt:j < R.length
   ·obtain⟨x,hx⟩:∃x,R[j]? =some x:=⟨_,List.getElem?_eq_getElem hlt⟩;have hLx:L[j]? =some x:=(I.out.1.rest j (Nat.le_refl _)).trans hx;have hcx:=jo I.out.2.1 j x hLx;have HX:=hid hx;have HL:=hid I.out.1.len;have hl:=HF.out (wr.alloc (.cells #[.int .i64 x.k,.int .i64 x.t,.int .i64 x.v,.int .i64 x.n] 130)) x (lJ I.out.2.2 (below_alloc1 _ _))
    have i1:(0:Int)<=(j:Int):=by omega
    have i2:(j:Int) < (R.length:Int):=by omega
    have i4:(0:Int)<=(i:Int):=by omega
    have i5:(i:Int) < (R.length:Int):=by omega
    simp only[vD] at hl;clear hx hLx;go_wp2_with fail;refine hl.mono ?_;rintro e w3 ⟨rfl,hb3⟩;have fO:w3.heap[wr.heap.size]? =some (.cells #[.int .i64 x.k,.int .i64 x.t,.int .i64 x.v,.int .i64 x.n] 130):=(hb3.block _ (by simp)).trans (heap_alloc_new _ _)
    have hc3:w3.cell? ⟨wr.heap.size,0,none⟩=some (.int .i64 x.k)∧w3.cell? ⟨wr.heap.size,1,none⟩=some (.int .i64 x.t)∧w3.cell? ⟨wr.heap.size,2,none⟩=some (.int .i64 x.v)∧w3.cell? ⟨wr.heap.size,3,none⟩=some (.int .i64 x.n):=by
     refine⟨?_,?_,?_,?_⟩ <;>(rw[cell_of_block fO];rfl)
    have I3:Hid (Kept q R L i j∧w3.ownsRow base 130 4 (.slice (some ⟨gs,0,none⟩) R.length ck) R.length (L.flatMap ak)∧w.grownBy w3 (some gs)):=
     ⟨I.out.1,aL (aL I.out.2.1 (below_alloc1 _ _)) hb3,lJ (lJ I.out.2.2 (below_alloc1 _ _)) hb3⟩
    clear hl hb3 hcx fO;cases hq:q x
    ·have hth:=fun u hu=>pU I3.out.2.1 HL.out (i * 4+u) hu
     have f0:=hth 0 (by omega);have f1:=hth 1 (by omega);have f2:=hth 2 (by omega);have f3:=hth 3 (by omega);rw[Nat.add_zero] at f0;obtain⟨u0,e0⟩:=Option.isSome_iff_exists.1 f0.1;obtain⟨u1,e1⟩:=Option.isSome_iff_exists.1 f1.1;obtain⟨u2,e2⟩:=Option.isSome_iff_exists.1 f2.1;obtain⟨u3,e3⟩:=Option.isSome_iff_exists.1 f3.1;have z0:=f0.2;have z1:=f1.2;have z2:=f2.2;have z3:=f3.2
     have I4:Hid (Kept q R (L.set i x) (i+1) (j+1)∧((((w3.setCell ⟨gs,i * 4,none⟩ (.int .i64 x.k)).setCell ⟨gs,i * 4+1,none⟩ (.int .i64 x.t)).setCell ⟨gs,i * 4+2,none⟩ (.int .i64 x.v)).setCell ⟨gs,i * 4+3,none⟩ (.int .i64 x.n)).ownsRow base 130 4 (.slice (some ⟨gs,0,none⟩) R.length ck) R.length ((L.set i x).flatMap ak)∧
       w.grownBy ((((w3.setCell ⟨gs,i * 4,none⟩ (.int .i64 x.k)).setCell ⟨gs,i * 4+1,none⟩ (.int .i64 x.t)).setCell ⟨gs,i * 4+2,none⟩ (.int .i64 x.v)).setCell ⟨gs,i * 4+3,none⟩ (.int .i64 x.n)) (some gs)):=
      ⟨I3.out.1.put hij hlt HX.out hq,ML I3.out.2.1 i x (by have :=HL.out;omega),kr (kr (kr (kr I3.out.2.2)))⟩
     clear hq hth f0 f1 f2 f3;go_wp2
     go_roundg (R.length -(j+1))
     case measure=>have :=HG.out;omega
     case rel=>exact⟨i+1,j+1,L.set i x,by omega,by omega,rfl,by first | rfl | (congr 1;omega) | go_num,by first | rfl | (congr 1;omega) | go_num,I4⟩
    ·have I4:Hid (Kept q R L i (j+1)∧w3.ownsRow base 130 4 (.slice (some ⟨gs,0,none⟩) R.length ck) R.length (L.flatMap ak)∧w.grownBy w3 (some gs)):=⟨I3.out.1.skip HX.out hq,I3.out.2.1,I3.out.2.2⟩;clear hq;go_wp2
     go_roundg (R.length -(j+1))
     case measure=>have :=HG.out;omega
     case rel=>exact⟨i,j+1,L,by omega,by omega,rfl,rfl,by first | rfl | (congr 1;omega) | go_num,I4⟩
   ·have HJ:Hid (Kept q R L i R.length):=by
     have e:j=R.length:=by omega
     show Kept q R L i R.length;rw[<-e];exact I.out.1
    have i2:¬((j:Int) < (R.length:Int)):=by omega
    have i4:(0:Int)<=(i:Int):=by omega
    have i5:(i:Int)<=(R.length:Int):=by omega
    have i6:i<=ck:=by omega
    have i7:¬ck=i:=by omega
    have hcl:∀ty,(Builtin.clear_ #[67] ty #[.slice (some ⟨gs,i * 4,none⟩) (R.length -i) (ck -i)]).run prog wr= .ok (.tuple #[]) (wr.setCells gs (i * 4) (Builtin.zeroCells zD.cells (R.length -i)).toList):=fun ty=>
     wH wr 67 130 ty zD underlying67 TP gs (i * 4) (R.length -i) (ck -i) (by omega) (WE _)
      (fun t ht=>by rw[C8] at ht;exact(pU I.out.2.1 HJ.out.len (i * 4+t) (by omega)).1) (fun t ht=>by rw[C8] at ht;exact(pU I.out.2.1 HJ.out.len (i * 4+t) (by omega)).2)
    have HW:Hid ((wr.setCells gs (i * 4) (Builtin.zeroCells zD.cells (R.length -i)).toList).ownsRow base 130 4 (.slice (some ⟨gs,0,none⟩) i ck) (keepR q R).length ((keepR q R).flatMap ak)∧w.grownBy (wr.setCells gs (i * 4) (Builtin.zeroCells zD.cells (R.length -i)).toList) (some gs)):=by
     have ha:=Jd (gH (Builtin.zeroCells zD.cells (R.length -i)).toList (i * 4) I.out.2.1) i (by omega);rw[MJ _ _ _ _ (Nat.le_refl _),<-qU,HJ.out.all] at ha
     have hlen:(keepR q R).length=i:=by
      rw[<-HJ.out.all,List.length_take,HJ.out.len];omega
     refine⟨?_,kV _ _ I.out.2.2⟩;rw[hlen];exact ha
    revert hcl HW;generalize wr.setCells gs (i * 4) (Builtin.zeroCells zD.cells (R.length -i)).toList=wz;intro hcl HW;go_wp2;go_ret;exact⟨_,rfl,HW.out.1,HW.out.2,rfl⟩
end
section
open Go.Joins Go.Shelf
variable {b o base:Nat} {u v:Value} {om:Option Nat} {w w' w1:World}
structure l8 (b o:Nat) (u:Value) (om:Option Nat) (w w':World):Prop where
 os:w'.os=w.os
 tape:w'.tape=w.tape
 output:w'.output=w.output
 size:w.heap.size<=w'.heap.size
 block:∀k,k < w.heap.size->k≠b->om≠some k->w'.heap[k]? =w.heap[k]?
 this:w'.heap[b]? =(w.setCell ⟨b,o,none⟩ u).heap[b]?
theorem l8.below {B:Nat} (h:l8 b o u om w w') (hB:B<=w.heap.size) (hb:B<=b) (ho:∀k,om=some k->B<=k):Below B w w':=
 ⟨h.os,h.tape,h.output,h.size,fun k hk=>h.block k (by omega) (by omega) (fun e=>by have :=ho k e;omega)⟩
theorem Ab (h:w'.heap[b]? =w.heap[b]?):(w'.setCell ⟨b,o,none⟩ u).heap[b]? =(w.setCell ⟨b,o,none⟩ u).heap[b]? :=by
 simp only[World.setCell,Array.getElem?_modify,h]
theorem vX {v':Value} {R R':List D} (hS:bB w base b o v R) (hrow:w1.ownsRow base 130 4 v' R'.length (R'.flatMap ak)) (hne:v'.ownBlock≠some b) (hk:w.grownBy w1 v.ownBlock):
  bB (w1.setCell ⟨b,o,none⟩ v') base b o v' R'∧l8 b o v' v.ownBlock w (w1.setCell ⟨b,o,none⟩ v'):=by
 have hlt:=hS.lt;obtain⟨cs,T,h1,h2⟩:=hS.blk;have ho:=hS.own;have hcell:w1.heap[b]? =w.heap[b]? :=hk.block b hlt (fun e=>ho e.symm);refine⟨⟨⟨_,_,block_setCell (hcell.trans h1) v',?_⟩,?_,hne⟩,?_⟩
 ·have :=(Array.getElem?_eq_some_iff.1 h2).1;simp[this]
 ·refine hrow.kept (row:=some b) ⟨rfl,rfl,rfl,by simp,fun k hk2 hne2=> ?_⟩ (Or.inr hne);exact Below.heap_setCell _ _ _ _ (fun e=>hne2 (by rw[e]))
 ·refine⟨hk.os,hk.tape,hk.output,by simpa using hk.size,fun k hk2 h1 h2=> ?_,Ab hcell⟩;rw[Below.heap_setCell _ _ _ _ h1];exact hk.block k hk2 (fun e=>h2 e.symm)
theorem grown_of {W:World} (hB:Below w.heap.size w W) (hg:W.grownBy w1 om):w.grownBy w1 om:=
 ⟨hg.os.trans hB.os,hg.tape.trans hB.tape,hg.output.trans hB.output,Nat.le_trans hB.size hg.size,fun k hk h2=>(hg.block k (Nat.lt_of_lt_of_le hk hB.size) h2).trans (hB.block k hk)⟩
theorem jq {n:Nat} {xs:List Value} (h:w.ownsRow base 130 4 v n xs):∃oa c,v= .slice oa n c:=by
 rcases h.2 with⟨rfl,h0⟩ | ⟨g,cap,cur,rfl,_⟩
 ·exact⟨none,0,by rw[h0]⟩
 ·exact⟨_,_,rfl⟩
theorem AY (base b o:Nat) (v:Value) (R:List D) (av:Int) (w:World) (h:bB w base b o v R) (hR:R.length<=100000):
  Calls Tryz.prog 112 #[.pointer (some ⟨b,o,none⟩),.int .i64 av] w fun e w'=>e= .returned (.int .i64 ((R.length:Int) -((keepR (fun x=>decide (x.t<=av)) R).length:Int)))∧∃v',bB w' base b o v' (keepR (fun x=>decide (x.t<=av)) R)∧l8 b o v' v.ownBlock w w'∧v'.ownBlock=v.ownBlock:=by
 have hc:=h.cell;have hlt:=h.lt;have eg:∀args w,(callFunc 186 args).run Tryz.prog w= .ok (.enter 186 args) w:=enters_of Tryz.func186 (by kernel_rfl) rfl;have hB:Below w.heap.size w (w.alloc (.cells #[.int .i64 av] 3)):=below_alloc1 _ _
 have hown:v.ownBlock≠some w.heap.size:=fun e=>by have :=(h.row.lt _ e).2;omega
 have hd:=y8 base v R 186 #[.pointer (some ⟨w.heap.size,0,none⟩)] (fun x=>decide (x.t<=av)) (w.alloc (.cells #[.int .i64 av] 3)) eg (h.below hB).row hR (fun W x hW=>by
  have hbx:W.heap[w.heap.size]? =some (.cells #[.int .i64 av] 3):=(hW.block w.heap.size (by simp) (fun e=>hown e.symm)).trans (heap_alloc_new _ _)
  exact MM w.heap.size av x W (by rw[cell_of_block hbx];rfl) (Array.getElem?_eq_some_iff.1 hbx).1)
 have HK:Hid (∀v' w2,w2.ownsRow base 130 4 v' (keepR (fun x=>decide (x.t<=av)) R).length ((keepR (fun x=>decide (x.t<=av)) R).flatMap ak)->v'.ownBlock=v.ownBlock->(w.alloc (.cells #[.int .i64 av] 3)).grownBy w2 v.ownBlock->(w2.cell? ⟨b,o,none⟩=some v∧w2.frozen? ⟨b,o,none⟩=false)∧bB (w2.setCell ⟨b,o,none⟩ v') base b o v' (keepR (fun x=>decide (x.t<=av)) R)∧l8 b o v' v.ownBlock w (w2.setCell ⟨b,o,none⟩ v')):=by
  intro v' w2 h1 h3 h2;have hcell:w2.heap[b]? =w.heap[b]? :=(grown_of hB h2).block b hlt (fun e=>h.own e.symm);exact⟨⟨(World.cell?_of_block (w:=w) (a:=⟨b,o,none⟩) hcell).trans hc.1,(World.frozen?_of_block (w:=w) (a:=⟨b,o,none⟩) hcell).trans hc.2⟩,vX h h1 (by rw[h3];exact h.own) (grown_of hB h2)⟩
 have hkl:(keepR (fun x=>decide (x.t<=av)) R).length<=R.length:=List.length_filter_le _ _;obtain⟨oa,cv,rfl⟩:=h.form;generalize keepR (fun x=>decide (x.t<=av)) R=K at *
 have i1:(K.length:Int)<=(R.length:Int):=by omega
 have i2:(R.length:Int)<=100000:=by omega
 clear h hown;go_enter Tryz.func112,Tryz.ntmps112;go_wp2_with fail;refine hd.mono ?_;rintro e w2 ⟨v',rfl,h1,h2,h3⟩;obtain⟨hcell,hS,hKp⟩:=HK.out v' w2 h1 h3 h2;have c2:=hcell.1;have f2:=hcell.2;have HS:Hid (bB (w2.setCell ⟨b,o,none⟩ v') base b o v' K∧l8 b o v' (Value.slice oa R.length cv).ownBlock w (w2.setCell ⟨b,o,none⟩ v')∧v'.ownBlock=(Value.slice oa R.length cv).ownBlock):=⟨hS,hKp,h3⟩;obtain⟨oa',c',rfl⟩:=jq h1;clear hS hKp h3 h1 h2 hd HK hcell;go_wp2;go_ret;exact⟨rfl,_,HS.out.1,HS.out.2.1,HS.out.2.2⟩
end
section
open Go.Shelf
variable {w2 wr:World} {base gs ck p i:Nat} {R:List D} {key av:Int} {vm:Value}
def meets (key av:Int) (x:D):Bool:=decide (x.k=key∧x.t<=av)
def sH (x:D):D:={ x with n:=bR x.n}
def bF (key fH av:Int) (R:List D):List D:=(R.drop (aV key fH R)).takeWhile (meets key av)
def fo (R:List D) (p i:Nat):List D:=R.take p++(((R.drop p).take i).map sH++R.drop (p+i))
theorem uS (R:List D) (p:Nat):fo R p 0=R:=by simp[fo]
theorem y9 (R:List D) (p i:Nat) (h:p+i<=R.length):(fo R p i).length=R.length:=by
 simp[fo];omega
theorem C9 (R:List D) (p i k:Nat) (h:p+i<=R.length):(fo R p i)[k]? =if p<=k∧k < p+i then(R[k]?).map sH else R[k]? :=by
 have hl:(R.take p).length=p:=by rw[List.length_take];omega
 have hm:(((R.drop p).take i).map sH).length=i:=by rw[List.length_map,List.length_take,List.length_drop];omega
 unfold fo
 by_cases k1:k < p
 ·rw[if_neg (by omega),List.getElem?_append_left (by rw[hl];exact k1),List.getElem?_take_of_lt k1]
 ·rw[List.getElem?_append_right (by rw[hl];omega),hl]
  by_cases k2:k < p+i
  ·rw[if_pos (by omega),List.getElem?_append_left (by rw[hm];omega),List.getElem?_map,List.getElem?_take_of_lt (by omega),List.getElem?_drop,show p+(k -p)=k by omega]
  ·rw[if_neg (by omega),List.getElem?_append_right (by rw[hm];omega),hm,List.getElem?_drop,show p+i+(k -p -i)=k by omega]
theorem FX (R:List D) (p i:Nat) (h:p+i < R.length):(fo R p i)[p+i]? =R[p+i]? :=by
 rw[C9 R p i _ (by omega),if_neg (by omega)]
theorem MN (R:List D) (p i:Nat) (x:D) (hx:R[p+i]? =some x):fo R p (i+1)=(fo R p i).set (p+i) (sH x):=by
 have h:p+i < R.length:=(List.getElem?_eq_some_iff.1 hx).1;apply List.ext_getElem?;intro k;rw[C9 R p (i+1) k (by omega)]
 by_cases e:k=p+i
 ·subst e;rw[List.getElem?_set_self (by rw[y9 R p i (by omega)];exact h),if_pos (by omega),hx];rfl
 ·rw[List.getElem?_set_ne (by omega),C9 R p i k (by omega)]
  by_cases k1:p<=k∧k < p+i
  ·rw[if_pos k1,if_pos (by omega)]
  ·rw[if_neg k1,if_neg (by omega)]
theorem Da (q:D->Bool) (T:List D) (i:Nat) (hi:i<=T.length) (h1:∀j x,j < i->T[j]? =some x->q x=true) (h2:∀x,T[i]? =some x->q x=false):T.takeWhile q=T.take i:=by
 induction T generalizing i with
 | nil=>simp
 | cons a r ih=>
  cases i with
  | zero=>
   have :=h2 a rfl;simp[this]
  | succ i=>
   have ha:=h1 0 a (by omega) rfl;rw[List.takeWhile_cons,if_pos ha,List.take_succ_cons,ih i (by simpa using hi) (fun j x hj hx=>h1 (j+1) x (by omega) (by simpa using hx)) (fun x hx=>h2 x (by simpa using hx))]
theorem Je (R:List D) (i:Nat) (x:D) (m:Int) (hx:R[i]? =some x):(R.set i { x with n:=m}).flatMap ak=(R.flatMap ak).set (i * 4+3) (.int .i64 m):=by
 induction R generalizing i with
 | nil=>simp at hx
 | cons a r ih=>
  cases i with
  | zero=>simp at hx;subst hx;simp[ak]
  | succ i=>
   rw[List.set_cons_succ,List.flatMap_cons,List.flatMap_cons,ih i (by simpa using hx)];simp[ak,show(i+1) * 4+3=i * 4+3+1+1+1+1 by omega]
structure Mt (w2:World) (base gs ck p:Nat) (R:List D) (key av:Int) (i:Nat) (vm:Value) (wr:World):Prop where
 grown:w2.grownBy wr (some gs)
 row:wr.ownsRow base 130 4 (.slice (some ⟨gs,0,none⟩) R.length ck) R.length ((fo R p i).flatMap ak)
 met:wr.ownsRow w2.heap.size 130 4 vm ((R.drop p).take i).length (((R.drop p).take i).flatMap ak)
 all:∀j x,j < i->R[p+j]? =some x->meets key av x=true
theorem Mt.start (h:w2.ownsRow base 130 4 (.slice (some ⟨gs,0,none⟩) R.length ck) R.length (R.flatMap ak)):Mt w2 base gs ck p R key av 0 (.slice none 0 0) w2:=
 ⟨⟨rfl,rfl,rfl,Nat.le_refl _,fun _ _ _=>rfl⟩,by rw[uS];exact h,World.ownsRow_nil _ _ _ _,fun j x hj=>absurd hj (Nat.not_lt_zero _)⟩
theorem Mt.step {W w3:World} {g1 oL:Nat} {x:D} (h:Mt w2 base gs ck p R key av i vm wr) (hgs:gs < w2.heap.size) (hx:R[p+i]? =some x) (hm:meets key av x=true)
  (hW:Below wr.heap.size wr W) (hown:w3.ownsRow w2.heap.size 130 4 (.slice (some ⟨g1,0,none⟩) (((R.drop p).take i).length+1) oL) (((R.drop p).take i).length+1) (((R.drop p).take i).flatMap ak++ak x)) (hg:W.grownBy w3 vm.ownBlock):
  Mt w2 base gs ck p R key av (i+1) (.slice (some ⟨g1,0,none⟩) (((R.drop p).take i).length+1) oL) (w3.setCell ⟨gs,(p+i) * 4+3,none⟩ (.int .i64 (bR x.n)))∧
   (∀j,j < R.length * 4->(w3.cell? ⟨gs,j,none⟩).isSome=true∧w3.frozen? ⟨gs,j,none⟩=false):=by
 have hpi:p+i < R.length:=(List.getElem?_eq_some_iff.1 hx).1;have hgw:gs < W.heap.size:=Nat.lt_of_lt_of_le hgs (Nat.le_trans h.grown.size hW.size)
 have hvm:vm.ownBlock≠some gs:=fun e=>by have :=(h.met.lt gs e).1;omega
 have hrow3:w3.ownsRow base 130 4 (.slice (some ⟨gs,0,none⟩) R.length ck) R.length ((fo R p i).flatMap ak):=by
  refine(aL h.row hW).kept hg (Or.inr ?_);simp only[Value.ownBlock]
  exact fun e=>hvm e.symm
 have hgrow3:w2.grownBy w3 (some gs):=by
  refine⟨hg.os.trans (hW.os.trans h.grown.os),hg.tape.trans (hW.tape.trans h.grown.tape),hg.output.trans (hW.output.trans h.grown.output),Nat.le_trans h.grown.size (Nat.le_trans hW.size hg.size),fun k hk hne=> ?_⟩;have hk1:k < wr.heap.size:=Nat.lt_of_lt_of_le hk h.grown.size;have hk2:k < W.heap.size:=Nat.lt_of_lt_of_le hk1 hW.size;exact((hg.block k hk2 (fun e=>by have :=(h.met.lt k e.symm).1;omega)).trans (hW.block k hk1)).trans (h.grown.block k hk hne)
 have htk:(R.drop p).take (i+1)=(R.drop p).take i++[x]:=by
  rw[List.take_add_one,List.getElem?_drop,hx];rfl
 have hg1:g1≠gs:=fun e=>by have :=(hown.lt g1 rfl).1;omega
 refine⟨⟨kr hgrow3,?_,?_,fun j y hj hy=> ?_⟩,fun j hj=>pU hrow3 (y9 R p i (by omega)) j hj⟩
 ·rw[MN R p i x hx];have :=vW hrow3 ((p+i) * 4+3) (.int .i64 (bR x.n));rw[<-Je (fo R p i) (p+i) x (bR x.n) ((FX R p i hpi).trans hx)] at this;exact this
 ·have h2:w3.ownsRow w2.heap.size 130 4 (.slice (some ⟨g1,0,none⟩) (((R.drop p).take i).length+1) oL) ((R.drop p).take (i+1)).length (((R.drop p).take (i+1)).flatMap ak):=by
   rw[htk,List.length_append,List.flatMap_append];simpa using hown
  refine h2.kept (row:=some gs) ⟨rfl,rfl,rfl,by simp,fun k _ hne=>Below.heap_setCell _ _ _ _ (fun e=>hne (by rw[e]))⟩ (Or.inr (by simp[Value.ownBlock];exact hg1))
 ·by_cases e:j=i
  ·subst e;rw[hx] at hy;cases hy;exact hm
  ·exact h.all j y (by omega) hy
theorem Mt.met_is {fH:Int} (h:Mt w2 base gs ck (aV key fH R) R key av i vm wr) (hi:aV key fH R+i<=R.length) (h2:∀x,R[aV key fH R+i]? =some x->meets key av x=false):bF key fH av R=(R.drop (aV key fH R)).take i:=by
 unfold bF;refine Da _ _ i (by simp;omega) (fun j x hj hx=>h.all j x hj (by rwa [List.getElem?_drop] at hx)) (fun x hx=>h2 x (by rwa [List.getElem?_drop] at hx))
end
section
open Go.Proofs.Tryz Go.Joins Go.Shelf
variable {w2 wr:World} {base gs ck i:Nat} {R:List D} {key av:Int} {vm:Value}
theorem Mt.go {W:World} {p:Nat} (h:Mt w2 base gs ck p R key av i vm wr) (hb:Below wr.heap.size wr W):Mt w2 base gs ck p R key av i vm W:=
 ⟨lJ h.grown hb,aL h.row hb,aL h.met hb,h.all⟩
theorem Mt.ends {w:World} {b o:Nat} {fH:Int} (hA:bB w base b o (.slice (some ⟨gs,0,none⟩) R.length ck) R) (hB:Below w.heap.size w w2) (h:Mt w2 base gs ck (aV key fH R) R key av i vm wr) (hi:aV key fH R+i<=R.length)
  (h2:∀x,R[aV key fH R+i]? =some x->meets key av x=false):
  wr.ownsRow w.heap.size 130 4 vm (bF key fH av R).length ((bF key fH av R).flatMap ak)∧bB wr base b o (.slice (some ⟨gs,0,none⟩) R.length ck) (fo R (aV key fH R) (bF key fH av R).length)∧w.grownBy wr (some gs):=by
 have hm:=h.met_is hi h2
 have hl:(bF key fH av R).length=i:=by rw[hm,List.length_take,List.length_drop];omega
 have hne:gs≠b:=fun e=>hA.own (by rw[<-e];rfl)
 have hb2:b < w2.heap.size:=Nat.lt_of_lt_of_le hA.lt hB.size;refine⟨?_,⟨?_,?_,hA.own⟩,?_⟩
 ·rw[hm];exact ownsRow_le h.met hB.size
 ·have hl:=hA.lt;obtain⟨cs,T,h1,h2⟩:=hA.blk;exact⟨cs,T,(h.grown.block b hb2 (fun e=>hne (by cases e;rfl))).trans ((hB.block b hl).trans h1),h2⟩
 ·rw[hl,y9 R _ i hi];exact h.row
 ·exact⟨h.grown.os.trans hB.os,h.grown.tape.trans hB.tape,h.grown.output.trans hB.output,Nat.le_trans hB.size h.grown.size,fun k hk hn=>(h.grown.block k (Nat.lt_of_lt_of_le hk hB.size) hn).trans (hB.block k hk)⟩
theorem AU (base b o:Nat) (v:Value) (R:List D) (key fH av:Int) (w:World) (h:bB w base b o v R) (hs:ay R) (hR:R.length<=100000) (hn:∀x∈R,-9223372036854775808<=x.n∧x.n<=9223372036854775807):
  Calls prog 103 #[.pointer (some ⟨b,o,none⟩),.int .i64 key,.int .i64 fH,.int .i64 av] w fun e w'=>∃vm,e= .returned vm∧w'.ownsRow w.heap.size 130 4 vm (bF key fH av R).length ((bF key fH av R).flatMap ak)∧
   bB w' base b o v (fo R (aV key fH R) (bF key fH av R).length)∧w.grownBy w' v.ownBlock:=by
 obtain⟨i0,hi,hz0,hz1,hz2⟩:=info_parts xm
 have hk:=fun p os=>(h.below (below_regrown w p os)).cell
 have HS:Hid (∀p os,Calls prog 171 #[.pointer (some ⟨b,o,none⟩),.int .i64 key,.int .i64 fH] (Go.Sort.grow (redrawn w p) os) fun e w'=>e= .returned (.int .i64 (aV key fH R))∧Below (Go.Sort.grow (redrawn w p) os).heap.size (Go.Sort.grow (redrawn w p) os) w'):=
  fun p os=>BG base b o v R key fH _ (h.below (below_regrown w p os)) hs hR
 have HA:=hid h;have HN:=hid hn;have hp:=QW key fH R;have hlt:=h.lt;have hpos:∃p,p=aV key fH R:=⟨_,rfl⟩;obtain⟨p,nD⟩:=hpos;have HP:=hid nD;rw[<-nD] at HS hp;clear h hs hn nD
 rcases ownsRow_forms HA.out.row with⟨rfl,h0⟩ | ⟨gs,ck,rfl⟩
 ·have hR0:Hid (R=[]):=List.eq_nil_of_length_eq_zero h0
  have p0:p=0:=by omega
  subst p0;have e0:R.length=0:=h0;go_enter func103,ntmps103;go_wp2;refine wp_region_quiet_below (by kernel_rfl) (by kernel_rfl) ?_
  repeat (quiet_step (first | (go_at_call 171;exact Calls.regrown_of (HS.out _ _)) | fail))
  refine wpQuiet_nil ?_;intro _ hw';obtain⟨⟨dq,osq⟩,hw''⟩:=hw';subst hw'';go_wp2;refine wp_loop_rounds 1 ?_;rw[rounds_succ];go_wp2;go_ret;have hb:=below_regrown w dq osq
  have hm:bF key fH av R=[]:=by rw[hR0.out];rfl
  refine⟨_,rfl,?_,?_,⟨hb.os,hb.tape,hb.output,hb.size,fun k hk _=>hb.block k hk⟩⟩
  ·rw[hm];exact World.ownsRow_nil _ _ _ _
  ·rw[hm,List.length_nil,uS];exact HA.out.below hb
 ·have hgs:gs < w.heap.size:=(HA.out.row.lt gs rfl).2
  have hck:R.length<=ck:=by
   rcases HA.out.row.2 with⟨h1,_⟩ | ⟨g',cap',cur,h1,_,_,h2,_⟩
   ·cases h1
   ·cases h1;exact h2
  have i1:(0:Int)<=(p:Int):=by omega
  have i2:(p:Int)<=(R.length:Int):=by omega
  have i3:(R.length:Int)<=100000:=by omega
  have i4:p<=ck:=by omega
  obtain⟨A,hA,hA2⟩:∃A:Addr,(if ck=p then some (⟨gs,0,none⟩:Addr) else some ⟨gs,p * 4,none⟩)=some A∧(p < R.length->A=⟨gs,p * 4,none⟩):=by
   by_cases e:ck=p
   ·exact⟨⟨gs,0,none⟩,by simp[e],fun h=>by omega⟩
   ·exact⟨⟨gs,p * 4,none⟩,by simp[e],fun _=>rfl⟩
  have HA2:=hid hA2;clear hA2;go_enter func103,ntmps103;go_wp2;refine wp_region_quiet_below (by kernel_rfl) (by kernel_rfl) ?_
  repeat (quiet_step (first | (go_at_call 171;exact Calls.regrown_of (HS.out _ _)) | fail))
  refine wpQuiet_nil ?_;intro _ hw';obtain⟨⟨dq,osq⟩,hw''⟩:=hw';subst hw'';have G2:Hid (Below w.heap.size w (Go.Sort.grow (redrawn w dq) osq)):=below_regrown w dq osq;clear hk HS
  dsimp only
  revert G2;generalize Go.Sort.grow (redrawn w dq) osq=w2;intro G2;have M0:Hid (Mt w2 base gs ck p R key av 0 (.slice none 0 0) w2):=Mt.start (aL HA.out.row G2.out);have QX:gs < w2.heap.size:=Nat.lt_of_lt_of_le hgs G2.out.size
  have i5:((R.length -p:Nat):Int)<=100000:=by omega
  go_wp2
  go_loopg [9,24] (R.length -p) (fun gg v9 v24 wr=>∃(i:Nat),i<=R.length -p∧gg=R.length -p -i∧v24= .int .i64 i∧Hid (Mt w2 base gs ck p R key av i v9 wr))
  case atStart=>exact⟨0,Nat.zero_le _,rfl,rfl,M0⟩
  case round=>
   obtain⟨i,hi2,hg,rfl,I⟩:=hrel;have HG:=hid hg;clear hg;have hgw:gs < wr.heap.size:=Nat.lt_of_lt_of_le QX I.out.grown.size
   by_cases hlt2:i < R.length -p
   ·have hAe:=HA2.out (by omega);subst hAe;obtain⟨x,hx⟩:∃x,R[p+i]? =some x:=⟨_,List.getElem?_eq_getElem (show p+i < R.length by omega)⟩;have hcx:=jo I.out.row (p+i) x ((FX R p i (by omega)).trans hx);rw[Nat.add_mul] at hcx;have HX:=hid hx;have hxn:=HN.out x (List.mem_of_getElem? hx)
    have j1:(0:Int)<=(i:Int):=by omega
    have j2:(i:Int) < ((R.length -p:Nat):Int):=by omega
    have j3:i < R.length -p:=hlt2
    have hti:((R.drop p).take i).length=i:=by rw[List.length_take,List.length_drop];omega
    clear hx
    by_cases hk1:x.k=key
    ·by_cases ht:x.t<=av
     ·have HM:Hid (meets key av x=true):=by show meets key av x=true;simp[meets,hk1,ht]
      have HO:Hid (((wr.alloc (.cells #[.int .i64 x.k,.int .i64 x.t,.int .i64 x.v,.int .i64 x.n] 130)).alloc (.cells #[.int .i64 x.k,.int .i64 x.t,.int .i64 x.v,.int .i64 x.n] 130)).ownsRow w2.heap.size 130 4 u9 ((R.drop p).take i).length (((R.drop p).take i).flatMap ak)):=(I.out.met.alloc _).alloc _
      have HW:Hid (∀j u,(ak x)[j]? =some u->((wr.alloc (.cells #[.int .i64 x.k,.int .i64 x.t,.int .i64 x.v,.int .i64 x.n] 130)).alloc (.cells #[.int .i64 x.k,.int .i64 x.t,.int .i64 x.v,.int .i64 x.n] 130)).cell? ((⟨wr.heap.size+1,0,none⟩:Addr).add j)=some u):=by
       have h2:=heap_alloc_new (wr.alloc (.cells #[.int .i64 x.k,.int .i64 x.t,.int .i64 x.v,.int .i64 x.n] 130)) (.cells #[.int .i64 x.k,.int .i64 x.t,.int .i64 x.v,.int .i64 x.n] 130);simp only[World.size_alloc] at h2;exact World.news_of_block h2
      have hB3:Below wr.heap.size wr ((wr.alloc (.cells #[.int .i64 x.k,.int .i64 x.t,.int .i64 x.v,.int .i64 x.n] 130)).alloc (.cells #[.int .i64 x.k,.int .i64 x.t,.int .i64 x.v,.int .i64 x.n] 130)):=below_alloc2 _ _ _;have HB3:=hid hB3
      have HV:Hid (u9.ownBlock≠some wr.heap.size):=fun e=>by have :=(I.out.met.lt _ e).2;omega
      have hw2:w2.heap.size<=wr.heap.size:=I.out.grown.size
      have hne:(x.k !=key)=false:=by simp[hk1]
      have hgt:¬(av < x.t):=by omega
      clear hB3 hk1 ht
      go_wp2_with (first
       | (refine wpList_append_lies _ rfl _ _ _ rfl w2.heap.size 130 i0 zD 4 32 underlying67 hi hz0 hz1 hz2 rfl (by omega) u9 ((R.drop p).take i).length (((R.drop p).take i).flatMap ak) rfl HO.out ⟨wr.heap.size+1,0,none⟩ 1 1 (ak x) rfl rfl HW.out (mo x) (by omega) (by unfold maxLen;omega) (by omega) (by simp;omega) _ rfl ?_;intro g1 oL w3 hown3 hgrow3 SH hlt3;have M3:=I.out.step QX HX.out HM.out HB3.out hown3 hgrow3;have hbx:w3.heap[wr.heap.size]? =some (.cells #[.int .i64 x.k,.int .i64 x.t,.int .i64 x.v,.int .i64 x.n] 130):=(hgrow3.block wr.heap.size (by simp;omega) (fun e=>HV.out e.symm)).trans (Eq.trans (Below.heap_alloc _ _ _ (by simp)) (heap_alloc_new _ _));have hcb:w3.cell? ⟨wr.heap.size,3,none⟩=some (.int .i64 x.n):=(by rw[cell_of_block hbx];rfl);have M4:=hid M3.1;have hth:=M3.2 ((p+i) * 4+3) (by omega);rw[Nat.add_mul] at hth;obtain⟨uo,huo⟩:=Option.isSome_iff_exists.1 hth.1;have hfz:=hth.2;clear M3 hown3 hgrow3 SH hlt3 hbx hth)
       | (go_at_call 172;refine(FW x.n _ hxn.1 hxn.2).mono ?_;rintro e w' ⟨rfl,rfl⟩)
       | fail)
      go_roundg (R.length -p -(i+1))
      case measure=>have :=HG.out;omega
      case rel=>
       have :=M4.out;rw[Nat.add_mul,hti] at this;exact⟨i+1,by omega,rfl,by first | rfl | (congr 1;omega) | go_num,this⟩
     ·have HM:Hid (meets key av x=false):=by show meets key av x=false;simp[meets];intro _;omega
      have hne:(x.k !=key)=false:=by simp[hk1]
      have hgt:av < x.t:=by omega
      clear hk1 ht;go_wp2;go_ret;have hend:=Mt.ends (fH:=fH) HA.out G2.out (HP.out ▸ I.out.go (below_alloc1 wr (.cells #[.int .i64 x.k,.int .i64 x.t,.int .i64 x.v,.int .i64 x.n] 130))) (by rw[<-HP.out];omega) (fun y hy=>by rw[<-HP.out,HX.out] at hy;cases hy;exact HM.out);exact⟨u9,rfl,hend⟩
    ·have HM:Hid (meets key av x=false):=by show meets key av x=false;simp[meets,hk1]
     have hne:(x.k !=key)=true:=by simp[hk1]
     clear hk1;go_wp2;go_ret;have hend:=Mt.ends (fH:=fH) HA.out G2.out (HP.out ▸ I.out.go (below_alloc1 wr (.cells #[.int .i64 x.k,.int .i64 x.t,.int .i64 x.v,.int .i64 x.n] 130))) (by rw[<-HP.out];omega) (fun y hy=>by rw[<-HP.out,HX.out] at hy;cases hy;exact HM.out);exact⟨u9,rfl,hend⟩
   ·have j2:¬((i:Int) < ((R.length -p:Nat):Int)):=by omega
    go_wp2;go_ret
    have hend:=Mt.ends (fH:=fH) HA.out G2.out (HP.out ▸ I.out) (by rw[<-HP.out];omega) (fun y hy=>by
     have h3:=(List.getElem?_eq_some_iff.1 hy).1
     rw[<-HP.out] at h3;omega)
    exact⟨u9,rfl,hend⟩
end
end Go.Proofs.YthfpipieboophaaGreatDoor
