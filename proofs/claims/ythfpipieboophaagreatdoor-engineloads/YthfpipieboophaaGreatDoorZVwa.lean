import Derived.Lib.ItoaNum
import Derived.Deep.Onto
import Derived.Test.YthfpipieboophaaGreatDoorZJng
import Derived.Test.YthfpipieboophaaGreatDoorGza
namespace Go.Proofs.YthfpipieboophaaGreatDoor
set_option maxRecDepth 100000
set_option maxHeartbeats 40000000
section
open List
section
variable{α β:Type}(q:α->β->Bool)(P:α->β->O)(e:α->O)(lb:β->O)(d tb:Bool)
def goes(A:List α)(B:List β)(a:α):List O:=if tb=true then(B.filter λb=>q a b && !A.any λa=>q a b).map lb else[]
def stays(A:List α)(B:List β)(a:α):List O:=
 (A.flatMap λa=>(B.filter (q a)).map (P a))++((if d=true then(A.filter λa=>!B.any (q a)).map e else[])++(if tb=true then(B.filter λb=>!(A++[a]).any λa=>q a b).map lb else[]))
end
def iE(L:List O)(C:List Ch):List O:=C.foldl (λL c=>if c.g=true then L.erase c.x else c.x::L) L
end
section
open List
def iB(key fH av:Int)(x:D):Bool:=decide (x.k=key/\fH<=x.t/\x.t<=av)
theorem jH{a:D}{R:List D}(h:ay (a::R)):ay R:=(pairwise_cons.1 h).2
theorem fU{a:D}{R:List D}(h:ay (a::R)):∀b∈R,a.k<b.k∨(a.k=b.k/\a.t<=b.t):=(pairwise_cons.1 h).1
theorem gU{key time:Int}{a:D}{R:List D}(b:aX key time a=true):aV key time (a::R)=aV key time R+1:=by
 unfold aV;rw[countP_cons,if_pos b]
theorem iQ{key time:Int}{a:D}{R:List D}(h:ay (a::R))(d:aX key time a=false):aV key time (a::R)=0:=by
 unfold aV;rw[countP_eq_zero];intro b c
 rcases mem_cons.1 c with rfl|c
 .rw[d];simp
 .have h1:=fU h b c;rw[bI]at d;have e:aX key time b=false:=bI.2 (by omega);rw[e];simp
theorem nL{key fH av:Int}:∀{R:List D},ay R->(∀x∈R,aX key fH x=false)->R.takeWhile (meets key av)=R.filter (iB key fH av)
 |[],_,_=>rfl
 |a::R,h,h2=>by
  have ha:=bI.1 (h2 a (by simp))
  by_cases hm:meets key av a=true
  .have c:iB key fH av a=true:=by simp[meets,iB]at hm⊢;omega
   rw[takeWhile_cons,if_pos hm,filter_cons,if_pos c,nL (jH h) (λx b=>h2 x (by simp[b]))]
  .have hm2:¬(a.k=key/\a.t<=av):=by simpa[meets]using hm
   rw[takeWhile_cons,if_neg hm]
   symm
   rw[filter_eq_nil_iff];intro x b
   have d:iB key fH av x=false:=by
    simp only[iB,decide_eq_false_iff_not]
    rcases mem_cons.1 b with rfl|b
    .omega
    .have:=fU h x b;omega
   rw[d];simp
theorem gM{key fH av:Int}:∀{R:List D},ay R->bF key fH av R=R.filter (iB key fH av)
 |[],_=>rfl
 |a::R,h=>by
  cases ha:aX key fH a
  .unfold bF;rw[iQ h ha,drop_zero];refine nL h (λx b=>?_)
   rcases mem_cons.1 b with rfl|b
   .exact ha
   .have c:=fU h x b;rw[bI]at ha⊢;omega
  .have c:bF key fH av (a::R)=bF key fH av R:=by
    unfold bF;rw[gU ha,drop_succ_cons]
   have d:iB key fH av a=false:=by
    simp only[aX,decide_eq_true_eq]at ha;simp only[iB,decide_eq_false_iff_not];omega
   rw[c,filter_cons,if_neg (by rw[d];simp),gM (jH h)]
theorem Re{f:D->D}{R:List D}(h:∀x∈R,f x=x):R.map f=R:=by
 rw[map_congr_left (g:=id) h];simp
theorem BK{key fH av:Int}:∀{R:List D},ay R->(∀x∈R,aX key fH x=false)->fo R 0 (R.takeWhile (meets key av)).length=R.map λx=>if iB key fH av x=true then sH x else x
 |[],_,_=>rfl
 |a::R,h,h2=>by
  have ha:=bI.1 (h2 a (by simp))
  by_cases hm:meets key av a=true
  .have c:iB key fH av a=true:=by simp[meets,iB]at hm⊢;omega
   have ih:=BK (av:=av) (jH h) (λx b=>h2 x (by simp[b]));rw[takeWhile_cons,if_pos hm,map_cons,if_pos c,<-ih];simp[fo]
  .have hm2:¬(a.k=key/\a.t<=av):=by simpa[meets]using hm
   rw[takeWhile_cons,if_neg hm,length_nil,uS]
   symm
   refine Re ?_;intro x b
   have d:iB key fH av x=false:=by
    simp only[iB,decide_eq_false_iff_not]
    rcases mem_cons.1 b with rfl|b
    .omega
    .have:=fU h x b;omega
   rw[d];simp
theorem gZ{key fH av:Int}:∀{R:List D},ay R->fo R (aV key fH R) (bF key fH av R).length=R.map λx=>if iB key fH av x=true then sH x else x
 |[],_=>rfl
 |a::R,h=>by
  cases ha:aX key fH a
  .unfold bF;rw[iQ h ha,drop_zero];refine BK h (λx b=>?_)
   rcases mem_cons.1 b with rfl|b
   .exact ha
   .have c:=fU h x b;rw[bI]at ha⊢;omega
  .have c:bF key fH av (a::R)=bF key fH av R:=by
    unfold bF;rw[gU ha,drop_succ_cons]
   have d:iB key fH av a=false:=by
    simp only[aX,decide_eq_true_eq]at ha;simp only[iB,decide_eq_false_iff_not];omega
   rw[c,map_cons,if_neg (by rw[d];simp),gU ha,<-gZ (jH h)];simp[fo,show aV key fH R+1+(bF key fH av R).length=aV key fH R+(bF key fH av R).length+1 by omega]
theorem Jq{f:D->D}(c:∀x,(f x).k=x.k/\(f x).t=x.t){R:List D}(h:ay R):ay (R.map f):=by
 unfold ay at *;rw[pairwise_map];refine h.imp ?_;intro a b d;rw[(c a).1,(c b).1,(c a).2,(c b).2];exact d
theorem vZ{p:D->Bool}{R:List D}(h:ay R):ay (keepR p R):=h.filter _
theorem zm{key fH av:Int}{R:List D}(h:ay R):ay (fo R (aV key fH R) (bF key fH av R).length):=by
 rw[gZ h];exact Jq (λx=>by split <;>exact⟨rfl,rfl⟩) h
theorem qX(k t v n:Int):∀{R:List D},ay R->ay (bT R (aV k (t+1) R) ⟨k,t,v,n⟩)
 |[],_=>by simp[bT,ay]
 |a::R,h=>by
  cases ha:aX k (t+1) a
  .rw[iQ h ha];simp only[bT,take_zero,drop_zero,nil_append];refine pairwise_cons.2 ⟨λb c=>?_,h⟩;rw[bI]at ha
   rcases mem_cons.1 c with rfl|c
   .show k<_∨(k=_/\t<=_);omega
   .have:=fU h b c;show k<_∨(k=_/\t<=_);omega
  .rw[gU ha];have ih:=qX k t v n (jH h)
   have e:bT (a::R) (aV k (t+1) R+1) ⟨k,t,v,n⟩=a::bT R (aV k (t+1) R) ⟨k,t,v,n⟩:=by simp[bT]
   rw[e];refine pairwise_cons.2 ⟨λb c=>?_,ih⟩;simp only[aX,decide_eq_true_eq]at ha
   have d:b=⟨k,t,v,n⟩∨b∈R:=by
    simp only[bT,mem_append,mem_cons]at c
    rcases c with c|c|c
    .exact Or.inr (mem_of_mem_take c)
    .exact Or.inl c
    .exact Or.inr (mem_of_mem_drop c)
   rcases d with rfl|c
   .show _<k∨(_=k/\_<=t);omega
   .exact fU h b c
theorem Gh(R:List D)(i:Nat)(x:D):bT R i x ~ x::R:=by
 unfold bT;refine perm_middle.trans ?_;rw[take_append_drop]
end
section
open List
variable{x:J}
structure Rw where
 k:Int
 t:Int
 v:Int
 deriving DecidableEq,Inhabited
def D.rw(x:D):Rw:=⟨x.k,x.t,x.v⟩
def Ad(r:Rw)(n:Nat):D:=⟨r.k,r.t,r.v,n⟩
theorem Rh(r:Rw)(c:Nat)(hc:c<9223372036854775807):sH (Ad r c)=Ad r (c+1):=by
 have h:bR (c:Int)=((c+1:Nat):Int):=by unfold bR;rw[if_neg (by omega)];omega
 show(⟨r.k,r.t,r.v,bR (c:Int)⟩:D)=⟨r.k,r.t,r.v,((c+1:Nat):Int)⟩;rw[h]
theorem BM(q:Rw->Rw->Bool)(h:Rw->Bool)(A B:List Rw)(a:Rw)(R:List D)(win:D->Bool)(b:∀r n,win (Ad r n)=q a r)(hlen:A.length<9223372036854775807)
  (c:R ~ (B.filter h).map λr=>Ad r (A.countP λa=>q a r)):(R.map λx=>if win x=true then sH x else x) ~ (B.filter h).map λr=>Ad r ((A++[a]).countP λa=>q a r):=by
 refine(c.map _).trans (Perm.of_eq ?_);rw[map_map];apply map_congr_left;intro r _;simp only[Function.comp,b];rw[countP_append];cases hq:q a r
 .simp[hq]
 .have hc:A.countP (λa=>q a r)<=A.length:=countP_le_length;rw[if_pos rfl,Rh _ _ (by omega)];simp[hq]
def mB(lo hi:Int)(l r:Rw):Bool:=decide (l.k=r.k/\lo<=r.t -l.t/\r.t -l.t<=hi)
structure Holds(x:J)(A B:List Rw):Prop where
 r0:x.R0 ~ (A.filter λl=>decide (x.m1<l.t+x.hi)).map λl=>Ad l (B.countP λr=>mB x.lo x.hi l r)
 r1:x.R1 ~ (B.filter λr=>decide (x.m0<r.t+ -x.lo)).map λr=>Ad r (A.countP λl=>mB x.lo x.hi l r)
 s0:ay x.R0
 s1:ay x.R1
theorem Holds.met0{A B:List Rw}(h:Holds x A B)(a:Rw)(hl:x.m0<a.t):bF a.k (a.t+x.lo) (a.t+x.hi) x.R1 ~ (B.filter (mB x.lo x.hi a)).map λr=>Ad r (A.countP λl=>mB x.lo x.hi l r):=by
 rw[gM h.s1];refine(h.r1.filter _).trans (Perm.of_eq ?_);rw[filter_map,filter_filter];congr 1;apply filter_congr;intro r _;show(decide (r.k=a.k/\a.t+x.lo<=r.t/\r.t<=a.t+x.hi)&&decide (x.m0<r.t+ -x.lo))=decide (a.k=r.k/\x.lo<=r.t -a.t/\r.t -a.t<=x.hi);rw[Bool.eq_iff_iff];simp only[Bool.and_eq_true,decide_eq_true_eq];omega
theorem Holds.met1{A B:List Rw}(h:Holds x A B)(b:Rw)(hl:x.m1<b.t):bF b.k (b.t+ -x.hi) (b.t+ -x.lo) x.R0 ~ (A.filter λl=>mB x.lo x.hi l b).map λl=>Ad l (B.countP λr=>mB x.lo x.hi l r):=by
 rw[gM h.s0];refine(h.r0.filter _).trans (Perm.of_eq ?_);rw[filter_map,filter_filter];congr 1;apply filter_congr;intro r _;show(decide (r.k=b.k/\b.t+ -x.hi<=r.t/\r.t<=b.t+ -x.lo)&&decide (x.m1<r.t+x.hi))=decide (r.k=b.k/\x.lo<=b.t -r.t/\b.t -r.t<=x.hi);rw[Bool.eq_iff_iff];simp only[Bool.and_eq_true,decide_eq_true_eq];omega
theorem Holds.fed0{A B:List Rw}(h:Holds x A B)(a:Rw)(e:x.m0<a.t)(f:A.length<9223372036854775807):Holds (x.fed0 a.k a.t a.v) (A++[a]) B:=by
 have c:=h.met0 a e;refine⟨?_,?_,?_,zm h.s1⟩
 .show(if x.m1<a.t+x.hi then _ else _) ~ (((A++[a]).filter λl=>decide (x.m1<l.t+x.hi)).map λl=>Ad l (B.countP λr=>mB x.lo x.hi l r));rw[filter_append,map_append]
  by_cases hh:x.m1<a.t+x.hi
  .rw[if_pos hh];refine(Gh _ _ _).trans ((Perm.cons _ h.r0).trans ?_)
   have d:(bF a.k (a.t+x.lo) (a.t+x.hi) x.R1).length=B.countP λr=>mB x.lo x.hi a r:=by
    rw[c.length_eq,length_map,countP_eq_length_filter]
   have b:([a].filter λl=>decide (x.m1<l.t+x.hi))=[a]:=by simp[hh]
   rw[d,b];exact(perm_append_comm (l₁:=[Ad a (B.countP λr=>mB x.lo x.hi a r)]))
  .rw[if_neg hh]
   have b:([a].filter λl=>decide (x.m1<l.t+x.hi))=[]:=by simp;omega
   rw[b,map_nil,append_nil];exact h.r0
 .show fo x.R1 _ _ ~ ((B.filter λr=>decide (x.m0<r.t+ -x.lo)).map λr=>Ad r ((A++[a]).countP λl=>mB x.lo x.hi l r));rw[gZ h.s1];refine BM (λl r=>mB x.lo x.hi l r) _ A B a x.R1 _ ?_ f h.r1;intro r n;show decide (r.k=a.k/\a.t+x.lo<=r.t/\r.t<=a.t+x.hi)=decide (a.k=r.k/\x.lo<=r.t -a.t/\r.t -a.t<=x.hi);rw[Bool.eq_iff_iff];simp only[decide_eq_true_eq];omega
 .show ay (if x.m1<a.t+x.hi then _ else _)
  split
  .exact qX _ _ _ _ h.s0
  .exact h.s0
theorem Holds.fed1{A B:List Rw}(h:Holds x A B)(b:Rw)(e:x.m1<b.t)(f:B.length<9223372036854775807):Holds (x.fed1 b.k b.t b.v) A (B++[b]):=by
 have c:=h.met1 b e;refine⟨?_,?_,zm h.s0,?_⟩
 .show fo x.R0 _ _ ~ ((A.filter λl=>decide (x.m1<l.t+x.hi)).map λl=>Ad l ((B++[b]).countP λr=>mB x.lo x.hi l r));rw[gZ h.s0];refine BM (λr l=>mB x.lo x.hi l r) _ B A b x.R0 _ ?_ f h.r0;intro r n;show decide (r.k=b.k/\b.t+ -x.hi<=r.t/\r.t<=b.t+ -x.lo)=decide (r.k=b.k/\x.lo<=b.t -r.t/\b.t -r.t<=x.hi);rw[Bool.eq_iff_iff];simp only[decide_eq_true_eq];omega
 .show(if x.m0<b.t+ -x.lo then _ else _) ~ (((B++[b]).filter λr=>decide (x.m0<r.t+ -x.lo)).map λr=>Ad r (A.countP λl=>mB x.lo x.hi l r));rw[filter_append,map_append]
  by_cases hh:x.m0<b.t+ -x.lo
  .rw[if_pos hh];refine(Gh _ _ _).trans ((Perm.cons _ h.r1).trans ?_)
   have d:(bF b.k (b.t+ -x.hi) (b.t+ -x.lo) x.R0).length=A.countP λl=>mB x.lo x.hi l b:=by
    rw[c.length_eq,length_map,countP_eq_length_filter]
   have a:([b].filter λr=>decide (x.m0<r.t+ -x.lo))=[b]:=by simp;omega
   rw[d,a];exact(perm_append_comm (l₁:=[Ad b (A.countP λl=>mB x.lo x.hi l b)]))
  .rw[if_neg hh]
   have a:([b].filter λr=>decide (x.m0<r.t+ -x.lo))=[]:=by simp;omega
   rw[a,map_nil,append_nil];exact h.r1
 .show ay (if x.m0<b.t+ -x.lo then _ else _)
  split
  .exact qX _ _ _ _ h.s1
  .exact h.s1
end
section
open Go.RowKit Go.Sort
theorem MQ(xs:List Ch)(k j:Nat)(x:Ch)(b:xs[k]?=some x)(hj:j<10):(xs.flatMap aQ)[k*10+j]?=(aQ x)[j]? :=by
 induction xs generalizing k with
 |nil=>simp at b
 |cons a r ih=>
  rw[List.flatMap_cons]
  cases k with
  |zero=>
   simp at b;subst b;rw[eB (by rw[kC];omega)];congr 1;omega
  |succ k=>
   rw[dK (by rw[kC];omega),kC,show(k+1)*10+j -10=k*10+j by omega];exact ih k (by simpa using b)
theorem Eb{W:World}{base gs n e:Nat}{xs:List Ch}(h:W.ownsRow base 95 10 (.slice (some ⟨gs,0,none⟩) n e) n (xs.flatMap aQ))(k:Nat)(c:Ch)(d:xs[k]?=some c):
  W.cell? ⟨gs,k*10,none⟩=some (.int .i64 c.x.k)/\W.cell? ⟨gs,k*10+1,none⟩=some (.int .i64 c.x.lk)/\W.cell? ⟨gs,k*10+2,none⟩=some (.int .i64 c.x.lt)/\W.cell? ⟨gs,k*10+3,none⟩=some (.int .i64 c.x.lv)/\W.cell? ⟨gs,k*10+4,none⟩=some (.int .i64 c.x.rk)/\W.cell? ⟨gs,k*10+5,none⟩=some (.int .i64 c.x.rt)/\W.cell? ⟨gs,k*10+6,none⟩=some (.int .i64 c.x.rv)/\W.cell? ⟨gs,k*10+7,none⟩=some (.bool c.x.hl)/\W.cell? ⟨gs,k*10+8,none⟩=some (.bool c.x.hr)/\W.cell? ⟨gs,k*10+9,none⟩=some (.bool c.g):=by
 have key:=λ(j:Nat) (v:Value) (a:j<10) (b:(aQ c)[j]?=some v)=>h.cells (g:=gs) rfl (k*10+j) v ((MQ xs k j c d a).trans b)
 simp only[bZ]at key;exact⟨key 0 _ (by omega) rfl,key 1 _ (by omega) rfl,key 2 _ (by omega) rfl,key 3 _ (by omega) rfl,key 4 _ (by omega) rfl,key 5 _ (by omega) rfl,key 6 _ (by omega) rfl,key 7 _ (by omega) rfl,key 8 _ (by omega) rfl,key 9 _ (by omega) rfl⟩
def tV(Ui:(Nat->Prop)->World->Prop):Prop:=∀S W W',Ui S W->W.heap.size<=W'.heap.size->(∀k,S k->W'.heap[k]?=W.heap[k]?)->Ui S W'
end
section
open Go.RowKit Go.Sort
theorem ow(k:Int)(w:World):(binOp .neq 29 (.iface 24 (.int .i64 k)) .nilIface).run Tryz.prog w=.ok (.bool true) w:=by kernel_rfl
end
section
open Go.RowKit Go.Sort
abbrev qc(x:J)(r:Rw):List Ch:=bU x.mode 0 r.k r.t r.v (bF r.k (r.t+x.lo) (r.t+x.hi) x.R1)
abbrev qd(x:J)(r:Rw):List Ch:=bU x.mode 1 r.k r.t r.v (bF r.k (r.t+ -x.hi) (r.t+ -x.lo) x.R0)
abbrev eO(S S':Nat->Prop)(W w':World):Prop:=(∀k,S' k->(S k∨W.heap.size<=k)/\k<w'.heap.size)/\Turned S W w'
def iD:Value:= .iface 278 (.agg #[.pointer (some ⟨12,29,none⟩)])
structure xO(W:World):Prop where
 err:W.cell? ⟨2,0,none⟩=some iD
 tab:Lib.TabIs Tryz.prog W "internal/strconv.uint64pow10" .u64 Lib.pow10Tab
 max:∃m,W.cell? ⟨3,0,none⟩=some (.int .i64 m)
theorem aG{w w':World}(h:Lib.TabIs Tryz.prog w "internal/strconv.uint64pow10" .u64 Lib.pow10Tab)(hb:Below w.heap.size w w'):Lib.TabIs Tryz.prog w' "internal/strconv.uint64pow10" .u64 Lib.pow10Tab:=by
 have hg:Tryz.prog.globalNamed "internal/strconv.uint64pow10" =some 6:=by kernel_rfl
 unfold Lib.TabIs World.var? at h⊢;rw[hg]at h⊢;simp only[Option.bind_some]at h⊢
 have hlt:6<w.heap.size:=by
  rcases Nat.lt_or_ge 6 w.heap.size with h'|h'
  .exact h'
  .rw[Array.getElem?_eq_none h']at h;cases h
 rw[hb.block 6 hlt];exact h
theorem xO.below{W c:World}(h:xO W)(a:Below W.heap.size W c):xO c:=by
 obtain⟨m,b⟩:=h.max;exact⟨(a.cell (p:=⟨2,0,none⟩) (World.block_lt_of_cell? _ _ h.err)).trans h.err,aG h.tab a,m,(a.cell (p:=⟨3,0,none⟩) (World.block_lt_of_cell? _ _ b)).trans b⟩
inductive iK:O->Prop
 |left (k t v:Int):au k t v=true->iK (bn 0 k t v)
 |right (k t v:Int):au k t v=true->iK (bn 1 k t v)
 |pair (k t v t2 v2:Int):au k t v=true->au k t2 v2=true->iK ⟨k,k,t,v,k,t2,v2,true,true⟩
end
section
open Go.RowKit Go.Sort
structure aU(W:World):Prop where
 g:xO W
 e5:∃ev,W.cell? ⟨4,0,none⟩=some ev/\(ev=.nilIface∨∃te pe,ev=.iface te pe)
 e6:∃ev,W.cell? ⟨5,0,none⟩=some ev/\(ev=.nilIface∨∃te pe,ev=.iface te pe)
theorem aU.below{W c:World}(h:aU W)(a:Below W.heap.size W c):aU c:=by
 obtain⟨j,b,e⟩:=h.e5;obtain⟨f,d,i⟩:=h.e6;exact⟨h.g.below a,⟨j,(a.cell (p:=⟨4,0,none⟩) (World.block_lt_of_cell? _ _ b)).trans b,e⟩,⟨f,(a.cell (p:=⟨5,0,none⟩) (World.block_lt_of_cell? _ _ d)).trans d,i⟩⟩
end
section
open Go.RowKit Go.Sort
def Rw.small(r:Rw):Prop:=(-1099511627776<=r.k/\r.k<=1099511627776)/\(-1099511627776<=r.t/\r.t<=1099511627776)/\(-1099511627776<=r.v/\r.v<=1099511627776)
theorem iW{n:Int}(h: -1099511627776<=n/\n<=1099511627776):(Lit.int .i64 n).wf=true:=WalkArith.wf_i64 (by omega)
theorem wO{key fH av:Int}{R:List D}{y:D}(h:y∈bF key fH av R):y∈R:=List.mem_of_mem_drop ((List.takeWhile_sublist _).subset h)
theorem wN(mode s:Int)(r:Rw)(M:List D)(g:r.small)(i:∀y∈M,y.rw.small):∀c∈bU mode s r.k r.t r.v M,c.x.wf:=by
 have f:∀(u:Int) (q:Rw),q.small->(bn u q.k q.t q.v).wf:=λu q b=>by
  unfold bn
  split
  .exact⟨iW b.1,iW b.1,iW b.2.1,iW b.2.2,iW (n:=0) (by omega),iW (n:=0) (by omega),iW (n:=0) (by omega)⟩
  .exact⟨iW b.1,iW (n:=0) (by omega),iW (n:=0) (by omega),iW (n:=0) (by omega),iW b.1,iW b.2.1,iW b.2.2⟩
 have h:∀(u:Int) (q m:Rw),q.small->m.small->(bY u q.k q.t q.v m.k m.t m.v).wf:=λu q m b d=>by
  unfold bY
  split
  .exact⟨iW b.1,iW b.1,iW b.2.1,iW b.2.2,iW d.1,iW d.2.1,iW d.2.2⟩
  .exact⟨iW d.1,iW d.1,iW d.2.1,iW d.2.2,iW b.1,iW b.2.1,iW b.2.2⟩
 intro c a;unfold bU at a
 split at a
 .split at a
  .simp at a;subst a;exact f s r g
  .simp at a
 .rw[List.mem_flatMap]at a;obtain⟨m,d,a⟩:=a;have e:=i m d;unfold dU at a;rw[List.mem_append]at a
  rcases a with a|a
  .split at a
   .simp at a;subst a;exact f (1 -s) m.rw e
   .simp at a
  .simp at a;subst a;exact h s r m.rw g e
theorem pg(mode s k t v:Int)(M:List D):(bU mode s k t v M).length<=2*M.length+1:=by
 unfold bU
 split
 .split <;>simp
 .have:=rP (bf mode (1 -s)) s (1 -s) k t v M;omega
theorem dI{r:Rw}(h:au r.k r.t r.v=true):r.small:=by
 unfold au iG at h;unfold Rw.small;simp at h;omega
end
section
open Go.Joins Go.RowKit Go.Sort
open Go.WideElems (Fit rd rg)
variable{w A:World}{k b o m base d m':Nat}{u:Option Nat}{L:List O}{S:Nat->Prop}{G:Int->Option Tl}{z v:Value}{x:J}
theorem Ay{α:Type}:∀(xs L:List α),xs.Nodup->(∀x∈xs,x∈L)->xs.length<=L.length
 |[],_,_,_=>aW _
 |a::r,L,hn,hs=>by
  obtain⟨s,t,rfl⟩:=List.append_of_mem (hs a (by simp))
  have i:∀x∈r,x∈s++t:=λx f=>by
   have c:=hs x (by simp[f])
   have g:x≠a:=λe=>(List.nodup_cons.1 hn).1 (by rw[<-e];exact f)
   simp at c⊢
   rcases c with h|h|h
   .exact .inl h
   .exact absurd h g
   .exact .inr h
  have:=Ay r (s++t) (List.nodup_cons.1 hn).2 i;simp at this⊢;omega
theorem tQ{H:Type}{P:Program}{k:TypeId}{R:Value->Option (DataW H×List MemPlace)}{n:Nat}{D:DataW H}(h:w.ownsMap P k R b n D)(K:Maps.Keyed P k)(B:List Lit)(t:∀l,Maps.has D l=true->l∈B):w.ownsMap P k R b B.length D:=by
 have C:=h.tidy K;obtain⟨c,clock,E,F,hs,rfl⟩:=h;refine⟨c,clock,E,F,?_,rfl⟩;obtain⟨l,e,g⟩:=C
 have j:((c.toList.map (rg P k R)).foldr DataW.insert []).length=c.size:=by simp[length_sorted]
 have s:∀p∈(c.toList.map (rg P k R)).foldr DataW.insert [],WideAt.IsKeyLit p.1:=by
  intro p g;rw[(WideShapes.sorted_perm _).mem_iff]at g;obtain⟨x,i,rfl⟩:=dH.1 g;obtain⟨y,r⟩:=F.reads x i
  have:rg P k R x=y:=by simp[rg,r]
  rw[this];exact K.key (WideElems.rd_key r)
 have I:(c.toList.map (rg P k R)).foldr DataW.insert []=l:=by injection e
 rw[I]at j s t;rw[<-j,<-List.length_map (f:=λp:Lit×DataW H=>p.1)];refine Ay _ _ (List.pairwise_map.2 g) ?_;intro x i;obtain⟨p,a,rfl⟩:=dH.1 i;refine t _ ?_;rw[Maps.has_eq];exact List.any_eq_true.2 ⟨p,a,WideAt.sameKey_self (s p a)⟩
theorem aP.tight(h:aP w b o u m L):aP w b o u L.length L:=by
 refine⟨h.blk,?_⟩
 rcases h.map with a|⟨d,n,D,h1,hn,hown,hc⟩
 .exact .inl a
 .refine .inr ⟨d,L.length,D,h1,aC _,?_,hc⟩;have:=tQ hown keyed (L.map kL) (λl c=>by obtain⟨x,a,rfl⟩:=hc.keys l c;exact List.mem_map_of_mem a);simpa using this
theorem Oe(M:List O):(bD M).R.length<=M.length:=by
 induction M with
 |nil=>simp[bD]
 |cons x M ih=>
  show(if x.hr=true then x.rv::(bD M).R else(bD M).R).length<=_
  split
  all_goals (simp only[List.length_cons];omega)
theorem lu.tight(h:lu w b o m S (bK L)):lu w b o L.length S (bK L):=by
 obtain⟨u,M,r,F,I⟩:=h;refine⟨u,M,⟨r.blk,?_⟩,F,I⟩
 rcases r.map with i|⟨d,n,D,e,hM⟩
 .exact .inl i
 .have p:∀k τ,bK L k=some τ->τ=bD (gK L k)/\gK L k≠[]:=by
   intro k τ a;unfold bK at a
   split at a
   .cases a
   .rename_i hne
    exact⟨by injection a with a;exact a.symm,hne⟩
  refine .inr ⟨d,L.length,D,e,aC _,?_,hM.dat,?_,hM.bmb,hM.nb,hM.inj⟩
  .have:=tQ hM.own fJ (L.map λo=>gi o.k) (λl c=>by
    obtain⟨k,τ,rfl,a⟩:=hM.dat.keys l c;obtain⟨_,B⟩:=p k τ a;obtain⟨y,H⟩:=List.exists_mem_of_ne_nil _ B;obtain⟨g,f⟩:=List.mem_filter.1 H;rw[List.mem_map]
    exact⟨y,g,by simp at f;rw[f]⟩)
   simpa using this
  .intro k τ a;obtain⟨s,B⟩:=p k τ a;have j:=hM.tals k τ a;obtain⟨n',K,_,E,C⟩:=j.own;have c:(gK L k).length<=L.length:=dG _ _
   have t:τ.R.length<=L.length:=by rw[s];exact aH (Oe _) c
   refine⟨j.blk,⟨τ.R.length,K,t,?_,C⟩,j.lo,by rw[s,jZ];exact c,t⟩;have:=tQ E fJ (τ.R.map gi) (λl c=>by obtain⟨x,i,rfl⟩:=C.keys l c;exact List.mem_map_of_mem i);simpa using this
theorem lu.other(h:lu w b o m S G)(p:w.heap.size<=A.heap.size)(l:∀cs T,w.heap[b]?=some (.cells cs T)->∃cs':Array Value,A.heap[b]?=some (.cells cs' T)/\cs'[o]?=cs[o]?)(r:∀j,S j->j≠b->A.heap[j]?=w.heap[j]?):lu A b o m S G:=by
 obtain⟨u,B,f,e,i⟩:=h;refine⟨u,B,⟨?_,?_⟩,e,λj c=>aR (i j c) p⟩
 .obtain⟨cs,T,g,s⟩:=f.blk;obtain⟨cs',t,y⟩:=l cs T g;exact⟨cs',T,t,y.trans s⟩
 .rcases f.map with h1|⟨d,n,D,rfl,hm⟩
  .exact .inl h1
  .exact .inr ⟨d,n,D,rfl,hm.kept λj c a=>r j (e j c) a⟩
theorem lu.lt(h:lu w b o m S G)(a:S k):k<w.heap.size:=by
 obtain⟨_,_,_,_,c⟩:=h;exact c k a
theorem aP.other(h:aP w b o u m L)(a:∀cs T,w.heap[b]?=some (.cells cs T)->∃cs':Array Value,A.heap[b]?=some (.cells cs' T)/\cs'[o]?=cs[o]? /\cs'[o+1]?=cs[o+1]?)(j:∀d,u=some d->A.heap[d]?=w.heap[d]?):aP A b o u m L:=by
 refine⟨?_,?_⟩
 .obtain⟨cs,T,f,e,s⟩:=h.blk;obtain⟨cs',i,r,g⟩:=a cs T f;exact⟨cs',T,i,r.trans e,g.trans s⟩
 rcases h.map with hm|⟨d,n,D,h1,hn,hown,hc⟩
 .exact .inl hm
 .right
  obtain⟨p,c,a,l⟩:=hown;exact⟨d,n,D,h1,hn,⟨p,c,(j d h1).trans a,l⟩,hc⟩
def eP(bj d:Nat)(z v:Value)(k:Nat):Prop:=k=bj∨k=d∨z.ownBlock=some k∨v.ownBlock=some k
def aT(bj d:Nat)(z v:Value)(u:Option Nat)(Sg:Nat->Prop)(k:Nat):Prop:=eP bj d z v k∨u=some k∨Sg k
theorem ai.foot_lt(h:ai w base b d z v x)(a:eP b d z v k):k<w.heap.size:=by
 rcases a with rfl|rfl|a|a
 .exact h.lt
 .exact h.ltm
 .exact(h.r0.lt k a).2
 .exact(h.r1.lt k a).2
theorem ai.still(h:ai w base b d z v x)(a:∀k,eP b d z v k->A.heap[k]?=w.heap[k]?):ai A base b d z v x:=
 ⟨(a b (.inl rfl)).trans h.blk,(a d (.inr (.inl rfl))).trans h.mks,ag h.r0 (λg e=>a g (.inr (.inr (.inl e)))),ag h.r1 (λg e=>a g (.inr (.inr (.inr e)))),h.apart⟩
def Head(cs:Array Value)(bj:Nat)(x:J)(f0 f1:Int):Prop:=
 cs[0]?=some (.int .i64 x.lo)/\cs[1]?=some (.int .i64 x.hi)/\cs[2]?=some (.int .i64 x.mode)/\cs[3]?=some (.pointer (some ⟨bj,0,none⟩))/\cs[4]?=some (.int .i64 f0)/\cs[5]?=some (.int .i64 f1)
theorem Head.same{cs cs':Array Value}{bj:Nat}{f0 f1:Int}(h:Head cs bj x f0 f1)(a:∀i,i<6->cs'[i]?=cs[i]?):Head cs' bj x f0 f1:=
 ⟨(a 0 (by omega)).trans h.1,(a 1 (by omega)).trans h.2.1,(a 2 (by omega)).trans h.2.2.1,(a 3 (by omega)).trans h.2.2.2.1,(a 4 (by omega)).trans h.2.2.2.2.1,(a 5 (by omega)).trans h.2.2.2.2.2⟩
structure az(w:World)(q bj d:Nat)(z v:Value)(f0 f1:Int)(u:Option Nat)(Sg:Nat->Prop)(x:J)(Lb Lg:List O):Prop where
 head:∃cs T,w.heap[q]?=some (.cells cs T)/\Head cs bj x f0 f1
 join:ai w 0 bj d z v x
 bag:aP w q 6 u Lb.length Lb
 grp:lu w q 8 Lg.length Sg (bK Lg)
 jb:∀k,eP bj d z v k->k≠q/\u≠some k/\¬Sg k
 bg:∀k,u=some k->¬Sg k
 r0:0<=f0/\f0<=9223372036854775807
 r1:0<=f1/\f1<=9223372036854775807
section
variable{w A:World}{q bj d:Nat}{z v:Value}{f0 f1:Int}{u:Option Nat}{Sg:Nat->Prop}{x:J}{Lb Lg:List O}
theorem az.lt(h:az w q bj d z v f0 f1 u Sg x Lb Lg)(a:aT bj d z v u Sg k):k<w.heap.size:=by
 rcases a with a|a|a
 .exact h.join.foot_lt a
 .exact(h.bag.ne a).2
 .exact h.grp.lt a
theorem az.blt(h:az w q bj d z v f0 f1 u Sg x Lb Lg):q<w.heap.size:=h.bag.lt
theorem az.inS(h:az w q bj d z v f0 f1 u Sg x Lb Lg):Sg q:=h.grp.in.1
theorem az.still(h:az w q bj d z v f0 f1 u Sg x Lb Lg)(i:w.heap.size<=A.heap.size)(a:∀k,aT bj d z v u Sg k->A.heap[k]?=w.heap[k]?):az A q bj d z v f0 f1 u Sg x Lb Lg:=by
 have c:A.heap[q]?=w.heap[q]? :=a q (.inr (.inr h.inS));obtain⟨cs,T,g,f⟩:=h.head;exact⟨⟨cs,T,c.trans g,f⟩,h.join.still (λk e=>a k (.inl e)),h.bag.kept c (λk e=>a k (.inr (.inl e))),h.grp.kept i (λk e=>a k (.inr (.inr e))),h.jb,h.bg,h.r0,h.r1⟩
theorem az.below(h:az w q bj d z v f0 f1 u Sg x Lb Lg)(a:Below w.heap.size w A):az A q bj d z v f0 f1 u Sg x Lb Lg:=h.still a.size (λ_ e=>a.block _ (h.lt e))
theorem az.bagged(h:az w q bj d z v f0 f1 u Sg x Lb Lg){f:Option Nat}{r:List O}(B:aP A q 6 f m' r)(a:gX q 6 u w A)(s:Moves w u f):az A q bj d z v f0 f1 f Sg x r Lg:=by
 obtain⟨cs,T,y,t⟩:=h.head;refine⟨?_,h.join.still (λk e=>a.block k (h.join.foot_lt e) (h.jb k e).1 (h.jb k e).2.1),B.tight,h.grp.other a.size (λcs T C=>?_) (λj c g=>a.block j (h.grp.lt c) g (λe=>h.bg j e c)),λk e=>⟨(h.jb k e).1,?_,(h.jb k e).2.2⟩,λk e=>?_,h.r0,h.r1⟩
 .obtain⟨cs',l,_,n⟩:=a.this cs T y;exact⟨cs',T,l,t.same (λi hi=>n i (by omega) (by omega))⟩
 .obtain⟨cs',l,_,n⟩:=a.this cs T C;exact⟨cs',l,n 8 (by omega) (by omega)⟩
 .rcases s with rfl|⟨j,rfl,c⟩
  .exact(h.jb k e).2.1
  .intro p;cases p;have:=h.join.foot_lt e;omega
 .rcases s with rfl|⟨j,rfl,c⟩
  .exact h.bg k e
  .cases e;intro p;have:=h.grp.lt p;omega
theorem az.grouped(h:az w q bj d z v f0 f1 u Sg x Lb Lg){j:List O}(n:lu A q 8 m' (More Sg w A) (bK j))(c:kF Sg q 8 w A):az A q bj d z v f0 f1 u (More Sg w A) x Lb j:=by
 obtain⟨cs,T,p,l⟩:=h.head;refine⟨?_,h.join.still (λk e=>c.block k (h.join.foot_lt e) (h.jb k e).2.2),h.bag.other (λcs T r=>?_) (λk e=>c.block k (h.bag.ne e).2 (h.bg k e)),n.tight,λk e=>⟨(h.jb k e).1,(h.jb k e).2.1,?_⟩,λk e=>?_,h.r0,h.r1⟩
 .obtain⟨cs',g,_,f⟩:=c.this cs T p;exact⟨cs',T,g,l.same (λi hi=>f i (by omega))⟩
 .obtain⟨cs',g,_,f⟩:=c.this cs T r;exact⟨cs',g,f 6 (by omega),f 7 (by omega)⟩
 .rintro(a|a)
  .exact(h.jb k e).2.2 a
  .have:=h.join.foot_lt e;omega
 .rintro(a|a)
  .exact h.bg k e a
  .have:=(h.bag.ne e).2;omega
theorem az.joined(h:az w q bj d z v f0 f1 u Sg x Lb Lg){i a:Value}{f:J}(s:ai A 0 bj d i a f)(j:f.lo=x.lo/\f.hi=x.hi/\f.mode=x.mode)(g:Turned (eP bj d z v) w A)(r:∀k,eP bj d i a k->eP bj d z v k∨w.heap.size<=k):az A q bj d i a f0 f1 u Sg f Lb Lg:=by
 have p:A.heap[q]?=w.heap[q]? :=g.block q h.blt (λe=>(h.jb q e).1 rfl);obtain⟨cs,T,t,n⟩:=h.head;refine⟨⟨cs,T,p.trans t,?_⟩,s,h.bag.kept p (λk e=>g.block k (h.bag.ne e).2 (λc=>(h.jb k c).2.1 e)),h.grp.kept g.size (λk e=>g.block k (h.grp.lt e) (λc=>(h.jb k c).2.2 e)),λk e=>?_,h.bg,h.r0,h.r1⟩
 .unfold Head at n⊢;rw[j.1,j.2.1,j.2.2];exact n
 .rcases r k e with c|c
  .exact h.jb k c
  .have a1:=h.blt;exact⟨by omega,λl=>by have:=(h.bag.ne l).2;omega,λl=>by have:=h.grp.lt l;omega⟩
theorem az.setf(h:az w q bj d z v f0 f1 u Sg x Lb Lg)(i:Nat)(n l c:Int)(hi:i=4/\l=n/\c=f1∨i=5/\l=f0/\c=n)(s:0<=n/\n<=9223372036854775807):az (w.setCell ⟨q,i,none⟩ (.int .i64 n)) q bj d z v l c u Sg x Lb Lg:=by
 have g:∀k,k≠q->(w.setCell ⟨q,i,none⟩ (.int .i64 n)).heap[k]?=w.heap[k]? :=λk e=>iJ _ _ _ _ e
 have p:∀cs T,w.heap[q]?=some (.cells cs T)->(w.setCell ⟨q,i,none⟩ (.int .i64 n)).heap[q]?=some (.cells (cs.setIfInBounds i (.int .i64 n)) T):=λcs T e=>fZ e _
 have a:∀(cs:Array Value) j,j≠i->(cs.setIfInBounds i (.int .i64 n))[j]?=cs[j]? :=λcs j e=>by rw[Array.getElem?_setIfInBounds];simp[Ne.symm e]
 obtain⟨cs,T,H,F⟩:=h.head
 have hi6:i<6:=by omega
 refine⟨⟨_,T,p cs T H,?_⟩,h.join.still (λk e=>g k (h.jb k e).1),h.bag.other (λcs T e=>⟨_,p cs T e,a cs 6 (by omega),a cs 7 (by omega)⟩) (λk e=>g k (h.bag.ne e).1),h.grp.other (by simp) (λcs T e=>⟨_,p cs T e,a cs 8 (by omega)⟩) (λj _ f=>g j f),h.jb,h.bg,?_,?_⟩
 .obtain⟨t,y,B,C,r,E⟩:=F
  rcases hi with⟨rfl,rfl,rfl⟩|⟨rfl,rfl,rfl⟩
  .refine⟨(a cs 0 (by omega)).trans t,(a cs 1 (by omega)).trans y,(a cs 2 (by omega)).trans B,(a cs 3 (by omega)).trans C,?_,(a cs 5 (by omega)).trans E⟩;have:4<cs.size:=(ax.1 r).1;simp[this]
  .refine⟨(a cs 0 (by omega)).trans t,(a cs 1 (by omega)).trans y,(a cs 2 (by omega)).trans B,(a cs 3 (by omega)).trans C,(a cs 4 (by omega)).trans r,?_⟩;have:5<cs.size:=(ax.1 E).1;simp[this]
 .rcases hi with⟨_,rfl,_⟩|⟨_,rfl,_⟩
  .exact s
  .exact h.r0
 .rcases hi with⟨_,_,rfl⟩|⟨_,_,rfl⟩
  .exact h.r1
  .exact s
theorem az.cells(h:az w q bj d z v f0 f1 u Sg x Lb Lg):
  w.cell? ⟨q,0,none⟩=some (.int .i64 x.lo)/\w.cell? ⟨q,1,none⟩=some (.int .i64 x.hi)/\w.cell? ⟨q,2,none⟩=some (.int .i64 x.mode)/\w.cell? ⟨q,3,none⟩=some (.pointer (some ⟨bj,0,none⟩))/\w.cell? ⟨q,4,none⟩=some (.int .i64 f0)/\w.cell? ⟨q,5,none⟩=some (.int .i64 f1)/\w.frozen? ⟨q,4,none⟩=false/\w.frozen? ⟨q,5,none⟩=false:=by
 obtain⟨cs,T,a,a0,a1,a2,a3,a4,a5⟩:=h.head;refine⟨?_,?_,?_,?_,?_,?_,fV a 4,fV a 5⟩
 all_goals (rw[fq a];assumption)
end
end
section
open Go.Proofs.Tryz Go.Joins Go.RowKit Go.Sort
abbrev wy(o:O)(g:Bool):Obj:= .cells #[.int .i64 o.k,.int .i64 o.lk,.int .i64 o.lt,.int .i64 o.lv,.int .i64 o.rk,.int .i64 o.rt,.int .i64 o.rv,.bool o.hl,.bool o.hr,.bool g] 95
theorem mO{W:World}{b:Nat}{o:O}{g:Bool}(h:W.heap[b]?=some (wy o g)):W.cell? ⟨b,0,none⟩=some (.int .i64 o.k)/\W.cell? ⟨b,1,none⟩=some (.int .i64 o.lk)/\W.cell? ⟨b,2,none⟩=some (.int .i64 o.lt)/\W.cell? ⟨b,3,none⟩=some (.int .i64 o.lv)/\W.cell? ⟨b,4,none⟩=some (.int .i64 o.rk)/\W.cell? ⟨b,5,none⟩=some (.int .i64 o.rt)/\W.cell? ⟨b,6,none⟩=some (.int .i64 o.rv)/\W.cell? ⟨b,7,none⟩=some (.bool o.hl)/\W.cell? ⟨b,8,none⟩=some (.bool o.hr)/\W.cell? ⟨b,9,none⟩=some (.bool g):=by
 refine⟨?_,?_,?_,?_,?_,?_,?_,?_,?_,?_⟩ <;>(rw[fq h];rfl)
theorem x8(be bj t:Nat)(v s:Value)(f0 f1:Int)(c:Option Nat)(d:Nat->Prop)(x:J)(L m:List O)(o:O)(g:Bool)(w:World)(h:az w be bj t v s f0 f1 c d x L L)
  (T:∀W,az W be bj t v s f0 f1 c d x L L->Calls prog 107 #[.pointer (some ⟨be,6,none⟩),vC o g] W λe b=>(∃r,e=.returned r)/\∃a B,aP b be 6 a B m/\gX be 6 c W b/\Moves W c a)
  (Q:∀W a,az W be bj t v s f0 f1 a d x m L->Calls prog 108 #[.pointer (some ⟨be,8,none⟩),vC o g] W λe b=>(∃r,e=.returned r)/\∃B,lu b be 8 B (More d W b) (bK m)/\kF d be 8 W b):
  Calls prog 47 #[.pointer (some ⟨be,0,none⟩),vC o g] w λe b=>e=.returned (.tuple #[])/\∃a C,az b be bj t v s f0 f1 a C x m m/\(∀k,a=some k->c=some k∨w.heap.size<=k)/\(∀k,C k->d k∨w.heap.size<=k)/\Turned (λk=>k=be∨c=some k∨d k) w b:=by
 have N:Hid (∀W,Below w.heap.size w W->W.heap[w.heap.size]?=some (wy o g)->Calls prog 107 #[.pointer (some ⟨be,6,none⟩),vC o g] W λe b=>(∃r,e=.returned r)/\b.heap[w.heap.size]?=some (wy o g)/\Hid (∃a,az b be bj t v s f0 f1 a d x m L/\(∀k,a=some k->c=some k∨w.heap.size<=k)/\Turned (λk=>k=be∨c=some k) w b)):=by
  intro W p l;have z:=h.below p;have F:=h.blt;refine(T W z).mono ?_;rintro e b ⟨H,a,B,y,i,A⟩;refine⟨H,(i.block _ (ax.1 l).1 (by omega) (λe=>by have:=(h.bag.ne e).2;omega)).trans l,a,z.bagged y i A,λk e=>?_,(Turned.of_below (S:=λk=>k=be∨c=some k) p).trans (S':=λk=>k=be∨c=some k) ⟨i.os,i.tape,i.output,i.size,λk G E=>i.block k G (λe=>E (.inl e)) (λe=>E (.inr e))⟩ (λ_ _ e=>e)⟩
  rcases A with rfl|⟨j,rfl,hj⟩
  .exact .inl e
  .cases e;exact .inr (aH p.size hj)
 have R:Hid (∀f W,Hid (∃a,az f be bj t v s f0 f1 a d x m L/\(∀k,a=some k->c=some k∨w.heap.size<=k)/\Turned (λk=>k=be∨c=some k) w f)->f.heap[w.heap.size]?=some (wy o g)->Below f.heap.size f W->Calls prog 108 #[.pointer (some ⟨be,8,none⟩),vC o g] W λe b=>(∃r,e=.returned r)/\b.heap[w.heap.size]?=some (wy o g)/\Hid (∃a C,az b be bj t v s f0 f1 a C x m m/\(∀k,a=some k->c=some k∨w.heap.size<=k)/\(∀k,C k->d k∨w.heap.size<=k)/\Turned (λk=>k=be∨c=some k∨d k) w b)):=by
  rintro f W ⟨a,y,i,A⟩ l p;have M:=(p.block _ (ax.1 l).1).trans l;have z:=y.below p;refine(Q W a z).mono ?_;rintro e b ⟨H,B,U,q⟩;refine⟨H,(q.block _ (ax.1 M).1 (λe=>by have:=h.grp.lt e;omega)).trans M,a,_,z.grouped U q,i,λk e=>?_,?_⟩
  .rcases e with e|e
   .exact .inl e
   .exact .inr (aH A.size (aH p.size e.1))
  .refine((A.mono (S':=λk=>k=be∨c=some k∨d k) (λk e=>e.elim .inl (λe=>.inr (.inl e)))).trans (Turned.of_below (S:=λ_=>False) p) (λ_ _ e=>e.elim)).trans (S':=d) ⟨q.os,q.tape,q.output,q.size,λk G E=>q.block k G E⟩ (λk _ e=>.inr (.inr e))
 have F:=h.blt;clear h T Q;simp only[vC]at N R⊢;go_enter func47,ntmps47;go_wp2;have P:Hid (Below w.heap.size w (w.alloc (wy o g)).drew/\(w.alloc (wy o g)).drew.heap[w.heap.size]?=some (wy o g)):=⟨(fC _ _).drew,eZ w (wy o g)⟩;have n:=mO (eZ w (wy o g))
 go_region_held3 (λW=>W.cell? ⟨w.heap.size,0,none⟩=some (.int .i64 o.k)/\W.cell? ⟨w.heap.size,1,none⟩=some (.int .i64 o.lk)/\W.cell? ⟨w.heap.size,2,none⟩=some (.int .i64 o.lt)/\W.cell? ⟨w.heap.size,3,none⟩=some (.int .i64 o.lv)/\W.cell? ⟨w.heap.size,4,none⟩=some (.int .i64 o.rk)/\W.cell? ⟨w.heap.size,5,none⟩=some (.int .i64 o.rt)/\W.cell? ⟨w.heap.size,6,none⟩=some (.int .i64 o.rv)/\W.cell? ⟨w.heap.size,7,none⟩=some (.bool o.hl)/\W.cell? ⟨w.heap.size,8,none⟩=some (.bool o.hr)/\W.cell? ⟨w.heap.size,9,none⟩=some (.bool g)) (first|exact n|exact mO u|fail) (first
  |(go_at_call 107;refine(N.out _ P.out.1 P.out.2).mono ?_;rintro e f ⟨⟨r1,rfl⟩,u,y⟩)
  |fail)
 clear n;have n:=mO u;go_wp2;have V:Hid (Below f.heap.size f f.drew):=(iL _ _).drew
 go_region_held3 (λW=>W.cell? ⟨w.heap.size,0,none⟩=some (.int .i64 o.k)/\W.cell? ⟨w.heap.size,1,none⟩=some (.int .i64 o.lk)/\W.cell? ⟨w.heap.size,2,none⟩=some (.int .i64 o.lt)/\W.cell? ⟨w.heap.size,3,none⟩=some (.int .i64 o.lv)/\W.cell? ⟨w.heap.size,4,none⟩=some (.int .i64 o.rk)/\W.cell? ⟨w.heap.size,5,none⟩=some (.int .i64 o.rt)/\W.cell? ⟨w.heap.size,6,none⟩=some (.int .i64 o.rv)/\W.cell? ⟨w.heap.size,7,none⟩=some (.bool o.hl)/\W.cell? ⟨w.heap.size,8,none⟩=some (.bool o.hr)/\W.cell? ⟨w.heap.size,9,none⟩=some (.bool g)) (first|exact n|exact I|fail) (first
  |(go_at_call 108;refine(R.out f _ y u V.out).mono ?_;rintro e w2 ⟨⟨r2,rfl⟩,K,i⟩;have I:=mO K)
  |fail)
 go_wp2
 go_end0
 exact⟨rfl,i.out⟩
end
section
open Go.Proofs.Tryz Go.Joins Go.RowKit Go.Sort
variable{w:World}{b a:Nat}{lo hi mode:Int}
theorem ai.base0{base:Nat}{d c:Value}{x:J}(h:ai w base b a d c x):ai w 0 b a d c x:=⟨h.blk,h.mks,h.r0.mono (aW _),h.r1.mono (aW _),h.apart⟩
theorem Sl{bj:Nat}{cs:Array Value}{T:TypeId}(c:ai w 0 bj a (.slice none 0 0) (.slice none 0 0) ⟨lo,hi,mode,-1099511627777,-1099511627777,0,[],[]⟩)
  (f:cs=#[.int .i64 lo,.int .i64 hi,.int .i64 mode,.pointer (some ⟨bj,0,none⟩),.int .i64 0,.int .i64 0,.map none,.int .i64 0,.map none]):
  az (w.alloc (.cells cs T)) w.heap.size bj a (.slice none 0 0) (.slice none 0 0) 0 0 none (λk=>k=w.heap.size) ⟨lo,hi,mode,-1099511627777,-1099511627777,0,[],[]⟩ [] []:=by
 have d:=World.alloc_heap_new w (.cells cs T);subst f;refine⟨⟨_,T,d,rfl,rfl,rfl,rfl,rfl,rfl⟩,c.below (fC _ _),⟨⟨_,T,d,rfl,rfl⟩,.inl ⟨rfl,rfl⟩⟩,⟨none,λ_=>(0,0),⟨⟨_,T,d,rfl⟩,.inl ⟨rfl,Co⟩⟩,λj c=>?_,(λj c=>by simp;omega)⟩,λk e=>?_,(λk e=>by cases e),(by omega),(by omega)⟩
 .rcases c with h|h|⟨k,τ,h,_⟩
  .exact h
  .cases h
  .rw[Co]at h;cases h
 .have:=c.foot_lt e;exact⟨by omega,by simp,by omega⟩
abbrev uY(lo hi mode:Int):Obj:= .cells #[.int .i64 lo,.int .i64 hi,.int .i64 mode] 45
theorem D7{W:World}(h:W.heap[b]?=some (uY lo hi mode)):W.cell? ⟨b,0,none⟩=some (.int .i64 lo)/\W.cell? ⟨b,1,none⟩=some (.int .i64 hi)/\W.cell? ⟨b,2,none⟩=some (.int .i64 mode):=by
 refine⟨?_,?_,?_⟩ <;>(rw[fq h];rfl)
theorem JM(lo hi mode:Int)(w:World)(h:dn lo hi mode):Calls prog 13 #[.agg #[.int .i64 lo,.int .i64 hi,.int .i64 mode]] w λe c=>∃be bj a,e=.returned (.tuple #[.pointer (some ⟨be,0,none⟩),.nilIface])/\az c be bj a (.slice none 0 0) (.slice none 0 0) 0 0 none (λk=>k=be) ⟨lo,hi,mode,-1099511627777,-1099511627777,0,[],[]⟩ [] []/\w.heap.size<=be/\w.heap.size<=bj/\w.heap.size<=a/\Below w.heap.size w c:=by
 have r:Hid (∀W,Below w.heap.size w W->W.heap[w.heap.size]?=some (uY lo hi mode)->Calls prog 48 #[.agg #[.int .i64 lo,.int .i64 hi,.int .i64 mode]] W λe c=>∃b,e=.returned (.tuple #[.pointer (some ⟨b,0,none⟩),.nilIface])/\c.heap[w.heap.size]?=some (uY lo hi mode)/\Hid (∃a,w.heap.size<=b/\w.heap.size<=a/\Below w.heap.size w c/\ai c 0 b a (.slice none 0 0) (.slice none 0 0) ⟨lo,hi,mode,-1099511627777,-1099511627777,0,[],[]⟩)):=by
  intro W m d;have s:=m.size;refine(Sm lo hi mode W h).mono ?_;rintro e c ⟨b,a,rfl,n,h2,j,u⟩;exact⟨b,rfl,(j.block _ (ax.1 d).1).trans d,a,by omega,by omega,m.trans (j.mono s),u.base0⟩
 clear h;go_enter func13,ntmps13;have l:Hid (Below w.heap.size w (w.alloc (uY lo hi mode))/\(w.alloc (uY lo hi mode)).heap[w.heap.size]?=some (uY lo hi mode)):=⟨fC _ _,eZ w (uY lo hi mode)⟩
 go_wp2_with (first
  |(go_at_call 48;refine(r.out _ l.out.1 l.out.2).mono ?_;rintro e i ⟨bj,rfl,f,n⟩;have hc1:=D7 f)
  |fail)
 obtain⟨a,q,t,g,p⟩:=n.out;have o:=Sl (T:=108) p rfl;refine ja (v:= .tuple #[.pointer (some ⟨i.heap.size,0,none⟩),.nilIface]) (by simp[results,Tryz.results13,go_sem]) rfl ⟨i.heap.size,bj,a,rfl,o,g.size,q,t,g.alloc g.size _⟩
theorem tJ(f:ql)(be bj a:Nat)(l k:Value)(f0 f1:Int)(d:Option Nat)(i:Nat->Prop)(x:J)(L g:List O)(w:World)(h:az w be bj a l k f0 f1 d i x L g)(m:L.length<=1000000):
  Calls prog 27 #[.pointer (some ⟨be,0,none⟩)] w λe c=>∃v Z,e=.returned v/\Z.Perm L/\bJ Z/\c.ownsRow w.heap.size 89 9 v Z.length (Z.flatMap ah)/\Below w.heap.size w c:=by
 have H:Hid (Calls prog 68 #[.pointer (some ⟨be,6,none⟩)] w λe c=>∃v Z,e=.returned v/\Z.Perm L/\bJ Z/\c.ownsRow w.heap.size 89 9 v Z.length (Z.flatMap ah)/\Below w.heap.size w c):=RG f be 6 L.length d L w h.bag (by omega) m;have hlt:=h.blt;clear h;go_enter func27,ntmps27
 go_wp2_with (first
  |(go_at_call 68;refine H.out.mono ?_;rintro e w1 ⟨v,Z,rfl,j⟩)
  |fail)
 go_ret;exact⟨v,Z,rfl,j⟩
end
end Go.Proofs.YthfpipieboophaaGreatDoor
