import Derived.Test.YthfpipieboophaaGreatDoorZRfa
import Derived.Test.YthfpipieboophaaGreatDoorZJna
namespace Go.Proofs.YthfpipieboophaaGreatDoor
set_option maxRecDepth 100000
set_option maxHeartbeats 40000000
open Go.Joins Go.Shelf Go.RowKit
section
open Go.Proofs.Tryz
theorem bG(n lo hi:Int)(w:World):Calls prog 52 #[.int .i64 n,.int .i64 lo,.int .i64 hi] w λe a=>e=.returned (.bool (iG lo hi n))/\a=w:=by
 by_cases h1:lo<=n
 .by_cases h2:n<=hi
  .go_enter func52,ntmps52;go_wp2;go_ret;exact⟨aN (by simp[iG,h1,h2]),rfl⟩
  .go_enter func52,ntmps52;go_wp2;go_ret;exact⟨aN (by simp[iG,h1,h2]),rfl⟩
 .go_enter func52,ntmps52;go_wp2;go_ret;exact⟨aN (by rw[iG,dJ (by omega:¬lo<=n)];rfl),rfl⟩
theorem iA(k t v:Int)(w:World):
  Calls prog 40 #[.agg #[.int .i64 k,.int .i64 t,.int .i64 v]] w λe a=>e=.returned (.bool (au k t v))/\Go.RowKit.Below w.heap.size w a:=by
 have H:=λn W=>bG n (-1099511627776) 1099511627776 W
 cases h1:iG (-1099511627776) 1099511627776 k
 .go_enter func40,ntmps40
  go_wp2_with (go_at_call 52;refine(H _ _).mono ?_;rintro e a ⟨rfl,rfl⟩)
  go_ret;exact⟨aN (by simp[au,h1]),fC _ _⟩
 .cases h2:iG (-1099511627776) 1099511627776 t
  .go_enter func40,ntmps40
   go_wp2_with (go_at_call 52;refine(H _ _).mono ?_;rintro e a ⟨rfl,rfl⟩)
   go_ret;exact⟨aN (by simp[au,h1,h2]),fC _ _⟩
  .go_enter func40,ntmps40
   go_wp2_with (go_at_call 52;refine(H _ _).mono ?_;rintro e a ⟨rfl,rfl⟩)
   go_ret;exact⟨aN (by simp[au,h1,h2]),fC _ _⟩
theorem yP(k t v:Int)(w:World):
  Calls prog 38 #[.int .i64 0,.agg #[.int .i64 k,.int .i64 t,.int .i64 v]] w λe a=>e=.returned (.agg #[.int .i64 k,.int .i64 k,.int .i64 t,.int .i64 v,.int .i64 0,.int .i64 0,.int .i64 0,.bool true,.bool false])/\Go.RowKit.Below w.heap.size w a:=by
 go_enter func38,ntmps38;go_wp2;exact ja (v:= .agg #[.int .i64 k,.int .i64 k,.int .i64 t,.int .i64 v,.int .i64 0,.int .i64 0,.int .i64 0,.bool true,.bool false]) (by simp[results,Tryz.results38,go_sem]) rfl ⟨rfl,below_alloc3 _ _ _ _⟩
theorem vS(s k t v:Int)(hs:¬s=0)(w:World):
  Calls prog 38 #[.int .i64 s,.agg #[.int .i64 k,.int .i64 t,.int .i64 v]] w λe a=>e=.returned (.agg #[.int .i64 k,.int .i64 0,.int .i64 0,.int .i64 0,.int .i64 k,.int .i64 t,.int .i64 v,.bool false,.bool true])/\Go.RowKit.Below w.heap.size w a:=by
 go_enter func38,ntmps38;go_wp2;exact ja (v:= .agg #[.int .i64 k,.int .i64 0,.int .i64 0,.int .i64 0,.int .i64 k,.int .i64 t,.int .i64 v,.bool false,.bool true]) (by simp[results,Tryz.results38,go_sem]) rfl ⟨rfl,below_alloc3 _ _ _ _⟩
theorem oM(a t1 d b t2 c:Int)(w:World):
  Calls prog 39 #[.agg #[.int .i64 a,.int .i64 t1,.int .i64 d],.agg #[.int .i64 b,.int .i64 t2,.int .i64 c]] w λe f=>e=.returned (.agg #[.int .i64 a,.int .i64 a,.int .i64 t1,.int .i64 d,.int .i64 b,.int .i64 t2,.int .i64 c,.bool true,.bool true])/\Go.RowKit.Below w.heap.size w f:=by
 go_enter func39,ntmps39;go_wp2;exact ja (v:= .agg #[.int .i64 a,.int .i64 a,.int .i64 t1,.int .i64 d,.int .i64 b,.int .i64 t2,.int .i64 c,.bool true,.bool true]) (by simp[results,Tryz.results39,go_sem]) rfl ⟨rfl,below_alloc3 _ _ _ _⟩
theorem pM(b:Nat)(mode s:Int)(w:World)(h:w.cell? ⟨b,2,none⟩=some (.int .i64 mode))(a:s=0∨s=1):
  Calls prog 94 #[.pointer (some ⟨b,0,none⟩),.int .i64 s] w λe c=>e=.returned (.bool (bf mode s))/\Go.RowKit.Below w.heap.size w c:=by
 rcases a with rfl|rfl
 .by_cases hm:mode=3
  .subst hm;go_enter func94,ntmps94;go_wp2;go_ret;exact⟨aN (by simp[bf]),iL _ _⟩
  .by_cases hm1:mode=1
   .subst hm1;go_enter func94,ntmps94;go_wp2;go_ret;exact⟨aN (by simp[bf]),iL _ _⟩
   .go_enter func94,ntmps94;go_wp2;go_ret;exact⟨aN (by simp[bf,Bool.or_comm]),iL _ _⟩
 .by_cases hm:mode=3
  .subst hm;go_enter func94,ntmps94;go_wp2;go_ret;exact⟨aN (by simp[bf]),iL _ _⟩
  .by_cases hm1:mode=2
   .subst hm1;go_enter func94,ntmps94;go_wp2;go_ret;exact⟨aN (by simp[bf]),iL _ _⟩
   .go_enter func94,ntmps94;go_wp2;go_ret;exact⟨aN (by simp[bf,Bool.or_comm]),iL _ _⟩
theorem uF(b:Nat)(lo hi t:Int)(w:World)(h1:w.cell? ⟨b,0,none⟩=some (.int .i64 lo))(h2:w.cell? ⟨b,1,none⟩=some (.int .i64 hi))(g1: -1048576<=lo)(g2:lo<=1048576)(g3: -1048576<=hi)(g4:hi<=1048576)(q1: -1099511627776<=t)(q2:t<=1099511627776):
  Calls prog 53 #[.pointer (some ⟨b,0,none⟩),.int .i64 0,.int .i64 t] w λe a=>e=.returned (.tuple #[.int .i64 (t+lo),.int .i64 (t+hi)])/\Go.RowKit.Below w.heap.size w a:=by
 go_enter func53,ntmps53;go_wp2;go_quiet (fail);go_wp2;go_ret2;exact⟨rfl,below_drewN (iL _ _) _⟩
theorem qL(b:Nat)(lo hi t:Int)(w:World)(h1:w.cell? ⟨b,0,none⟩=some (.int .i64 lo))(h2:w.cell? ⟨b,1,none⟩=some (.int .i64 hi))(g1: -1048576<=lo)(g2:lo<=1048576)(g3: -1048576<=hi)(g4:hi<=1048576)(q1: -1099511627776<=t)(q2:t<=1099511627776):
  Calls prog 53 #[.pointer (some ⟨b,0,none⟩),.int .i64 1,.int .i64 t] w λe a=>e=.returned (.tuple #[.int .i64 (t -hi),.int .i64 (t -lo)])/\Go.RowKit.Below w.heap.size w a:=by
 go_enter func53,ntmps53;go_wp2;go_quiet (fail);go_wp2;go_ret2;exact⟨rfl,below_drewN (iL _ _) _⟩
end
section
open Go.Proofs.Tryz
variable{w W V r:World}{base b g e size B g0 l c:Nat}{v k t met:Int}{cs:Array Value}{f d:Value}
structure RJ where
 lo:Int
 hi:Int
 mode:Int
 m0:Int
 m1:Int
 late:Int
 came:Int
 R0:List Hl
 R1:List Hl
structure dh(w:World)(base b:Nat)(f d:Value)(x:RJ):Prop where
 blk:w.heap[b]?=some (.cells #[.int .i64 x.lo,.int .i64 x.hi,.int .i64 x.mode,f,d,.int .i64 x.m0,.int .i64 x.m1,.int .i64 x.late,.int .i64 x.came] 65)
 r0:w.ownsRow base 117 5 f x.R0.length (x.R0.flatMap bz)
 r1:w.ownsRow base 117 5 d x.R1.length (x.R1.flatMap bz)
 apart:∀g,f.ownBlock=some g->d.ownBlock≠some g
theorem gV{n T:Nat}{v:Value}{xs:List Value}(h:w.ownsRow base 117 5 v n xs)(j:w.heap[b]?=some (.cells cs T))(i:T≠117):v.ownBlock≠some b:=by
 rcases h.2 with⟨rfl,_⟩|⟨g,cap,cur,rfl,_,a,_⟩
 .simp[Value.ownBlock]
 .intro e;simp[Value.ownBlock]at e;subst e;rw[j]at a;cases a;exact i rfl
theorem dh.lt{x:RJ}(h:dh w base b f d x):b<w.heap.size:=(ax.1 h.blk).1
theorem dh.cells{x:RJ}(h:dh w base b f d x):
  w.cell? ⟨b,0,none⟩=some (.int .i64 x.lo)/\w.cell? ⟨b,1,none⟩=some (.int .i64 x.hi)/\w.cell? ⟨b,2,none⟩=some (.int .i64 x.mode)/\w.cell? ⟨b,3,none⟩=some f/\w.cell? ⟨b,4,none⟩=some d/\w.cell? ⟨b,5,none⟩=some (.int .i64 x.m0)/\w.cell? ⟨b,6,none⟩=some (.int .i64 x.m1)/\w.cell? ⟨b,7,none⟩=some (.int .i64 x.late)/\w.cell? ⟨b,8,none⟩=some (.int .i64 x.came)/\(∀o,w.frozen? ⟨b,o,none⟩=false):=by
 refine⟨?_,?_,?_,?_,?_,?_,?_,?_,?_,λo=>fV h.blk o⟩ <;>(rw[fq h.blk];rfl)
theorem dh.below{i:World}{x:RJ}(h:dh w base b f d x)(a:Below w.heap.size w i):dh i base b f d x:=
 ⟨(a.block _ h.lt).trans h.blk,ag h.r0 (λg e=>a.block g (h.r0.lt g e).2),ag h.r1 (λg e=>a.block g (h.r1.lt g e).2),h.apart⟩
theorem gD{P:Program}(w:World){ops:Array Oper}{o:Oper}{a:Act}{K:Act->World->Prop}{Q:Exit->Act->World->Prop}{E:Prop}(H:o.guard=none)(s x:Operand)(t:TypeId)
  (X:o.op=.call { callee:= .builtin .append,args:= #[s,x],argTypes:= #[t,t]})
  (base:Nat) (e:TypeId) (i:TypeInfo) (z:Value) (size bytes:Nat) (U:P.underlying t=some (.slice e)) (hi:P.info? e=some i) (hz:i.zero=some z)
  (hsize:i.size=size) (N:i.bytes=bytes) (R:z.cells.size=size) (M:0<size)
  (g0 c0 n:Nat) (xs:List Value) (Z:a.eval s=.slice (some ⟨g0,0,none⟩) n c0) (q:w.ownsRow base e size (.slice (some ⟨g0,0,none⟩) n c0) n xs)
  (Y:Value) (Yc m:Nat) (news:List Value) (hx:a.eval x=Y) (p:w.ownsRow Yc e size Y m news) (h1:∀u∈news,u.oneCell'=true)
  (nm:Nat) (S:n+m=nm) (ys:List Value) (I:xs++news=ys) (L:nm<=maxLen) (y:nm*bytes<=140737488355328) (A:base<=w.heap.size)
  (h:∀g cap C,C.ownsRow base e size (.slice (some ⟨g,0,none⟩) nm cap) nm ys->w.grownBy C (some g0)->(g=g0∨g=w.heap.size)->K (a.put o.dst (.slice (some ⟨g,0,none⟩) nm cap)) C):
  if Region.wanted o (yielded ops a.tmps)=true then Oper.wp P o a w K Q else E:=by
 have hw:Region.wanted o (yielded ops a.tmps)=true:=by simp[Region.wanted,H]
 rw[if_pos hw];subst S I
 rcases ownsRow_forms p with⟨rfl,rfl⟩|⟨l,c2,rfl⟩
 .have F:news=[]:=di (by have:=p.1;omega);subst F;have G:=run_append_owned_none (P:=P) (w:=w) base t o.type e i size U hi _ n xs q;unfold Oper.wp;simp[execOp,X,resolve,invoke,builtin,Z,hx,G,Result.andThen];exact h g0 c0 w (by simpa using q) ⟨rfl,rfl,rfl,aC _,λ_ _ _=>rfl⟩ (Or.inl rfl)
 .obtain⟨v',C,hr,T,h3,h4,h5⟩:=run_append_own_at (P:=P) w base t o.type e i z size bytes U hi hz hsize N R M _ n xs q ⟨l,0,none⟩ m c2 news p.1 (λj u hu=>p.cells (g:=l) rfl j u hu) h1 L y A
  rcases T.2 with⟨rfl,_⟩|⟨g,cap,cur,rfl,_⟩
  .have:=(h4.1 rfl).1;cases this
  .unfold Oper.wp execOp;simp only[X,resolve,invoke,builtin,Sem.run_bind,Sem.run_pure,Result.andThen_ok,List.map_toArray,List.map_cons,List.map_nil,Z,hx,hr];refine h g cap C T h3 ?_;simpa[Value.ownBlock]using h5
theorem Fj(h:W.heap[g]?=some (.cells #[] e (0,0)))(a:base<=g):W.ownsRow base e size (.slice (some ⟨g,0,none⟩) 0 0) 0 []:=
 ⟨by simp,.inr ⟨g,0,#[],rfl,a,h,aC _,aW _,by simp,by simp⟩⟩
theorem su(h:W.heap[g]?=some (.cells cs e (0,0)))(a:cs.size=size):W.ownsRow 0 e size (.slice (some ⟨g,0,none⟩) 1 1) 1 cs.toList:=
 ⟨by simp[a],.inr ⟨g,1,cs,rfl,aW _,h,aC _,by unfold maxLen;omega,by omega,by rw[Nat.one_mul,<-a,<-Array.length_toList];exact List.take_length⟩⟩
theorem gW{h:World}(j:Below B V W)(i:B<=W.heap.size)(m:W.grownBy h (some g0))(a:B<=g0):Below B V h:=j.grown m i (λk e=>by cases e;exact a)
theorem sw(a:Below B V W)(hg0:V.heap.size<=g0)(hat:g=g0∨g=W.heap.size):V.heap.size<=g:=by
 have:=a.size;omega
theorem aM{o:Obj}(h:g=W.heap.size):(W.alloc o).heap[g]?=some o:=by
 subst h;exact eZ _ _
theorem yQ(R:List Hl)(h:Hl):R.flatMap bz++bz h=(R++[h]).flatMap bz:=by simp
def P8:Op:= .load 62 (.tmp 22)
def zH:Value:= .agg #[.int .i64 0,.int .i64 0,.int .i64 0,.int .i64 0,.int .i64 0]
theorem Bh:(prog.info? 117).map (λi=>(i.zero,i.size,i.bytes))=some (some zH,5,40):=by kernel_rfl
theorem Bj(R:List Hl):∀u∈R.flatMap bz,u.oneCell'=true:=by
 intro u a;simp only[List.mem_flatMap]at a;obtain⟨x,_,h⟩:=a;simp[bz]at h
 rcases h with rfl|rfl|rfl|rfl|rfl <;>rfl
structure kM(w:World)(b:Nat)(f d:Value)(x:RJ)(V:World):Prop where
 at1:dh V 0 b f d { x with came:=x.came+1}
 gr:w.grownBy V (some b)
 sz:w.heap.size+1<=V.heap.size
theorem Ur{x:RJ}(h:dh w 0 b f d x)(o:Obj):kM w b f d x ((w.setCell ⟨b,8,none⟩ (.int .i64 (x.came+1))).alloc o):=by
 have i:=h.lt
 have a:∀k,k<w.heap.size->k≠b->((w.setCell ⟨b,8,none⟩ (.int .i64 (x.came+1))).alloc o).heap[k]?=w.heap[k]? :=λk a j=>by
  rw[gL _ _ _ (by simp;exact a)];exact iJ _ _ _ _ j
 refine⟨⟨?_,ag h.r0 (λg e=>a g (h.r0.lt g e).2 (λm=>gV h.r0 h.blk (by omega) (by rw[e,m]))),ag h.r1 (λg e=>a g (h.r1.lt g e).2 (λm=>gV h.r1 h.blk (by omega) (by rw[e,m]))),h.apart⟩,⟨rfl,rfl,rfl,by simp,λk p n=>a k p (λe=>n (by rw[e]))⟩,by simp⟩;rw[gL _ _ _ (by simp;exact i),fZ h.blk];rfl
theorem kM.c3{x:RJ}(h:kM w b f d x V):V.cell? ⟨b,3,none⟩=some f:=by rw[fq h.at1.blk];rfl
theorem kM.c4{x:RJ}(h:kM w b f d x V):V.cell? ⟨b,4,none⟩=some d:=by rw[fq h.at1.blk];rfl
theorem kM.c8{x:RJ}(h:kM w b f d x V):V.cell? ⟨b,8,none⟩=some (.int .i64 (x.came+1)):=by rw[fq h.at1.blk];rfl
theorem kM.rows1{x:RJ}(h:kM w b f d x V)(a:World)(i:Below V.heap.size V a):a.ownsRow 0 117 5 d x.R1.length (x.R1.flatMap bz):=(h.at1.below i).r1
theorem kM.rows{x:RJ}(h:kM w b f d x V)(a:World)(i:Below V.heap.size V a):a.ownsRow 0 117 5 f x.R0.length (x.R0.flatMap bz):=(h.at1.below i).r0
theorem P9{x:RJ}(h:kM w b f d x V)(p:dh w 0 b f d x)(a:Below V.heap.size V r)(hg:V.heap.size<=l)(y:r.ownsRow 0 117 5 (.slice (some ⟨l,0,none⟩) (x.R0.length+1) c) (x.R0.length+1) ((x.R0++[Hl.mk k t v met (x.came+1)]).flatMap bz)):
  dh (r.setCell ⟨b,3,none⟩ (.slice (some ⟨l,0,none⟩) (x.R0.length+1) c)) 0 b (.slice (some ⟨l,0,none⟩) (x.R0.length+1) c) d { x with R0:=x.R0++[⟨k,t,v,met,x.came+1⟩],came:=x.came+1}/\w.grownBy (r.setCell ⟨b,3,none⟩ (.slice (some ⟨l,0,none⟩) (x.R0.length+1) c)) (some b)/\(∃g,(Value.slice (some ⟨l,0,none⟩) (x.R0.length+1) c).ownBlock=some g/\w.heap.size<=g):=by
 have hl:=p.lt;have hz:=h.sz;have j:=h.at1.below a
 have Ld:b<V.heap.size:=by omega
 have m:∀q,q≠b->(r.setCell ⟨b,3,none⟩ (.slice (some ⟨l,0,none⟩) (x.R0.length+1) c)).heap[q]?=r.heap[q]? :=λq n=>iJ _ _ _ _ n
 refine⟨⟨?_,?_,ag j.r1 (λg e=>m g (λo=>gV j.r1 j.blk (by omega) (by rw[e,o]))),?_⟩,?_,l,rfl,by omega⟩
 .rw[fZ j.blk];rfl
 .have:=ag y (λg e=>m g (λo=>by simp[Value.ownBlock]at e;omega));simpa using this
 .intro g z u;simp[Value.ownBlock]at z;have:=(p.r1.lt g u).2;omega
 .refine⟨a.os.trans h.gr.os,a.tape.trans h.gr.tape,a.output.trans h.gr.output,by simp;exact aH h.gr.size a.size,λq n i=>?_⟩
  have s:q≠b:=λe=>i (by rw[e])
  exact(m q s).trans ((a.block q (by omega)).trans (h.gr.block q n i))
theorem Qa{x:RJ}(h:kM w b f d x V)(p:dh w 0 b f d x)(a:Below V.heap.size V r)(hg:V.heap.size<=l)(y:r.ownsRow 0 117 5 (.slice (some ⟨l,0,none⟩) (x.R1.length+1) c) (x.R1.length+1) ((x.R1++[Hl.mk k t v met (x.came+1)]).flatMap bz)):
  dh (r.setCell ⟨b,4,none⟩ (.slice (some ⟨l,0,none⟩) (x.R1.length+1) c)) 0 b f (.slice (some ⟨l,0,none⟩) (x.R1.length+1) c) { x with R1:=x.R1++[⟨k,t,v,met,x.came+1⟩],came:=x.came+1}/\w.grownBy (r.setCell ⟨b,4,none⟩ (.slice (some ⟨l,0,none⟩) (x.R1.length+1) c)) (some b)/\(∃g,(Value.slice (some ⟨l,0,none⟩) (x.R1.length+1) c).ownBlock=some g/\w.heap.size<=g):=by
 have hl:=p.lt;have hz:=h.sz;have j:=h.at1.below a
 have Ld:b<V.heap.size:=by omega
 have m:∀q,q≠b->(r.setCell ⟨b,4,none⟩ (.slice (some ⟨l,0,none⟩) (x.R1.length+1) c)).heap[q]?=r.heap[q]? :=λq n=>iJ _ _ _ _ n
 refine⟨⟨?_,ag j.r0 (λg e=>m g (λo=>gV j.r0 j.blk (by omega) (by rw[e,o]))),?_,?_⟩,?_,l,rfl,by omega⟩
 .rw[fZ j.blk];rfl
 .have:=ag y (λg e=>m g (λo=>by simp[Value.ownBlock]at e;omega));simpa using this
 .intro g z u;simp[Value.ownBlock]at u;have:=(p.r0.lt g z).2;omega
 .refine⟨a.os.trans h.gr.os,a.tape.trans h.gr.tape,a.output.trans h.gr.output,by simp;exact aH h.gr.size a.size,λq n i=>?_⟩
  have s:q≠b:=λe=>i (by rw[e])
  exact(m q s).trans ((a.block q (by omega)).trans (h.gr.block q n i))
theorem aav{x:RJ}(k t v met:Int)(w:World)(h:dh w 0 b f d x)(z: -1000000000<=x.came/\x.came<=1000000000):
  (x.R0.length<=1000->Calls prog 87 #[.pointer (some ⟨b,0,none⟩),.int .i64 0,.agg #[.int .i64 k,.int .i64 t,.int .i64 v],.int .i64 met] w λe K=>e=.returned (.tuple #[])/\∃bA,dh K 0 b bA d { x with R0:=x.R0++[⟨k,t,v,met,x.came+1⟩],came:=x.came+1}/\w.grownBy K (some b)/\(∃g,bA.ownBlock=some g/\w.heap.size<=g))/\
  (x.R1.length<=1000->Calls prog 87 #[.pointer (some ⟨b,0,none⟩),.int .i64 1,.agg #[.int .i64 k,.int .i64 t,.int .i64 v],.int .i64 met] w λe K=>e=.returned (.tuple #[])/\∃I,dh K 0 b f I { x with R1:=x.R1++[⟨k,t,v,met,x.came+1⟩],came:=x.came+1}/\w.grownBy K (some b)/\(∃g,I.ownBlock=some g/\w.heap.size<=g)):=by
 obtain⟨i0,hi,F,L,G⟩:=je Bh;obtain⟨c0,c1,c2,c3,c4,c5,c6,c7,c8,cf⟩:=h.cells;have f8:=cf 8;have hlt:=h.lt;have c9:(-1000000000:Int)<=x.came:=z.1;have c10:x.came<=(1000000000:Int):=z.2;have T:=hid h;have U:=h.r0;have X:=h.r1
 constructor
 case' left=>(intro Z;obtain⟨R,C⟩:∃R,x.R0=R:=⟨_,rfl⟩;rw[C]at U Z;obtain⟨p0,S,rfl⟩:=aj U)
 case' right=>(intro Z;obtain⟨R,C⟩:∃R,x.R1=R:=⟨_,rfl⟩;rw[C]at X Z;obtain⟨p0,S,rfl⟩:=aj X)
 all_goals
  have Y:=hid C;clear C U X h cf c0 c1 c2 c5 c6 c7;go_enter func87,ntmps87;go_wp2;have n:=hid (Ur T.out (.cells #[.int .i64 k,.int .i64 t,.int .i64 v] 37))
  have A:((w.setCell ⟨b,8,none⟩ (.int .i64 (x.came+1))).alloc (.cells #[.int .i64 k,.int .i64 t,.int .i64 v] 37)).heap[w.heap.size]?=some (.cells #[.int .i64 k,.int .i64 t,.int .i64 v] 37):=by
   have:=eZ (w.setCell ⟨b,8,none⟩ (.int .i64 (x.came+1))) (.cells #[.int .i64 k,.int .i64 t,.int .i64 v] 37);simpa using this
  revert n A;generalize(w.setCell ⟨b,8,none⟩ (.int .i64 (x.came+1))).alloc (.cells #[.int .i64 k,.int .i64 t,.int .i64 v] 37)=V;intro n A;have d3:=n.out.c3;have d4:=n.out.c4;have d8:=n.out.c8
  have r0:V.cell? ⟨w.heap.size,0,none⟩=some (.int .i64 k):=by rw[fq A];rfl
  have r1:V.cell? ⟨w.heap.size,1,none⟩=some (.int .i64 t):=by rw[fq A];rfl
  have r2:V.cell? ⟨w.heap.size,2,none⟩=some (.int .i64 v):=by rw[fq A];rfl
  have N:w.heap.size<V.heap.size:=(ax.1 A).1;have ZV:V.frozen? ⟨b,3,none⟩=false:=fV n.out.at1.blk 3;have P:V.frozen? ⟨b,4,none⟩=false:=fV n.out.at1.blk 4;clear A c3 c4 c8 f8
  have HC:Hid (∀W,Below V.heap.size V W->W.cell? ⟨b,8,none⟩=some (.int .i64 (x.came+1))/\W.cell? ⟨w.heap.size,0,none⟩=some (.int .i64 k)/\W.cell? ⟨w.heap.size,1,none⟩=some (.int .i64 t)/\W.cell? ⟨w.heap.size,2,none⟩=some (.int .i64 v)):=λW m=>
   ⟨(m.cell (p:=⟨b,8,none⟩) (by show b<_;omega)).trans d8,(m.cell (p:=⟨w.heap.size,0,none⟩) N).trans r0,(m.cell (p:=⟨w.heap.size,1,none⟩) N).trans r1,(m.cell (p:=⟨w.heap.size,2,none⟩) N).trans r2⟩
  have ZW:Hid (∀W (o:Nat) u,o≠8->Below V.heap.size V W->(W.setCell ⟨b,o,none⟩ u).cell? ⟨b,8,none⟩=some (.int .i64 (x.came+1))/\(W.setCell ⟨b,o,none⟩ u).cell? ⟨w.heap.size,0,none⟩=some (.int .i64 k)/\(W.setCell ⟨b,o,none⟩ u).cell? ⟨w.heap.size,1,none⟩=some (.int .i64 t)/\(W.setCell ⟨b,o,none⟩ u).cell? ⟨w.heap.size,2,none⟩=some (.int .i64 v)):=λW o u ho m=>by
   have z:=HC.out W m;refine⟨?_,?_,?_,?_⟩
   all_goals rw[World.cell?_setCell_other _ _ _ _ (by first|(simp;done)|(simp;omega)|omega)]
   all_goals first|exact z.1|exact z.2.1|exact z.2.2.1|exact z.2.2.2
  have HRw:Hid (∀H,Below V.heap.size V H->H.ownsRow 0 117 5 (.slice p0 R.length S) R.length (R.flatMap bz)):=by
   intro H hb
   first|(have q:=n.out.rows H hb;rwa [Y.out]at q)|(have q:=n.out.rows1 H hb;rwa [Y.out]at q)
  have Q:P8=Op.load 62 (.tmp 22):=rfl;rw[<-Q]
  have M:b<V.heap.size:=by omega
  have HO:=hid λ(W:World) (m:Below V.heap.size V W)=>And.intro (And.intro ((m.cell (p:=⟨b,3,none⟩) M).trans d3) ((m.frozen (p:=⟨b,3,none⟩) M).trans ZV)) (And.intro ((m.cell (p:=⟨b,4,none⟩) M).trans d4) ((m.frozen (p:=⟨b,4,none⟩) M).trans P))
  go_region_held3 (λW=>W.cell? ⟨b,8,none⟩=some (.int .i64 (x.came+1))/\W.cell? ⟨w.heap.size,0,none⟩=some (.int .i64 k)/\W.cell? ⟨w.heap.size,1,none⟩=some (.int .i64 t)/\W.cell? ⟨w.heap.size,2,none⟩=some (.int .i64 v))
   (first|exact ZW.out _ _ _ (by decide) E.out|(refine HC.out _ ?_;repeat' (first|exact iL _ _|exact s.out|exact E.out|exact s.out.size|exact E.out.size|(refine Below.drew ?_)|(refine Below.alloc ?_ ?_ _)|(simp;done)|(simp;omega))))
   (first
    |(refine gD _ (by rfl) _ _ _ (by rfl) 0 117 i0 zH 5 40 underlying62 hi F L G rfl (by omega) _ 0 0 [] (by rfl) (Fj (by first|exact aM (by first|(simp;done)|(simp;omega)|omega)|exact(gL _ _ _ (by first|(simp;done)|(simp;omega)|omega)).trans (aM (by first|(simp;done)|(simp;omega)|omega))) (aW _)) (.slice p0 R.length S) 0 R.length (R.flatMap bz) (by rfl) ?_ (Bj _) R.length (Nat.zero_add _) (R.flatMap bz) rfl (by unfold maxLen;omega) (by omega) (aW _) ?_;(exact HRw.out _ (by repeat' (first|exact iL _ _|(refine Below.drew ?_)|(refine Below.alloc ?_ ?_ _)|(simp;done)|(simp;omega))));intro g1 oL w1 j a wF;have s:Hid (Below V.heap.size V w1):=gW (by repeat' (first|exact iL _ _|(refine Below.drew ?_)|(refine Below.alloc ?_ ?_ _)|(simp;done)|(simp;omega))) (by first|(simp;done)|(simp;omega)|omega) a (by first|(simp;done)|(simp;omega)|omega);have G1:Hid (V.heap.size<=g1):=sw (B:=V.heap.size) (V:=V) (by repeat' (first|exact iL _ _|(refine Below.drew ?_)|(refine Below.alloc ?_ ?_ _)|(simp;done)|(simp;omega))) (by first|(simp;done)|(simp;omega)|omega) wF)
    |(refine gD _ (by rfl) _ _ _ (by rfl) 0 117 i0 zH 5 40 underlying62 hi F L G rfl (by omega) g1 oL R.length (R.flatMap bz) (by rfl) (by first|exact j|exact j.alloc _) (.slice (some ⟨_,0,none⟩) 1 1) 0 1 [.int .i64 k,.int .i64 t,.int .i64 v,.int .i64 met,.int .i64 (x.came+1)] (by rfl) (su (cs:= #[.int .i64 k,.int .i64 t,.int .i64 v,.int .i64 met,.int .i64 (x.came+1)]) (by first|exact aM (by first|(simp;done)|(simp;omega)|omega)|exact(a.block _ (by first|(simp;done)|(simp;omega)|omega) (by first|(simp;done)|(simp;omega)|omega)).trans (aM (by first|(simp;done)|(simp;omega)|omega))|exact(a.block _ (by first|(simp;done)|(simp;omega)|omega) (by first|(simp;done)|(simp;omega)|omega)).trans ((gL _ _ _ (by first|(simp;done)|(simp;omega)|omega)).trans (aM (by first|(simp;done)|(simp;omega)|omega)))) rfl) (by intro u hu;simp at hu;rcases hu with rfl|rfl|rfl|rfl|rfl <;>rfl) (R.length+1) rfl ((R++[Hl.mk k t v met (x.came+1)]).flatMap bz) (yQ R (Hl.mk k t v met (x.came+1))) (by unfold maxLen;omega) (by omega) (aW _) ?_;intro l c r i y Iy;have E:Hid (Below V.heap.size V r):=gW (by first|exact s.out|exact s.out.alloc s.out.size _) (by first|exact s.out.size|(have:=s.out.size;simp;omega)) y G1.out;have G2:Hid (V.heap.size<=l):=sw (B:=V.heap.size) (V:=V) (by first|exact s.out|exact s.out.alloc s.out.size _) G1.out Iy;have f3:=HO.out _ E.out)
    |fail)
  all_goals go_end0
  all_goals
   have C:=Y.out;subst C
   first|exact⟨rfl,_,P9 n.out T.out E.out G2.out i⟩|exact⟨rfl,_,Qa n.out T.out E.out G2.out i⟩
end
section
variable{w W A d:World}{b i q g cap n:Nat}{p l u r:Value}{x:RJ}{k t v fr av s m:Int}{R L:List Hl}{h:Hl}{ps:List Nat}{S:Option Nat}{X:List Ch}{T:Bool}
structure Fa(w:World)(b:Nat)(p l:Value)(x:RJ)(k t v:Int)(W:World):Prop where
 below:Below w.heap.size w W
 rb:W.heap[w.heap.size]?=some (.cells #[.int .i64 k,.int .i64 t,.int .i64 v] 37)
 at1:dh w 0 b p l x
theorem Fa.go(h:Fa w b p l x k t v W)(a:Below W.heap.size W A):Fa w b p l x k t v A:=
 ⟨h.below.trans (a.mono h.below.size),(a.block _ (ax.1 h.rb).1).trans h.rb,h.at1⟩
theorem Fa.cells(h:Fa w b p l x k t v W):
  (W.cell? ⟨b,0,none⟩=some (.int .i64 x.lo)/\W.cell? ⟨b,1,none⟩=some (.int .i64 x.hi)/\W.cell? ⟨b,2,none⟩=some (.int .i64 x.mode)/\W.cell? ⟨b,3,none⟩=some p/\W.cell? ⟨b,4,none⟩=some l/\W.cell? ⟨b,5,none⟩=some (.int .i64 x.m0)/\W.cell? ⟨b,6,none⟩=some (.int .i64 x.m1)/\W.cell? ⟨b,7,none⟩=some (.int .i64 x.late)/\W.cell? ⟨b,8,none⟩=some (.int .i64 x.came)/\(∀o,W.frozen? ⟨b,o,none⟩=false))/\(W.cell? ⟨w.heap.size,0,none⟩=some (.int .i64 k)/\W.cell? ⟨w.heap.size,1,none⟩=some (.int .i64 t)/\W.cell? ⟨w.heap.size,2,none⟩=some (.int .i64 v))/\b<W.heap.size/\w.heap.size<W.heap.size:=
 ⟨(h.at1.below h.below).cells,⟨by rw[fq h.rb];rfl,by rw[fq h.rb];rfl,by rw[fq h.rb];rfl⟩,(h.at1.below h.below).lt,(ax.1 h.rb).1⟩
def fE(h:Hl):D:=⟨h.k,h.t,h.v,h.met⟩
def kN(h:Hl):Hl:={ h with met:=wrap64 (h.met+1)}
def eF(k fr av:Int)(h:Hl):Bool:=decide (h.k=k)&&iG fr av h.t
def jr(k fr av:Int)(P:List Nat)(R:List Hl):List Hl:=R.mapIdx λi h=>if i∈P/\eF k fr av h=true then kN h else h
theorem fA(k fr av:Int)(P:List Nat)(R:List Hl):(jr k fr av P R).length=R.length:=by simp[jr]
theorem Fp(k fr av:Int)(R:List Hl):jr k fr av [] R=R:=by
 apply eH;intro i;simp[jr]
theorem Fq(k fr av:Int)(P:List Nat)(R:List Hl)(i:Nat)(h:Hl)(hi:R[i]?=some h)(a:i∉P):(jr k fr av P R)[i]?=some h:=by
 simp[jr,hi,a]
theorem pO(k fr av:Int)(P:List Nat)(R:List Hl)(i:Nat)(h:Hl)(hi:R[i]?=some h)(a:eF k fr av h=false):jr k fr av (P++[i]) R=jr k fr av P R:=by
 apply eH;intro j;simp only[jr,List.getElem?_mapIdx]
 by_cases hj:j=i
 .subst hj;simp[hi,a]
 .cases R[j]? <;>simp[hj]
theorem Bl(k fr av:Int)(P:List Nat)(R:List Hl)(i:Nat)(h:Hl)(hi:R[i]?=some h)(a:eF k fr av h=true):jr k fr av (P++[i]) R=(jr k fr av P R).set i (kN h):=by
 apply eH;intro j;simp only[jr,List.getElem?_set,List.getElem?_mapIdx,List.length_mapIdx]
 by_cases hj:i=j
 .subst hj;have c:i<R.length:=(bP.1 hi).1;rw[if_pos rfl,if_pos c,hi];simp[a]
 .have:¬j=i:=λe=>hj e.symm
  cases R[j]? <;>simp[hj,this]
theorem Qb(k fr av:Int)(P:List Nat)(R:List Hl)(c:∀i,i<R.length->i∈P):jr k fr av P R=R.map λh=>if eF k fr av h=true then kN h else h:=by
 apply eH;intro j;simp only[jr,List.getElem?_mapIdx,List.getElem?_map]
 cases hR:R[j]? with
 |none=>rfl
 |some h=>
  have a:j∈P:=c j (bP.1 hR).1;simp[a]
theorem uG:∀(R:List Hl) (i:Nat) (h:Hl) (m:Int),R[i]?=some h->(R.flatMap bz).set (i*5+3) (.int .i64 m)=(R.set i { h with met:=m}).flatMap bz
 |[],i,h,m,hi=>by simp at hi
 |y::ys,0,h,m,hi=>by
  simp at hi;subst hi;simp[bz]
 |y::ys,i+1,h,m,hi=>by
  simp at hi;have ih:=uG ys i h m hi;rw[List.flatMap_cons,List.set_append_right _ _ (by rw[fM];omega),fM,show(i+1)*5+3 -5=i*5+3 by omega,ih];simp
def rowAt(R:List Hl)(i:Nat):Hl:=(R[i]?).getD default
theorem Qc(hi:R[i]?=some h):rowAt R i=h:=by unfold rowAt;rw[hi];rfl
theorem yR(B:ps.Nodup)(q i:Nat)(hi:ps[q]?=some i):i∉ps.take q:=by
 intro e;obtain⟨j,c⟩:=List.getElem?_of_mem e
 have a:j<q:=by
  have:=(bP.1 c).1;rw[List.length_take]at this;omega
 rw[dQ a]at c;obtain⟨y,f⟩:=bP.1 c;obtain⟨o,z⟩:=bP.1 hi;exact(List.pairwise_iff_getElem.1 B j q y o a) (f.trans z.symm)
theorem qM(hi:ps[q]?=some i):ps.take (q+1)=ps.take q++[i]:=by rw[List.take_add_one,hi];rfl
def aY(R:List Hl)(ps:List Nat)(q:Nat):List Hl:=(ps.take q).map (rowAt R)
def kP(k fr av:Int)(R:List Hl)(ps:List Nat)(q:Nat):Nat:=((aY R ps q).filter (eF k fr av)).length
theorem kQ(R:List Hl)(ps:List Nat)(q:Nat):(aY R ps q).length<=q:=by
 unfold aY;rw[List.length_map];exact eG q ps
theorem wW(k fr av:Int)(R:List Hl)(ps:List Nat)(q:Nat):kP k fr av R ps q<=q:=aH (dG _ _) (kQ R ps q)
theorem pQ(a:aY R ps (q+1)=aY R ps q++[h])(c:eF k fr av h=false):kP k fr av R ps (q+1)=kP k fr av R ps q:=by
 unfold kP;rw[a,List.filter_append];simp[c]
theorem Bn(a:aY R ps (q+1)=aY R ps q++[h])(c:eF k fr av h=true):kP k fr av R ps (q+1)=kP k fr av R ps q+1:=by
 unfold kP;rw[a,List.filter_append];simp[c]
theorem mY(hi:ps[q]?=some i)(a:R[i]?=some h):aY R ps (q+1)=aY R ps q++[h]:=by
 unfold aY;rw[qM hi,List.map_append,List.map_cons,List.map_nil,Qc a]
def wX(T:Bool)(s s':Int)(k t v fr av:Int)(L:List Hl):List Ch:=((L.filter (eF k fr av)).map fE).flatMap (dU T s s' k t v)
theorem sD(T:Bool)(s a:Int)(k t v fr av:Int)(L:List Hl)(h:Hl)(c:eF k fr av h=false):wX T s a k t v fr av (L++[h])=wX T s a k t v fr av L:=by simp[wX,c]
theorem Fs(T:Bool)(s a:Int)(k t v fr av:Int)(L:List Hl)(h:Hl)(c:eF k fr av h=true):wX T s a k t v fr av (L++[h])=wX T s a k t v fr av L++dU T s a k t v (fE h):=by simp[wX,c]
theorem wY(T:Bool)(s a:Int)(k t v fr av:Int)(L:List Hl):(wX T s a k t v fr av L).length<=2*L.length:=by
 have c:=rP T s a k t v ((L.filter (eF k fr av)).map fE);have h2:=dG (eF k fr av) L;simp only[List.length_map]at c;unfold wX;omega
theorem yS{V M K I H F C B z:Value}(h:w.heap[g]?=some (.cells #[V,M,K,I,H,F,C,B,z] 89))(a c e f j o y E G:Value):
  (((((((((w.setCell ⟨g,0,none⟩ a).setCell ⟨g,1,none⟩ c).setCell ⟨g,2,none⟩ e).setCell ⟨g,3,none⟩ f).setCell ⟨g,4,none⟩ j).setCell ⟨g,5,none⟩ o).setCell ⟨g,6,none⟩ y).setCell ⟨g,7,none⟩ E).setCell ⟨g,8,none⟩ G).heap[g]?=some (.cells #[a,c,e,f,j,o,y,E,G] 89):=by
 have Q:(w.setCell ⟨g,0,none⟩ a).heap[g]?=some (.cells #[a,M,K,I,H,F,C,B,z] 89):=fZ (i:=0) h a;have h1:((w.setCell ⟨g,0,none⟩ a).setCell ⟨g,1,none⟩ c).heap[g]?=some (.cells #[a,c,K,I,H,F,C,B,z] 89):=fZ (i:=1) Q c;have P:(((w.setCell ⟨g,0,none⟩ a).setCell ⟨g,1,none⟩ c).setCell ⟨g,2,none⟩ e).heap[g]?=some (.cells #[a,c,e,I,H,F,C,B,z] 89):=fZ (i:=2) h1 e;have U:((((w.setCell ⟨g,0,none⟩ a).setCell ⟨g,1,none⟩ c).setCell ⟨g,2,none⟩ e).setCell ⟨g,3,none⟩ f).heap[g]?=some (.cells #[a,c,e,f,H,F,C,B,z] 89):=fZ (i:=3) P f;have Z:(((((w.setCell ⟨g,0,none⟩ a).setCell ⟨g,1,none⟩ c).setCell ⟨g,2,none⟩ e).setCell ⟨g,3,none⟩ f).setCell ⟨g,4,none⟩ j).heap[g]?=some (.cells #[a,c,e,f,j,F,C,B,z] 89):=fZ (i:=4) U j;have h5:((((((w.setCell ⟨g,0,none⟩ a).setCell ⟨g,1,none⟩ c).setCell ⟨g,2,none⟩ e).setCell ⟨g,3,none⟩ f).setCell ⟨g,4,none⟩ j).setCell ⟨g,5,none⟩ o).heap[g]?=some (.cells #[a,c,e,f,j,o,C,B,z] 89):=fZ (i:=5) Z o;have Y:(((((((w.setCell ⟨g,0,none⟩ a).setCell ⟨g,1,none⟩ c).setCell ⟨g,2,none⟩ e).setCell ⟨g,3,none⟩ f).setCell ⟨g,4,none⟩ j).setCell ⟨g,5,none⟩ o).setCell ⟨g,6,none⟩ y).heap[g]?=some (.cells #[a,c,e,f,j,o,y,B,z] 89):=fZ (i:=6) h5 y;have h7:((((((((w.setCell ⟨g,0,none⟩ a).setCell ⟨g,1,none⟩ c).setCell ⟨g,2,none⟩ e).setCell ⟨g,3,none⟩ f).setCell ⟨g,4,none⟩ j).setCell ⟨g,5,none⟩ o).setCell ⟨g,6,none⟩ y).setCell ⟨g,7,none⟩ E).heap[g]?=some (.cells #[a,c,e,f,j,o,y,E,z] 89):=fZ (i:=7) Y E;have N:(((((((((w.setCell ⟨g,0,none⟩ a).setCell ⟨g,1,none⟩ c).setCell ⟨g,2,none⟩ e).setCell ⟨g,3,none⟩ f).setCell ⟨g,4,none⟩ j).setCell ⟨g,5,none⟩ o).setCell ⟨g,6,none⟩ y).setCell ⟨g,7,none⟩ E).setCell ⟨g,8,none⟩ G).heap[g]?=some (.cells #[a,c,e,f,j,o,y,E,G] 89):=fZ (i:=8) h7 G;exact N
theorem CR{x:O}(h:W.heap[g]?=some (.cells (ah x).toArray 89)):
  (W.cell? ⟨g,0,none⟩=some (.int .i64 x.k)/\W.cell? ⟨g,1,none⟩=some (.int .i64 x.lk)/\W.cell? ⟨g,2,none⟩=some (.int .i64 x.lt)/\W.cell? ⟨g,3,none⟩=some (.int .i64 x.lv)/\W.cell? ⟨g,4,none⟩=some (.int .i64 x.rk)/\W.cell? ⟨g,5,none⟩=some (.int .i64 x.rt)/\W.cell? ⟨g,6,none⟩=some (.int .i64 x.rv)/\W.cell? ⟨g,7,none⟩=some (.bool x.hl)/\W.cell? ⟨g,8,none⟩=some (.bool x.hr))/\(∀o,W.frozen? ⟨g,o,none⟩=false):=by
 refine⟨⟨?_,?_,?_,?_,?_,?_,?_,?_,?_⟩,λo=>fV h o⟩ <;>(rw[fq h];rfl)
theorem Bp(h:W.heap[g]?=some (.cells #[.int .i64 0,.int .i64 0,.int .i64 0,.int .i64 0,.int .i64 0,.int .i64 0,.int .i64 0,.bool false,.bool false] 89)):
  (W.cell? ⟨g,0,none⟩=some (.int .i64 0)/\W.cell? ⟨g,1,none⟩=some (.int .i64 0)/\W.cell? ⟨g,2,none⟩=some (.int .i64 0)/\W.cell? ⟨g,3,none⟩=some (.int .i64 0)/\W.cell? ⟨g,4,none⟩=some (.int .i64 0)/\W.cell? ⟨g,5,none⟩=some (.int .i64 0)/\W.cell? ⟨g,6,none⟩=some (.int .i64 0)/\W.cell? ⟨g,7,none⟩=some (.bool false)/\W.cell? ⟨g,8,none⟩=some (.bool false))/\(∀o,W.frozen? ⟨g,o,none⟩=false)/\g<W.heap.size:=by
 refine⟨⟨?_,?_,?_,?_,?_,?_,?_,?_,?_⟩,λo=>fV h o,(ax.1 h).1⟩ <;>(rw[fq h];rfl)
structure mD(w d:World)(b:Nat)(p l:Value)(S:Option Nat)(x:RJ)(k t v:Int)(u:Value)(ps:List Nat)(X:List Ch)(r:Value)(W:World):Prop where
 at1:dh W 0 b p l x
 tr:Turned (λg=>S=some g) w W
 pl:W.ownsRow w.heap.size 3 1 u ps.length (ps.map lS)
 rb:W.heap[w.heap.size]?=some (.cells #[.int .i64 k,.int .i64 t,.int .i64 v] 37)
 ox:W.ownsRow d.heap.size 95 10 r X.length (X.flatMap aQ)
 sz:d.heap.size<=W.heap.size/\w.heap.size<d.heap.size
 old:b<w.heap.size/\(∀g,p.ownBlock=some g->g<w.heap.size)/\(∀g,l.ownBlock=some g->g<w.heap.size)/\(∀g,u.ownBlock=some g->g<d.heap.size)
theorem mD.go(h:mD w d b p l S x k t v u ps X r W)(a:Below W.heap.size W A):mD w d b p l S x k t v u ps X r A:=
 ⟨h.at1.below a,h.tr.trans (Turned.of_below (S:=λ_=>False) a) (λ_ _ e=>e.elim),ag h.pl (λg e=>a.block g (h.pl.lt g e).2),(a.block _ (ax.1 h.rb).1).trans h.rb,ag h.ox (λg e=>a.block g (h.ox.lt g e).2),⟨aH h.sz.1 a.size,h.sz.2⟩,h.old⟩
theorem mD.more{c:Ch}(h:mD w d b p l S x k t v u ps X r W)(j:W.grownBy A r.ownBlock)
  (o:A.ownsRow d.heap.size 95 10 (.slice (some ⟨g,0,none⟩) (X.length+1) cap) (X.length+1) (X.flatMap aQ++aQ c)):mD w d b p l S x k t v u ps (X++[c]) (.slice (some ⟨g,0,none⟩) (X.length+1) cap) A:=by
 have far:∀q,q<d.heap.size->some q≠r.ownBlock:=λq a e=>by have:=(h.ox.lt q e.symm).1;omega
 have keep:∀q,q<d.heap.size->A.heap[q]?=W.heap[q]? :=λq a=>j.block q (by have:=h.sz.1;omega) (far q a)
 have z:=h.sz
 have f:∀q,q<w.heap.size->A.heap[q]?=W.heap[q]? :=λq a=>keep q (by omega)
 refine⟨⟨(f b h.old.1).trans h.at1.blk,ag h.at1.r0 (λq e=>f q (h.old.2.1 q e)),ag h.at1.r1 (λq e=>f q (h.old.2.2.1 q e)),h.at1.apart⟩,?_,ag h.pl (λq e=>keep q (h.old.2.2.2 q e)),(keep _ z.2).trans h.rb,by simpa using o,⟨aH z.1 j.size,z.2⟩,h.old⟩;exact h.tr.trans (Turned.of_grown (S:=λq=>r.ownBlock=some q) j (λ_ e=>e)) (λq a e=>absurd e.symm (far q (by omega)))
theorem mD.cells(h:mD w d b p l S x k t v u ps X r W):
  (W.cell? ⟨b,2,none⟩=some (.int .i64 x.mode)/\W.cell? ⟨b,3,none⟩=some p/\W.cell? ⟨b,4,none⟩=some l)/\(W.cell? ⟨w.heap.size,0,none⟩=some (.int .i64 k)/\W.cell? ⟨w.heap.size,1,none⟩=some (.int .i64 t)/\W.cell? ⟨w.heap.size,2,none⟩=some (.int .i64 v))/\b<W.heap.size/\w.heap.size<W.heap.size:=
 ⟨⟨h.at1.cells.2.2.1,h.at1.cells.2.2.2.1,h.at1.cells.2.2.2.2.1⟩,⟨by rw[fq h.rb];rfl,by rw[fq h.rb];rfl,by rw[fq h.rb];rfl⟩,h.at1.lt,(ax.1 h.rb).1⟩
theorem mD.place{c j:Nat}(h:mD w d b p l S x k t v (.slice (some ⟨c,0,none⟩) n j) ps X r W)(f:ps.length=n)(q i:Nat)(e:ps[q]?=some i):W.cell? ⟨c,q,none⟩=some (.int .i64 (i:Nat)):=by
 have hl:q<ps.length:=(bP.1 e).1;have a:=h.pl;rw[f]at a;rw[a.cellAt q (by omega),List.getElem?_map,e];rfl
theorem ko(h:ps.Perm (List.range R.length)):(aY R ps R.length).Perm R:=by
 have c:ps.length=R.length:=by rw[h.length_eq,List.length_range]
 unfold aY;rw[<-c,List.take_length];have a:=h.map (rowAt R)
 have e:(List.range R.length).map (rowAt R)=R:=by
  apply eH;intro i
  by_cases hi:i<R.length
  .rw[List.getElem?_map,List.getElem?_range hi,aO hi];simp[rowAt,hi]
  .rw[dS (by simp;omega),dS (by omega)]
 rw[e]at a;exact a
theorem gF(h:ps.Perm (List.range R.length))(o:ps.Pairwise (λa c=>vQ R.toArray c a=false)):(aY R ps R.length).Pairwise (λx y=>rY y x=false):=by
 have j:ps.length=R.length:=by rw[h.length_eq,List.length_range]
 unfold aY;rw[<-j,List.take_length,List.pairwise_map];refine o.imp_of_mem ?_;intro a c f z e
 have la:a<R.length:=by simpa using h.mem_iff.1 f
 have lc:c<R.length:=by simpa using h.mem_iff.1 z
 unfold vQ at e;rw[getElem!_pos R.toArray c (by simpa using lc),getElem!_pos R.toArray a (by simpa using la)]at e;simpa[rowAt,la,lc]using e
theorem Bq(h:ps.Perm (List.range R.length)):jr k fr av (ps.take R.length) R=R.map λh=>if eF k fr av h=true then kN h else h:=by
 have a:ps.length=R.length:=by rw[h.length_eq,List.length_range]
 rw[<-a,List.take_length];exact Qb k fr av ps R (λi hi=>h.mem_iff.2 (by simpa using hi))
theorem Fu{a:Int}(h:L.filter (eF k fr av)=[]):wX T s a k t v fr av L=[]:=by unfold wX;rw[h];rfl
theorem Ka{mode:Int}(c:T=bf mode (1 -s)):bU mode s k t v ((L.filter (eF k fr av)).map fE)=if(L.filter (eF k fr av)).length=0 then(if bf mode s=true then[⟨bn s k t v,false⟩]else[])else wX T s (1 -s) k t v fr av L:=by
 unfold bU wX
 by_cases h:L.filter (eF k fr av)=[]
 .rw[h];simp
 .have f:¬(L.filter (eF k fr av)).length=0:=λe=>h (di e)
  have a:¬(L.filter (eF k fr av)).map fE=[]:=λe=>h (List.map_eq_nil_iff.1 e)
  rw[if_neg f,if_neg a,c]
theorem yT(f:mD w d b p l S x k t v u ps X r W):W.ownsRow w.heap.size 95 10 r X.length (X.flatMap aQ)/\Turned (λg=>g=b∨S=some g) w W:=
 ⟨World.ownsRow.mono f.ox (Nat.le_of_lt f.sz.2),f.tr.mono (λ_ e=>Or.inr e)⟩
theorem Br{vs vs':Value}(f:mD w d b p l S x k t v u ps X r W)(a:W.grownBy A (some b))(c:∃g,vs'.ownBlock=some g/\W.heap.size<=g):A.ownsRow w.heap.size 95 10 r X.length (X.flatMap aQ)/\Turned (λg=>g=b∨S=some g) w A/\dF w vs vs':=by
 obtain⟨o,j⟩:=yT f;have z:=f.sz;have hb:=f.old.1;refine⟨o.kept a (Or.inr (λe=>?_)),j.trans (Turned.of_grown (S:=λg=>g=b) a (λq e=>by injection e with e;exact e.symm)) (λ_ _ e=>Or.inl e),Or.inr ?_⟩
 .have:=(f.ox.lt b e).1;omega
 .obtain⟨g,y,h4⟩:=c;exact⟨g,y,by omega⟩
theorem mD.met1(f:mD w d b p (.slice (some ⟨g,0,none⟩) x.R1.length cap) (some g) x k t v u ps X r W)(hi:x.R1[i]?=some h):
  mD w d b p (.slice (some ⟨g,0,none⟩) x.R1.length cap) (some g) { x with R1:=x.R1.set i { h with met:=m}} k t v u ps X r (W.setCell ⟨g,i*5+3,none⟩ (.int .i64 m)):=by
 have hgl:g<w.heap.size:=f.old.2.2.1 g rfl
 have a:∀q,q≠g->(W.setCell ⟨g,i*5+3,none⟩ (.int .i64 m)).heap[q]?=W.heap[q]? :=λq o=>iJ _ _ _ _ o
 have j:g≠b:=λe=>gV f.at1.r1 f.at1.blk (by omega) (by rw[e];rfl)
 have c:=f.at1.r1.stored (i*5+3) (.int .i64 m);rw[uG x.R1 i h m hi]at c;have z:=f.sz;refine⟨⟨(a b j.symm).trans f.at1.blk,ag f.at1.r0 (λq e=>a q (λy=>f.at1.apart q e (by rw[y];rfl))),by simpa using c.1,f.at1.apart⟩,?_,ag f.pl (λq e=>a q (λy=>by have:=(f.pl.lt q e).1;omega)),(a _ (by omega)).trans f.rb,ag f.ox (λq e=>a q (λy=>by have:=(f.ox.lt q e).1;omega)),⟨by simpa using z.1,z.2⟩,f.old⟩;exact f.tr.trans (S':=λq=>q=g) ⟨rfl,rfl,rfl,by simp,λq _ o=>a q o⟩ (λq _ e=>by rw[e])
theorem mD.hcells1(f:mD w d b p (.slice (some ⟨g,0,none⟩) n cap) S x k t v u ps X r W)(o:x.R1.length=n)(hi:x.R1[i]?=some h):
  (W.cell? ⟨g,i*5,none⟩=some (.int .i64 h.k)/\W.cell? ⟨g,i*5+1,none⟩=some (.int .i64 h.t)/\W.cell? ⟨g,i*5+2,none⟩=some (.int .i64 h.v)/\W.cell? ⟨g,i*5+3,none⟩=some (.int .i64 h.met))/\W.frozen? ⟨g,i*5+3,none⟩=false/\g<W.heap.size:=by
 subst o;have hl:i<x.R1.length:=(bP.1 hi).1;have a:=f.at1.r1
 have e:∀j,j<5->W.cell? ⟨g,i*5+j,none⟩=(bz h)[j]? :=λj c=>by
  rw[a.cellAt (i*5+j) (by omega),cB bz 5 fM x.R1 i j h hi c]
 exact⟨⟨e 0 (by omega),e 1 (by omega),e 2 (by omega),e 3 (by omega)⟩,a.frozenAt _,(a.lt g rfl).2⟩
theorem mD.met0(f:mD w d b (.slice (some ⟨g,0,none⟩) x.R0.length cap) l (some g) x k t v u ps X r W)(hi:x.R0[i]?=some h):
  mD w d b (.slice (some ⟨g,0,none⟩) x.R0.length cap) l (some g) { x with R0:=x.R0.set i { h with met:=m}} k t v u ps X r (W.setCell ⟨g,i*5+3,none⟩ (.int .i64 m)):=by
 have hgl:g<w.heap.size:=f.old.2.1 g rfl
 have a:∀q,q≠g->(W.setCell ⟨g,i*5+3,none⟩ (.int .i64 m)).heap[q]?=W.heap[q]? :=λq o=>iJ _ _ _ _ o
 have j:g≠b:=λe=>gV f.at1.r0 f.at1.blk (by omega) (by rw[e];rfl)
 have c:=f.at1.r0.stored (i*5+3) (.int .i64 m);rw[uG x.R0 i h m hi]at c;have z:=f.sz;refine⟨⟨(a b j.symm).trans f.at1.blk,by simpa using c.1,ag f.at1.r1 (λq e=>a q (λy=>f.at1.apart g rfl (by rw[<-y];exact e))),f.at1.apart⟩,?_,ag f.pl (λq e=>a q (λy=>by have:=(f.pl.lt q e).1;omega)),(a _ (by omega)).trans f.rb,ag f.ox (λq e=>a q (λy=>by have:=(f.ox.lt q e).1;omega)),⟨by simpa using z.1,z.2⟩,f.old⟩;exact f.tr.trans (S':=λq=>q=g) ⟨rfl,rfl,rfl,by simp,λq _ o=>a q o⟩ (λq _ e=>by rw[e])
theorem mD.hcells0(f:mD w d b (.slice (some ⟨g,0,none⟩) n cap) l S x k t v u ps X r W)(o:x.R0.length=n)(hi:x.R0[i]?=some h):
  (W.cell? ⟨g,i*5,none⟩=some (.int .i64 h.k)/\W.cell? ⟨g,i*5+1,none⟩=some (.int .i64 h.t)/\W.cell? ⟨g,i*5+2,none⟩=some (.int .i64 h.v)/\W.cell? ⟨g,i*5+3,none⟩=some (.int .i64 h.met))/\W.frozen? ⟨g,i*5+3,none⟩=false/\g<W.heap.size:=by
 subst o;have hl:i<x.R0.length:=(bP.1 hi).1;have a:=f.at1.r0
 have e:∀j,j<5->W.cell? ⟨g,i*5+j,none⟩=(bz h)[j]? :=λj c=>by
  rw[a.cellAt (i*5+j) (by omega),cB bz 5 fM x.R0 i j h hi c]
 exact⟨⟨e 0 (by omega),e 1 (by omega),e 2 (by omega),e 3 (by omega)⟩,a.frozenAt _,(a.lt g rfl).2⟩
end
end Go.Proofs.YthfpipieboophaaGreatDoor
