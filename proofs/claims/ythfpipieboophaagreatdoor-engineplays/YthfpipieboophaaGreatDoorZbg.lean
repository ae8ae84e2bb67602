import Derived.Test.YthfpipieboophaaGreatDoorZbf
import Derived.Test.YthfpipieboophaaGreatDoorZah
namespace Go.Proofs.YthfpipieboophaaGreatDoor
set_option maxRecDepth 100000
set_option maxHeartbeats 40000000
open Go.Joins Go.Shelf Go.RowKit
section
open Go.Proofs.Tryz
theorem bG (n lo hi:Int) (w:World):Calls prog 52 #[.int .i64 n,.int .i64 lo,.int .i64 hi] w fun e w'=>e= .returned (.bool (iG lo hi n))∧w'=w:=by
 by_cases h1:lo<=n
 ·by_cases h2:n<=hi
  ·go_enter func52,ntmps52;go_wp2;go_ret;exact⟨aN (by simp[iG,h1,h2]),rfl⟩
  ·go_enter func52,ntmps52;go_wp2;go_ret;exact⟨aN (by simp[iG,h1,h2]),rfl⟩
 ·go_enter func52,ntmps52;go_wp2;go_ret;exact⟨aN (by rw[iG,decide_eq_false (by omega:¬lo<=n)];rfl),rfl⟩
theorem iA (k t v:Int) (w:World):
  Calls prog 40 #[.agg #[.int .i64 k,.int .i64 t,.int .i64 v]] w fun e w'=>e= .returned (.bool (au k t v))∧Go.RowKit.Below w.heap.size w w':=by
 have H:=fun n W=>bG n (-1099511627776) 1099511627776 W
 cases h1:iG (-1099511627776) 1099511627776 k
 ·go_enter func40,ntmps40
  go_wp2_with (go_at_call 52;refine(H _ _).mono ?_;rintro e w' ⟨rfl,rfl⟩)
  go_ret;exact⟨aN (by simp[au,h1]),below_alloc1 _ _⟩
 ·cases h2:iG (-1099511627776) 1099511627776 t
  ·go_enter func40,ntmps40
   go_wp2_with (go_at_call 52;refine(H _ _).mono ?_;rintro e w' ⟨rfl,rfl⟩)
   go_ret;exact⟨aN (by simp[au,h1,h2]),below_alloc1 _ _⟩
  ·go_enter func40,ntmps40
   go_wp2_with (go_at_call 52;refine(H _ _).mono ?_;rintro e w' ⟨rfl,rfl⟩)
   go_ret;exact⟨aN (by simp[au,h1,h2]),below_alloc1 _ _⟩
theorem yP (k t v:Int) (w:World):
  Calls prog 38 #[.int .i64 0,.agg #[.int .i64 k,.int .i64 t,.int .i64 v]] w fun e w'=>e= .returned (.agg #[.int .i64 k,.int .i64 k,.int .i64 t,.int .i64 v,.int .i64 0,.int .i64 0,.int .i64 0,.bool true,.bool false])∧Go.RowKit.Below w.heap.size w w':=by
 go_enter func38,ntmps38;go_wp2;exact bodyPost_ret (v:= .agg #[.int .i64 k,.int .i64 k,.int .i64 t,.int .i64 v,.int .i64 0,.int .i64 0,.int .i64 0,.bool true,.bool false]) (by simp[results,Tryz.results38,go_sem]) rfl ⟨rfl,below_alloc3 _ _ _ _⟩
theorem vS (s k t v:Int) (hs:¬s=0) (w:World):
  Calls prog 38 #[.int .i64 s,.agg #[.int .i64 k,.int .i64 t,.int .i64 v]] w fun e w'=>e= .returned (.agg #[.int .i64 k,.int .i64 0,.int .i64 0,.int .i64 0,.int .i64 k,.int .i64 t,.int .i64 v,.bool false,.bool true])∧Go.RowKit.Below w.heap.size w w':=by
 go_enter func38,ntmps38;go_wp2;exact bodyPost_ret (v:= .agg #[.int .i64 k,.int .i64 0,.int .i64 0,.int .i64 0,.int .i64 k,.int .i64 t,.int .i64 v,.bool false,.bool true]) (by simp[results,Tryz.results38,go_sem]) rfl ⟨rfl,below_alloc3 _ _ _ _⟩
theorem oM (k1 t1 v1 k2 t2 v2:Int) (w:World):
  Calls prog 39 #[.agg #[.int .i64 k1,.int .i64 t1,.int .i64 v1],.agg #[.int .i64 k2,.int .i64 t2,.int .i64 v2]] w fun e w'=>e= .returned (.agg #[.int .i64 k1,.int .i64 k1,.int .i64 t1,.int .i64 v1,.int .i64 k2,.int .i64 t2,.int .i64 v2,.bool true,.bool true])∧Go.RowKit.Below w.heap.size w w':=by
 go_enter func39,ntmps39;go_wp2;exact bodyPost_ret (v:= .agg #[.int .i64 k1,.int .i64 k1,.int .i64 t1,.int .i64 v1,.int .i64 k2,.int .i64 t2,.int .i64 v2,.bool true,.bool true]) (by simp[results,Tryz.results39,go_sem]) rfl ⟨rfl,below_alloc3 _ _ _ _⟩
theorem pM (b:Nat) (mode s:Int) (w:World) (h:w.cell? ⟨b,2,none⟩=some (.int .i64 mode)) (hs:s=0∨s=1):
  Calls prog 94 #[.pointer (some ⟨b,0,none⟩),.int .i64 s] w fun e w'=>e= .returned (.bool (bf mode s))∧Go.RowKit.Below w.heap.size w w':=by
 rcases hs with rfl | rfl
 ·by_cases hm:mode=3
  ·subst hm;go_enter func94,ntmps94;go_wp2;go_ret;exact⟨aN (by simp[bf]),Below.refl _ _⟩
  ·by_cases hm1:mode=1
   ·subst hm1;go_enter func94,ntmps94;go_wp2;go_ret;exact⟨aN (by simp[bf]),Below.refl _ _⟩
   ·go_enter func94,ntmps94;go_wp2;go_ret;exact⟨aN (by simp[bf,Bool.or_comm]),Below.refl _ _⟩
 ·by_cases hm:mode=3
  ·subst hm;go_enter func94,ntmps94;go_wp2;go_ret;exact⟨aN (by simp[bf]),Below.refl _ _⟩
  ·by_cases hm1:mode=2
   ·subst hm1;go_enter func94,ntmps94;go_wp2;go_ret;exact⟨aN (by simp[bf]),Below.refl _ _⟩
   ·go_enter func94,ntmps94;go_wp2;go_ret;exact⟨aN (by simp[bf,Bool.or_comm]),Below.refl _ _⟩
theorem uF (b:Nat) (lo hi t:Int) (w:World) (h1:w.cell? ⟨b,0,none⟩=some (.int .i64 lo)) (h2:w.cell? ⟨b,1,none⟩=some (.int .i64 hi)) (g1: -1048576<=lo) (g2:lo<=1048576) (g3: -1048576<=hi) (g4:hi<=1048576) (q1: -1099511627776<=t) (q2:t<=1099511627776):
  Calls prog 53 #[.pointer (some ⟨b,0,none⟩),.int .i64 0,.int .i64 t] w fun e w'=>e= .returned (.tuple #[.int .i64 (t+lo),.int .i64 (t+hi)])∧Go.RowKit.Below w.heap.size w w':=by
 go_enter func53,ntmps53;go_wp2;go_quiet (fail);go_wp2;go_ret2;exact⟨rfl,below_drewN (Below.refl _ _) _⟩
theorem qL (b:Nat) (lo hi t:Int) (w:World) (h1:w.cell? ⟨b,0,none⟩=some (.int .i64 lo)) (h2:w.cell? ⟨b,1,none⟩=some (.int .i64 hi)) (g1: -1048576<=lo) (g2:lo<=1048576) (g3: -1048576<=hi) (g4:hi<=1048576) (q1: -1099511627776<=t) (q2:t<=1099511627776):
  Calls prog 53 #[.pointer (some ⟨b,0,none⟩),.int .i64 1,.int .i64 t] w fun e w'=>e= .returned (.tuple #[.int .i64 (t -hi),.int .i64 (t -lo)])∧Go.RowKit.Below w.heap.size w w':=by
 go_enter func53,ntmps53;go_wp2;go_quiet (fail);go_wp2;go_ret2;exact⟨rfl,below_drewN (Below.refl _ _) _⟩
end
section
open Go.Proofs.Tryz
variable {w W V w2:World} {base b g e size B g0 g2 cap2:Nat} {v k t met:Int} {cs:Array Value} {v0 v1:Value}
structure RJ where
 lo:Int
 hi:Int
 mode:Int
 m0:Int
 m1:Int
 late:Int
 came:Int
 R0:List Hl
 R1:List Hl
structure dh (w:World) (base b:Nat) (v0 v1:Value) (x:RJ):Prop where
 blk:w.heap[b]? =some (.cells #[.int .i64 x.lo,.int .i64 x.hi,.int .i64 x.mode,v0,v1,.int .i64 x.m0,.int .i64 x.m1,.int .i64 x.late,.int .i64 x.came] 65)
 r0:w.ownsRow base 117 5 v0 x.R0.length (x.R0.flatMap bz)
 r1:w.ownsRow base 117 5 v1 x.R1.length (x.R1.flatMap bz)
 apart:∀g,v0.ownBlock=some g->v1.ownBlock≠some g
theorem gV {n T:Nat} {v:Value} {xs:List Value} (h:w.ownsRow base 117 5 v n xs) (hb:w.heap[b]? =some (.cells cs T)) (hT:T≠117):v.ownBlock≠some b:=by
 rcases h.2 with⟨rfl,_⟩ | ⟨g,cap,cur,rfl,_,hg,_⟩
 ·simp[Value.ownBlock]
 ·intro e;simp[Value.ownBlock] at e;subst e;rw[hb] at hg;cases hg;exact hT rfl
theorem dh.lt {x:RJ} (h:dh w base b v0 v1 x):b < w.heap.size:=(Array.getElem?_eq_some_iff.1 h.blk).1
theorem dh.cells {x:RJ} (h:dh w base b v0 v1 x):
  w.cell? ⟨b,0,none⟩=some (.int .i64 x.lo)∧w.cell? ⟨b,1,none⟩=some (.int .i64 x.hi)∧w.cell? ⟨b,2,none⟩=some (.int .i64 x.mode)∧w.cell? ⟨b,3,none⟩=some v0∧w.cell? ⟨b,4,none⟩=some v1∧w.cell? ⟨b,5,none⟩=some (.int .i64 x.m0)∧w.cell? ⟨b,6,none⟩=some (.int .i64 x.m1)∧w.cell? ⟨b,7,none⟩=some (.int .i64 x.late)∧w.cell? ⟨b,8,none⟩=some (.int .i64 x.came)∧(∀o,w.frozen? ⟨b,o,none⟩=false):=by
 refine⟨?_,?_,?_,?_,?_,?_,?_,?_,?_,fun o=>unfrozen_of_block h.blk o⟩ <;>(rw[cell_of_block h.blk];rfl)
theorem dh.below {w':World} {x:RJ} (h:dh w base b v0 v1 x) (hb:Below w.heap.size w w'):dh w' base b v0 v1 x:=
 ⟨(hb.block _ h.lt).trans h.blk,ag h.r0 (fun g e=>hb.block g (h.r0.lt g e).2),ag h.r1 (fun g e=>hb.block g (h.r1.lt g e).2),h.apart⟩
theorem gD {P:Program} (w:World) {ops:Array Oper} {o:Oper} {a:Act} {K:Act->World->Prop} {Q:Exit->Act->World->Prop} {E:Prop} (hgd:o.guard=none) (s x:Operand) (t:TypeId)
  (ho:o.op= .call { callee:= .builtin .append,args:= #[s,x],argTypes:= #[t,t]})
  (base:Nat) (e:TypeId) (i:TypeInfo) (z:Value) (size bytes:Nat) (ht:P.underlying t=some (.slice e)) (hi:P.info? e=some i) (hz:i.zero=some z)
  (hsize:i.size=size) (hby:i.bytes=bytes) (hzs:z.cells.size=size) (hsz:0 < size)
  (g0 c0 n:Nat) (xs:List Value) (hs:a.eval s= .slice (some ⟨g0,0,none⟩) n c0) (hown:w.ownsRow base e size (.slice (some ⟨g0,0,none⟩) n c0) n xs)
  (v2:Value) (Yc m:Nat) (news:List Value) (hx:a.eval x=v2) (hown2:w.ownsRow Yc e size v2 m news) (h1:∀u∈news,u.oneCell'=true)
  (nm:Nat) (hnm:n+m=nm) (ys:List Value) (hys:xs++news=ys) (h63:nm<=maxLen) (hbytes:nm * bytes<=140737488355328) (hbase:base<=w.heap.size)
  (h:∀g cap w',w'.ownsRow base e size (.slice (some ⟨g,0,none⟩) nm cap) nm ys->w.grownBy w' (some g0)->(g=g0∨g=w.heap.size)->K (a.put o.dst (.slice (some ⟨g,0,none⟩) nm cap)) w'):
  if Region.wanted o (yielded ops a.tmps)=true then Oper.wp P o a w K Q else E:=by
 have hw:Region.wanted o (yielded ops a.tmps)=true:=by simp[Region.wanted,hgd]
 rw[if_pos hw];subst hnm hys
 rcases ownsRow_forms hown2 with⟨rfl,rfl⟩ | ⟨g2,c2,rfl⟩
 ·have hnil:news=[]:=List.eq_nil_of_length_eq_zero (by have :=hown2.1;omega);subst hnil;have hrun:=run_append_owned_none (P:=P) (w:=w) base t o.type e i size ht hi _ n xs hown;unfold Oper.wp;simp[execOp,ho,resolve,invoke,builtin,hs,hx,hrun,Result.andThen];exact h g0 c0 w (by simpa using hown) ⟨rfl,rfl,rfl,Nat.le_refl _,fun _ _ _=>rfl⟩ (Or.inl rfl)
 ·obtain⟨v',w',hr,h2,h3,h4,h5⟩:=run_append_own_at (P:=P) w base t o.type e i z size bytes ht hi hz hsize hby hzs hsz _ n xs hown ⟨g2,0,none⟩ m c2 news hown2.1 (fun j u hu=>hown2.cells (g:=g2) rfl j u hu) h1 h63 hbytes hbase
  rcases h2.2 with⟨rfl,_⟩ | ⟨g,cap,cur,rfl,_⟩
  ·have :=(h4.1 rfl).1;cases this
  ·unfold Oper.wp execOp;simp only[ho,resolve,invoke,builtin,Sem.run_bind,Sem.run_pure,Result.andThen_ok,List.map_toArray,List.map_cons,List.map_nil,hs,hx,hr];refine h g cap w' h2 h3 ?_;simpa[Value.ownBlock] using h5
theorem Fj (h:W.heap[g]? =some (.cells #[] e (0,0))) (hb:base<=g):W.ownsRow base e size (.slice (some ⟨g,0,none⟩) 0 0) 0 []:=
 ⟨by simp,.inr ⟨g,0,#[],rfl,hb,h,Nat.le_refl _,Nat.zero_le _,by simp,by simp⟩⟩
theorem su (h:W.heap[g]? =some (.cells cs e (0,0))) (hs:cs.size=size):W.ownsRow 0 e size (.slice (some ⟨g,0,none⟩) 1 1) 1 cs.toList:=
 ⟨by simp[hs],.inr ⟨g,1,cs,rfl,Nat.zero_le _,h,Nat.le_refl _,by unfold maxLen;omega,by omega,by rw[Nat.one_mul,<-hs,<-Array.length_toList];exact List.take_length⟩⟩
theorem gW {w1:World} (hb:Below B V W) (hB:B<=W.heap.size) (hg:W.grownBy w1 (some g0)) (hg0:B<=g0):Below B V w1:=hb.grown hg hB (fun k e=>by cases e;exact hg0)
theorem sw (hb:Below B V W) (hg0:V.heap.size<=g0) (hat:g=g0∨g=W.heap.size):V.heap.size<=g:=by
 have :=hb.size;omega
theorem aM {o:Obj} (h:g=W.heap.size):(W.alloc o).heap[g]? =some o:=by
 subst h;exact heap_alloc_new _ _
theorem yQ (R:List Hl) (h:Hl):R.flatMap bz++bz h=(R++[h]).flatMap bz:=by simp
def P8:Op:= .load 62 (.tmp 22)
def zH:Value:= .agg #[.int .i64 0,.int .i64 0,.int .i64 0,.int .i64 0,.int .i64 0]
theorem Bh:(prog.info? 117).map (fun i=>(i.zero,i.size,i.bytes))=some (some zH,5,40):=by kernel_rfl
theorem Bj (R:List Hl):∀u∈R.flatMap bz,u.oneCell'=true:=by
 intro u hu;simp only[List.mem_flatMap] at hu;obtain⟨x,_,hx⟩:=hu;simp[bz] at hx
 rcases hx with rfl | rfl | rfl | rfl | rfl <;>rfl
structure kM (w:World) (b:Nat) (v0 v1:Value) (x:RJ) (V:World):Prop where
 at1:dh V 0 b v0 v1 { x with came:=x.came+1}
 gr:w.grownBy V (some b)
 sz:w.heap.size+1<=V.heap.size
theorem Ur {x:RJ} (h:dh w 0 b v0 v1 x) (o:Obj):kM w b v0 v1 x ((w.setCell ⟨b,8,none⟩ (.int .i64 (x.came+1))).alloc o):=by
 have hlt:=h.lt
 have hk:∀k,k < w.heap.size->k≠b->((w.setCell ⟨b,8,none⟩ (.int .i64 (x.came+1))).alloc o).heap[k]? =w.heap[k]? :=fun k hk hne=>by
  rw[Below.heap_alloc _ _ _ (by simp;exact hk)];exact Below.heap_setCell _ _ _ _ hne
 refine⟨⟨?_,ag h.r0 (fun g e=>hk g (h.r0.lt g e).2 (fun eb=>gV h.r0 h.blk (by omega) (by rw[e,eb]))),ag h.r1 (fun g e=>hk g (h.r1.lt g e).2 (fun eb=>gV h.r1 h.blk (by omega) (by rw[e,eb]))),h.apart⟩,⟨rfl,rfl,rfl,by simp,fun k h1 h2=>hk k h1 (fun e=>h2 (by rw[e]))⟩,by simp⟩;rw[Below.heap_alloc _ _ _ (by simp;exact hlt),block_setCell h.blk];rfl
theorem kM.c3 {x:RJ} (h:kM w b v0 v1 x V):V.cell? ⟨b,3,none⟩=some v0:=by rw[cell_of_block h.at1.blk];rfl
theorem kM.c4 {x:RJ} (h:kM w b v0 v1 x V):V.cell? ⟨b,4,none⟩=some v1:=by rw[cell_of_block h.at1.blk];rfl
theorem kM.c8 {x:RJ} (h:kM w b v0 v1 x V):V.cell? ⟨b,8,none⟩=some (.int .i64 (x.came+1)):=by rw[cell_of_block h.at1.blk];rfl
theorem kM.rows1 {x:RJ} (h:kM w b v0 v1 x V) (V':World) (hb:Below V.heap.size V V'):V'.ownsRow 0 117 5 v1 x.R1.length (x.R1.flatMap bz):=(h.at1.below hb).r1
theorem kM.rows {x:RJ} (h:kM w b v0 v1 x V) (V':World) (hb:Below V.heap.size V V'):V'.ownsRow 0 117 5 v0 x.R0.length (x.R0.flatMap bz):=(h.at1.below hb).r0
theorem P9 {x:RJ} (h:kM w b v0 v1 x V) (hj:dh w 0 b v0 v1 x) (hB:Below V.heap.size V w2) (hg:V.heap.size<=g2) (ho:w2.ownsRow 0 117 5 (.slice (some ⟨g2,0,none⟩) (x.R0.length+1) cap2) (x.R0.length+1) ((x.R0++[Hl.mk k t v met (x.came+1)]).flatMap bz)):
  dh (w2.setCell ⟨b,3,none⟩ (.slice (some ⟨g2,0,none⟩) (x.R0.length+1) cap2)) 0 b (.slice (some ⟨g2,0,none⟩) (x.R0.length+1) cap2) v1 { x with R0:=x.R0++[⟨k,t,v,met,x.came+1⟩],came:=x.came+1}∧w.grownBy (w2.setCell ⟨b,3,none⟩ (.slice (some ⟨g2,0,none⟩) (x.R0.length+1) cap2)) (some b)∧(∃g,(Value.slice (some ⟨g2,0,none⟩) (x.R0.length+1) cap2).ownBlock=some g∧w.heap.size<=g):=by
 have hl:=hj.lt;have hz:=h.sz;have h2:=h.at1.below hB
 have Ld:b < V.heap.size:=by omega
 have hk:∀q,q≠b->(w2.setCell ⟨b,3,none⟩ (.slice (some ⟨g2,0,none⟩) (x.R0.length+1) cap2)).heap[q]? =w2.heap[q]? :=fun q hq=>Below.heap_setCell _ _ _ _ hq
 refine⟨⟨?_,?_,ag h2.r1 (fun g e=>hk g (fun eb=>gV h2.r1 h2.blk (by omega) (by rw[e,eb]))),?_⟩,?_,g2,rfl,by omega⟩
 ·rw[block_setCell h2.blk];rfl
 ·have :=ag ho (fun g e=>hk g (fun eb=>by simp[Value.ownBlock] at e;omega));simpa using this
 ·intro g e1 e2;simp[Value.ownBlock] at e1;have :=(hj.r1.lt g e2).2;omega
 ·refine⟨hB.os.trans h.gr.os,hB.tape.trans h.gr.tape,hB.output.trans h.gr.output,by simp;exact Nat.le_trans h.gr.size hB.size,fun q hq hne=> ?_⟩
  have WL:q≠b:=fun e=>hne (by rw[e])
  exact(hk q WL).trans ((hB.block q (by omega)).trans (h.gr.block q hq hne))
theorem Qa {x:RJ} (h:kM w b v0 v1 x V) (hj:dh w 0 b v0 v1 x) (hB:Below V.heap.size V w2) (hg:V.heap.size<=g2) (ho:w2.ownsRow 0 117 5 (.slice (some ⟨g2,0,none⟩) (x.R1.length+1) cap2) (x.R1.length+1) ((x.R1++[Hl.mk k t v met (x.came+1)]).flatMap bz)):
  dh (w2.setCell ⟨b,4,none⟩ (.slice (some ⟨g2,0,none⟩) (x.R1.length+1) cap2)) 0 b v0 (.slice (some ⟨g2,0,none⟩) (x.R1.length+1) cap2) { x with R1:=x.R1++[⟨k,t,v,met,x.came+1⟩],came:=x.came+1}∧w.grownBy (w2.setCell ⟨b,4,none⟩ (.slice (some ⟨g2,0,none⟩) (x.R1.length+1) cap2)) (some b)∧(∃g,(Value.slice (some ⟨g2,0,none⟩) (x.R1.length+1) cap2).ownBlock=some g∧w.heap.size<=g):=by
 have hl:=hj.lt;have hz:=h.sz;have h2:=h.at1.below hB
 have Ld:b < V.heap.size:=by omega
 have hk:∀q,q≠b->(w2.setCell ⟨b,4,none⟩ (.slice (some ⟨g2,0,none⟩) (x.R1.length+1) cap2)).heap[q]? =w2.heap[q]? :=fun q hq=>Below.heap_setCell _ _ _ _ hq
 refine⟨⟨?_,ag h2.r0 (fun g e=>hk g (fun eb=>gV h2.r0 h2.blk (by omega) (by rw[e,eb]))),?_,?_⟩,?_,g2,rfl,by omega⟩
 ·rw[block_setCell h2.blk];rfl
 ·have :=ag ho (fun g e=>hk g (fun eb=>by simp[Value.ownBlock] at e;omega));simpa using this
 ·intro g e1 e2;simp[Value.ownBlock] at e2;have :=(hj.r0.lt g e1).2;omega
 ·refine⟨hB.os.trans h.gr.os,hB.tape.trans h.gr.tape,hB.output.trans h.gr.output,by simp;exact Nat.le_trans h.gr.size hB.size,fun q hq hne=> ?_⟩
  have WL:q≠b:=fun e=>hne (by rw[e])
  exact(hk q WL).trans ((hB.block q (by omega)).trans (h.gr.block q hq hne))
theorem Yd {x:RJ} (k t v met:Int) (w:World) (h:dh w 0 b v0 v1 x) (hc: -1000000000<=x.came∧x.came<=1000000000) (hn:x.R0.length<=1000):
  Calls prog 87 #[.pointer (some ⟨b,0,none⟩),.int .i64 0,.agg #[.int .i64 k,.int .i64 t,.int .i64 v],.int .i64 met] w fun e w'=>e= .returned (.tuple #[])∧∃bA,dh w' 0 b bA v1 { x with R0:=x.R0++[⟨k,t,v,met,x.came+1⟩],came:=x.came+1}∧w.grownBy w' (some b)∧(∃g,bA.ownBlock=some g∧w.heap.size<=g):=by
 obtain⟨i0,hi,hz0,hz1,hz2⟩:=info_parts Bh;obtain⟨c0,c1,c2,c3,c4,c5,c6,c7,c8,cf⟩:=h.cells;have f8:=cf 8;have hlt:=h.lt;have c9:(-1000000000:Int)<=x.came:=hc.1;have c10:x.came<=(1000000000:Int):=hc.2;have HJ:=hid h;obtain⟨p0,q0,rfl⟩:=aj h.r0;clear h cf c0 c1 c2 c4 c5 c6 c7;go_enter func87,ntmps87;go_wp2;have HV:Hid (kM w b (.slice p0 x.R0.length q0) v1 x ((w.setCell ⟨b,8,none⟩ (.int .i64 (x.came+1))).alloc (.cells #[.int .i64 k,.int .i64 t,.int .i64 v] 37))):=Ur HJ.out _
 have hr:((w.setCell ⟨b,8,none⟩ (.int .i64 (x.came+1))).alloc (.cells #[.int .i64 k,.int .i64 t,.int .i64 v] 37)).heap[w.heap.size]? =some (.cells #[.int .i64 k,.int .i64 t,.int .i64 v] 37):=by
  have :=heap_alloc_new (w.setCell ⟨b,8,none⟩ (.int .i64 (x.came+1))) (.cells #[.int .i64 k,.int .i64 t,.int .i64 v] 37);simpa using this
 revert HV hr;generalize (w.setCell ⟨b,8,none⟩ (.int .i64 (x.came+1))).alloc (.cells #[.int .i64 k,.int .i64 t,.int .i64 v] 37)=V;intro HV hr;have d3:=HV.out.c3;have d8:=HV.out.c8
 have r0:V.cell? ⟨w.heap.size,0,none⟩=some (.int .i64 k):=by rw[cell_of_block hr];rfl
 have r1:V.cell? ⟨w.heap.size,1,none⟩=some (.int .i64 t):=by rw[cell_of_block hr];rfl
 have r2:V.cell? ⟨w.heap.size,2,none⟩=some (.int .i64 v):=by rw[cell_of_block hr];rfl
 have VA:w.heap.size < V.heap.size:=(Array.getElem?_eq_some_iff.1 hr).1;have ZV:V.frozen? ⟨b,3,none⟩=false:=unfrozen_of_block HV.out.at1.blk 3;clear hr c3 c8 f8
 have HC:Hid (∀W,Below V.heap.size V W->W.cell? ⟨b,3,none⟩=some (.slice p0 x.R0.length q0)∧W.cell? ⟨b,8,none⟩=some (.int .i64 (x.came+1))∧W.cell? ⟨w.heap.size,0,none⟩=some (.int .i64 k)∧W.cell? ⟨w.heap.size,1,none⟩=some (.int .i64 t)∧W.cell? ⟨w.heap.size,2,none⟩=some (.int .i64 v)):=fun W hW=>
  ⟨(hW.cell (p:=⟨b,3,none⟩) (by show b < _;omega)).trans d3,(hW.cell (p:=⟨b,8,none⟩) (by show b < _;omega)).trans d8,(hW.cell (p:=⟨w.heap.size,0,none⟩) VA).trans r0,(hW.cell (p:=⟨w.heap.size,1,none⟩) VA).trans r1,(hW.cell (p:=⟨w.heap.size,2,none⟩) VA).trans r2⟩
 have ZW:Hid (∀W u,Below V.heap.size V W->(W.setCell ⟨b,3,none⟩ u).cell? ⟨b,8,none⟩=some (.int .i64 (x.came+1))∧(W.setCell ⟨b,3,none⟩ u).cell? ⟨w.heap.size,0,none⟩=some (.int .i64 k)∧(W.setCell ⟨b,3,none⟩ u).cell? ⟨w.heap.size,1,none⟩=some (.int .i64 t)∧(W.setCell ⟨b,3,none⟩ u).cell? ⟨w.heap.size,2,none⟩=some (.int .i64 v)):=fun W u hW=>by
  have hc:=HC.out W hW;refine⟨?_,?_,?_,?_⟩
  ·rw[World.cell?_setCell_other _ _ _ _ (by simp)];exact hc.2.1
  ·rw[World.cell?_setCell_other _ _ _ _ (by first | (simp;done) | (simp;omega) | omega)];exact hc.2.2.1
  ·rw[World.cell?_setCell_other _ _ _ _ (by first | (simp;done) | (simp;omega) | omega)];exact hc.2.2.2.1
  ·rw[World.cell?_setCell_other _ _ _ _ (by first | (simp;done) | (simp;omega) | omega)];exact hc.2.2.2.2
 have hml:P8=Op.load 62 (.tmp 22):=rfl;rw[<-hml]
 have Ld:b < V.heap.size:=by omega
 go_region_held3 (fun W=>W.cell? ⟨b,8,none⟩=some (.int .i64 (x.came+1))∧W.cell? ⟨w.heap.size,0,none⟩=some (.int .i64 k)∧W.cell? ⟨w.heap.size,1,none⟩=some (.int .i64 t)∧W.cell? ⟨w.heap.size,2,none⟩=some (.int .i64 v))
  (first | exact ZW.out _ _ B2.out | (refine(HC.out _ ?_).2;repeat' (first | exact Below.refl _ _ | exact B1.out | exact B2.out | exact B1.out.size | exact B2.out.size | (refine Below.drew ?_) | (refine Below.alloc ?_ ?_ _) | (simp;done) | (simp;omega))))
  (first
   | (refine gD _ (by rfl) _ _ _ (by rfl) 0 117 i0 zH 5 40 underlying62 hi hz0 hz1 hz2 rfl (by omega) _ 0 0 [] (by rfl) (Fj (by first | exact aM (by first | (simp;done) | (simp;omega) | omega) | exact(Below.heap_alloc _ _ _ (by first | (simp;done) | (simp;omega) | omega)).trans (aM (by first | (simp;done) | (simp;omega) | omega))) (Nat.zero_le _)) (.slice p0 x.R0.length q0) 0 x.R0.length (x.R0.flatMap bz) (by rfl) ?_ (Bj _) x.R0.length (Nat.zero_add _) (x.R0.flatMap bz) rfl (by unfold maxLen;omega) (by omega) (Nat.zero_le _) ?_;(exact HV.out.rows _ (by repeat' (first | exact Below.refl _ _ | (refine Below.drew ?_) | (refine Below.alloc ?_ ?_ _) | (simp;done) | (simp;omega))));intro g1 oL w1 hown1 hgrow1 wF;have B1:Hid (Below V.heap.size V w1):=gW (by repeat' (first | exact Below.refl _ _ | (refine Below.drew ?_) | (refine Below.alloc ?_ ?_ _) | (simp;done) | (simp;omega))) (by first | (simp;done) | (simp;omega) | omega) hgrow1 (by first | (simp;done) | (simp;omega) | omega);have G1:Hid (V.heap.size<=g1):=sw (B:=V.heap.size) (V:=V) (by repeat' (first | exact Below.refl _ _ | (refine Below.drew ?_) | (refine Below.alloc ?_ ?_ _) | (simp;done) | (simp;omega))) (by first | (simp;done) | (simp;omega) | omega) wF)
   | (refine gD _ (by rfl) _ _ _ (by rfl) 0 117 i0 zH 5 40 underlying62 hi hz0 hz1 hz2 rfl (by omega) g1 oL x.R0.length (x.R0.flatMap bz) (by rfl) (by first | exact hown1 | exact hown1.alloc _) (.slice (some ⟨_,0,none⟩) 1 1) 0 1 [.int .i64 k,.int .i64 t,.int .i64 v,.int .i64 met,.int .i64 (x.came+1)] (by rfl) (su (cs:= #[.int .i64 k,.int .i64 t,.int .i64 v,.int .i64 met,.int .i64 (x.came+1)]) (by first | exact aM (by first | (simp;done) | (simp;omega) | omega) | exact(hgrow1.block _ (by first | (simp;done) | (simp;omega) | omega) (by first | (simp;done) | (simp;omega) | omega)).trans (aM (by first | (simp;done) | (simp;omega) | omega)) | exact(hgrow1.block _ (by first | (simp;done) | (simp;omega) | omega) (by first | (simp;done) | (simp;omega) | omega)).trans ((Below.heap_alloc _ _ _ (by first | (simp;done) | (simp;omega) | omega)).trans (aM (by first | (simp;done) | (simp;omega) | omega)))) rfl) (by intro u hu;simp at hu;rcases hu with rfl | rfl | rfl | rfl | rfl <;>rfl) (x.R0.length+1) rfl ((x.R0++[Hl.mk k t v met (x.came+1)]).flatMap bz) (yQ x.R0 (Hl.mk k t v met (x.came+1))) (by unfold maxLen;omega) (by omega) (Nat.zero_le _) ?_;intro g2 cap2 w2 hown2 hgrow2 Iy;have B2:Hid (Below V.heap.size V w2):=gW (by first | exact B1.out | exact B1.out.alloc B1.out.size _) (by first | exact B1.out.size | (have :=B1.out.size;simp;omega)) hgrow2 G1.out;have G2:Hid (V.heap.size<=g2):=sw (B:=V.heap.size) (V:=V) (by first | exact B1.out | exact B1.out.alloc B1.out.size _) G1.out Iy;have f3:=(HC.out _ B2.out).1;have f3':w2.frozen? ⟨b,3,none⟩=false:=(B2.out.frozen (p:=⟨b,3,none⟩) (by show b < _;omega)).trans ZV)
   | fail)
 all_goals go_end0
 all_goals exact⟨rfl,.slice (some ⟨g2,0,none⟩) (x.R0.length+1) cap2,P9 HV.out HJ.out B2.out G2.out hown2⟩
theorem Ye {x:RJ} (k t v met:Int) (w:World) (h:dh w 0 b v0 v1 x) (hc: -1000000000<=x.came∧x.came<=1000000000) (hn:x.R1.length<=1000):
  Calls prog 87 #[.pointer (some ⟨b,0,none⟩),.int .i64 1,.agg #[.int .i64 k,.int .i64 t,.int .i64 v],.int .i64 met] w fun e w'=>e= .returned (.tuple #[])∧∃v1',dh w' 0 b v0 v1' { x with R1:=x.R1++[⟨k,t,v,met,x.came+1⟩],came:=x.came+1}∧w.grownBy w' (some b)∧(∃g,v1'.ownBlock=some g∧w.heap.size<=g):=by
 obtain⟨i0,hi,hz0,hz1,hz2⟩:=info_parts Bh;obtain⟨c0,c1,c2,c3,c4,c5,c6,c7,c8,cf⟩:=h.cells;have f8:=cf 8;have hlt:=h.lt;have c9:(-1000000000:Int)<=x.came:=hc.1;have c10:x.came<=(1000000000:Int):=hc.2;have HJ:=hid h;obtain⟨p0,q0,rfl⟩:=aj h.r1;clear h cf c0 c1 c2 c3 c5 c6 c7;go_enter func87,ntmps87;go_wp2;have HV:Hid (kM w b v0 (.slice p0 x.R1.length q0) x ((w.setCell ⟨b,8,none⟩ (.int .i64 (x.came+1))).alloc (.cells #[.int .i64 k,.int .i64 t,.int .i64 v] 37))):=Ur HJ.out _
 have hr:((w.setCell ⟨b,8,none⟩ (.int .i64 (x.came+1))).alloc (.cells #[.int .i64 k,.int .i64 t,.int .i64 v] 37)).heap[w.heap.size]? =some (.cells #[.int .i64 k,.int .i64 t,.int .i64 v] 37):=by
  have :=heap_alloc_new (w.setCell ⟨b,8,none⟩ (.int .i64 (x.came+1))) (.cells #[.int .i64 k,.int .i64 t,.int .i64 v] 37);simpa using this
 revert HV hr;generalize (w.setCell ⟨b,8,none⟩ (.int .i64 (x.came+1))).alloc (.cells #[.int .i64 k,.int .i64 t,.int .i64 v] 37)=V;intro HV hr;have d3:=HV.out.c4;have d8:=HV.out.c8
 have r0:V.cell? ⟨w.heap.size,0,none⟩=some (.int .i64 k):=by rw[cell_of_block hr];rfl
 have r1:V.cell? ⟨w.heap.size,1,none⟩=some (.int .i64 t):=by rw[cell_of_block hr];rfl
 have r2:V.cell? ⟨w.heap.size,2,none⟩=some (.int .i64 v):=by rw[cell_of_block hr];rfl
 have VA:w.heap.size < V.heap.size:=(Array.getElem?_eq_some_iff.1 hr).1;have ZV:V.frozen? ⟨b,4,none⟩=false:=unfrozen_of_block HV.out.at1.blk 4;clear hr c4 c8 f8
 have HC:Hid (∀W,Below V.heap.size V W->W.cell? ⟨b,4,none⟩=some (.slice p0 x.R1.length q0)∧W.cell? ⟨b,8,none⟩=some (.int .i64 (x.came+1))∧W.cell? ⟨w.heap.size,0,none⟩=some (.int .i64 k)∧W.cell? ⟨w.heap.size,1,none⟩=some (.int .i64 t)∧W.cell? ⟨w.heap.size,2,none⟩=some (.int .i64 v)):=fun W hW=>
  ⟨(hW.cell (p:=⟨b,4,none⟩) (by show b < _;omega)).trans d3,(hW.cell (p:=⟨b,8,none⟩) (by show b < _;omega)).trans d8,(hW.cell (p:=⟨w.heap.size,0,none⟩) VA).trans r0,(hW.cell (p:=⟨w.heap.size,1,none⟩) VA).trans r1,(hW.cell (p:=⟨w.heap.size,2,none⟩) VA).trans r2⟩
 have ZW:Hid (∀W u,Below V.heap.size V W->(W.setCell ⟨b,4,none⟩ u).cell? ⟨b,8,none⟩=some (.int .i64 (x.came+1))∧(W.setCell ⟨b,4,none⟩ u).cell? ⟨w.heap.size,0,none⟩=some (.int .i64 k)∧(W.setCell ⟨b,4,none⟩ u).cell? ⟨w.heap.size,1,none⟩=some (.int .i64 t)∧(W.setCell ⟨b,4,none⟩ u).cell? ⟨w.heap.size,2,none⟩=some (.int .i64 v)):=fun W u hW=>by
  have hc:=HC.out W hW;refine⟨?_,?_,?_,?_⟩
  ·rw[World.cell?_setCell_other _ _ _ _ (by simp)];exact hc.2.1
  ·rw[World.cell?_setCell_other _ _ _ _ (by first | (simp;done) | (simp;omega) | omega)];exact hc.2.2.1
  ·rw[World.cell?_setCell_other _ _ _ _ (by first | (simp;done) | (simp;omega) | omega)];exact hc.2.2.2.1
  ·rw[World.cell?_setCell_other _ _ _ _ (by first | (simp;done) | (simp;omega) | omega)];exact hc.2.2.2.2
 have hml:P8=Op.load 62 (.tmp 22):=rfl;rw[<-hml]
 have Ld:b < V.heap.size:=by omega
 go_region_held3 (fun W=>W.cell? ⟨b,8,none⟩=some (.int .i64 (x.came+1))∧W.cell? ⟨w.heap.size,0,none⟩=some (.int .i64 k)∧W.cell? ⟨w.heap.size,1,none⟩=some (.int .i64 t)∧W.cell? ⟨w.heap.size,2,none⟩=some (.int .i64 v))
  (first | exact ZW.out _ _ B2.out | (refine(HC.out _ ?_).2;repeat' (first | exact Below.refl _ _ | exact B1.out | exact B2.out | exact B1.out.size | exact B2.out.size | (refine Below.drew ?_) | (refine Below.alloc ?_ ?_ _) | (simp;done) | (simp;omega))))
  (first
   | (refine gD _ (by rfl) _ _ _ (by rfl) 0 117 i0 zH 5 40 underlying62 hi hz0 hz1 hz2 rfl (by omega) _ 0 0 [] (by rfl) (Fj (by first | exact aM (by first | (simp;done) | (simp;omega) | omega) | exact(Below.heap_alloc _ _ _ (by first | (simp;done) | (simp;omega) | omega)).trans (aM (by first | (simp;done) | (simp;omega) | omega))) (Nat.zero_le _)) (.slice p0 x.R1.length q0) 0 x.R1.length (x.R1.flatMap bz) (by rfl) ?_ (Bj _) x.R1.length (Nat.zero_add _) (x.R1.flatMap bz) rfl (by unfold maxLen;omega) (by omega) (Nat.zero_le _) ?_;(exact HV.out.rows1 _ (by repeat' (first | exact Below.refl _ _ | (refine Below.drew ?_) | (refine Below.alloc ?_ ?_ _) | (simp;done) | (simp;omega))));intro g1 oL w1 hown1 hgrow1 wF;have B1:Hid (Below V.heap.size V w1):=gW (by repeat' (first | exact Below.refl _ _ | (refine Below.drew ?_) | (refine Below.alloc ?_ ?_ _) | (simp;done) | (simp;omega))) (by first | (simp;done) | (simp;omega) | omega) hgrow1 (by first | (simp;done) | (simp;omega) | omega);have G1:Hid (V.heap.size<=g1):=sw (B:=V.heap.size) (V:=V) (by repeat' (first | exact Below.refl _ _ | (refine Below.drew ?_) | (refine Below.alloc ?_ ?_ _) | (simp;done) | (simp;omega))) (by first | (simp;done) | (simp;omega) | omega) wF)
   | (refine gD _ (by rfl) _ _ _ (by rfl) 0 117 i0 zH 5 40 underlying62 hi hz0 hz1 hz2 rfl (by omega) g1 oL x.R1.length (x.R1.flatMap bz) (by rfl) (by first | exact hown1 | exact hown1.alloc _) (.slice (some ⟨_,0,none⟩) 1 1) 0 1 [.int .i64 k,.int .i64 t,.int .i64 v,.int .i64 met,.int .i64 (x.came+1)] (by rfl) (su (cs:= #[.int .i64 k,.int .i64 t,.int .i64 v,.int .i64 met,.int .i64 (x.came+1)]) (by first | exact aM (by first | (simp;done) | (simp;omega) | omega) | exact(hgrow1.block _ (by first | (simp;done) | (simp;omega) | omega) (by first | (simp;done) | (simp;omega) | omega)).trans (aM (by first | (simp;done) | (simp;omega) | omega)) | exact(hgrow1.block _ (by first | (simp;done) | (simp;omega) | omega) (by first | (simp;done) | (simp;omega) | omega)).trans ((Below.heap_alloc _ _ _ (by first | (simp;done) | (simp;omega) | omega)).trans (aM (by first | (simp;done) | (simp;omega) | omega)))) rfl) (by intro u hu;simp at hu;rcases hu with rfl | rfl | rfl | rfl | rfl <;>rfl) (x.R1.length+1) rfl ((x.R1++[Hl.mk k t v met (x.came+1)]).flatMap bz) (yQ x.R1 (Hl.mk k t v met (x.came+1))) (by unfold maxLen;omega) (by omega) (Nat.zero_le _) ?_;intro g2 cap2 w2 hown2 hgrow2 Iy;have B2:Hid (Below V.heap.size V w2):=gW (by first | exact B1.out | exact B1.out.alloc B1.out.size _) (by first | exact B1.out.size | (have :=B1.out.size;simp;omega)) hgrow2 G1.out;have G2:Hid (V.heap.size<=g2):=sw (B:=V.heap.size) (V:=V) (by first | exact B1.out | exact B1.out.alloc B1.out.size _) G1.out Iy;have f3:=(HC.out _ B2.out).1;have f3':w2.frozen? ⟨b,4,none⟩=false:=(B2.out.frozen (p:=⟨b,4,none⟩) (by show b < _;omega)).trans ZV)
   | fail)
 all_goals go_end0
 all_goals exact⟨rfl,.slice (some ⟨g2,0,none⟩) (x.R1.length+1) cap2,Qa HV.out HJ.out B2.out G2.out hown2⟩
end
section
variable {w W W' w1:World} {b i q g cap n:Nat} {v0 v1 vp vx:Value} {x:RJ} {k t v fr av s m:Int} {R L:List Hl} {h:Hl} {ps:List Nat} {S:Option Nat} {X:List Ch} {T:Bool}
structure Fa (w:World) (b:Nat) (v0 v1:Value) (x:RJ) (k t v:Int) (W:World):Prop where
 below:Below w.heap.size w W
 rb:W.heap[w.heap.size]? =some (.cells #[.int .i64 k,.int .i64 t,.int .i64 v] 37)
 at1:dh w 0 b v0 v1 x
theorem Fa.go (h:Fa w b v0 v1 x k t v W) (hb:Below W.heap.size W W'):Fa w b v0 v1 x k t v W':=
 ⟨h.below.trans (hb.mono h.below.size),(hb.block _ (Array.getElem?_eq_some_iff.1 h.rb).1).trans h.rb,h.at1⟩
theorem Fa.cells (h:Fa w b v0 v1 x k t v W):
  (W.cell? ⟨b,0,none⟩=some (.int .i64 x.lo)∧W.cell? ⟨b,1,none⟩=some (.int .i64 x.hi)∧W.cell? ⟨b,2,none⟩=some (.int .i64 x.mode)∧W.cell? ⟨b,3,none⟩=some v0∧W.cell? ⟨b,4,none⟩=some v1∧W.cell? ⟨b,5,none⟩=some (.int .i64 x.m0)∧W.cell? ⟨b,6,none⟩=some (.int .i64 x.m1)∧W.cell? ⟨b,7,none⟩=some (.int .i64 x.late)∧W.cell? ⟨b,8,none⟩=some (.int .i64 x.came)∧(∀o,W.frozen? ⟨b,o,none⟩=false))∧(W.cell? ⟨w.heap.size,0,none⟩=some (.int .i64 k)∧W.cell? ⟨w.heap.size,1,none⟩=some (.int .i64 t)∧W.cell? ⟨w.heap.size,2,none⟩=some (.int .i64 v))∧b < W.heap.size∧w.heap.size < W.heap.size:=
 ⟨(h.at1.below h.below).cells,⟨by rw[cell_of_block h.rb];rfl,by rw[cell_of_block h.rb];rfl,by rw[cell_of_block h.rb];rfl⟩,(h.at1.below h.below).lt,(Array.getElem?_eq_some_iff.1 h.rb).1⟩
def fE (h:Hl):D:=⟨h.k,h.t,h.v,h.met⟩
def kN (h:Hl):Hl:={ h with met:=wrap64 (h.met+1)}
def eF (k fr av:Int) (h:Hl):Bool:=decide (h.k=k) && iG fr av h.t
def jr (k fr av:Int) (P:List Nat) (R:List Hl):List Hl:=R.mapIdx fun i h=>if i∈P∧eF k fr av h=true then kN h else h
theorem fA (k fr av:Int) (P:List Nat) (R:List Hl):(jr k fr av P R).length=R.length:=by simp[jr]
theorem Fp (k fr av:Int) (R:List Hl):jr k fr av [] R=R:=by
 apply List.ext_getElem?;intro i;simp[jr]
theorem Fq (k fr av:Int) (P:List Nat) (R:List Hl) (i:Nat) (h:Hl) (hi:R[i]? =some h) (hn:i∉P):(jr k fr av P R)[i]? =some h:=by
 simp[jr,hi,hn]
theorem pO (k fr av:Int) (P:List Nat) (R:List Hl) (i:Nat) (h:Hl) (hi:R[i]? =some h) (hm:eF k fr av h=false):jr k fr av (P++[i]) R=jr k fr av P R:=by
 apply List.ext_getElem?;intro j;simp only[jr,List.getElem?_mapIdx]
 by_cases hj:j=i
 ·subst hj;simp[hi,hm]
 ·cases R[j]? <;>simp[hj]
theorem Bl (k fr av:Int) (P:List Nat) (R:List Hl) (i:Nat) (h:Hl) (hi:R[i]? =some h) (hm:eF k fr av h=true):jr k fr av (P++[i]) R=(jr k fr av P R).set i (kN h):=by
 apply List.ext_getElem?;intro j;simp only[jr,List.getElem?_set,List.getElem?_mapIdx,List.length_mapIdx]
 by_cases hj:i=j
 ·subst hj;have hl:i < R.length:=(List.getElem?_eq_some_iff.1 hi).1;rw[if_pos rfl,if_pos hl,hi];simp[hm]
 ·have :¬j=i:=fun e=>hj e.symm
  cases R[j]? <;>simp[hj,this]
theorem Qb (k fr av:Int) (P:List Nat) (R:List Hl) (hP:∀i,i < R.length->i∈P):jr k fr av P R=R.map fun h=>if eF k fr av h=true then kN h else h:=by
 apply List.ext_getElem?;intro j;simp only[jr,List.getElem?_mapIdx,List.getElem?_map]
 cases hR:R[j]? with
 | none=>rfl
 | some h=>
  have hj:j∈P:=hP j (List.getElem?_eq_some_iff.1 hR).1;simp[hj]
theorem uG:∀(R:List Hl) (i:Nat) (h:Hl) (m:Int),R[i]? =some h->(R.flatMap bz).set (i * 5+3) (.int .i64 m)=(R.set i { h with met:=m}).flatMap bz
 | [],i,h,m,hi=>by simp at hi
 | y::ys,0,h,m,hi=>by
  simp at hi;subst hi;simp[bz]
 | y::ys,i+1,h,m,hi=>by
  simp at hi;have ih:=uG ys i h m hi;rw[List.flatMap_cons,List.set_append_right _ _ (by rw[fM];omega),fM,show(i+1) * 5+3 -5=i * 5+3 by omega,ih];simp
def rowAt (R:List Hl) (i:Nat):Hl:=(R[i]?).getD default
theorem Qc (hi:R[i]? =some h):rowAt R i=h:=by unfold rowAt;rw[hi];rfl
theorem yR (hn:ps.Nodup) (q i:Nat) (hi:ps[q]? =some i):i∉ps.take q:=by
 intro hm;obtain⟨j,hj⟩:=List.getElem?_of_mem hm
 have hjq:j < q:=by
  have :=(List.getElem?_eq_some_iff.1 hj).1;rw[List.length_take] at this;omega
 rw[List.getElem?_take_of_lt hjq] at hj;obtain⟨h1,e1⟩:=List.getElem?_eq_some_iff.1 hj;obtain⟨h2,e2⟩:=List.getElem?_eq_some_iff.1 hi;exact(List.pairwise_iff_getElem.1 hn j q h1 h2 hjq) (e1.trans e2.symm)
theorem qM (hi:ps[q]? =some i):ps.take (q+1)=ps.take q++[i]:=by rw[List.take_add_one,hi];rfl
def aY (R:List Hl) (ps:List Nat) (q:Nat):List Hl:=(ps.take q).map (rowAt R)
def kP (k fr av:Int) (R:List Hl) (ps:List Nat) (q:Nat):Nat:=((aY R ps q).filter (eF k fr av)).length
theorem kQ (R:List Hl) (ps:List Nat) (q:Nat):(aY R ps q).length<=q:=by
 unfold aY;rw[List.length_map];exact List.length_take_le q ps
theorem wW (k fr av:Int) (R:List Hl) (ps:List Nat) (q:Nat):kP k fr av R ps q<=q:=Nat.le_trans (List.length_filter_le _ _) (kQ R ps q)
theorem pQ (hs:aY R ps (q+1)=aY R ps q++[h]) (hm:eF k fr av h=false):kP k fr av R ps (q+1)=kP k fr av R ps q:=by
 unfold kP;rw[hs,List.filter_append];simp[hm]
theorem Bn (hs:aY R ps (q+1)=aY R ps q++[h]) (hm:eF k fr av h=true):kP k fr av R ps (q+1)=kP k fr av R ps q+1:=by
 unfold kP;rw[hs,List.filter_append];simp[hm]
theorem mY (hi:ps[q]? =some i) (hr:R[i]? =some h):aY R ps (q+1)=aY R ps q++[h]:=by
 unfold aY;rw[qM hi,List.map_append,List.map_cons,List.map_nil,Qc hr]
def wX (T:Bool) (s s':Int) (k t v fr av:Int) (L:List Hl):List Ch:=((L.filter (eF k fr av)).map fE).flatMap (dU T s s' k t v)
theorem sD (T:Bool) (s s':Int) (k t v fr av:Int) (L:List Hl) (h:Hl) (hm:eF k fr av h=false):wX T s s' k t v fr av (L++[h])=wX T s s' k t v fr av L:=by simp[wX,hm]
theorem Fs (T:Bool) (s s':Int) (k t v fr av:Int) (L:List Hl) (h:Hl) (hm:eF k fr av h=true):wX T s s' k t v fr av (L++[h])=wX T s s' k t v fr av L++dU T s s' k t v (fE h):=by simp[wX,hm]
theorem wY (T:Bool) (s s':Int) (k t v fr av:Int) (L:List Hl):(wX T s s' k t v fr av L).length<=2 * L.length:=by
 have h1:=rP T s s' k t v ((L.filter (eF k fr av)).map fE);have h2:=List.length_filter_le (eF k fr av) L;simp only[List.length_map] at h1;unfold wX;omega
def YZ:Op:= .store 89 (.tmp 17) (.tmp 131)
theorem yS {z0 z1 z2 z3 z4 z5 z6 z7 z8:Value} (h:w.heap[g]? =some (.cells #[z0,z1,z2,z3,z4,z5,z6,z7,z8] 89)) (a0 a1 a2 a3 a4 a5 a6 a7 a8:Value):
  (((((((((w.setCell ⟨g,0,none⟩ a0).setCell ⟨g,1,none⟩ a1).setCell ⟨g,2,none⟩ a2).setCell ⟨g,3,none⟩ a3).setCell ⟨g,4,none⟩ a4).setCell ⟨g,5,none⟩ a5).setCell ⟨g,6,none⟩ a6).setCell ⟨g,7,none⟩ a7).setCell ⟨g,8,none⟩ a8).heap[g]? =some (.cells #[a0,a1,a2,a3,a4,a5,a6,a7,a8] 89):=by
 have h0:(w.setCell ⟨g,0,none⟩ a0).heap[g]? =some (.cells #[a0,z1,z2,z3,z4,z5,z6,z7,z8] 89):=block_setCell (i:=0) h a0;have h1:((w.setCell ⟨g,0,none⟩ a0).setCell ⟨g,1,none⟩ a1).heap[g]? =some (.cells #[a0,a1,z2,z3,z4,z5,z6,z7,z8] 89):=block_setCell (i:=1) h0 a1;have h2:(((w.setCell ⟨g,0,none⟩ a0).setCell ⟨g,1,none⟩ a1).setCell ⟨g,2,none⟩ a2).heap[g]? =some (.cells #[a0,a1,a2,z3,z4,z5,z6,z7,z8] 89):=block_setCell (i:=2) h1 a2;have h3:((((w.setCell ⟨g,0,none⟩ a0).setCell ⟨g,1,none⟩ a1).setCell ⟨g,2,none⟩ a2).setCell ⟨g,3,none⟩ a3).heap[g]? =some (.cells #[a0,a1,a2,a3,z4,z5,z6,z7,z8] 89):=block_setCell (i:=3) h2 a3;have h4:(((((w.setCell ⟨g,0,none⟩ a0).setCell ⟨g,1,none⟩ a1).setCell ⟨g,2,none⟩ a2).setCell ⟨g,3,none⟩ a3).setCell ⟨g,4,none⟩ a4).heap[g]? =some (.cells #[a0,a1,a2,a3,a4,z5,z6,z7,z8] 89):=block_setCell (i:=4) h3 a4;have h5:((((((w.setCell ⟨g,0,none⟩ a0).setCell ⟨g,1,none⟩ a1).setCell ⟨g,2,none⟩ a2).setCell ⟨g,3,none⟩ a3).setCell ⟨g,4,none⟩ a4).setCell ⟨g,5,none⟩ a5).heap[g]? =some (.cells #[a0,a1,a2,a3,a4,a5,z6,z7,z8] 89):=block_setCell (i:=5) h4 a5;have h6:(((((((w.setCell ⟨g,0,none⟩ a0).setCell ⟨g,1,none⟩ a1).setCell ⟨g,2,none⟩ a2).setCell ⟨g,3,none⟩ a3).setCell ⟨g,4,none⟩ a4).setCell ⟨g,5,none⟩ a5).setCell ⟨g,6,none⟩ a6).heap[g]? =some (.cells #[a0,a1,a2,a3,a4,a5,a6,z7,z8] 89):=block_setCell (i:=6) h5 a6;have h7:((((((((w.setCell ⟨g,0,none⟩ a0).setCell ⟨g,1,none⟩ a1).setCell ⟨g,2,none⟩ a2).setCell ⟨g,3,none⟩ a3).setCell ⟨g,4,none⟩ a4).setCell ⟨g,5,none⟩ a5).setCell ⟨g,6,none⟩ a6).setCell ⟨g,7,none⟩ a7).heap[g]? =some (.cells #[a0,a1,a2,a3,a4,a5,a6,a7,z8] 89):=block_setCell (i:=7) h6 a7;have h8:(((((((((w.setCell ⟨g,0,none⟩ a0).setCell ⟨g,1,none⟩ a1).setCell ⟨g,2,none⟩ a2).setCell ⟨g,3,none⟩ a3).setCell ⟨g,4,none⟩ a4).setCell ⟨g,5,none⟩ a5).setCell ⟨g,6,none⟩ a6).setCell ⟨g,7,none⟩ a7).setCell ⟨g,8,none⟩ a8).heap[g]? =some (.cells #[a0,a1,a2,a3,a4,a5,a6,a7,a8] 89):=block_setCell (i:=8) h7 a8;exact h8
theorem CR {x:O} (h:W.heap[g]? =some (.cells (ah x).toArray 89)):
  (W.cell? ⟨g,0,none⟩=some (.int .i64 x.k)∧W.cell? ⟨g,1,none⟩=some (.int .i64 x.lk)∧W.cell? ⟨g,2,none⟩=some (.int .i64 x.lt)∧W.cell? ⟨g,3,none⟩=some (.int .i64 x.lv)∧W.cell? ⟨g,4,none⟩=some (.int .i64 x.rk)∧W.cell? ⟨g,5,none⟩=some (.int .i64 x.rt)∧W.cell? ⟨g,6,none⟩=some (.int .i64 x.rv)∧W.cell? ⟨g,7,none⟩=some (.bool x.hl)∧W.cell? ⟨g,8,none⟩=some (.bool x.hr))∧(∀o,W.frozen? ⟨g,o,none⟩=false):=by
 refine⟨⟨?_,?_,?_,?_,?_,?_,?_,?_,?_⟩,fun o=>unfrozen_of_block h o⟩ <;>(rw[cell_of_block h];rfl)
theorem Bp (h:W.heap[g]? =some (.cells #[.int .i64 0,.int .i64 0,.int .i64 0,.int .i64 0,.int .i64 0,.int .i64 0,.int .i64 0,.bool false,.bool false] 89)):
  (W.cell? ⟨g,0,none⟩=some (.int .i64 0)∧W.cell? ⟨g,1,none⟩=some (.int .i64 0)∧W.cell? ⟨g,2,none⟩=some (.int .i64 0)∧W.cell? ⟨g,3,none⟩=some (.int .i64 0)∧W.cell? ⟨g,4,none⟩=some (.int .i64 0)∧W.cell? ⟨g,5,none⟩=some (.int .i64 0)∧W.cell? ⟨g,6,none⟩=some (.int .i64 0)∧W.cell? ⟨g,7,none⟩=some (.bool false)∧W.cell? ⟨g,8,none⟩=some (.bool false))∧(∀o,W.frozen? ⟨g,o,none⟩=false)∧g < W.heap.size:=by
 refine⟨⟨?_,?_,?_,?_,?_,?_,?_,?_,?_⟩,fun o=>unfrozen_of_block h o,(Array.getElem?_eq_some_iff.1 h).1⟩ <;>(rw[cell_of_block h];rfl)
structure mD (w w1:World) (b:Nat) (v0 v1:Value) (S:Option Nat) (x:RJ) (k t v:Int) (vp:Value) (ps:List Nat) (X:List Ch) (vx:Value) (W:World):Prop where
 at1:dh W 0 b v0 v1 x
 tr:Turned (fun g=>S=some g) w W
 pl:W.ownsRow w.heap.size 3 1 vp ps.length (ps.map lS)
 rb:W.heap[w.heap.size]? =some (.cells #[.int .i64 k,.int .i64 t,.int .i64 v] 37)
 ox:W.ownsRow w1.heap.size 95 10 vx X.length (X.flatMap aQ)
 sz:w1.heap.size<=W.heap.size∧w.heap.size < w1.heap.size
 old:b < w.heap.size∧(∀g,v0.ownBlock=some g->g < w.heap.size)∧(∀g,v1.ownBlock=some g->g < w.heap.size)∧(∀g,vp.ownBlock=some g->g < w1.heap.size)
theorem mD.go (h:mD w w1 b v0 v1 S x k t v vp ps X vx W) (hb:Below W.heap.size W W'):mD w w1 b v0 v1 S x k t v vp ps X vx W':=
 ⟨h.at1.below hb,h.tr.trans (Turned.of_below (S:=fun _=>False) hb) (fun _ _ e=>e.elim),ag h.pl (fun g e=>hb.block g (h.pl.lt g e).2),(hb.block _ (Array.getElem?_eq_some_iff.1 h.rb).1).trans h.rb,ag h.ox (fun g e=>hb.block g (h.ox.lt g e).2),⟨Nat.le_trans h.sz.1 hb.size,h.sz.2⟩,h.old⟩
theorem mD.more {c:Ch} (h:mD w w1 b v0 v1 S x k t v vp ps X vx W) (hg:W.grownBy W' vx.ownBlock)
  (ho:W'.ownsRow w1.heap.size 95 10 (.slice (some ⟨g,0,none⟩) (X.length+1) cap) (X.length+1) (X.flatMap aQ++aQ c)):mD w w1 b v0 v1 S x k t v vp ps (X++[c]) (.slice (some ⟨g,0,none⟩) (X.length+1) cap) W':=by
 have far:∀q,q < w1.heap.size->some q≠vx.ownBlock:=fun q hq e=>by have :=(h.ox.lt q e.symm).1;omega
 have keep:∀q,q < w1.heap.size->W'.heap[q]? =W.heap[q]? :=fun q hq=>hg.block q (by have :=h.sz.1;omega) (far q hq)
 have z:=h.sz
 have hk:∀q,q < w.heap.size->W'.heap[q]? =W.heap[q]? :=fun q hq=>keep q (by omega)
 refine⟨⟨(hk b h.old.1).trans h.at1.blk,ag h.at1.r0 (fun q e=>hk q (h.old.2.1 q e)),ag h.at1.r1 (fun q e=>hk q (h.old.2.2.1 q e)),h.at1.apart⟩,?_,ag h.pl (fun q e=>keep q (h.old.2.2.2 q e)),(keep _ z.2).trans h.rb,by simpa using ho,⟨Nat.le_trans z.1 hg.size,z.2⟩,h.old⟩;exact h.tr.trans (Turned.of_grown (S:=fun q=>vx.ownBlock=some q) hg (fun _ e=>e)) (fun q hq e=>absurd e.symm (far q (by omega)))
theorem mD.cells (h:mD w w1 b v0 v1 S x k t v vp ps X vx W):
  (W.cell? ⟨b,2,none⟩=some (.int .i64 x.mode)∧W.cell? ⟨b,3,none⟩=some v0∧W.cell? ⟨b,4,none⟩=some v1)∧(W.cell? ⟨w.heap.size,0,none⟩=some (.int .i64 k)∧W.cell? ⟨w.heap.size,1,none⟩=some (.int .i64 t)∧W.cell? ⟨w.heap.size,2,none⟩=some (.int .i64 v))∧b < W.heap.size∧w.heap.size < W.heap.size:=
 ⟨⟨h.at1.cells.2.2.1,h.at1.cells.2.2.2.1,h.at1.cells.2.2.2.2.1⟩,⟨by rw[cell_of_block h.rb];rfl,by rw[cell_of_block h.rb];rfl,by rw[cell_of_block h.rb];rfl⟩,h.at1.lt,(Array.getElem?_eq_some_iff.1 h.rb).1⟩
theorem mD.place {gp cp:Nat} (h:mD w w1 b v0 v1 S x k t v (.slice (some ⟨gp,0,none⟩) n cp) ps X vx W) (hn:ps.length=n) (q i:Nat) (hq:ps[q]? =some i):W.cell? ⟨gp,q,none⟩=some (.int .i64 (i:Nat)):=by
 have hl:q < ps.length:=(List.getElem?_eq_some_iff.1 hq).1;have hp:=h.pl;rw[hn] at hp;rw[hp.cellAt q (by omega),List.getElem?_map,hq];rfl
theorem ko (h:ps.Perm (List.range R.length)):(aY R ps R.length).Perm R:=by
 have hl:ps.length=R.length:=by rw[h.length_eq,List.length_range]
 unfold aY;rw[<-hl,List.take_length];have h1:=h.map (rowAt R)
 have h2:(List.range R.length).map (rowAt R)=R:=by
  apply List.ext_getElem?;intro i
  by_cases hi:i < R.length
  ·rw[List.getElem?_map,List.getElem?_range hi,List.getElem?_eq_getElem hi];simp[rowAt,hi]
  ·rw[List.getElem?_eq_none (by simp;omega),List.getElem?_eq_none (by omega)]
 rw[h2] at h1;exact h1
theorem gF (h:ps.Perm (List.range R.length)) (hs:ps.Pairwise (fun a c=>vQ R.toArray c a=false)):(aY R ps R.length).Pairwise (fun x y=>rY y x=false):=by
 have hl:ps.length=R.length:=by rw[h.length_eq,List.length_range]
 unfold aY;rw[<-hl,List.take_length,List.pairwise_map];refine hs.imp_of_mem ?_;intro a c ha hc hac
 have la:a < R.length:=by simpa using h.mem_iff.1 ha
 have lc:c < R.length:=by simpa using h.mem_iff.1 hc
 unfold vQ at hac;rw[getElem!_pos R.toArray c (by simpa using lc),getElem!_pos R.toArray a (by simpa using la)] at hac;simpa[rowAt,la,lc] using hac
theorem Bq (h:ps.Perm (List.range R.length)):jr k fr av (ps.take R.length) R=R.map fun h=>if eF k fr av h=true then kN h else h:=by
 have hl:ps.length=R.length:=by rw[h.length_eq,List.length_range]
 rw[<-hl,List.take_length];exact Qb k fr av ps R (fun i hi=>h.mem_iff.2 (by simpa using hi))
theorem Fu {s':Int} (h:L.filter (eF k fr av)=[]):wX T s s' k t v fr av L=[]:=by unfold wX;rw[h];rfl
theorem Ka {mode:Int} (hT:T=bf mode (1 -s)):bU mode s k t v ((L.filter (eF k fr av)).map fE)=if(L.filter (eF k fr av)).length=0 then(if bf mode s=true then[⟨bn s k t v,false⟩] else[]) else wX T s (1 -s) k t v fr av L:=by
 unfold bU wX
 by_cases h:L.filter (eF k fr av)=[]
 ·rw[h];simp
 ·have h1:¬(L.filter (eF k fr av)).length=0:=fun e=>h (List.eq_nil_of_length_eq_zero e)
  have h2:¬(L.filter (eF k fr av)).map fE=[]:=fun e=>h (List.map_eq_nil_iff.1 e)
  rw[if_neg h1,if_neg h2,hT]
theorem yT (f:mD w w1 b v0 v1 S x k t v vp ps X vx W):W.ownsRow w.heap.size 95 10 vx X.length (X.flatMap aQ)∧Turned (fun g=>g=b∨S=some g) w W:=
 ⟨World.ownsRow.mono f.ox (Nat.le_of_lt f.sz.2),f.tr.mono (fun _ e=>Or.inr e)⟩
theorem Br {vs vs':Value} (f:mD w w1 b v0 v1 S x k t v vp ps X vx W) (hg:W.grownBy W' (some b)) (hf:∃g,vs'.ownBlock=some g∧W.heap.size<=g):W'.ownsRow w.heap.size 95 10 vx X.length (X.flatMap aQ)∧Turned (fun g=>g=b∨S=some g) w W'∧dF w vs vs':=by
 obtain⟨h1,h2⟩:=yT f;have z:=f.sz;have hb:=f.old.1;refine⟨h1.kept hg (Or.inr (fun e=> ?_)),h2.trans (Turned.of_grown (S:=fun g=>g=b) hg (fun q e=>by injection e with e;exact e.symm)) (fun _ _ e=>Or.inl e),Or.inr ?_⟩
 ·have :=(f.ox.lt b e).1;omega
 ·obtain⟨g,h3,h4⟩:=hf;exact⟨g,h3,by omega⟩
theorem mD.met1 (f:mD w w1 b v0 (.slice (some ⟨g,0,none⟩) x.R1.length cap) (some g) x k t v vp ps X vx W) (hi:x.R1[i]? =some h):
  mD w w1 b v0 (.slice (some ⟨g,0,none⟩) x.R1.length cap) (some g) { x with R1:=x.R1.set i { h with met:=m}} k t v vp ps X vx (W.setCell ⟨g,i * 5+3,none⟩ (.int .i64 m)):=by
 have hgl:g < w.heap.size:=f.old.2.2.1 g rfl
 have hk:∀q,q≠g->(W.setCell ⟨g,i * 5+3,none⟩ (.int .i64 m)).heap[q]? =W.heap[q]? :=fun q hq=>Below.heap_setCell _ _ _ _ hq
 have hgb:g≠b:=fun e=>gV f.at1.r1 f.at1.blk (by omega) (by rw[e];rfl)
 have hst:=f.at1.r1.stored (i * 5+3) (.int .i64 m);rw[uG x.R1 i h m hi] at hst;have hz:=f.sz;refine⟨⟨(hk b hgb.symm).trans f.at1.blk,ag f.at1.r0 (fun q e=>hk q (fun eg=>f.at1.apart q e (by rw[eg];rfl))),by simpa using hst.1,f.at1.apart⟩,?_,ag f.pl (fun q e=>hk q (fun eg=>by have :=(f.pl.lt q e).1;omega)),(hk _ (by omega)).trans f.rb,ag f.ox (fun q e=>hk q (fun eg=>by have :=(f.ox.lt q e).1;omega)),⟨by simpa using hz.1,hz.2⟩,f.old⟩;exact f.tr.trans (S':=fun q=>q=g) ⟨rfl,rfl,rfl,by simp,fun q _ hq=>hk q hq⟩ (fun q _ e=>by rw[e])
theorem mD.hcells1 (f:mD w w1 b v0 (.slice (some ⟨g,0,none⟩) n cap) S x k t v vp ps X vx W) (hn:x.R1.length=n) (hi:x.R1[i]? =some h):
  (W.cell? ⟨g,i * 5,none⟩=some (.int .i64 h.k)∧W.cell? ⟨g,i * 5+1,none⟩=some (.int .i64 h.t)∧W.cell? ⟨g,i * 5+2,none⟩=some (.int .i64 h.v)∧W.cell? ⟨g,i * 5+3,none⟩=some (.int .i64 h.met))∧W.frozen? ⟨g,i * 5+3,none⟩=false∧g < W.heap.size:=by
 subst hn;have hl:i < x.R1.length:=(List.getElem?_eq_some_iff.1 hi).1;have hr:=f.at1.r1
 have e:∀j,j < 5->W.cell? ⟨g,i * 5+j,none⟩=(bz h)[j]? :=fun j hj=>by
  rw[hr.cellAt (i * 5+j) (by omega),cB bz 5 fM x.R1 i j h hi hj]
 exact⟨⟨e 0 (by omega),e 1 (by omega),e 2 (by omega),e 3 (by omega)⟩,hr.frozenAt _,(hr.lt g rfl).2⟩
theorem mD.met0 (f:mD w w1 b (.slice (some ⟨g,0,none⟩) x.R0.length cap) v1 (some g) x k t v vp ps X vx W) (hi:x.R0[i]? =some h):
  mD w w1 b (.slice (some ⟨g,0,none⟩) x.R0.length cap) v1 (some g) { x with R0:=x.R0.set i { h with met:=m}} k t v vp ps X vx (W.setCell ⟨g,i * 5+3,none⟩ (.int .i64 m)):=by
 have hgl:g < w.heap.size:=f.old.2.1 g rfl
 have hk:∀q,q≠g->(W.setCell ⟨g,i * 5+3,none⟩ (.int .i64 m)).heap[q]? =W.heap[q]? :=fun q hq=>Below.heap_setCell _ _ _ _ hq
 have hgb:g≠b:=fun e=>gV f.at1.r0 f.at1.blk (by omega) (by rw[e];rfl)
 have hst:=f.at1.r0.stored (i * 5+3) (.int .i64 m);rw[uG x.R0 i h m hi] at hst;have hz:=f.sz;refine⟨⟨(hk b hgb.symm).trans f.at1.blk,by simpa using hst.1,ag f.at1.r1 (fun q e=>hk q (fun eg=>f.at1.apart g rfl (by rw[<-eg];exact e))),f.at1.apart⟩,?_,ag f.pl (fun q e=>hk q (fun eg=>by have :=(f.pl.lt q e).1;omega)),(hk _ (by omega)).trans f.rb,ag f.ox (fun q e=>hk q (fun eg=>by have :=(f.ox.lt q e).1;omega)),⟨by simpa using hz.1,hz.2⟩,f.old⟩;exact f.tr.trans (S':=fun q=>q=g) ⟨rfl,rfl,rfl,by simp,fun q _ hq=>hk q hq⟩ (fun q _ e=>by rw[e])
theorem mD.hcells0 (f:mD w w1 b (.slice (some ⟨g,0,none⟩) n cap) v1 S x k t v vp ps X vx W) (hn:x.R0.length=n) (hi:x.R0[i]? =some h):
  (W.cell? ⟨g,i * 5,none⟩=some (.int .i64 h.k)∧W.cell? ⟨g,i * 5+1,none⟩=some (.int .i64 h.t)∧W.cell? ⟨g,i * 5+2,none⟩=some (.int .i64 h.v)∧W.cell? ⟨g,i * 5+3,none⟩=some (.int .i64 h.met))∧W.frozen? ⟨g,i * 5+3,none⟩=false∧g < W.heap.size:=by
 subst hn;have hl:i < x.R0.length:=(List.getElem?_eq_some_iff.1 hi).1;have hr:=f.at1.r0
 have e:∀j,j < 5->W.cell? ⟨g,i * 5+j,none⟩=(bz h)[j]? :=fun j hj=>by
  rw[hr.cellAt (i * 5+j) (by omega),cB bz 5 fM x.R0 i j h hi hj]
 exact⟨⟨e 0 (by omega),e 1 (by omega),e 2 (by omega),e 3 (by omega)⟩,hr.frozenAt _,(hr.lt g rfl).2⟩
end
end Go.Proofs.YthfpipieboophaaGreatDoor
