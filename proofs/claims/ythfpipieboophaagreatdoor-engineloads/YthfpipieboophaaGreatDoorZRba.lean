import Derived.Test.YthfpipieboophaaGreatDoorZNine
namespace Go.Proofs.YthfpipieboophaaGreatDoor
set_option maxRecDepth 100000
set_option maxHeartbeats 40000000
open Go.Joins Go.RowKit
section
variable{w c d:World}{a f0 f1 v:Value}{base b:Nat}{M:List O}{f:Option Nat}
theorem Iz(x y:O)(w:World):(binOp .eql 89 (vO x) (vO y)).run Tryz.prog w=.ok (.bool (decide (x=y))) w:=by
 have e:decide (x=y)=(x.k==y.k&&(x.lk==y.lk&&(x.lt==y.lt&&(x.lv==y.lv&&(x.rk==y.rk&&(x.rt==y.rt&&(x.rv==y.rv&&(x.hl==y.hl&&(x.hr==y.hr))))))))):=by
  cases x;cases y;rw[Bool.eq_iff_iff];simp
 rw[e];unfold vO
 by_cases hk:x.k=y.k
 .by_cases hlk:x.lk=y.lk
  .by_cases hlt:x.lt=y.lt
   .by_cases hlv:x.lv=y.lv
    .by_cases hrk:x.rk=y.rk
     .by_cases hrt:x.rt=y.rt
      .by_cases hrv:x.rv=y.rv
       .by_cases Rp:x.hl=y.hl
        .by_cases hhr:x.hr=y.hr
         .go_simp
         .go_simp
        .go_simp
       .go_simp
      .go_simp
     .go_simp
    .go_simp
   .go_simp
  .go_simp
 .go_simp
structure gT(a f0 f1:Value)(w:World)(base b:Nat)(v:Value)(M:List O):Prop where
 blk:w.heap[b]?=some (.cells #[a,v,f0,f1] 55)
 row:w.ownsRow base 89 9 v M.length (M.flatMap ah)
theorem gT.lt(h:gT a f0 f1 w base b v M):b<w.heap.size:=(ax.1 h.blk).1
theorem gT.cell(h:gT a f0 f1 w base b v M):w.cell? ⟨b,1,none⟩=some v/\w.frozen? ⟨b,1,none⟩=false:=
 ⟨by rw[fq h.blk];rfl,fV h.blk 1⟩
theorem gT.below(h:gT a f0 f1 w base b v M)(e:Below w.heap.size w c):gT a f0 f1 c base b v M:=
 ⟨(e.block _ h.lt).trans h.blk,aL h.row e⟩
theorem gT.own(h:gT a f0 f1 w base b v M):v.ownBlock≠some b:=by
 rcases h.row.2 with⟨rfl,_⟩|⟨g,cap,cur,rfl,hb,i,_⟩
 .simp[Value.ownBlock]
 .intro e;simp[Value.ownBlock]at e;subst e;rw[h.blk]at i;cases i
structure nJ(b:Nat)(f:Option Nat)(w c:World):Prop where
 os:c.os=w.os
 tape:c.tape=w.tape
 output:c.output=w.output
 size:w.heap.size<=c.heap.size
 block:∀k,k<w.heap.size->k≠b->f≠some k->c.heap[k]?=w.heap[k]?
theorem nJ.of_below(h:Below w.heap.size w c):nJ b f w c:=⟨h.os,h.tape,h.output,h.size,λk e _ _=>h.block k e⟩
theorem yI{j:Value}{p:List O}(i:d.ownsRow base 89 9 j p.length (p.flatMap ah))(m:nJ b v.ownBlock w d)(h:d.heap[b]?=some (.cells #[a,v,f0,f1] 55)):
  gT a f0 f1 (d.setCell ⟨b,1,none⟩ j) base b j p/\nJ b v.ownBlock w (d.setCell ⟨b,1,none⟩ j):=by
 have o:j.ownBlock≠some b:=by
  rcases i.2 with⟨rfl,_⟩|⟨g,cap,cur,rfl,hb,q,_⟩
  .simp[Value.ownBlock]
  .intro e;simp[Value.ownBlock]at e;subst e;rw[h]at q;cases q
 refine⟨⟨fZ h j,?_⟩,?_⟩
 .refine i.kept (row:=some b) ⟨rfl,rfl,rfl,by simp,λk l n=>?_⟩ (Or.inr o);exact iJ _ _ _ _ (λe=>n (by rw[e]))
 .refine⟨m.os,m.tape,m.output,by simpa using m.size,λk l r s=>?_⟩;rw[iJ _ _ _ _ r];exact m.block k l r s
theorem IA{W:World}(g:Below w.heap.size w W)(h:W.grownBy d f):nJ b f w d:=
 ⟨h.os.trans g.os,h.tape.trans g.tape,h.output.trans g.output,aH g.size h.size,λk i _ j=>(h.block k (aR i g.size) (λe=>j e.symm)).trans (g.block k i)⟩
theorem PU(a f0 f1:Value)(base b:Nat)(v:Value)(M:List O)(w:World)(h:gT a f0 f1 w base b v M)(x:O)(hM:M.length<=1000000)(hb:base<=w.heap.size):
  Calls Tryz.prog 41 #[.pointer (some ⟨b,1,none⟩),vC x false] w λe c=>e=.returned (.int .i64 0)/\∃y,gT a f0 f1 c base b y (M++[x])/\nJ b v.ownBlock w c/\Moves w v.ownBlock y.ownBlock:=by
 obtain⟨C,hi,r,s,p⟩:=je xA;have hc:=h.cell;have q:=h.lt;have z:=hid h;have E:Hid (((w.alloc (.cells #[.int .i64 x.k,.int .i64 x.lk,.int .i64 x.lt,.int .i64 x.lv,.int .i64 x.rk,.int .i64 x.rt,.int .i64 x.rv,.bool x.hl,.bool x.hr,.bool false] 95)).alloc (.cells #[.int .i64 x.k,.int .i64 x.lk,.int .i64 x.lt,.int .i64 x.lv,.int .i64 x.rk,.int .i64 x.rt,.int .i64 x.rv,.bool x.hl,.bool x.hr] 89)).drew.ownsRow base 89 9 v M.length (M.flatMap ah)):=((h.row.alloc _).alloc _).drew
 have B:Hid (∀j u,(ah x)[j]?=some u->((w.alloc (.cells #[.int .i64 x.k,.int .i64 x.lk,.int .i64 x.lt,.int .i64 x.lv,.int .i64 x.rk,.int .i64 x.rt,.int .i64 x.rv,.bool x.hl,.bool x.hr,.bool false] 95)).alloc (.cells #[.int .i64 x.k,.int .i64 x.lk,.int .i64 x.lt,.int .i64 x.lv,.int .i64 x.rk,.int .i64 x.rt,.int .i64 x.rv,.bool x.hl,.bool x.hr] 89)).drew.cell? ((⟨w.heap.size+1,0,none⟩:Addr).add j)=some u):=by
  have t:=eZ (w.alloc (.cells #[.int .i64 x.k,.int .i64 x.lk,.int .i64 x.lt,.int .i64 x.lv,.int .i64 x.rk,.int .i64 x.rt,.int .i64 x.rv,.bool x.hl,.bool x.hr,.bool false] 95)) (.cells #[.int .i64 x.k,.int .i64 x.lk,.int .i64 x.lt,.int .i64 x.lv,.int .i64 x.rk,.int .i64 x.rt,.int .i64 x.rv,.bool x.hl,.bool x.hr] 89);simp only[World.size_alloc]at t;exact World.news_of_block (w:=((w.alloc (.cells #[.int .i64 x.k,.int .i64 x.lk,.int .i64 x.lt,.int .i64 x.lv,.int .i64 x.rk,.int .i64 x.rt,.int .i64 x.rv,.bool x.hl,.bool x.hr,.bool false] 95)).alloc (.cells #[.int .i64 x.k,.int .i64 x.lk,.int .i64 x.lt,.int .i64 x.lv,.int .i64 x.rk,.int .i64 x.rt,.int .i64 x.rv,.bool x.hl,.bool x.hr] 89)).drew) t
 clear h;simp only[vC];go_enter Tryz.func41,Tryz.ntmps41;go_wp2
 go_region_law
  (first
   |(refine step_append_lies _ (by rfl) _ _ _ (by rfl) base 89 C zO 9 64 Tryz.underlying50 hi r s p rfl (by omega) v M.length (M.flatMap ah) (by rfl) ?_ ⟨w.heap.size+1,0,none⟩ 1 1 (ah x) (by rfl) (by rfl) ?_ (o7 x) (by omega) (by unfold maxLen;omega) (by omega) ?_ _ rfl ?_;(exact E.out);(exact B.out);(simp;omega);intro g cap d o l i hlt1;have n:d.heap[b]?=some (.cells #[a,v,f0,f1] 55):=(l.block b (by simp;omega) (λe=>z.out.own e.symm)).trans (Eq.trans (gL _ _ _ (by simp;omega)) (Eq.trans (gL _ _ _ q) z.out.blk));have hcb:d.cell? ⟨b,1,none⟩=some v:=(by rw[fq n];rfl);have hfb:d.frozen? ⟨b,1,none⟩=false:=fV n 1)
   |fail)
 all_goals (try go_wp2)
 all_goals go_ret
 all_goals
  refine⟨rfl,.slice (some ⟨g,0,none⟩) (M.length+1) cap,?_⟩;have F:Below w.heap.size w ((w.alloc (.cells #[.int .i64 x.k,.int .i64 x.lk,.int .i64 x.lt,.int .i64 x.lv,.int .i64 x.rk,.int .i64 x.rt,.int .i64 x.rv,.bool x.hl,.bool x.hr,.bool false] 95)).alloc (.cells #[.int .i64 x.k,.int .i64 x.lk,.int .i64 x.lt,.int .i64 x.lv,.int .i64 x.rk,.int .i64 x.rt,.int .i64 x.rv,.bool x.hl,.bool x.hr] 89)).drew:=((fK _ _ _).drew)
  have m:d.ownsRow base 89 9 (.slice (some ⟨g,0,none⟩) (M.length+1) cap) (M++[x]).length ((M++[x]).flatMap ah):=by
   simpa[List.flatMap_append]using o
  have A:=yI (v:=v) m (IA F l) n;refine⟨A.1,A.2,?_⟩
  rcases i with i|i
  .exact Or.inl (by rw[i];rfl)
  .exact Or.inr ⟨g,rfl,by rw[i];simp;omega⟩
end
section
open Go.Proofs.Tryz
theorem eU{P:Program}(w:World){ops:Array Oper}{o:Oper}{a:Act}{K:Act->World->Prop}{Q:Exit->Act->World->Prop}{E:Prop}(q:o.guard=none)(s x:Operand)(t:TypeId)
  (M:o.op=.call { callee:= .builtin .append,args:= #[s,x],argTypes:= #[t,t]})
  (base:Nat) (e:TypeId) (i:TypeInfo) (z:Value) (size bytes:Nat) (C:P.underlying t=some (.slice e)) (hi:P.info? e=some i) (I:i.zero=some z)
  (hsize:i.size=size) (y:i.bytes=bytes) (A:z.cells.size=size) (v:0<size)
  (p c0 n:Nat) (xs:List Value) (T:a.eval s=.slice (some ⟨p,0,none⟩) n c0) (k:w.ownsRow base e size (.slice (some ⟨p,0,none⟩) n c0) n xs)
  (ad:Addr) (m c:Nat) (news:List Value) (U:a.eval x=.slice (some ad) m c) (N:news.length=m*size) (f:∀j u,news[j]?=some u->w.cell? (ad.add j)=some u) (G:∀u∈news,u.oneCell'=true)
  (r:n+m<=maxLen) (b:(n+m)*bytes<=140737488355328) (d:base<=w.heap.size)
  (h:∀g cap l,l.ownsRow base e size (.slice (some ⟨g,0,none⟩) (n+m) cap) (n+m) (xs++news)->w.grownBy l (some p)->(g=p∨g=w.heap.size)->K (a.put o.dst (.slice (some ⟨g,0,none⟩) (n+m) cap)) l):
  if Region.wanted o (yielded ops a.tmps)=true then Oper.wp P o a w K Q else E:=by
 have L:Region.wanted o (yielded ops a.tmps)=true:=by simp[Region.wanted,q]
 rw[if_pos L];obtain⟨v',l,R,B,S,F,H⟩:=run_append_own_at (P:=P) w base t o.type e i z size bytes C hi I hsize y A v _ n xs k ad m c news N f G r b d
 rcases B.2 with⟨rfl,_⟩|⟨g,cap,cur,rfl,_⟩
 .have:=(F.1 rfl).1;cases this
 .unfold Oper.wp execOp;simp only[M,resolve,invoke,builtin,Sem.run_bind,Sem.run_pure,Result.andThen_ok,List.map_toArray,List.map_cons,List.map_nil,T,U,R];refine h g cap l B S ?_;simpa[Value.ownBlock]using H
theorem Uo{W:World}{B:Nat}{x:O}{gone:Bool}(a:W.heap[B]?=some (.cells #[.int .i64 x.k,.int .i64 x.lk,.int .i64 x.lt,.int .i64 x.lv,.int .i64 x.rk,.int .i64 x.rt,.int .i64 x.rv,.bool x.hl,.bool x.hr,.bool gone] 95)):
  W.cell? ⟨B,0,none⟩=some (.int .i64 x.k)/\W.cell? ⟨B,1,none⟩=some (.int .i64 x.lk)/\W.cell? ⟨B,2,none⟩=some (.int .i64 x.lt)/\W.cell? ⟨B,3,none⟩=some (.int .i64 x.lv)/\W.cell? ⟨B,4,none⟩=some (.int .i64 x.rk)/\W.cell? ⟨B,5,none⟩=some (.int .i64 x.rt)/\W.cell? ⟨B,6,none⟩=some (.int .i64 x.rv)/\W.cell? ⟨B,7,none⟩=some (.bool x.hl)/\W.cell? ⟨B,8,none⟩=some (.bool x.hr):=by
 refine⟨?_,?_,?_,?_,?_,?_,?_,?_,?_⟩ <;>(rw[fq a];rfl)
theorem LQ(pj f0 f1:Value)(base b:Nat)(v:Value)(M:List O)(w:World)(h:gT pj f0 f1 w base b v M)(x:O)(hM:M.length<=1000000)(c:x∉M):
  Calls prog 41 #[.pointer (some ⟨b,1,none⟩),vC x true] w λe d=>e=.returned (.int .i64 8)/\Below w.heap.size w d:=by
 have hc:=h.cell;have hlt:=h.lt;simp only[vC]
 rcases ownsRow_forms h.row with⟨rfl,j⟩|⟨gs,ck,rfl⟩
 .rw[j]at *;clear h j;go_enter func41,ntmps41;go_wp2;refine wp_loop_rounds 1 ?_;rw[rounds_succ];go_wp2;go_ret;exact⟨rfl,fC _ _⟩
 .have r:=hid h.row;have p:=hid c;clear h c;go_enter func41,ntmps41;go_wp2
  go_loopg [26] M.length (λg i wr=>∃k:Nat,k<=M.length/\g=M.length -k/\i=.int .i64 k/\Hid (Below w.heap.size w wr/\wr.heap[w.heap.size]?=some (.cells #[.int .i64 x.k,.int .i64 x.lk,.int .i64 x.lt,.int .i64 x.lv,.int .i64 x.rk,.int .i64 x.rt,.int .i64 x.rv,.bool x.hl,.bool x.hr,.bool true] 95)))
  case atStart=>exact⟨0,aW _,rfl,rfl,⟨fC _ _,eZ _ _⟩⟩
  case round=>
   obtain⟨k,hk,l,rfl,I⟩:=hrel;have n:=hid l;clear l
   by_cases hlt2:k<M.length
   .obtain⟨y,hy⟩:∃y,M[k]?=some y:=⟨_,aO hlt2⟩;have hcy:=nQ (aL r.out I.out.1) k y hy;have hcx:=Uo I.out.2;have o:w.heap.size<wr.heap.size:=(ax.1 I.out.2).1
    have i1:(0:Int)<=(k:Int):=by omega
    have m:(k:Int)<(M.length:Int):=by omega
    have i3:(M.length:Int)<=1000000:=by omega
    have a:y≠x:=λe=>p.out (by rw[<-e];exact cZ hy)
    have f:∀d,(binOp .eql 89 (vO y) (vO x)).run prog d=.ok (.bool false) d:=λd=>by rw[Iz,dJ a]
    have q:Hid (Below w.heap.size w (wr.alloc (.cells #[.int .i64 y.k,.int .i64 y.lk,.int .i64 y.lt,.int .i64 y.lv,.int .i64 y.rk,.int .i64 y.rt,.int .i64 y.rv,.bool y.hl,.bool y.hr] 89))/\(wr.alloc (.cells #[.int .i64 y.k,.int .i64 y.lk,.int .i64 y.lt,.int .i64 y.lv,.int .i64 y.rk,.int .i64 y.rt,.int .i64 y.rv,.bool y.hl,.bool y.hr] 89)).heap[w.heap.size]?=some (.cells #[.int .i64 x.k,.int .i64 x.lk,.int .i64 x.lt,.int .i64 x.lv,.int .i64 x.rk,.int .i64 x.rt,.int .i64 x.rv,.bool x.hl,.bool x.hr,.bool true] 95)):=
     ⟨I.out.1.alloc I.out.1.size _,(gL _ _ _ o).trans I.out.2⟩
    simp only[vO]at f;clear hy a;go_wp2
    go_roundg (M.length -(k+1))
    case measure=>have:=n.out;omega
    case rel=>exact⟨k+1,by omega,rfl,by first|rfl|(congr 1;omega)|go_num,q⟩
   .have m:¬((k:Int)<(M.length:Int)):=by omega
    go_wp2;go_ret;exact⟨rfl,I.out.1⟩
end
section
open Go.Proofs.Tryz
variable{w W m:World}{f f0 f1:Value}{base b c d:Nat}{M:List O}
theorem LU(M:List O)(i:Nat):(M.take i).flatMap ah=(M.flatMap ah).take (i*9):=by
 induction M generalizing i with
 |nil=>simp
 |cons a r ih=>
  cases i with
  |zero=>simp
  |succ i=>
   rw[List.take_succ_cons,List.flatMap_cons,List.flatMap_cons,ih,List.take_append,fI,dA (l:=ah a) (by rw[fI];omega),show(i+1)*9 -9=i*9 by omega]
theorem LV(M:List O)(i:Nat):(M.drop i).flatMap ah=(M.flatMap ah).drop (i*9):=by
 induction M generalizing i with
 |nil=>simp
 |cons a r ih=>
  cases i with
  |zero=>simp
  |succ i=>
   rw[List.drop_succ_cons,List.flatMap_cons,ih,List.drop_append,fI,eD (show(ah a).length<=(i+1)*9 by rw[fI];omega),List.nil_append,show(i+1)*9 -9=i*9 by omega]
theorem yJ(M:List O):∀u∈M.flatMap ah,u.oneCell'=true:=by
 intro u a;obtain⟨x,_,h⟩:=List.mem_flatMap.1 a;exact o7 x u h
structure Goes(w:World)(f f0 f1:Value)(base b c d:Nat)(M:List O)(W:World):Prop where
 below:Below w.heap.size w W
 blk:W.heap[b]?=some (.cells #[f,.slice (some ⟨c,0,none⟩) M.length d,f0,f1] 55)
 row:W.ownsRow base 89 9 (.slice (some ⟨c,0,none⟩) M.length d) M.length (M.flatMap ah)
theorem Goes.go(h:Goes w f f0 f1 base b c d M W)(a:Below W.heap.size W m):Goes w f f0 f1 base b c d M m:=by
 have e:b<W.heap.size:=(ax.1 h.blk).1;exact⟨h.below.trans (a.mono h.below.size),(a.block _ e).trans h.blk,aL h.row a⟩
theorem Goes.cell(h:Goes w f f0 f1 base b c d M W):W.cell? ⟨b,1,none⟩=some (.slice (some ⟨c,0,none⟩) M.length d)/\W.frozen? ⟨b,1,none⟩=false:=
 ⟨by rw[fq h.blk];rfl,fV h.blk 1⟩
theorem Goes.get(h:Goes w f f0 f1 base b c d M W)(j:Nat)(u:Value)(a:(M.flatMap ah)[j]?=some u):W.cell? ⟨c,j,none⟩=some u:=by
 have:=h.row.cells (g:=c) rfl j u a
 rwa [bZ]at this
theorem Goes.grown{g:Nat}(h:Goes w f f0 f1 base b c d M W)(a:W.grownBy m (some g))(l:w.heap.size<=g)(j:g≠b)(n:g≠c):Goes w f f0 f1 base b c d M m:=by
 have i:b<W.heap.size:=(ax.1 h.blk).1;refine⟨h.below.grown a h.below.size (λk e=>by cases e;exact l),(a.block _ i (λe=>j (by cases e;rfl))).trans h.blk,h.row.kept a (Or.inr (by simp[Value.ownBlock];exact λe=>n e.symm))⟩
theorem LW(a:base<=W.heap.size):(W.alloc (.cells #[] 89)).drew.ownsRow base 89 9 (.slice (some ⟨W.heap.size,0,none⟩) 0 0) 0 []:=
 ⟨rfl,.inr ⟨W.heap.size,0,#[],rfl,a,eZ _ _,aC _,aW _,rfl,rfl⟩⟩
theorem Goes.head(h:Goes w f f0 f1 base b c d M W)(k j:Nat)(u:Value)(a:((M.take k).flatMap ah)[j]?=some u):W.cell? ((⟨c,0,none⟩:Addr).add j)=some u:=by
 rw[bZ];refine h.get j u ?_;rw[LU]at a;have e:=(bP.1 a).1;rw[List.length_take]at e;rw[dQ (by omega)]at a;exact a
theorem Goes.tail(h:Goes w f f0 f1 base b c d M W)(k j:Nat)(u:Value)(a:((M.drop k).flatMap ah)[j]?=some u):W.cell? ((⟨c,k*9,none⟩:Addr).add j)=some u:=by
 rw[Addr.add_lit];refine h.get (k*9+j) u ?_;rw[LV,List.getElem?_drop]at a;exact a
theorem PV(M:List O)(k:Nat)(hk:k<M.length)(cap g:Nat)(w:World)(base:Nat)(h:w.ownsRow base 89 9 (.slice (some ⟨g,0,none⟩) (0+k+(M.length -(k+1))) cap) (0+k+(M.length -(k+1))) ([]++(M.take k).flatMap ah++(M.drop (k+1)).flatMap ah)):
  w.ownsRow base 89 9 (.slice (some ⟨g,0,none⟩) (k+(M.length -(k+1))) cap) (M.take k++M.drop (k+1)).length ((M.take k++M.drop (k+1)).flatMap ah):=by
 rw[List.flatMap_append,show(M.take k++M.drop (k+1)).length=k+(M.length -(k+1)) by simp;omega];rw[Nat.zero_add]at h;exact h
theorem LX(f f0 f1:Value)(base b:Nat)(v:Value)(M:List O)(w:World)(h:gT f f0 f1 w base b v M)(x:O)(hM:M.length<=1000000)(hb:base<=w.heap.size)(l:x∈M):
  Calls prog 41 #[.pointer (some ⟨b,1,none⟩),vC x true] w λe n=>e=.returned (.int .i64 0)/\∃v',gT f f0 f1 n base b v' (M.erase x)/\nJ b v.ownBlock w n/\Moves w v.ownBlock v'.ownBlock:=by
 obtain⟨i0,hi,H,N,L⟩:=je xA;have hc:=h.cell;have hlt:=h.lt;simp only[vC];obtain⟨c,d,rfl⟩:=gy h.row (List.length_pos_of_mem l)
 have hck:M.length<=d:=by
  rcases h.row.2 with⟨a,_⟩|⟨g,cap,cur,a,_,_,E,_⟩
  .cases a
  .cases a;exact E
 have Vt:d<=maxLen:=by
  rcases h.row.2 with⟨a,_⟩|⟨g,cap,cur,a,_,_,_,E,_⟩
  .cases a
  .cases a;exact E
 have hgl:c<w.heap.size:=(h.row.lt c rfl).2;have HG0:Hid (Goes w f f0 f1 base b c d M w):=⟨iL _ _,h.blk,h.row⟩
 have Q:Hid (M.idxOf x<M.length/\M[M.idxOf x]?=some x/\(∀j y,j<M.idxOf x->M[j]?=some y->y≠x)/\M.erase x=M.take (M.idxOf x)++M.drop (M.idxOf x+1)):=by
  have a:M.idxOf x<M.length:=List.idxOf_lt_length_of_mem l;refine⟨a,?_,?_,?_⟩
  .rw[aO a,List.getElem_idxOf]
  .intro j y hj B e;subst e;obtain⟨hjl,U⟩:=bP.1 B;have:=List.not_of_lt_findIdx (p:=(· ==y)) hj;rw[U]at this;simp at this
  .rw[List.erase_eq_eraseIdx_of_idxOf rfl,List.eraseIdx_eq_take_drop_succ]
 have hi1:=Q.out.1;generalize hI:M.idxOf x=i at *;clear h hI l;go_enter func41,ntmps41;go_wp2
 go_loopg [26] M.length (λg v26 wr=>∃k:Nat,k<=i/\g=M.length -k/\v26=.int .i64 k/\Hid (Goes w f f0 f1 base b c d M wr/\wr.heap[w.heap.size]?=some (.cells #[.int .i64 x.k,.int .i64 x.lk,.int .i64 x.lt,.int .i64 x.lv,.int .i64 x.rk,.int .i64 x.rt,.int .i64 x.rv,.bool x.hl,.bool x.hr,.bool true] 95)))
 case atStart=>exact⟨0,aW _,rfl,rfl,⟨HG0.out.go (fC _ _),eZ _ _⟩⟩
 case round=>
  obtain⟨k,hk,hg,rfl,I⟩:=hrel;have HG:=hid hg;clear hg;obtain⟨y,B⟩:∃y,M[k]?=some y:=⟨_,aO (show k<M.length by omega)⟩;have X:=nQ I.out.1.row k y B;have S:=Uo I.out.2;have hz:w.heap.size<wr.heap.size:=(ax.1 I.out.2).1
  have i1:(0:Int)<=(k:Int):=by omega
  have i2:(k:Int)<(M.length:Int):=by omega
  have i3:(M.length:Int)<=1000000:=by omega
  have I2:Hid (Goes w f f0 f1 base b c d M (wr.alloc (.cells #[.int .i64 y.k,.int .i64 y.lk,.int .i64 y.lt,.int .i64 y.lv,.int .i64 y.rk,.int .i64 y.rt,.int .i64 y.rv,.bool y.hl,.bool y.hr] 89))/\(wr.alloc (.cells #[.int .i64 y.k,.int .i64 y.lk,.int .i64 y.lt,.int .i64 y.lv,.int .i64 y.rk,.int .i64 y.rt,.int .i64 y.rv,.bool y.hl,.bool y.hr] 89)).heap[w.heap.size]?=some (.cells #[.int .i64 x.k,.int .i64 x.lk,.int .i64 x.lt,.int .i64 x.lv,.int .i64 x.rk,.int .i64 x.rt,.int .i64 x.rv,.bool x.hl,.bool x.hr,.bool true] 95)):=
   ⟨I.out.1.go (fC _ _),(gL _ _ _ hz).trans I.out.2⟩
  by_cases hki:k<i
  .have F:y≠x:=Q.out.2.2.1 k y hki B
   have q:∀n,(binOp .eql 89 (vO y) (vO x)).run prog n=.ok (.bool false) n:=λn=>by rw[Iz,dJ F]
   simp only[vO]at q;clear B F;go_wp2
   go_roundg (M.length -(k+1))
   case measure=>have:=HG.out;omega
   case rel=>exact⟨k+1,by omega,rfl,by first|rfl|(congr 1;omega)|go_num,I2⟩
  .have Y:k=i:=by omega
   have K:y=x:=by
    have E:=Q.out.2.1;rw[<-Y,B]at E;exact Option.some.inj E
   have q:∀n,(binOp .eql 89 (vO y) (vO x)).run prog n=.ok (.bool true) n:=λn=>by rw[Iz,eu K]
   have HE:Hid (M.erase x=M.take k++M.drop (k+1)):=by
    show M.erase x=M.take k++M.drop (k+1);rw[Y];exact Q.out.2.2.2
   simp only[vO]at q;clear B K Y hki
   have HN:Hid (∃A:Addr,(if d=k+1 then some (⟨c,0,none⟩:Addr)else some ⟨c,(k+1)*9,none⟩)=some A/\∀m,Goes w f f0 f1 base b c d M m->∀j u,((M.drop (k+1)).flatMap ah)[j]?=some u->m.cell? (A.add j)=some u):=by
    by_cases a:d=k+1
    .refine⟨⟨c,0,none⟩,by simp[a],λm _ j u R=>?_⟩;rw[eD (by omega)]at R;simp at R
    .exact⟨⟨c,(k+1)*9,none⟩,by simp[a],λm hW j u R=>hW.tail (k+1) j u R⟩
   obtain⟨A,hA,hN⟩:=HN.out;have V:=hid hN;clear hN HN
   have hwr:IntKind.i64.wrap ((k:Int)+1)=(k:Int)+1:=by rw[IntKind.wrap_i64];omega
   have hp0:(0:Int)<=(k:Int)+1:=by omega
   have hp1:(k:Int)+1<=(M.length:Int):=by omega
   have hp2:((k:Int)+1).toNat=k+1:=by omega
   have hkc:k<=d:=by omega
   have T:Hid (((M.take k).flatMap ah).length=k*9):=by
    show((M.take k).flatMap ah).length=k*9;rw[lV,List.length_take];congr 1;omega
   have Z:Hid (((M.drop (k+1)).flatMap ah).length=(M.length -(k+1))*9):=by
    show((M.drop (k+1)).flatMap ah).length=(M.length -(k+1))*9;rw[lV,List.length_drop]
   go_wp2_with fail;have C:=hid I2.out.1
   have P:w.heap.size<(wr.alloc (.cells #[.int .i64 y.k,.int .i64 y.lk,.int .i64 y.lt,.int .i64 y.lv,.int .i64 y.rk,.int .i64 y.rt,.int .i64 y.rv,.bool y.hl,.bool y.hr] 89)).heap.size:=by simp;omega
   clear I2 S X q I hc;revert C P;generalize wr.alloc (.cells #[.int .i64 y.k,.int .i64 y.lk,.int .i64 y.lt,.int .i64 y.lv,.int .i64 y.rk,.int .i64 y.rt,.int .i64 y.rv,.bool y.hl,.bool y.hr] 89)=W;intro C P;have hcb:=C.out.cell;have acM:=(C.out.go (fC W (.cells #[] 89))).cell
   have hgb:W.heap.size≠b:=by omega
   have hgg:W.heap.size≠c:=by omega
   go_region_law
    (first
     |(refine eU _ (by rfl) _ _ _ (by rfl) base 89 i0 zO 9 64 underlying50 hi H N L rfl (by omega) W.heap.size 0 0 [] (by rfl) (LW (by omega)) ⟨c,0,none⟩ k d ((M.take k).flatMap ah) (by first|rfl|simp[Act.eval,Act.put]) T.out ?_ (yJ _) (by unfold maxLen;omega) (by omega) ?_ ?_;(exact(C.out.go ((fC _ _).drew)).head k);(simp;omega);intro g1 oL w1 z o wF;have G:Hid (Goes w f f0 f1 base b c d M w1):=(C.out.go ((fC _ _).drew)).grown o (by omega) hgb hgg;have hg1:W.heap.size<=g1:=(by have:=wF;simp at this;omega);have acN:=G.out.cell)
     |(refine eU _ (by rfl) _ _ _ (by rfl) base 89 i0 zO 9 64 underlying50 hi H N L rfl (by omega) g1 oL (0+k) ([]++(M.take k).flatMap ah) (by first|rfl|simp[Act.eval,Act.put]) z A (M.length -(k+1)) (d -(k+1)) ((M.drop (k+1)).flatMap ah) (by first|rfl|simp[Act.eval,Act.put]) Z.out (V.out _ G.out) (yJ _) (by unfold maxLen;omega) (by omega) ?_ ?_;(have:=G.out.below.size;omega);intro g2 s w2 t r Iy;have G2:Hid (Goes w f f0 f1 base b c d M w2):=G.out.grown r (by omega) (by omega) (by omega);have acO:=G2.out.cell)
     |fail)
   all_goals (try go_wp2)
   all_goals go_ret
   all_goals
    refine⟨rfl,.slice (some ⟨g2,0,none⟩) (k+(M.length -(k+1))) s,?_⟩;have hs:=yI (v:= .slice (some ⟨c,0,none⟩) M.length d) (PV M k (by omega) s g2 w2 base t) (nJ.of_below G2.out.below) G2.out.blk;rw[HE.out];refine⟨hs.1,hs.2,Or.inr ⟨g2,rfl,?_⟩⟩;have:=G.out.below.size
    rcases Iy with h|h <;>omega
end
section
open Go.Proofs.Tryz Go.Shelf Go.Lib Go.Sort
variable{W:World}{base g n cap:Nat}{M:List O}{d:Array O}
theorem p8{P:Program}(w:World){ops:Array Oper}{rest:List Oper}{o:Oper}{a:Act}{Q:Exit->Act->World->Prop}(r:o.guard=none)(s x:Operand)(t:TypeId)
  (L:o.op=.call { callee:= .builtin .append,args:= #[s,x],argTypes:= #[t,t]})
  (base:Nat) (e:TypeId) (i:TypeInfo) (z:Value) (size bytes:Nat) (E:P.underlying t=some (.slice e)) (hi:P.info? e=some i) (K:i.zero=some z)
  (hsize:i.size=size) (A:i.bytes=bytes) (B:z.cells.size=size) (y:0<size)
  (q c0 n:Nat) (xs:List Value) (T:a.eval s=.slice (some ⟨q,0,none⟩) n c0) (l:w.ownsRow base e size (.slice (some ⟨q,0,none⟩) n c0) n xs)
  (ad:Addr) (m c:Nat) (news:List Value) (U:a.eval x=.slice (some ad) m c) (N:news.length=m*size) (k:∀j u,news[j]?=some u->w.cell? (ad.add j)=some u) (G:∀u∈news,u.oneCell'=true)
  (v:n+m<=maxLen) (b:(n+m)*bytes<=140737488355328) (f:base<=w.heap.size)
  (h:∀g cap p,p.ownsRow base e size (.slice (some ⟨g,0,none⟩) (n+m) cap) (n+m) (xs++news)->w.grownBy p (some q)->(g=q∨g=w.heap.size)->wpList P ops Q rest (a.put o.dst (.slice (some ⟨g,0,none⟩) (n+m) cap)) p):wpList P ops Q (o::rest) a w:=by
 refine wpList_plain r λ_ H=>?_
 obtain⟨v',p,R,C,S,F,I⟩:=run_append_own_at (P:=P) w base t o.type e i z size bytes E hi K hsize A B y _ n xs l ad m c news N k G v b f
 rcases C.2 with⟨rfl,_⟩|⟨g,cap,cur,rfl,_⟩
 .have:=(F.1 rfl).1;cases this
 .unfold Oper.wp execOp;simp only[L,resolve,invoke,builtin,Sem.run_bind,Sem.run_pure,Result.andThen_ok,List.map_toArray,List.map_cons,List.map_nil,T,U,R];refine H _ _ (h g cap p C S ?_);simpa[Value.ownBlock]using I
theorem Fb(a:base<=W.heap.size):(W.alloc (.cells #[] 89)).ownsRow base 89 9 (.slice (some ⟨W.heap.size,0,none⟩) 0 0) 0 []:=
 ⟨rfl,.inr ⟨W.heap.size,0,#[],rfl,a,eZ _ _,aC _,aW _,rfl,rfl⟩⟩
theorem PW{a:World}(i:M.length=n)(h:a.ownsRow base 89 9 (.slice (some ⟨g,0,none⟩) n cap) n (M.flatMap ah)):
  LY g 0 n cap a.heap.size M.toArray (a.alloc (.cells #[.slice (some ⟨g,0,none⟩) n cap] 50)):=by
 rcases h.2 with⟨e,_⟩|⟨g',cap',cur,e,hb,f,h2,h3,j,k⟩
 .cases e
 .cases e;have c:g<a.heap.size:=(ax.1 f).1;have b:(a.alloc (.cells #[.slice (some ⟨g,0,none⟩) n cap] 50)).heap[g]?=some (.cells cur 89 (0,0)):=(gL _ _ _ c).trans f;refine⟨by simpa using i,Nk b (by rw[i];exact k),by simp,by simp;omega,by simp,by omega,cur,b,j⟩
theorem yK{lbx:Nat}(h:LY g 0 n cap lbx d W)(i:base<=g)(hn:n<=cap)(k:cap<=maxLen):W.ownsRow base 89 9 (.slice (some ⟨g,0,none⟩) n cap) d.toList.length (d.toList.flatMap ah):=by
 obtain⟨cur,c,f⟩:=h.shape
 have e:d.toList.length=n:=by simpa using h.size
 refine⟨by rw[lV],.inr ⟨g,cap,cur,by rw[e],i,c,by omega,k,f,?_⟩⟩;rw[<-qx];apply eH;intro j
 by_cases hj:j<d.toList.length*9
 .rw[dQ hj,Array.getElem?_toList,Array.getElem?_toList]
  have b:j<(flatK ah 9 d).size:=by rw[size_flatK];simpa using hj
  have a:=(h.row j b).1;simp only[World.cell?,c,Nat.zero_add]at a;simp only[Option.isSome_none,Bool.false_eq_true,if_false]at a;rw[a,eX b,getElem!_pos _ j b];rfl
 .rw[List.getElem?_take_eq_none (by omega),dS (by simp at hj;simp;omega)]
theorem Fe(i:M.length=n)(b:d.size=n)(c:PermIn 0 n M.toArray d)(f:SortedIn dD 0 n d):d.toList.Perm M/\bJ d.toList:=by
 refine⟨?_,ny (by rw[b];exact f)⟩;have a:=c.2.2
 have e:(d.extract 0 n).toList=d.toList:=by simp[<-b]
 have h:(M.toArray.extract 0 n).toList=M:=by simp[<-i]
 rw[e,h]at a;exact a
theorem oD(pj f0 f1:Value)(base b:Nat)(v:Value)(M:List O)(w:World)(h:gT pj f0 f1 w base b v M)(hM:M.length<=1000000):
  Calls prog 28 #[.pointer (some ⟨b,1,none⟩)] w λe o=>∃F Z,e=.returned F/\Z.Perm M/\bJ Z/\o.ownsRow w.heap.size 89 9 F Z.length (Z.flatMap ah)/\Below w.heap.size w o:=by
 obtain⟨H,hi,s,y,z⟩:=je xA;have hc:=h.cell;have hlt:=h.lt;have I:=Fb (W:=w) (base:=w.heap.size) (aC _);have E:=hid I;clear I
 rcases ownsRow_forms h.row with⟨rfl,G⟩|⟨gs,P,rfl⟩
 .obtain rfl:M=[]:=di G;clear h G
  have C:=vP (blk:=w.heap.size) (n:=0) (cap:=0) (lbx:=w.heap.size+1) (d:= #[]) ((w.alloc (.cells #[] 89)).alloc (.cells #[.slice (some ⟨w.heap.size,0,none⟩) 0 0] 50)) (by
   have:=PW (M:=[]) rfl E.out
   simpa using this) (by omega)
  go_enter func28,ntmps28
  go_wp2_with (first
   |(refine wpList_append_own_none rfl _ _ _ rfl w.heap.size 89 H 9 underlying50 hi _ 0 [] rfl E.out rfl ?_)
   |(go_at_call 69;refine C.mono ?_;rintro e o ⟨rfl,A,f,p,q,x⟩;have t:=f.box)
   |fail)
  go_ret;have R:A.toList=[]:=di (by simpa using f.size);have K:=yK (base:=w.heap.size) f (aC _) (aC _) (aW _);rw[R]at K;exact⟨_,[],rfl,List.Perm.refl _,List.Pairwise.nil,K,(fK w _ _).grown x (by simp;omega) (λk e=>by cases e;exact aC _)⟩
 .have HR:=hid h
  have S:Hid (∀j u,(M.flatMap ah)[j]?=some u->(w.alloc (.cells #[] 89)).cell? ((⟨gs,0,none⟩:Addr).add j)=some u):=λj u T=>
   (aL h.row (fC w (.cells #[] 89))).cells (g:=gs) rfl j u T
  clear h;go_enter func28,ntmps28
  go_wp2_with (first
   |(refine p8 _ rfl _ _ _ rfl w.heap.size 89 H zO 9 64 underlying50 hi s y z rfl (by omega) w.heap.size 0 0 [] rfl E.out ⟨gs,0,none⟩ M.length P (M.flatMap ah) rfl (lV M) S.out (yJ M) (by unfold maxLen;omega) (by omega) (by simp) ?_;intro L B r a c Q;have hw1:w.heap.size<r.heap.size:=(by have:=c.size;simp at this;omega))
   |fail)
  rw[Nat.zero_add,List.nil_append]at a;have i:Below w.heap.size w r:=(fC w _).grown c (by simp) (λk e=>by cases e;exact aC _)
  have m:w.heap.size<=L:=by
   have:=Q;simp at this;omega
  have N:M.length<=B/\B<=maxLen:=by
   rcases a.2 with⟨f,_⟩|⟨g',cap',cur,f,_,_,p,q,_⟩
   .cases f
   .cases f;exact⟨p,q⟩
  have C:=vP (d:=M.toArray) (r.alloc (.cells #[.slice (some ⟨L,0,none⟩) M.length B] 50)) (PW rfl a) (by omega);refine C.mono ?_;rintro e o ⟨rfl,A,f,p,q,x⟩;have t:=f.box;go_wp2;go_ret;have l:=Fe rfl f.size p q;exact⟨_,A.toList,rfl,l.1,l.2,yK f m N.1 N.2,(i.alloc i.size _).grown x (by simp;omega) (λk e=>by cases e;exact m)⟩
end
end Go.Proofs.YthfpipieboophaaGreatDoor
