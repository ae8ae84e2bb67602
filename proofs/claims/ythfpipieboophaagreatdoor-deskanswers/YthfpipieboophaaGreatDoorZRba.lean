import Derived.Test.YthfpipieboophaaGreatDoorZNine
namespace Go.Proofs.YthfpipieboophaaGreatDoor
set_option maxRecDepth 100000
set_option maxHeartbeats 40000000
open Go.Joins Go.RowKit
section
variable{w c d:World}{a f0 f1 v:Value}{base b:Nat}{M:List O}{f:Option Nat}
theorem Iz(x y:O)(w:World):(binOp .eql 89 (vO x) (vO y)).run Tryz.prog w=.ok (.bool (decide (x=y))) w:=by
 have e:decide (x=y)=(x.k==y.k&&(x.lk==y.lk&&(x.lt==y.lt&&(x.lv==y.lv&&(x.rk==y.rk&&(x.rt==y.rt&&(x.rv==y.rv&&(x.hl==y.hl&&(x.hr==y.hr))))))))):=by
  cases x;cases y;rw[Bool.eq_iff_iff];simp
 rw[e];unfold vO
 by_cases hk:x.k=y.k
 .by_cases hlk:x.lk=y.lk
  .by_cases hlt:x.lt=y.lt
   .by_cases hlv:x.lv=y.lv
    .by_cases hrk:x.rk=y.rk
     .by_cases hrt:x.rt=y.rt
      .by_cases hrv:x.rv=y.rv
       .by_cases Rp:x.hl=y.hl
        .by_cases hhr:x.hr=y.hr
         .go_simp
         .go_simp
        .go_simp
       .go_simp
      .go_simp
     .go_simp
    .go_simp
   .go_simp
  .go_simp
 .go_simp
structure gT(a f0 f1:Value)(w:World)(base b:Nat)(v:Value)(M:List O):Prop where
 blk:w.heap[b]?=some (.cells #[a,v,f0,f1] 55)
 row:w.ownsRow base 89 9 v M.length (M.flatMap ah)
theorem gT.lt(h:gT a f0 f1 w base b v M):b<w.heap.size:=(aD.1 h.blk).1
theorem gT.cell(h:gT a f0 f1 w base b v M):w.cell? ⟨b,1,none⟩=some v/\w.frozen? ⟨b,1,none⟩=false:=
 ⟨by rw[vE h.blk];rfl,x9 h.blk 1⟩
theorem gT.below(h:gT a f0 f1 w base b v M)(e:Below w.heap.size w c):gT a f0 f1 c base b v M:=
 ⟨(e.block _ h.lt).trans h.blk,aL h.row e⟩
theorem gT.own(h:gT a f0 f1 w base b v M):v.ownBlock≠some b:=by
 rcases h.row.2 with⟨rfl,_⟩|⟨g,cap,cur,rfl,hb,i,_⟩
 .simp[Value.ownBlock]
 .intro e;simp[Value.ownBlock]at e;subst e;rw[h.blk]at i;cases i
structure nJ(b:Nat)(f:Option Nat)(w c:World):Prop where
 os:c.os=w.os
 tape:c.tape=w.tape
 output:c.output=w.output
 size:w.heap.size<=c.heap.size
 block:∀k,k<w.heap.size->k≠b->f≠some k->c.heap[k]?=w.heap[k]?
theorem nJ.of_below(h:Below w.heap.size w c):nJ b f w c:=⟨h.os,h.tape,h.output,h.size,λk e _ _=>h.block k e⟩
theorem yI{v':Value}{n:List O}(i:d.ownsRow base 89 9 v' n.length (n.flatMap ah))(m:nJ b v.ownBlock w d)(h:d.heap[b]?=some (.cells #[a,v,f0,f1] 55)):
  gT a f0 f1 (d.setCell ⟨b,1,none⟩ v') base b v' n/\nJ b v.ownBlock w (d.setCell ⟨b,1,none⟩ v'):=by
 have o:v'.ownBlock≠some b:=by
  rcases i.2 with⟨rfl,_⟩|⟨g,cap,cur,rfl,hb,q,_⟩
  .simp[Value.ownBlock]
  .intro e;simp[Value.ownBlock]at e;subst e;rw[h]at q;cases q
 refine⟨⟨yc h v',?_⟩,?_⟩
 .refine i.kept (row:=some b) ⟨rfl,rfl,rfl,by simp,λk l j=>?_⟩ (Or.inr o);exact zw _ _ _ _ (λe=>j (by rw[e]))
 .refine⟨m.os,m.tape,m.output,by simpa using m.size,λk l p r=>?_⟩;rw[zw _ _ _ _ p];exact m.block k l p r
theorem IA{W:World}(g:Below w.heap.size w W)(h:W.grownBy d f):nJ b f w d:=
 ⟨h.os.trans g.os,h.tape.trans g.tape,h.output.trans g.output,di g.size h.size,λk i _ j=>(h.block k (fO i g.size) (λe=>j e.symm)).trans (g.block k i)⟩
theorem PU(a f0 f1:Value)(base b:Nat)(v:Value)(M:List O)(w:World)(h:gT a f0 f1 w base b v M)(x:O)(hM:M.length<=1000000)(hb:base<=w.heap.size):
  Calls Tryz.prog 41 #[.pointer (some ⟨b,1,none⟩),vC x false] w λe c=>e=.returned (.int .i64 0)/\∃v',gT a f0 f1 c base b v' (M++[x])/\nJ b v.ownBlock w c/\Moves w v.ownBlock v'.ownBlock:=by
 obtain⟨B,hi,q,r,s⟩:=Dw xA;have hc:=h.cell;have p:=h.lt;have z:=hid h;have A:Hid (((w.alloc (.cells #[.int .i64 x.k,.int .i64 x.lk,.int .i64 x.lt,.int .i64 x.lv,.int .i64 x.rk,.int .i64 x.rt,.int .i64 x.rv,.bool x.hl,.bool x.hr,.bool false] 95)).alloc (.cells #[.int .i64 x.k,.int .i64 x.lk,.int .i64 x.lt,.int .i64 x.lv,.int .i64 x.rk,.int .i64 x.rt,.int .i64 x.rv,.bool x.hl,.bool x.hr] 89)).drew.ownsRow base 89 9 v M.length (M.flatMap ah)):=((h.row.alloc _).alloc _).drew
 have C:Hid (∀j u,(ah x)[j]?=some u->((w.alloc (.cells #[.int .i64 x.k,.int .i64 x.lk,.int .i64 x.lt,.int .i64 x.lv,.int .i64 x.rk,.int .i64 x.rt,.int .i64 x.rv,.bool x.hl,.bool x.hr,.bool false] 95)).alloc (.cells #[.int .i64 x.k,.int .i64 x.lk,.int .i64 x.lt,.int .i64 x.lv,.int .i64 x.rk,.int .i64 x.rt,.int .i64 x.rv,.bool x.hl,.bool x.hr] 89)).drew.cell? ((⟨w.heap.size+1,0,none⟩:Addr).add j)=some u):=by
  have y:=vw (w.alloc (.cells #[.int .i64 x.k,.int .i64 x.lk,.int .i64 x.lt,.int .i64 x.lv,.int .i64 x.rk,.int .i64 x.rt,.int .i64 x.rv,.bool x.hl,.bool x.hr,.bool false] 95)) (.cells #[.int .i64 x.k,.int .i64 x.lk,.int .i64 x.lt,.int .i64 x.lv,.int .i64 x.rk,.int .i64 x.rt,.int .i64 x.rv,.bool x.hl,.bool x.hr] 89);simp only[World.size_alloc]at y;exact World.news_of_block (w:=((w.alloc (.cells #[.int .i64 x.k,.int .i64 x.lk,.int .i64 x.lt,.int .i64 x.lv,.int .i64 x.rk,.int .i64 x.rt,.int .i64 x.rv,.bool x.hl,.bool x.hr,.bool false] 95)).alloc (.cells #[.int .i64 x.k,.int .i64 x.lk,.int .i64 x.lt,.int .i64 x.lv,.int .i64 x.rk,.int .i64 x.rt,.int .i64 x.rv,.bool x.hl,.bool x.hr] 89)).drew) y
 clear h;simp only[vC];go_enter Tryz.func41,Tryz.ntmps41;go_wp2
 go_region_law
  (first
   |(refine step_append_lies _ (by rfl) _ _ _ (by rfl) base 89 B zO 9 64 Tryz.underlying50 hi q r s rfl (by omega) v M.length (M.flatMap ah) (by rfl) ?_ ⟨w.heap.size+1,0,none⟩ 1 1 (ah x) (by rfl) (by rfl) ?_ (o7 x) (by omega) (by unfold maxLen;omega) (by omega) ?_ _ rfl ?_;(exact A.out);(exact C.out);(simp;omega);intro g cap d o l i hlt1;have n:d.heap[b]?=some (.cells #[a,v,f0,f1] 55):=(l.block b (by simp;omega) (λe=>z.out.own e.symm)).trans (Eq.trans (zk _ _ _ (by simp;omega)) (Eq.trans (zk _ _ _ p) z.out.blk));have hcb:d.cell? ⟨b,1,none⟩=some v:=(by rw[vE n];rfl);have hfb:d.frozen? ⟨b,1,none⟩=false:=x9 n 1)
   |fail)
 all_goals (try go_wp2)
 all_goals go_ret
 all_goals
  refine⟨rfl,.slice (some ⟨g,0,none⟩) (M.length+1) cap,?_⟩;have E:Below w.heap.size w ((w.alloc (.cells #[.int .i64 x.k,.int .i64 x.lk,.int .i64 x.lt,.int .i64 x.lv,.int .i64 x.rk,.int .i64 x.rt,.int .i64 x.rv,.bool x.hl,.bool x.hr,.bool false] 95)).alloc (.cells #[.int .i64 x.k,.int .i64 x.lk,.int .i64 x.lt,.int .i64 x.lv,.int .i64 x.rk,.int .i64 x.rt,.int .i64 x.rv,.bool x.hl,.bool x.hr] 89)).drew:=((wT _ _ _).drew)
  have m:d.ownsRow base 89 9 (.slice (some ⟨g,0,none⟩) (M.length+1) cap) (M++[x]).length ((M++[x]).flatMap ah):=by
   simpa[List.flatMap_append]using o
  have t:=yI (v:=v) m (IA E l) n;refine⟨t.1,t.2,?_⟩
  rcases i with i|i
  .exact Or.inl (by rw[i];rfl)
  .exact Or.inr ⟨g,rfl,by rw[i];simp;omega⟩
end
section
open Go.Proofs.Tryz
theorem eU{P:Program}(w:World){ops:Array Oper}{o:Oper}{a:Act}{K:Act->World->Prop}{Q:Exit->Act->World->Prop}{E:Prop}(y:o.guard=none)(s x:Operand)(t:TypeId)
  (M:o.op=.call { callee:= .builtin .append,args:= #[s,x],argTypes:= #[t,t]})
  (base:Nat) (e:TypeId) (i:TypeInfo) (z:Value) (size bytes:Nat) (T:P.underlying t=some (.slice e)) (hi:P.info? e=some i) (R:i.zero=some z)
  (hsize:i.size=size) (q:i.bytes=bytes) (r:z.cells.size=size) (A:0<size)
  (p c0 n:Nat) (xs:List Value) (F:a.eval s=.slice (some ⟨p,0,none⟩) n c0) (k:w.ownsRow base e size (.slice (some ⟨p,0,none⟩) n c0) n xs)
  (ad:Addr) (m c:Nat) (news:List Value) (S:a.eval x=.slice (some ad) m c) (I:news.length=m*size) (d:∀j u,news[j]?=some u->w.cell? (ad.add j)=some u) (C:∀u∈news,u.oneCell'=true)
  (v:n+m<=maxLen) (b:(n+m)*bytes<=140737488355328) (f:base<=w.heap.size)
  (h:∀g cap l,l.ownsRow base e size (.slice (some ⟨g,0,none⟩) (n+m) cap) (n+m) (xs++news)->w.grownBy l (some p)->(g=p∨g=w.heap.size)->K (a.put o.dst (.slice (some ⟨g,0,none⟩) (n+m) cap)) l):
  if Region.wanted o (yielded ops a.tmps)=true then Oper.wp P o a w K Q else E:=by
 have G:Region.wanted o (yielded ops a.tmps)=true:=by simp[Region.wanted,y]
 rw[if_pos G];obtain⟨v',l,L,B,H,U,N⟩:=run_append_own_at (P:=P) w base t o.type e i z size bytes T hi R hsize q r A _ n xs k ad m c news I d C v b f
 rcases B.2 with⟨rfl,_⟩|⟨g,cap,cur,rfl,_⟩
 .have:=(U.1 rfl).1;cases this
 .unfold Oper.wp execOp;simp only[M,resolve,invoke,builtin,Sem.run_bind,Sem.run_pure,Result.andThen_ok,List.map_toArray,List.map_cons,List.map_nil,F,S,L];refine h g cap l B H ?_;simpa[Value.ownBlock]using N
theorem Uo{W:World}{B:Nat}{x:O}{gone:Bool}(a:W.heap[B]?=some (.cells #[.int .i64 x.k,.int .i64 x.lk,.int .i64 x.lt,.int .i64 x.lv,.int .i64 x.rk,.int .i64 x.rt,.int .i64 x.rv,.bool x.hl,.bool x.hr,.bool gone] 95)):
  W.cell? ⟨B,0,none⟩=some (.int .i64 x.k)/\W.cell? ⟨B,1,none⟩=some (.int .i64 x.lk)/\W.cell? ⟨B,2,none⟩=some (.int .i64 x.lt)/\W.cell? ⟨B,3,none⟩=some (.int .i64 x.lv)/\W.cell? ⟨B,4,none⟩=some (.int .i64 x.rk)/\W.cell? ⟨B,5,none⟩=some (.int .i64 x.rt)/\W.cell? ⟨B,6,none⟩=some (.int .i64 x.rv)/\W.cell? ⟨B,7,none⟩=some (.bool x.hl)/\W.cell? ⟨B,8,none⟩=some (.bool x.hr):=by
 refine⟨?_,?_,?_,?_,?_,?_,?_,?_,?_⟩ <;>(rw[vE a];rfl)
theorem LQ(pj f0 f1:Value)(base b:Nat)(v:Value)(M:List O)(w:World)(h:gT pj f0 f1 w base b v M)(x:O)(hM:M.length<=1000000)(a:x∉M):
  Calls prog 41 #[.pointer (some ⟨b,1,none⟩),vC x true] w λe d=>e=.returned (.int .i64 8)/\Below w.heap.size w d:=by
 have hc:=h.cell;have hlt:=h.lt;simp only[vC]
 rcases ownsRow_forms h.row with⟨rfl,j⟩|⟨gs,ck,rfl⟩
 .rw[j]at *;clear h j;go_enter func41,ntmps41;go_wp2;refine wp_loop_rounds 1 ?_;rw[rounds_succ];go_wp2;go_ret;exact⟨rfl,wh _ _⟩
 .have q:=hid h.row;have p:=hid a;clear h a;go_enter func41,ntmps41;go_wp2
  go_loopg [26] M.length (λg f wr=>∃k:Nat,k<=M.length/\g=M.length -k/\f=.int .i64 k/\Hid (Below w.heap.size w wr/\wr.heap[w.heap.size]?=some (.cells #[.int .i64 x.k,.int .i64 x.lk,.int .i64 x.lt,.int .i64 x.lv,.int .i64 x.rk,.int .i64 x.rt,.int .i64 x.rv,.bool x.hl,.bool x.hr,.bool true] 95)))
  case atStart=>exact⟨0,gy _,rfl,rfl,⟨wh _ _,vw _ _⟩⟩
  case round=>
   obtain⟨k,hk,l,rfl,I⟩:=hrel;have m:=hid l;clear l
   by_cases hlt2:k<M.length
   .obtain⟨y,hy⟩:∃y,M[k]?=some y:=⟨_,dK hlt2⟩;have hcy:=nQ (aL q.out I.out.1) k y hy;have hcx:=Uo I.out.2;have r:w.heap.size<wr.heap.size:=(aD.1 I.out.2).1
    have i1:(0:Int)<=(k:Int):=by omega
    have o:(k:Int)<(M.length:Int):=by omega
    have i3:(M.length:Int)<=1000000:=by omega
    have c:y≠x:=λe=>p.out (by rw[<-e];exact mh hy)
    have i:∀d,(binOp .eql 89 (vO y) (vO x)).run prog d=.ok (.bool false) d:=λd=>by rw[Iz,o9 c]
    have n:Hid (Below w.heap.size w (wr.alloc (.cells #[.int .i64 y.k,.int .i64 y.lk,.int .i64 y.lt,.int .i64 y.lv,.int .i64 y.rk,.int .i64 y.rt,.int .i64 y.rv,.bool y.hl,.bool y.hr] 89))/\(wr.alloc (.cells #[.int .i64 y.k,.int .i64 y.lk,.int .i64 y.lt,.int .i64 y.lv,.int .i64 y.rk,.int .i64 y.rt,.int .i64 y.rv,.bool y.hl,.bool y.hr] 89)).heap[w.heap.size]?=some (.cells #[.int .i64 x.k,.int .i64 x.lk,.int .i64 x.lt,.int .i64 x.lv,.int .i64 x.rk,.int .i64 x.rt,.int .i64 x.rv,.bool x.hl,.bool x.hr,.bool true] 95)):=
     ⟨I.out.1.alloc I.out.1.size _,(zk _ _ _ r).trans I.out.2⟩
    simp only[vO]at i;clear hy c;go_wp2
    go_roundg (M.length -(k+1))
    case measure=>have:=m.out;omega
    case rel=>exact⟨k+1,by omega,rfl,by first|rfl|(congr 1;omega)|go_num,n⟩
   .have o:¬((k:Int)<(M.length:Int)):=by omega
    go_wp2;go_ret;exact⟨rfl,I.out.1⟩
end
section
open Go.Proofs.Tryz
variable{w W m:World}{f f0 f1:Value}{base b c d:Nat}{M:List O}
theorem LU(M:List O)(i:Nat):(M.take i).flatMap ah=(M.flatMap ah).take (i*9):=by
 induction M generalizing i with
 |nil=>simp
 |cons a r ih=>
  cases i with
  |zero=>simp
  |succ i=>
   rw[List.take_succ_cons,List.flatMap_cons,List.flatMap_cons,ih,List.take_append,fI,nG (l:=ah a) (by rw[fI];omega),show(i+1)*9 -9=i*9 by omega]
theorem LV(M:List O)(i:Nat):(M.drop i).flatMap ah=(M.flatMap ah).drop (i*9):=by
 induction M generalizing i with
 |nil=>simp
 |cons a r ih=>
  cases i with
  |zero=>simp
  |succ i=>
   rw[List.drop_succ_cons,List.flatMap_cons,ih,List.drop_append,fI,tT (show(ah a).length<=(i+1)*9 by rw[fI];omega),List.nil_append,show(i+1)*9 -9=i*9 by omega]
theorem yJ(M:List O):∀u∈M.flatMap ah,u.oneCell'=true:=by
 intro u a;obtain⟨x,_,h⟩:=List.mem_flatMap.1 a;exact o7 x u h
structure Goes(w:World)(f f0 f1:Value)(base b c d:Nat)(M:List O)(W:World):Prop where
 below:Below w.heap.size w W
 blk:W.heap[b]?=some (.cells #[f,.slice (some ⟨c,0,none⟩) M.length d,f0,f1] 55)
 row:W.ownsRow base 89 9 (.slice (some ⟨c,0,none⟩) M.length d) M.length (M.flatMap ah)
theorem Goes.go(h:Goes w f f0 f1 base b c d M W)(a:Below W.heap.size W m):Goes w f f0 f1 base b c d M m:=by
 have e:b<W.heap.size:=(aD.1 h.blk).1;exact⟨h.below.trans (a.mono h.below.size),(a.block _ e).trans h.blk,aL h.row a⟩
theorem Goes.cell(h:Goes w f f0 f1 base b c d M W):W.cell? ⟨b,1,none⟩=some (.slice (some ⟨c,0,none⟩) M.length d)/\W.frozen? ⟨b,1,none⟩=false:=
 ⟨by rw[vE h.blk];rfl,x9 h.blk 1⟩
theorem Goes.get(h:Goes w f f0 f1 base b c d M W)(j:Nat)(u:Value)(a:(M.flatMap ah)[j]?=some u):W.cell? ⟨c,j,none⟩=some u:=by
 have:=h.row.cells (g:=c) rfl j u a
 rwa [bZ]at this
theorem Goes.grown{g:Nat}(h:Goes w f f0 f1 base b c d M W)(a:W.grownBy m (some g))(l:w.heap.size<=g)(i:g≠b)(j:g≠c):Goes w f f0 f1 base b c d M m:=by
 have n:b<W.heap.size:=(aD.1 h.blk).1;refine⟨h.below.grown a h.below.size (λk e=>by cases e;exact l),(a.block _ n (λe=>i (by cases e;rfl))).trans h.blk,h.row.kept a (Or.inr (by simp[Value.ownBlock];exact λe=>j e.symm))⟩
theorem LW(a:base<=W.heap.size):(W.alloc (.cells #[] 89)).drew.ownsRow base 89 9 (.slice (some ⟨W.heap.size,0,none⟩) 0 0) 0 []:=
 ⟨rfl,.inr ⟨W.heap.size,0,#[],rfl,a,vw _ _,aO _,gy _,rfl,rfl⟩⟩
theorem Goes.head(h:Goes w f f0 f1 base b c d M W)(k j:Nat)(u:Value)(a:((M.take k).flatMap ah)[j]?=some u):W.cell? ((⟨c,0,none⟩:Addr).add j)=some u:=by
 rw[bZ];refine h.get j u ?_;rw[LU]at a;have e:=(kH.1 a).1;rw[List.length_take]at e;rw[rM (by omega)]at a;exact a
theorem Goes.tail(h:Goes w f f0 f1 base b c d M W)(k j:Nat)(u:Value)(a:((M.drop k).flatMap ah)[j]?=some u):W.cell? ((⟨c,k*9,none⟩:Addr).add j)=some u:=by
 rw[Addr.add_lit];refine h.get (k*9+j) u ?_;rw[LV,List.getElem?_drop]at a;exact a
theorem PV(M:List O)(k:Nat)(hk:k<M.length)(cap g:Nat)(w:World)(base:Nat)(h:w.ownsRow base 89 9 (.slice (some ⟨g,0,none⟩) (0+k+(M.length -(k+1))) cap) (0+k+(M.length -(k+1))) ([]++(M.take k).flatMap ah++(M.drop (k+1)).flatMap ah)):
  w.ownsRow base 89 9 (.slice (some ⟨g,0,none⟩) (k+(M.length -(k+1))) cap) (M.take k++M.drop (k+1)).length ((M.take k++M.drop (k+1)).flatMap ah):=by
 rw[List.flatMap_append,show(M.take k++M.drop (k+1)).length=k+(M.length -(k+1)) by simp;omega];rw[Nat.zero_add]at h;exact h
theorem LX(f f0 f1:Value)(base b:Nat)(v:Value)(M:List O)(w:World)(h:gT f f0 f1 w base b v M)(x:O)(hM:M.length<=1000000)(hb:base<=w.heap.size)(l:x∈M):
  Calls prog 41 #[.pointer (some ⟨b,1,none⟩),vC x true] w λe n=>e=.returned (.int .i64 0)/\∃v',gT f f0 f1 n base b v' (M.erase x)/\nJ b v.ownBlock w n/\Moves w v.ownBlock v'.ownBlock:=by
 obtain⟨i0,hi,G,N,P⟩:=Dw xA;have hc:=h.cell;have hlt:=h.lt;simp only[vC];obtain⟨c,d,rfl⟩:=yg h.row (List.length_pos_of_mem l)
 have hck:M.length<=d:=by
  rcases h.row.2 with⟨a,_⟩|⟨g,cap,cur,a,_,_,C,_⟩
  .cases a
  .cases a;exact C
 have Vt:d<=maxLen:=by
  rcases h.row.2 with⟨a,_⟩|⟨g,cap,cur,a,_,_,_,C,_⟩
  .cases a
  .cases a;exact C
 have hgl:c<w.heap.size:=(h.row.lt c rfl).2;have U:Hid (Goes w f f0 f1 base b c d M w):=⟨zI _ _,h.blk,h.row⟩
 have R:Hid (M.idxOf x<M.length/\M[M.idxOf x]?=some x/\(∀j y,j<M.idxOf x->M[j]?=some y->y≠x)/\M.erase x=M.take (M.idxOf x)++M.drop (M.idxOf x+1)):=by
  have a:M.idxOf x<M.length:=List.idxOf_lt_length_of_mem l;refine⟨a,?_,?_,?_⟩
  .rw[dK a,List.getElem_idxOf]
  .intro j y hj B e;subst e;obtain⟨hjl,Y⟩:=kH.1 B;have:=List.not_of_lt_findIdx (p:=(· ==y)) hj;rw[Y]at this;simp at this
  .rw[List.erase_eq_eraseIdx_of_idxOf rfl,List.eraseIdx_eq_take_drop_succ]
 have hi1:=R.out.1;generalize hI:M.idxOf x=i at *;clear h hI l;go_enter func41,ntmps41;go_wp2
 go_loopg [26] M.length (λg S wr=>∃k:Nat,k<=i/\g=M.length -k/\S=.int .i64 k/\Hid (Goes w f f0 f1 base b c d M wr/\wr.heap[w.heap.size]?=some (.cells #[.int .i64 x.k,.int .i64 x.lk,.int .i64 x.lt,.int .i64 x.lv,.int .i64 x.rk,.int .i64 x.rt,.int .i64 x.rv,.bool x.hl,.bool x.hr,.bool true] 95)))
 case atStart=>exact⟨0,gy _,rfl,rfl,⟨U.out.go (wh _ _),vw _ _⟩⟩
 case round=>
  obtain⟨k,hk,hg,rfl,I⟩:=hrel;have HG:=hid hg;clear hg;obtain⟨y,B⟩:∃y,M[k]?=some y:=⟨_,dK (show k<M.length by omega)⟩;have hcy:=nQ I.out.1.row k y B;have X:=Uo I.out.2;have hz:w.heap.size<wr.heap.size:=(aD.1 I.out.2).1
  have i1:(0:Int)<=(k:Int):=by omega
  have i2:(k:Int)<(M.length:Int):=by omega
  have i3:(M.length:Int)<=1000000:=by omega
  have I2:Hid (Goes w f f0 f1 base b c d M (wr.alloc (.cells #[.int .i64 y.k,.int .i64 y.lk,.int .i64 y.lt,.int .i64 y.lv,.int .i64 y.rk,.int .i64 y.rt,.int .i64 y.rv,.bool y.hl,.bool y.hr] 89))/\(wr.alloc (.cells #[.int .i64 y.k,.int .i64 y.lk,.int .i64 y.lt,.int .i64 y.lv,.int .i64 y.rk,.int .i64 y.rt,.int .i64 y.rv,.bool y.hl,.bool y.hr] 89)).heap[w.heap.size]?=some (.cells #[.int .i64 x.k,.int .i64 x.lk,.int .i64 x.lt,.int .i64 x.lv,.int .i64 x.rk,.int .i64 x.rt,.int .i64 x.rv,.bool x.hl,.bool x.hr,.bool true] 95)):=
   ⟨I.out.1.go (wh _ _),(zk _ _ _ hz).trans I.out.2⟩
  by_cases hki:k<i
  .have L:y≠x:=R.out.2.2.1 k y hki B
   have q:∀n,(binOp .eql 89 (vO y) (vO x)).run prog n=.ok (.bool false) n:=λn=>by rw[Iz,o9 L]
   simp only[vO]at q;clear B L;go_wp2
   go_roundg (M.length -(k+1))
   case measure=>have:=HG.out;omega
   case rel=>exact⟨k+1,by omega,rfl,by first|rfl|(congr 1;omega)|go_num,I2⟩
  .have V:k=i:=by omega
   have F:y=x:=by
    have C:=R.out.2.1;rw[<-V,B]at C;exact Option.some.inj C
   have q:∀n,(binOp .eql 89 (vO y) (vO x)).run prog n=.ok (.bool true) n:=λn=>by rw[Iz,sS F]
   have HE:Hid (M.erase x=M.take k++M.drop (k+1)):=by
    show M.erase x=M.take k++M.drop (k+1);rw[V];exact R.out.2.2.2
   simp only[vO]at q;clear B F V hki
   have HN:Hid (∃A:Addr,(if d=k+1 then some (⟨c,0,none⟩:Addr)else some ⟨c,(k+1)*9,none⟩)=some A/\∀m,Goes w f f0 f1 base b c d M m->∀j u,((M.drop (k+1)).flatMap ah)[j]?=some u->m.cell? (A.add j)=some u):=by
    by_cases a:d=k+1
    .refine⟨⟨c,0,none⟩,by simp[a],λm _ j u Q=>?_⟩;rw[tT (by omega)]at Q;simp at Q
    .exact⟨⟨c,(k+1)*9,none⟩,by simp[a],λm hW j u Q=>hW.tail (k+1) j u Q⟩
   obtain⟨A,hA,hN⟩:=HN.out;have HN2:=hid hN;clear hN HN
   have hwr:IntKind.i64.wrap ((k:Int)+1)=(k:Int)+1:=by rw[IntKind.wrap_i64];omega
   have hp0:(0:Int)<=(k:Int)+1:=by omega
   have hp1:(k:Int)+1<=(M.length:Int):=by omega
   have hp2:((k:Int)+1).toNat=k+1:=by omega
   have hkc:k<=d:=by omega
   have Z:Hid (((M.take k).flatMap ah).length=k*9):=by
    show((M.take k).flatMap ah).length=k*9;rw[lV,List.length_take];congr 1;omega
   have hl2:Hid (((M.drop (k+1)).flatMap ah).length=(M.length -(k+1))*9):=by
    show((M.drop (k+1)).flatMap ah).length=(M.length -(k+1))*9;rw[lV,List.length_drop]
   go_wp2_with fail;have E:=hid I2.out.1
   have K:w.heap.size<(wr.alloc (.cells #[.int .i64 y.k,.int .i64 y.lk,.int .i64 y.lt,.int .i64 y.lv,.int .i64 y.rk,.int .i64 y.rt,.int .i64 y.rv,.bool y.hl,.bool y.hr] 89)).heap.size:=by simp;omega
   clear I2 X hcy q I hc;revert E K;generalize wr.alloc (.cells #[.int .i64 y.k,.int .i64 y.lk,.int .i64 y.lt,.int .i64 y.lv,.int .i64 y.rk,.int .i64 y.rt,.int .i64 y.rv,.bool y.hl,.bool y.hr] 89)=W;intro E K;have hcb:=E.out.cell;have acM:=(E.out.go (wh W (.cells #[] 89))).cell
   have hgb:W.heap.size≠b:=by omega
   have hgg:W.heap.size≠c:=by omega
   go_region_law
    (first
     |(refine eU _ (by rfl) _ _ _ (by rfl) base 89 i0 zO 9 64 underlying50 hi G N P rfl (by omega) W.heap.size 0 0 [] (by rfl) (LW (by omega)) ⟨c,0,none⟩ k d ((M.take k).flatMap ah) (by first|rfl|simp[Act.eval,Act.put]) Z.out ?_ (yJ _) (by unfold maxLen;omega) (by omega) ?_ ?_;(exact(E.out.go ((wh _ _).drew)).head k);(simp;omega);intro g1 oL w1 t r wF;have H:Hid (Goes w f f0 f1 base b c d M w1):=(E.out.go ((wh _ _).drew)).grown r (by omega) hgb hgg;have hg1:W.heap.size<=g1:=(by have:=wF;simp at this;omega);have acN:=H.out.cell)
     |(refine eU _ (by rfl) _ _ _ (by rfl) base 89 i0 zO 9 64 underlying50 hi G N P rfl (by omega) g1 oL (0+k) ([]++(M.take k).flatMap ah) (by first|rfl|simp[Act.eval,Act.put]) t A (M.length -(k+1)) (d -(k+1)) ((M.drop (k+1)).flatMap ah) (by first|rfl|simp[Act.eval,Act.put]) hl2.out (HN2.out _ H.out) (yJ _) (by unfold maxLen;omega) (by omega) ?_ ?_;(have:=H.out.below.size;omega);intro g2 s w2 z o Iy;have T:Hid (Goes w f f0 f1 base b c d M w2):=H.out.grown o (by omega) (by omega) (by omega);have acO:=T.out.cell)
     |fail)
   all_goals (try go_wp2)
   all_goals go_ret
   all_goals
    refine⟨rfl,.slice (some ⟨g2,0,none⟩) (k+(M.length -(k+1))) s,?_⟩;have hs:=yI (v:= .slice (some ⟨c,0,none⟩) M.length d) (PV M k (by omega) s g2 w2 base z) (nJ.of_below T.out.below) T.out.blk;rw[HE.out];refine⟨hs.1,hs.2,Or.inr ⟨g2,rfl,?_⟩⟩;have:=H.out.below.size
    rcases Iy with h|h <;>omega
end
section
open Go.Proofs.Tryz Go.Shelf Go.Lib Go.Sort
variable{W:World}{base g n cap:Nat}{M:List O}{d:Array O}
theorem p8{P:Program}(w:World){ops:Array Oper}{rest:List Oper}{o:Oper}{a:Act}{Q:Exit->Act->World->Prop}(A:o.guard=none)(s x:Operand)(t:TypeId)
  (K:o.op=.call { callee:= .builtin .append,args:= #[s,x],argTypes:= #[t,t]})
  (base:Nat) (e:TypeId) (i:TypeInfo) (z:Value) (size bytes:Nat) (S:P.underlying t=some (.slice e)) (hi:P.info? e=some i) (N:i.zero=some z)
  (hsize:i.size=size) (r:i.bytes=bytes) (v:z.cells.size=size) (B:0<size)
  (q c0 n:Nat) (xs:List Value) (F:a.eval s=.slice (some ⟨q,0,none⟩) n c0) (l:w.ownsRow base e size (.slice (some ⟨q,0,none⟩) n c0) n xs)
  (ad:Addr) (m c:Nat) (news:List Value) (R:a.eval x=.slice (some ad) m c) (H:news.length=m*size) (f:∀j u,news[j]?=some u->w.cell? (ad.add j)=some u) (E:∀u∈news,u.oneCell'=true)
  (y:n+m<=maxLen) (b:(n+m)*bytes<=140737488355328) (k:base<=w.heap.size)
  (h:∀g cap p,p.ownsRow base e size (.slice (some ⟨g,0,none⟩) (n+m) cap) (n+m) (xs++news)->w.grownBy p (some q)->(g=q∨g=w.heap.size)->wpList P ops Q rest (a.put o.dst (.slice (some ⟨g,0,none⟩) (n+m) cap)) p):wpList P ops Q (o::rest) a w:=by
 refine wpList_plain A λ_ T=>?_
 obtain⟨v',p,I,C,G,U,L⟩:=run_append_own_at (P:=P) w base t o.type e i z size bytes S hi N hsize r v B _ n xs l ad m c news H f E y b k
 rcases C.2 with⟨rfl,_⟩|⟨g,cap,cur,rfl,_⟩
 .have:=(U.1 rfl).1;cases this
 .unfold Oper.wp execOp;simp only[K,resolve,invoke,builtin,Sem.run_bind,Sem.run_pure,Result.andThen_ok,List.map_toArray,List.map_cons,List.map_nil,F,R,I];refine T _ _ (h g cap p C G ?_);simpa[Value.ownBlock]using L
theorem Fb(a:base<=W.heap.size):(W.alloc (.cells #[] 89)).ownsRow base 89 9 (.slice (some ⟨W.heap.size,0,none⟩) 0 0) 0 []:=
 ⟨rfl,.inr ⟨W.heap.size,0,#[],rfl,a,vw _ _,aO _,gy _,rfl,rfl⟩⟩
theorem PW{a:World}(f:M.length=n)(h:a.ownsRow base 89 9 (.slice (some ⟨g,0,none⟩) n cap) n (M.flatMap ah)):
  LY g 0 n cap a.heap.size M.toArray (a.alloc (.cells #[.slice (some ⟨g,0,none⟩) n cap] 50)):=by
 rcases h.2 with⟨c,_⟩|⟨g',cap',cur,c,hb,i,h2,h3,k,j⟩
 .cases c
 .cases c;have e:g<a.heap.size:=(aD.1 i).1;have b:(a.alloc (.cells #[.slice (some ⟨g,0,none⟩) n cap] 50)).heap[g]?=some (.cells cur 89 (0,0)):=(zk _ _ _ e).trans i;refine⟨by simpa using f,Nk b (by rw[f];exact j),by simp,by simp;omega,by simp,by omega,cur,b,k⟩
theorem yK{lbx:Nat}(h:LY g 0 n cap lbx d W)(f:base<=g)(hn:n<=cap)(k:cap<=maxLen):W.ownsRow base 89 9 (.slice (some ⟨g,0,none⟩) n cap) d.toList.length (d.toList.flatMap ah):=by
 obtain⟨cur,c,e⟩:=h.shape
 have i:d.toList.length=n:=by simpa using h.size
 refine⟨by rw[lV],.inr ⟨g,cap,cur,by rw[i],f,c,by omega,k,e,?_⟩⟩;rw[<-qx];apply vg;intro j
 by_cases hj:j<d.toList.length*9
 .rw[rM hj,Array.getElem?_toList,Array.getElem?_toList]
  have b:j<(flatK ah 9 d).size:=by rw[size_flatK];simpa using hj
  have a:=(h.row j b).1;simp only[World.cell?,c,Nat.zero_add]at a;simp only[Option.isSome_none,Bool.false_eq_true,if_false]at a;rw[a,vk b,getElem!_pos _ j b];rfl
 .rw[List.getElem?_take_eq_none (by omega),rR (by simp at hj;simp;omega)]
theorem Fe(f:M.length=n)(b:d.size=n)(c:PermIn 0 n M.toArray d)(e:SortedIn dD 0 n d):d.toList.Perm M/\bJ d.toList:=by
 refine⟨?_,ny (by rw[b];exact e)⟩;have a:=c.2.2
 have h:(d.extract 0 n).toList=d.toList:=by simp[<-b]
 have i:(M.toArray.extract 0 n).toList=M:=by simp[<-f]
 rw[h,i]at a;exact a
theorem oD(pj f0 f1:Value)(base b:Nat)(v:Value)(M:List O)(w:World)(h:gT pj f0 f1 w base b v M)(hM:M.length<=1000000):
  Calls prog 28 #[.pointer (some ⟨b,1,none⟩)] w λe q=>∃v' Z,e=.returned v'/\Z.Perm M/\bJ Z/\q.ownsRow w.heap.size 89 9 v' Z.length (Z.flatMap ah)/\Below w.heap.size w q:=by
 obtain⟨I,hi,y,z,A⟩:=Dw xA;have hc:=h.cell;have hlt:=h.lt;have H:=Fb (W:=w) (base:=w.heap.size) (aO _);have t:=hid H;clear H
 rcases ownsRow_forms h.row with⟨rfl,F⟩|⟨gs,P,rfl⟩
 .obtain rfl:M=[]:=nD F;clear h F
  have B:=vP (blk:=w.heap.size) (n:=0) (cap:=0) (lbx:=w.heap.size+1) (d:= #[]) ((w.alloc (.cells #[] 89)).alloc (.cells #[.slice (some ⟨w.heap.size,0,none⟩) 0 0] 50)) (by
   have:=PW (M:=[]) rfl t.out
   simpa using this) (by omega)
  go_enter func28,ntmps28
  go_wp2_with (first
   |(refine wpList_append_own_none rfl _ _ _ rfl w.heap.size 89 I 9 underlying50 hi _ 0 [] rfl t.out rfl ?_)
   |(go_at_call 69;refine B.mono ?_;rintro e q ⟨rfl,s,f,o,p,E⟩;have r:=f.box)
   |fail)
  go_ret;have S:s.toList=[]:=nD (by simpa using f.size);have G:=yK (base:=w.heap.size) f (aO _) (aO _) (gy _);rw[S]at G;exact⟨_,[],rfl,List.Perm.refl _,List.Pairwise.nil,G,(wT w _ _).grown E (by simp;omega) (λk e=>by cases e;exact aO _)⟩
 .have HR:=hid h
  have Q:Hid (∀j u,(M.flatMap ah)[j]?=some u->(w.alloc (.cells #[] 89)).cell? ((⟨gs,0,none⟩:Addr).add j)=some u):=λj u N=>
   (aL h.row (wh w (.cells #[] 89))).cells (g:=gs) rfl j u N
  clear h;go_enter func28,ntmps28
  go_wp2_with (first
   |(refine p8 _ rfl _ _ _ rfl w.heap.size 89 I zO 9 64 underlying50 hi y z A rfl (by omega) w.heap.size 0 0 [] rfl t.out ⟨gs,0,none⟩ M.length P (M.flatMap ah) rfl (lV M) Q.out (yJ M) (by unfold maxLen;omega) (by omega) (by simp) ?_;intro K C x a c R;have hw1:w.heap.size<x.heap.size:=(by have:=c.size;simp at this;omega))
   |fail)
  rw[Nat.zero_add,List.nil_append]at a;have m:Below w.heap.size w x:=(wh w _).grown c (by simp) (λk e=>by cases e;exact aO _)
  have i:w.heap.size<=K:=by
   have:=R;simp at this;omega
  have L:M.length<=C/\C<=maxLen:=by
   rcases a.2 with⟨f,_⟩|⟨g',cap',cur,f,_,_,o,p,_⟩
   .cases f
   .cases f;exact⟨o,p⟩
  have B:=vP (d:=M.toArray) (x.alloc (.cells #[.slice (some ⟨K,0,none⟩) M.length C] 50)) (PW rfl a) (by omega);refine B.mono ?_;rintro e q ⟨rfl,s,f,o,p,E⟩;have r:=f.box;go_wp2;go_ret;have l:=Fe rfl f.size o p;exact⟨_,s.toList,rfl,l.1,l.2,yK f i L.1 L.2,(m.alloc m.size _).grown E (by simp;omega) (λk e=>by cases e;exact i)⟩
end
end Go.Proofs.YthfpipieboophaaGreatDoor
