import Derived.Deep.RegionLaw
import Derived.Laws.AppendOwnNone
import Derived.Test.YthfpipieboophaaGreatDoorZBagm
namespace Go.Proofs.YthfpipieboophaaGreatDoor
set_option maxRecDepth 100000
set_option maxHeartbeats 40000000
open Go.RowKit
section
open Go.Proofs.Tryz Go.Joins
variable{W w:World}{base b o:Nat}{v:Value}
structure D where
 k:Int
 t:Int
 v:Int
 n:Int
 deriving DecidableEq,Inhabited
def ak(x:D):List Value:=[.int .i64 x.k,.int .i64 x.t,.int .i64 x.v,.int .i64 x.n]
def vD(x:D):Value:= .agg #[.int .i64 x.k,.int .i64 x.t,.int .i64 x.v,.int .i64 x.n]
def zD:Value:= .agg #[.int .i64 0,.int .i64 0,.int .i64 0,.int .i64 0]
theorem bS(x:D):(ak x).length=4:=rfl
theorem xm:(prog.info? 130).map (λi=>(i.zero,i.size,i.bytes))=some (some zD,4,32):=by kernel_rfl
theorem gG(xs:List D):(xs.flatMap ak).length=xs.length*4:=by
 induction xs with
 |nil=>rfl
 |cons a r ih=>rw[List.flatMap_cons,List.length_append,ih,bS,List.length_cons];omega
theorem mo(x:D):∀u∈ak x,u.oneCell'=true:=by
 intro u a;simp[ak]at a;rcases a with rfl|rfl|rfl|rfl <;>rfl
theorem uQ(R:List D):∀u∈R.flatMap ak,u.oneCell'=true:=by
 intro u a;obtain⟨x,_,h⟩:=List.mem_flatMap.1 a;exact mo x u h
theorem MG(xs:List D)(k j:Nat)(x:D)(c:xs[k]?=some x)(hj:j<4):(xs.flatMap ak)[k*4+j]?=(ak x)[j]? :=by
 induction xs generalizing k with
 |nil=>simp at c
 |cons a r ih=>
  rw[List.flatMap_cons]
  cases k with
  |zero=>
   simp at c;subst c;rw[sZ (by rw[bS];omega)];congr 1;omega
  |succ k=>
   rw[pY (by rw[bS];omega),bS,show(k+1)*4+j -4=k*4+j by omega];exact ih k (by simpa using c)
theorem jo{gs n a:Nat}{xs:List D}(h:W.ownsRow base 130 4 (.slice (some ⟨gs,0,none⟩) n a) n (xs.flatMap ak))(k:Nat)(x:D)(e:xs[k]?=some x):
  W.cell? ⟨gs,k*4,none⟩=some (.int .i64 x.k)/\W.cell? ⟨gs,k*4+1,none⟩=some (.int .i64 x.t)/\W.cell? ⟨gs,k*4+2,none⟩=some (.int .i64 x.v)/\W.cell? ⟨gs,k*4+3,none⟩=some (.int .i64 x.n):=by
 have key:=λ(j:Nat) (v:Value) (c:j<4) (d:(ak x)[j]?=some v)=>h.cells (g:=gs) rfl (k*4+j) v ((MG xs k j x e c).trans d)
 simp only[bZ]at key;exact⟨key 0 _ (by omega) rfl,key 1 _ (by omega) rfl,key 2 _ (by omega) rfl,key 3 _ (by omega) rfl⟩
structure bB(w:World)(base b o:Nat)(v:Value)(R:List D):Prop where
 blk:∃cs T,w.heap[b]?=some (.cells cs T)/\cs[o]?=some v
 row:w.ownsRow base 130 4 v R.length (R.flatMap ak)
 own:v.ownBlock≠some b
theorem bB.lt{R:List D}(h:bB w base b o v R):b<w.heap.size:=by
 obtain⟨cs,T,a,_⟩:=h.blk;exact(aD.1 a).1
theorem bB.cell{R:List D}(h:bB w base b o v R):w.cell? ⟨b,o,none⟩=some v/\w.frozen? ⟨b,o,none⟩=false:=by
 obtain⟨cs,T,a,c⟩:=h.blk;exact⟨by rw[vE a];exact c,x9 a o⟩
theorem bB.below{c:World}{R:List D}(h:bB w base b o v R)(a:Below w.heap.size w c):bB c base b o v R:=by
 have f:=h.lt;obtain⟨cs,T,e,d⟩:=h.blk;exact⟨⟨cs,T,(a.block _ f).trans e,d⟩,aL h.row a,h.own⟩
theorem bB.form{R:List D}(h:bB w base b o v R):∃a c,v=.slice a R.length c:=by
 rcases h.row.2 with⟨rfl,d⟩|⟨g,cap,cur,rfl,_⟩
 .exact⟨none,0,by rw[d]⟩
 .exact⟨_,_,rfl⟩
theorem kg(base b o:Nat)(v:Value)(R:List D)(w:World)(h:bB w base b o v R):
  Calls prog 102 #[.pointer (some ⟨b,o,none⟩)] w λe a=>e=.returned (.int .i64 R.length)/\a=w:=by
 have hc:=h.cell;obtain⟨oa,c,rfl⟩:=h.form;clear h;go_enter func102,ntmps102;go_wp2;go_ret;exact⟨rfl,rfl⟩
def bR(n:Int):Int:=if n=9223372036854775807 then n else n+1
theorem FW(n:Int)(w:World)(h1: -9223372036854775808<=n)(h2:n<=9223372036854775807):Calls prog 172 #[.int .i64 n] w λe c=>e=.returned (.int .i64 (bR n))/\c=w:=by
 by_cases e:n=9223372036854775807
 .subst e;go_enter func172,ntmps172;go_wp2;go_ret;exact⟨rfl,rfl⟩
 .have a:bR n=n+1:=by simp[bR,e]
  have he:(n==9223372036854775807)=false:=by simp[e]
  have h3:n<9223372036854775807:=by omega
  rw[a];clear a;go_enter func172,ntmps172;go_wp2;go_ret;exact⟨rfl,rfl⟩
theorem IZ(a:base<=W.heap.size):(W.alloc (.cells #[] 130)).ownsRow base 130 4 (.slice (some ⟨W.heap.size,0,none⟩) 0 0) 0 []:=
 ⟨rfl,.inr ⟨W.heap.size,0,#[],rfl,a,vw _ _,aO _,gy _,rfl,rfl⟩⟩
theorem qR{P:Program}(w:World){ops:Array Oper}{rest:List Oper}{o:Oper}{a:Act}{Q:Exit->Act->World->Prop}(B:o.guard=none)(s x:Operand)(t:TypeId)
  (L:o.op=.call { callee:= .builtin .append,args:= #[s,x],argTypes:= #[t,t]})
  (base:Nat) (e:TypeId) (i:TypeInfo) (z:Value) (size bytes:Nat) (S:P.underlying t=some (.slice e)) (hi:P.info? e=some i) (N:i.zero=some z)
  (hsize:i.size=size) (r:i.bytes=bytes) (y:z.cells.size=size) (C:0<size)
  (q c0 n:Nat) (xs:List Value) (G:a.eval s=.slice (some ⟨q,0,none⟩) n c0) (l:w.ownsRow base e size (.slice (some ⟨q,0,none⟩) n c0) n xs)
  (ad:Addr) (m c:Nat) (news:List Value) (R:a.eval x=.slice (some ad) m c) (I:news.length=m*size) (f:∀j u,news[j]?=some u->w.cell? (ad.add j)=some u) (F:∀u∈news,u.oneCell'=true)
  (A:n+m<=maxLen) (d:(n+m)*bytes<=140737488355328) (k:base<=w.heap.size)
  (h:∀g cap p,p.ownsRow base e size (.slice (some ⟨g,0,none⟩) (n+m) cap) (n+m) (xs++news)->w.grownBy p (some q)->(g=q∨g=w.heap.size)->wpList P ops Q rest (a.put o.dst (.slice (some ⟨g,0,none⟩) (n+m) cap)) p):wpList P ops Q (o::rest) a w:=by
 refine wpList_plain B λ_ T=>?_
 obtain⟨v',p,K,E,H,U,M⟩:=run_append_own_at (P:=P) w base t o.type e i z size bytes S hi N hsize r y C _ n xs l ad m c news I f F A d k
 rcases E.2 with⟨rfl,_⟩|⟨g,cap,cur,rfl,_⟩
 .have:=(U.1 rfl).1;cases this
 .unfold Oper.wp execOp;simp only[L,resolve,invoke,builtin,Sem.run_bind,Sem.run_pure,Result.andThen_ok,List.map_toArray,List.map_cons,List.map_nil,G,R,K];refine T _ _ (h g cap p E H ?_);simpa[Value.ownBlock]using M
theorem QV(w:World):(binOp .eql 67 (.slice none 0 0) (.slice none 0 0)).run prog w=.ok (.bool true) w:=by kernel_rfl
theorem MH(a:Addr)(n c:Nat)(w:World):(binOp .eql 67 (.slice (some a) n c) (.slice none 0 0)).run prog w=.ok (.bool false) w:=by kernel_rfl
theorem MI(base:Nat)(v:Value)(R:List D)(w:World)(h:w.ownsRow base 130 4 v R.length (R.flatMap ak))(hR:R.length<=100000):
  Calls prog 189 #[v] w λe m=>∃v',e=.returned v'/\m.ownsRow w.heap.size 130 4 v' R.length (R.flatMap ak)/\Below w.heap.size w m:=by
 obtain⟨r,hi,d,f,i⟩:=Dw xm
 rcases ownsRow_forms h with⟨rfl,l⟩|⟨gs,n,rfl⟩
 .obtain rfl:R=[]:=nD l;clear h l;have q:=QV;go_enter func189,ntmps189;go_wp2;go_ret;exact⟨_,rfl,Ak _ _ _ _,zI _ _⟩
 .have p:Hid ((w.alloc (.cells #[] 130)).ownsRow w.heap.size 130 4 (.slice (some ⟨w.heap.size,0,none⟩) 0 0) 0 []):=IZ (aO _)
  have t:Hid (∀j u,(R.flatMap ak)[j]?=some u->(w.alloc (.cells #[] 130)).cell? ((⟨gs,0,none⟩:Addr).add j)=some u):=λj u s=>
   (aL h (wh w (.cells #[] 130))).cells (g:=gs) rfl j u s
  clear h;have q:=MH ⟨gs,0,none⟩ R.length n;go_enter func189,ntmps189
  go_wp2_with (first
   |(refine qR _ rfl _ _ _ rfl w.heap.size 130 r zD 4 32 underlying67 hi d f i rfl (by omega) w.heap.size 0 0 [] rfl p.out ⟨gs,0,none⟩ R.length n (R.flatMap ak) rfl (gG R) t.out (uQ R) (by unfold maxLen;omega) (by omega) (by simp) ?_;intro g1 oL w1 a c wF)
   |fail)
  go_ret;rw[Nat.zero_add,List.nil_append]at a;refine⟨_,rfl,?_,(wh w _).grown c (by simp) (λk e=>by cases e;exact aO _)⟩
  first|exact a|simpa using a
theorem EG(base b o:Nat)(v:Value)(R:List D)(w:World)(h:bB w base b o v R)(g:R.length<=100000):
  Calls prog 116 #[.pointer (some ⟨b,o,none⟩)] w λe c=>∃v',e=.returned v'/\c.ownsRow w.heap.size 130 4 v' R.length (R.flatMap ak)/\Below w.heap.size w c:=by
 have hc:=h.cell;have a:=MI base v R w h.row g;clear h;go_enter func116,ntmps116
 go_wp2_with (go_at_call 189;refine a.mono ?_;rintro e c ⟨v',rfl,f,d⟩)
 go_ret;exact⟨v',rfl,f,d⟩
end
section
open Go.Proofs.Tryz Go.Joins Go.Shelf
variable{x:D}{R:List D}
theorem Ja(g:Nat)(cb:Array Value)(n:Nat)(p:Nat->Bool)(w:World)(eg:∀args w,(callFunc g args).run prog w=.ok (.enter g args) w)(hn:n<=1000000)
  (u:∀(W:World) (i:Nat),Below w.heap.size w W->i<n->Calls prog g (#[.int .i64 i]++cb) W λe q=>e=.returned (.bool (p i))/\Below W.heap.size W q)
  (c:∀a b,a<=b->b<n->p a=true->p b=true):
  Calls prog 243 #[.int .i64 n,.func (.func g) #[] cb] w λe q=>∃r:Nat,e=.returned (.int .i64 r)/\r<=n/\(∀t,t<r->p t=false)/\(∀t,r<=t->t<n->p t=true)/\Below w.heap.size w q:=by
 have B:=hid u;have v:=hid c
 have i1:(n:Int)<=1000000:=by omega
 clear u c;go_enter func243,ntmps243;go_wp2
 go_loopg [5,6] n (λkx F E wr=>∃(lo hi:Nat),F=.int .i64 lo/\E=.int .i64 hi/\lo<=hi/\hi<=n/\hi -lo<=kx/\Hid ((∀t,t<lo->p t=false)/\(∀t,hi<=t->t<n->p t=true)/\Below w.heap.size w wr))
 case atStart=>exact⟨0,n,rfl,rfl,gy _,aO _,by omega,⟨λt f=>absurd f (Nat.not_lt_zero _),λt C y=>by omega,zI _ _⟩⟩
 case round=>
  obtain⟨lo,hi,rfl,rfl,hlh,k,A,I⟩:=hrel;have s:=hid A;clear A
  by_cases hlt:lo<hi
  .have G:(lo:Int)<(hi:Int):=by omega
   have k2:(hi:Int)<=1000000:=by omega
   have j:=B.out wr ((lo+hi)/2) I.out.2.2 (by omega);rw[show(((lo+hi)/2:Nat):Int)=((lo:Int)+(hi:Int))/2 by omega]at j;go_wp2_with fail;refine j.mono ?_;rintro e o ⟨rfl,d⟩;have z:Hid (Below w.heap.size w o):=I.out.2.2.trans (d.mono I.out.2.2.size);clear j d;cases hp:p ((lo+hi)/2)
   .have l:Hid ((∀t,t<(lo+hi)/2+1->p t=false)/\(∀t,hi<=t->t<n->p t=true)/\Below w.heap.size w o):=⟨λt f=>(by
     cases h:p t with
     |false=>rfl
     |true=>have:=v.out t ((lo+hi)/2) (by omega) (by omega) h;rw[hp]at this;cases this),I.out.2.1,z.out⟩
    clear hp;go_wp2
    go_roundg (hi -((lo+hi)/2+1))
    case measure=>have:=s.out;omega
    case rel=>exact⟨(lo+hi)/2+1,hi,by first|rfl|(congr 1;omega)|go_num,rfl,by omega,k,aO _,l⟩
   .have l:Hid ((∀t,t<lo->p t=false)/\(∀t,(lo+hi)/2<=t->t<n->p t=true)/\Below w.heap.size w o):=⟨I.out.1,λt f m=>v.out ((lo+hi)/2) t f m hp,z.out⟩;clear hp;go_wp2
    go_roundg ((lo+hi)/2 -lo)
    case measure=>have:=s.out;omega
    case rel=>exact⟨lo,(lo+hi)/2,rfl,by first|rfl|(congr 1;omega)|go_num,by omega,by omega,aO _,l⟩
  .have G:¬((lo:Int)<(hi:Int)):=by omega
   go_wp2;go_ret;refine⟨lo,rfl,by omega,I.out.1,λt C y=>I.out.2.1 t (by omega) y,I.out.2.2⟩
def aX(key time:Int)(x:D):Bool:=decide (x.k<key∨(x.k=key/\x.t<time))
def ay(R:List D):Prop:=R.Pairwise λa b=>a.k<b.k∨(a.k=b.k/\a.t<=b.t)
theorem bI{key time:Int}:aX key time x=false↔(key<x.k∨(x.k=key/\time<=x.t)):=by
 simp only[aX,decide_eq_false_iff_not];omega
theorem Jb(base b o bs c bt:Nat)(v:Value)(R:List D)(key time:Int)(i:Nat)(x:D)(w:World)(h:bB w base b o v R)(d:R[i]?=some x)
  (h1:w.cell? ⟨bs,0,none⟩=some (.pointer (some ⟨b,o,none⟩))) (h2:w.cell? ⟨c,0,none⟩=some (.int .i64 key)) (h3:w.cell? ⟨bt,0,none⟩=some (.int .i64 time)) (hbk:c<w.heap.size) (hbt:bt<w.heap.size):
  Calls prog 244 #[.int .i64 i,.pointer (some ⟨bs,0,none⟩),.pointer (some ⟨c,0,none⟩),.pointer (some ⟨bt,0,none⟩)] w λe f=>e=.returned (.bool (!aX key time x))/\Below w.heap.size w f:=by
 have hc:=h.cell;have hi:i<R.length:=(kH.1 d).1;obtain⟨gs,ck,rfl⟩:=yg h.row (by omega);have hr:=jo h.row i x d;have hgs:gs<w.heap.size:=(h.row.lt gs rfl).2
 have i1:(0:Int)<=(i:Int):=by omega
 have i2:(i:Int)<(R.length:Int):=by omega
 have hlt:=h.lt;clear h d
 by_cases c1:key<x.k
 .have a:aX key time x=false:=bI.2 (Or.inl c1);rw[a];clear a;go_enter func244,ntmps244;go_wp2;go_ret;exact⟨rfl,wh _ _⟩
 .have c1':¬key<x.k:=c1
  by_cases c2:x.k=key
  .subst c2
   by_cases c3:time<=x.t
   .have a:aX x.k time x=false:=bI.2 (Or.inr ⟨rfl,c3⟩);rw[a];clear a;go_enter func244,ntmps244;go_wp2;go_ret;exact⟨rfl,wh _ _⟩
   .have a:aX x.k time x=true:=by
     cases h:aX x.k time x with
     |true=>rfl
     |false=>rcases bI.1 h with h|h <;>omega
    have c3':¬time<=x.t:=c3;rw[a];clear a;go_enter func244,ntmps244;go_wp2;go_ret;exact⟨rfl,wh _ _⟩
  .have a:aX key time x=true:=by
    cases h:aX key time x with
    |true=>rfl
    |false=>rcases bI.1 h with h|h <;>omega
   have c2':(x.k==key)=false:=by simp[c2]
   rw[a];clear a;go_enter func244,ntmps244;go_wp2;go_ret;exact⟨rfl,wh _ _⟩
def aV(key time:Int)(R:List D):Nat:=R.countP (aX key time)
theorem Jc(h:ay R)(key time:Int){i j:Nat}{y:D}(hij:i<=j)(b:R[i]?=some x)(a:R[j]?=some y)(c:aX key time x=false):aX key time y=false:=by
 by_cases e:i=j
 .subst e;rw[b]at a;cases a;exact c
 .obtain⟨f,g⟩:=kH.1 b;obtain⟨d,k⟩:=kH.1 a;have:=List.pairwise_iff_getElem.1 h i j f d (by omega);rw[g,k]at this;rw[bI]at *;omega
theorem WC(key time:Int)(r:Nat)(hr:r<=R.length)(d:∀t x,t<r->R[t]?=some x->aX key time x=true)(c:∀t x,r<=t->R[t]?=some x->aX key time x=false):aV key time R=r:=by
 unfold aV;rw[<-List.take_append_drop r R,List.countP_append]
 have a1:(R.take r).countP (aX key time)=r:=by
  rw[List.countP_eq_length.2]
  .rw[List.length_take];omega
  .intro x b;obtain⟨t,a,e⟩:=List.mem_iff_getElem.1 b;rw[List.length_take]at a;rw[List.getElem_take]at e;exact d t x (by omega) (by rw[dK (by omega),e])
 have a2:(R.drop r).countP (aX key time)=0:=by
  rw[List.countP_eq_zero];intro x b;obtain⟨t,a,e⟩:=List.mem_iff_getElem.1 b;rw[List.length_drop]at a;rw[List.getElem_drop]at e;rw[c (r+t) x (by omega) (by rw[dK (by omega),e])];simp
 omega
theorem QW(key time:Int)(R:List D):aV key time R<=R.length:=List.countP_le_length
theorem oW(w:World)(p:Value)(key time:Int):
  (((w.alloc (.cells #[p] 251)).alloc (.cells #[.int .i64 key] 3)).alloc (.cells #[.int .i64 time] 3)).cell? ⟨w.heap.size,0,none⟩=some p/\
  (((w.alloc (.cells #[p] 251)).alloc (.cells #[.int .i64 key] 3)).alloc (.cells #[.int .i64 time] 3)).cell? ⟨w.heap.size+1,0,none⟩=some (.int .i64 key)/\
  (((w.alloc (.cells #[p] 251)).alloc (.cells #[.int .i64 key] 3)).alloc (.cells #[.int .i64 time] 3)).cell? ⟨w.heap.size+1+1,0,none⟩=some (.int .i64 time):=by
 have a:=vw (w.alloc (.cells #[p] 251)) (.cells #[.int .i64 key] 3);have b:=vw ((w.alloc (.cells #[p] 251)).alloc (.cells #[.int .i64 key] 3)) (.cells #[.int .i64 time] 3);simp only[World.size_alloc]at a b;refine⟨?_,?_,?_⟩
 .rw[vE (((zk _ _ _ (by simp;omega)).trans (zk _ _ _ (by simp))).trans (vw _ _))];rfl
 .rw[vE ((zk _ _ _ (by simp)).trans a)];rfl
 .rw[vE b];rfl
theorem BG(base b o:Nat)(v:Value)(R:List D)(key time:Int)(w:World)(h:bB w base b o v R)(E:ay R)(hR:R.length<=100000):
  Calls prog 171 #[.pointer (some ⟨b,o,none⟩),.int .i64 key,.int .i64 time] w λe d=>e=.returned (.int .i64 (aV key time R))/\Below w.heap.size w d:=by
 have hc:=h.cell;have hlt:=h.lt;obtain⟨F,B,rfl⟩:=h.form;have I:∀args w,(callFunc 244 args).run prog w=.ok (.enter 244 args) w:=enters_of func244 (by kernel_rfl) rfl
 have f:=Ja 244 #[.pointer (some ⟨w.heap.size,0,none⟩),.pointer (some ⟨w.heap.size+1,0,none⟩),.pointer (some ⟨w.heap.size+1+1,0,none⟩)] R.length (λi=>match R[i]? with|some x=>!aX key time x|none=>true)
  (((w.alloc (.cells #[.pointer (some ⟨b,o,none⟩)] 251)).alloc (.cells #[.int .i64 key] 3)).alloc (.cells #[.int .i64 time] 3)) I (by omega) (by
   intro W i c hi;obtain⟨x,a⟩:∃x,R[i]?=some x:=⟨_,dK hi⟩;have k:Below w.heap.size w (((w.alloc (.cells #[.pointer (some ⟨b,o,none⟩)] 251)).alloc (.cells #[.int .i64 key] 3)).alloc (.cells #[.int .i64 time] 3)):=(((zI _ _).alloc (by simp) _).alloc (by simp) _).alloc (by simp;omega) _;have n:=c.size;simp only[World.size_alloc]at n;have z:bB W base b o (.slice F R.length B) R:=(h.below k).below c;simp only[a];refine Jb base b o w.heap.size (w.heap.size+1) (w.heap.size+1+1) _ R key time i x W z a ?_ ?_ ?_ (by omega) (by omega)
   .exact(c.cell (p:=⟨w.heap.size,0,none⟩) (by simp;omega)).trans (oW w _ _ _).1
   .exact(c.cell (p:=⟨w.heap.size+1,0,none⟩) (by simp)).trans (oW w _ _ _).2.1
   .exact(c.cell (p:=⟨w.heap.size+1+1,0,none⟩) (by simp)).trans (oW w _ _ _).2.2) (by
   intro i j g G s;obtain⟨x,a⟩:∃x,R[i]?=some x:=⟨_,dK (by omega)⟩;obtain⟨y,hy⟩:∃y,R[j]?=some y:=⟨_,dK G⟩;simp only[a,Bool.not_eq_true']at s;simp only[hy,Bool.not_eq_true']
   exact Jc E key time g a hy s)
 have q:Calls prog 243 #[.int .i64 R.length,.func (.func 244) #[] #[.pointer (some ⟨w.heap.size,0,none⟩),.pointer (some ⟨w.heap.size+1,0,none⟩),.pointer (some ⟨w.heap.size+1+1,0,none⟩)]] (((w.alloc (.cells #[.pointer (some ⟨b,o,none⟩)] 251)).alloc (.cells #[.int .i64 key] 3)).alloc (.cells #[.int .i64 time] 3)) λe d=>e=.returned (.int .i64 (aV key time R))/\Below w.heap.size w d:=by
  refine f.mono ?_;rintro e d ⟨r,rfl,u,C,H,k⟩
  have A:aV key time R=r:=WC key time r u (λt x m a=>by have:=C t m;simp only[a]at this;simpa using this) (λt x m a=>by
   have:=H t m (kH.1 a).1;simp only[a]at this;simpa using this)
  have l:Below w.heap.size w (((w.alloc (.cells #[.pointer (some ⟨b,o,none⟩)] 251)).alloc (.cells #[.int .i64 key] 3)).alloc (.cells #[.int .i64 time] 3)):=(((zI _ _).alloc (by simp) _).alloc (by simp) _).alloc (by simp;omega) _;exact⟨by rw[A],l.trans (k.mono (by simp;omega))⟩
 have hc3:=(h.below (show Below w.heap.size w (((w.alloc (.cells #[.pointer (some ⟨b,o,none⟩)] 251)).alloc (.cells #[.int .i64 key] 3)).alloc (.cells #[.int .i64 time] 3))from(((zI _ _).alloc (by simp) _).alloc (by simp) _).alloc (by simp;omega) _)).cell;clear h f;go_enter func171,ntmps171
 go_wp2_with (go_at_call 243;refine q.mono ?_;rintro e d ⟨rfl,K⟩)
 go_ret;exact⟨rfl,K⟩
end
section
open Go.Proofs.Tryz Go.Joins Go.Shelf
variable{W:World}{base g n cap size:Nat}{e:TypeId}{d:List Value}
def ni(d:List Value):Nat->List Value->List Value
 |_,[]=>d
 |o,v::r=>ni (d.set o v) (o+1) r
theorem MJ(vs:List Value):∀(d:List Value) (o k:Nat),k<=o->(ni d o vs).take k=d.take k:=by
 induction vs with
 |nil=>intro d o k _;rfl
 |cons v r ih=>
  intro d o k a;rw[ni,ih _ _ _ (by omega),List.take_set_of_le a]
theorem vW(h:W.ownsRow base e size (.slice (some ⟨g,0,none⟩) n cap) n d)(j:Nat)(u:Value):
  (W.setCell ⟨g,j,none⟩ u).ownsRow base e size (.slice (some ⟨g,0,none⟩) n cap) n (d.set j u):=by
 rcases h.2 with⟨a,_⟩|⟨g',cap',cur,a,i,l,c,f,k,b⟩
 .cases a
 .cases a;refine⟨by rw[List.length_set];exact h.1,.inr ⟨g,cap,cur.setIfInBounds j u,rfl,i,yc l u,c,f,by simp[k],?_⟩⟩;rw[Array.toList_setIfInBounds,<-b,List.take_set]
theorem gH(vs:List Value):∀{W:World} {d:List Value} (o:Nat),W.ownsRow base e size (.slice (some ⟨g,0,none⟩) n cap) n d->
  (W.setCells g o vs).ownsRow base e size (.slice (some ⟨g,0,none⟩) n cap) n (ni d o vs):=by
 induction vs with
 |nil=>intro W d o h;exact h
 |cons v r ih=>intro W d o h;exact ih (o+1) (vW h o v)
theorem Jd(h:W.ownsRow base e size (.slice (some ⟨g,0,none⟩) n cap) n d)(i:Nat)(hi:i<=n):
  W.ownsRow base e size (.slice (some ⟨g,0,none⟩) i cap) i (d.take (i*size)):=by
 rcases h.2 with⟨a,_⟩|⟨g',cap',cur,a,f,k,h2,c,l,b⟩
 .cases a
 .cases a;have j:i*size<=n*size:=Nat.mul_le_mul_right _ hi;refine⟨by rw[List.length_take,h.1];omega,.inr ⟨g,cap,cur,rfl,f,k,by omega,c,l,?_⟩⟩;rw[<-b,List.take_take,Nat.min_eq_left j]
theorem qU(M:List D)(i:Nat):(M.take i).flatMap ak=(M.flatMap ak).take (i*4):=by
 induction M generalizing i with
 |nil=>simp
 |cons a r ih=>
  cases i with
  |zero=>simp
  |succ i=>
   rw[List.take_succ_cons,List.flatMap_cons,List.flatMap_cons,ih,List.take_append,bS,nG (l:=ak a) (by rw[bS];omega),show(i+1)*4 -4=i*4 by omega]
theorem MK(R:List D)(i:Nat)(x:D):(R.set i x).flatMap ak=ni (R.flatMap ak) (i*4) (ak x)∨R.length<=i:=by
 by_cases h:R.length<=i
 .exact Or.inr h
 .left
  induction R generalizing i with
  |nil=>simp at h
  |cons a r ih=>
   cases i with
   |zero=>simp[ni,ak]
   |succ i=>
    have b:=ih i (by simpa using h);rw[List.set_cons_succ,List.flatMap_cons,List.flatMap_cons,b];simp[ni,ak,show(i+1)*4=i*4+1+1+1+1 by omega]
theorem ML{R:List D}(h:W.ownsRow base 130 4 (.slice (some ⟨g,0,none⟩) n cap) n (R.flatMap ak))(i:Nat)(x:D)(hi:i<R.length):
  ((((W.setCell ⟨g,i*4,none⟩ (.int .i64 x.k)).setCell ⟨g,i*4+1,none⟩ (.int .i64 x.t)).setCell ⟨g,i*4+2,none⟩ (.int .i64 x.v)).setCell ⟨g,i*4+3,none⟩ (.int .i64 x.n)).ownsRow base 130 4 (.slice (some ⟨g,0,none⟩) n cap) n ((R.set i x).flatMap ak):=by
 rcases MK R i x with e|e
 .rw[e];exact gH (ak x) (i*4) h
 .omega
theorem wH{P:Program}(w:World)(t e ty:TypeId)(z:Value)(k:P.underlying t=some (.slice e))(i:∀w,(zeroValue e).run P w=.ok z w)(b o n c:Nat)(hn:0<n)(f:∀v∈(Builtin.zeroCells z.cells n).toList,v.oneCell'=true)
  (l:∀j,j<(Builtin.zeroCells z.cells n).toList.length->(w.cell? ⟨b,o+j,none⟩).isSome=true) (h:∀j,j<(Builtin.zeroCells z.cells n).toList.length->w.frozen? ⟨b,o+j,none⟩=false):
  (Builtin.clear_ #[t] ty #[.slice (some ⟨b,o,none⟩) n c]).run P w=.ok (.tuple #[]) (w.setCells b o (Builtin.zeroCells z.cells n).toList):=by
 have a:=run_storeCells_cells (P:=P) b o (Builtin.zeroCells z.cells n).toList 0 w (by simpa using l) (by simpa using h) f;simp only[Nat.add_zero]at a;obtain⟨m,rfl⟩:∃m,n=m+1:=⟨n -1,by omega⟩;simp[Builtin.clear_,run_underlying k,i,a]
theorem MM(bt:Nat)(av:Int)(x:D)(w:World)(h:w.cell? ⟨bt,0,none⟩=some (.int .i64 av))(hb:bt<w.heap.size):
  Calls prog 186 #[vD x,.pointer (some ⟨bt,0,none⟩)] w λe a=>e=.returned (.bool (decide (x.t<=av)))/\Below w.heap.size w a:=by
 simp only[vD];go_enter func186,ntmps186;go_wp2;go_ret;exact⟨rfl,wh _ _⟩
theorem Aa(base:Nat)(v:Value)(R:List D)(g:Nat)(cb:Array Value)(q:D->Bool)(w:World)(eg:∀args w,(callFunc g args).run prog w=.ok (.enter g args) w)(h:w.ownsRow base 130 4 v R.length (R.flatMap ak))(hR:R.length<=100000)
  (i:∀(W:World) (x:D),Below w.heap.size w W->Calls prog g (#[vD x]++cb) W λe m=>e=.returned (.bool (q x))/\Below W.heap.size W m):
  Calls prog 251 #[v,.func (.func g) #[] cb] w λe m=>Below w.heap.size w m/\((e=.returned (.int .i64 (-1))/\∀x∈R,q x=false)∨∃k:Nat,k<R.length/\e=.returned (.int .i64 k)/\(∀x,R[k]?=some x->q x=true)/\∀j x,j<k->R[j]?=some x->q x=false):=by
 rcases ownsRow_forms h with⟨rfl,o⟩|⟨gs,ck,rfl⟩
 .obtain rfl:R=[]:=nD o;clear h o i;go_enter func251,ntmps251;go_wp2;refine wp_loop_rounds 1 ?_;rw[rounds_succ];go_wp2;go_ret;exact⟨zI _ _,Or.inl ⟨rfl,by simp⟩⟩
 .have E:=hid h;have z:=hid i;clear h i;go_enter func251,ntmps251;go_wp2
  go_loopg [8] R.length (λg C wr=>∃k:Nat,k<=R.length/\g=R.length -k/\C=.int .i64 k/\Hid (Below w.heap.size w wr/\∀j x,j<k->R[j]?=some x->q x=false))
  case atStart=>exact⟨0,gy _,rfl,rfl,⟨zI _ _,λj x c=>absurd c (Nat.not_lt_zero _)⟩⟩
  case round=>
   obtain⟨k,hk,t,rfl,I⟩:=hrel;have u:=hid t;clear t
   by_cases hlt:k<R.length
   .obtain⟨x,hx⟩:∃x,R[k]?=some x:=⟨_,dK hlt⟩;have l:=jo (aL E.out I.out.1) k x hx;have s:=hid hx;have f:=z.out wr x I.out.1
    have i1:(0:Int)<=(k:Int):=by omega
    have B:(k:Int)<(R.length:Int):=by omega
    have i3:(R.length:Int)<=100000:=by omega
    simp only[vD]at f;clear hx;go_wp2_with fail;refine f.mono ?_;rintro e r ⟨rfl,b⟩;have p:Hid (Below w.heap.size w r):=I.out.1.trans (b.mono I.out.1.size);clear f b l;cases hq:q x
    .have A:Hid (Below w.heap.size w r/\∀j x,j<k+1->R[j]?=some x->q x=false):=⟨p.out,λj y c a=>by
      by_cases e:j=k
      .subst e;rw[s.out]at a;cases a;exact hq
      .exact I.out.2 j y (by omega) a⟩
     clear hq;go_wp2
     go_roundg (R.length -(k+1))
     case measure=>have:=u.out;omega
     case rel=>exact⟨k+1,by omega,rfl,by first|rfl|(congr 1;omega)|go_num,A⟩
    .have F:=hid hq;clear hq;go_wp2;go_ret;exact⟨p.out,Or.inr ⟨k,hlt,rfl,λy a=>by rw[s.out]at a;cases a;exact F.out,I.out.2⟩⟩
   .have B:¬((k:Int)<(R.length:Int)):=by omega
    go_wp2;go_ret;refine⟨I.out.1,Or.inl ⟨rfl,λy a=>?_⟩⟩;obtain⟨j,c,e⟩:=List.mem_iff_getElem.1 a;exact I.out.2 j y (by omega) (by rw[dK c,e])
end
section
open Go.Proofs.Tryz Go.Joins Go.Shelf
variable{q:D->Bool}{R L:List D}{i j g:Nat}{x:D}{w W:World}
def keepR(q:D->Bool)(R:List D):List D:=R.filter λx=>!q x
structure Kept(q:D->Bool)(R L:List D)(i j:Nat):Prop where
 len:L.length=R.length
 front:L.take i=keepR q (R.take j)
 rest:∀k,j<=k->L[k]?=R[k]?
theorem uR(q:D->Bool)(R:List D)(j:Nat)(x:D)(h:R[j]?=some x):keepR q (R.take (j+1))=keepR q (R.take j)++if q x=true then[]else[x]:=by
 unfold keepR;rw[List.take_add_one,h,List.filter_append]
 cases hq:q x <;>simp[hq]
theorem Kept.start{k:Nat}(f:k<R.length)(d:∀x,R[k]?=some x->q x=true)(b:∀j x,j<k->R[j]?=some x->q x=false):Kept q R R k (k+1):=by
 refine⟨rfl,?_,λ_ _=>rfl⟩;obtain⟨x,hx⟩:∃x,R[k]?=some x:=⟨_,dK f⟩;rw[uR q R k x hx,if_pos (d x hx),List.append_nil];unfold keepR;rw[List.filter_eq_self.2];intro y c;obtain⟨j,a,e⟩:=List.mem_iff_getElem.1 c;rw[List.length_take]at a;rw[List.getElem_take]at e;rw[b j y (by omega) (by rw[dK (by omega),e])];rfl
theorem Kept.skip(h:Kept q R L i j)(b:R[j]?=some x)(a:q x=true):Kept q R L i (j+1):=
 ⟨h.len,by rw[uR q R j x b,if_pos a,List.append_nil];exact h.front,λk hk=>h.rest k (by omega)⟩
theorem Kept.put(h:Kept q R L i j)(hij:i<j)(hj:j<R.length)(b:R[j]?=some x)(a:q x=false):Kept q R (L.set i x) (i+1) (j+1):=by
 have hl:=h.len;refine⟨by rw[List.length_set];exact h.len,?_,λk hk=>?_⟩
 .rw[uR q R j x b,if_neg (by rw[a];simp),<-h.front,List.take_add_one,List.take_set_of_le (aO _),List.getElem?_set_self (by omega)];rfl
 .rw[List.getElem?_set_ne (by omega)];exact h.rest k (by omega)
theorem Kept.all(h:Kept q R L i R.length):L.take i=keepR q R:=by
 rw[h.front,List.take_length]
theorem lJ{b:World}{r:Option Nat}(h:w.grownBy W r)(a:Below W.heap.size W b):w.grownBy b r:=
 h.trans ⟨a.os,a.tape,a.output,a.size,λk c _=>a.block k c⟩
theorem kr{u:Value}(h:w.grownBy W (some g)):w.grownBy (W.setCell ⟨g,j,none⟩ u) (some g):=
 h.trans ⟨rfl,rfl,rfl,by simp,λk _ a=>zw _ _ _ _ (λe=>a (by rw[e]))⟩
theorem kV(vs:List Value):∀{W:World} (o:Nat),w.grownBy W (some g)->w.grownBy (W.setCells g o vs) (some g):=by
 induction vs with
 |nil=>intro W o h;exact h
 |cons v r ih=>intro W o h;exact ih (o+1) (kr h)
theorem TP(w:World):(zeroValue 130).run prog w=.ok zD w:=by kernel_rfl
theorem C8(n:Nat):(Builtin.zeroCells zD.cells n).toList.length=n*4:=by
 simp[Builtin.zeroCells,zD,Value.cells]
theorem WE(n:Nat):∀v∈(Builtin.zeroCells zD.cells n).toList,v.oneCell'=true:=by
 intro v b;simp[Builtin.zeroCells,zD,Value.cells]at b;obtain⟨a,_,rfl⟩:=b;have:a % 4<4:=Nat.mod_lt _ (by omega)
 rcases(show a % 4=0∨a % 4=1∨a % 4=2∨a % 4=3 by omega)with h|h|h|h <;>(simp only[h];rfl)
theorem pU{base n cap:Nat}(h:W.ownsRow base 130 4 (.slice (some ⟨g,0,none⟩) n cap) n (R.flatMap ak))(hn:R.length=n)(j:Nat)(hj:j<n*4):(W.cell? ⟨g,j,none⟩).isSome=true/\W.frozen? ⟨g,j,none⟩=false:=by
 rcases h.2 with⟨a,_⟩|⟨g',cap',cur,a,hb,d,h2,h3,h4,h5⟩
 .cases a
 .cases a
  have c:j<(R.flatMap ak).length:=by rw[gG];omega
  have b:=h.cells (g:=g) rfl j _ (dK c);rw[bZ]at b;exact⟨by rw[b];rfl,x9 d j⟩
theorem y8(base:Nat)(v:Value)(R:List D)(g:Nat)(cb:Array Value)(q:D->Bool)(w:World)(eg:∀args w,(callFunc g args).run prog w=.ok (.enter g args) w)(h:w.ownsRow base 130 4 v R.length (R.flatMap ak))(hR:R.length<=100000)
  (N:∀(W:World) (x:D),w.grownBy W v.ownBlock->Calls prog g (#[vD x]++cb) W λe H=>e=.returned (.bool (q x))/\Below W.heap.size W H):
  Calls prog 185 #[v,.func (.func g) #[] cb] w λe H=>∃v',e=.returned v'/\H.ownsRow base 130 4 v' (keepR q R).length ((keepR q R).flatMap ak)/\w.grownBy H v.ownBlock/\v'.ownBlock=v.ownBlock:=by
 have F:=Aa base v R g cb q w eg h hR (λW x z=>N W x ⟨z.os,z.tape,z.output,z.size,λk A _=>z.block k A⟩);have K:=hid h;have HF:=hid N;clear h N;have c:=F;clear F;go_enter func185,ntmps185;go_wp2_with fail;refine c.mono ?_;rintro e w1 ⟨a,S⟩;have Z:Hid (w.grownBy w1 v.ownBlock):=⟨a.os,a.tape,a.output,a.size,λk A _=>a.block k A⟩;have R1:Hid (w1.ownsRow base 130 4 v R.length (R.flatMap ak)):=aL K.out a;clear a c
 rcases S with⟨rfl,r⟩|⟨k,A,rfl,s,y⟩
 .have e1:Hid (keepR q R=R):=by
   show keepR q R=R;unfold keepR;rw[List.filter_eq_self.2];intro x p;rw[r x p];rfl
  clear r;go_wp2;go_ret;exact⟨v,rfl,by rw[e1.out];exact R1.out,Z.out,rfl⟩
 .have K0:Hid (Kept q R R k (k+1)):=Kept.start A s y;clear s y;obtain⟨gs,f,rfl⟩:=yg K.out (by omega)
  have hck:R.length<=f:=by
   rcases K.out.2 with⟨T,_⟩|⟨g',cap',cur,T,_,_,h2,_⟩
   .cases T
   .cases T;exact h2
  have X:gs<w.heap.size:=(K.out.lt gs rfl).2
  have i0:(k:Int)<=100000:=by omega
  have i3:(R.length:Int)<=100000:=by omega
  have k1:((k:Int)== -1)=false:=by rw[beq_eq_false_iff_ne];omega
  have k1':(k:Int)≠ -1:=by omega
  go_wp2
  go_loopg [5,6] (R.length -(k+1)) (λgg v5 v6 wr=>∃(i j:Nat) (L:List D),i<j/\j<=R.length/\gg=R.length -j/\v5=.int .i64 i/\v6=.int .i64 j/\Hid (Kept q R L i j/\wr.ownsRow base 130 4 (.slice (some ⟨gs,0,none⟩) R.length f) R.length (L.flatMap ak)/\w.grownBy wr (some gs)))
  case atStart=>exact⟨k,k+1,R,by omega,by omega,rfl,rfl,by first|rfl|(congr 1;omega)|go_num,⟨K0.out,R1.out,Z.out⟩⟩
  case round=>
   obtain⟨i,j,L,U,hjn,hg,rfl,rfl,I⟩:=hrel;have HG:=hid hg;clear hg;have hgw:gs<wr.heap.size:=fO X I.out.2.2.size
   by_cases hlt:j<R.length
   .obtain⟨x,p⟩:∃x,R[j]?=some x:=⟨_,dK hlt⟩;have E:L[j]?=some x:=(I.out.1.rest j (aO _)).trans p;have P:=jo I.out.2.1 j x E;have HX:=hid p;have HL:=hid I.out.1.len;have M:=HF.out (wr.alloc (.cells #[.int .i64 x.k,.int .i64 x.t,.int .i64 x.v,.int .i64 x.n] 130)) x (lJ I.out.2.2 (wh _ _))
    have i1:(0:Int)<=(j:Int):=by omega
    have i2:(j:Int)<(R.length:Int):=by omega
    have i4:(0:Int)<=(i:Int):=by omega
    have i5:(i:Int)<(R.length:Int):=by omega
    simp only[vD]at M;clear p E;go_wp2_with fail;refine M.mono ?_;rintro e d ⟨rfl,l⟩;have Y:d.heap[wr.heap.size]?=some (.cells #[.int .i64 x.k,.int .i64 x.t,.int .i64 x.v,.int .i64 x.n] 130):=(l.block _ (by simp)).trans (vw _ _)
    have hc3:d.cell? ⟨wr.heap.size,0,none⟩=some (.int .i64 x.k)/\d.cell? ⟨wr.heap.size,1,none⟩=some (.int .i64 x.t)/\d.cell? ⟨wr.heap.size,2,none⟩=some (.int .i64 x.v)/\d.cell? ⟨wr.heap.size,3,none⟩=some (.int .i64 x.n):=by
     refine⟨?_,?_,?_,?_⟩ <;>(rw[vE Y];rfl)
    have m:Hid (Kept q R L i j/\d.ownsRow base 130 4 (.slice (some ⟨gs,0,none⟩) R.length f) R.length (L.flatMap ak)/\w.grownBy d (some gs)):=
     ⟨I.out.1,aL (aL I.out.2.1 (wh _ _)) l,lJ (lJ I.out.2.2 (wh _ _)) l⟩
    clear M l P Y;cases hq:q x
    .have b:=λu hu=>pU m.out.2.1 HL.out (i*4+u) hu
     have f0:=b 0 (by omega);have f1:=b 1 (by omega);have f2:=b 2 (by omega);have f3:=b 3 (by omega);rw[Nat.add_zero]at f0;obtain⟨u0,e0⟩:=qC.1 f0.1;obtain⟨u1,e1⟩:=qC.1 f1.1;obtain⟨u2,e2⟩:=qC.1 f2.1;obtain⟨u3,e3⟩:=qC.1 f3.1;have z0:=f0.2;have z1:=f1.2;have z2:=f2.2;have z3:=f3.2
     have V:Hid (Kept q R (L.set i x) (i+1) (j+1)/\((((d.setCell ⟨gs,i*4,none⟩ (.int .i64 x.k)).setCell ⟨gs,i*4+1,none⟩ (.int .i64 x.t)).setCell ⟨gs,i*4+2,none⟩ (.int .i64 x.v)).setCell ⟨gs,i*4+3,none⟩ (.int .i64 x.n)).ownsRow base 130 4 (.slice (some ⟨gs,0,none⟩) R.length f) R.length ((L.set i x).flatMap ak)/\
       w.grownBy ((((d.setCell ⟨gs,i*4,none⟩ (.int .i64 x.k)).setCell ⟨gs,i*4+1,none⟩ (.int .i64 x.t)).setCell ⟨gs,i*4+2,none⟩ (.int .i64 x.v)).setCell ⟨gs,i*4+3,none⟩ (.int .i64 x.n)) (some gs)):=
      ⟨m.out.1.put U hlt HX.out hq,ML m.out.2.1 i x (by have:=HL.out;omega),kr (kr (kr (kr m.out.2.2)))⟩
     clear hq b f0 f1 f2 f3;go_wp2
     go_roundg (R.length -(j+1))
     case measure=>have:=HG.out;omega
     case rel=>exact⟨i+1,j+1,L.set i x,by omega,by omega,rfl,by first|rfl|(congr 1;omega)|go_num,by first|rfl|(congr 1;omega)|go_num,V⟩
    .have V:Hid (Kept q R L i (j+1)/\d.ownsRow base 130 4 (.slice (some ⟨gs,0,none⟩) R.length f) R.length (L.flatMap ak)/\w.grownBy d (some gs)):=⟨m.out.1.skip HX.out hq,m.out.2.1,m.out.2.2⟩;clear hq;go_wp2
     go_roundg (R.length -(j+1))
     case measure=>have:=HG.out;omega
     case rel=>exact⟨i,j+1,L,by omega,by omega,rfl,rfl,by first|rfl|(congr 1;omega)|go_num,V⟩
   .have C:Hid (Kept q R L i R.length):=by
     have e:j=R.length:=by omega
     show Kept q R L i R.length;rw[<-e];exact I.out.1
    have i2:¬((j:Int)<(R.length:Int)):=by omega
    have i4:(0:Int)<=(i:Int):=by omega
    have i5:(i:Int)<=(R.length:Int):=by omega
    have i6:i<=f:=by omega
    have i7:¬f=i:=by omega
    have B:∀ty,(Builtin.clear_ #[67] ty #[.slice (some ⟨gs,i*4,none⟩) (R.length -i) (f -i)]).run prog wr=.ok (.tuple #[]) (wr.setCells gs (i*4) (Builtin.zeroCells zD.cells (R.length -i)).toList):=λty=>
     wH wr 67 130 ty zD underlying67 TP gs (i*4) (R.length -i) (f -i) (by omega) (WE _)
      (λt Q=>by rw[C8]at Q;exact(pU I.out.2.1 C.out.len (i*4+t) (by omega)).1) (λt Q=>by rw[C8]at Q;exact(pU I.out.2.1 C.out.len (i*4+t) (by omega)).2)
    have G:Hid ((wr.setCells gs (i*4) (Builtin.zeroCells zD.cells (R.length -i)).toList).ownsRow base 130 4 (.slice (some ⟨gs,0,none⟩) i f) (keepR q R).length ((keepR q R).flatMap ak)/\w.grownBy (wr.setCells gs (i*4) (Builtin.zeroCells zD.cells (R.length -i)).toList) (some gs)):=by
     have ha:=Jd (gH (Builtin.zeroCells zD.cells (R.length -i)).toList (i*4) I.out.2.1) i (by omega);rw[MJ _ _ _ _ (aO _),<-qU,C.out.all]at ha
     have o:(keepR q R).length=i:=by
      rw[<-C.out.all,List.length_take,C.out.len];omega
     refine⟨?_,kV _ _ I.out.2.2⟩;rw[o];exact ha
    revert B G;generalize wr.setCells gs (i*4) (Builtin.zeroCells zD.cells (R.length -i)).toList=wz;intro B G;go_wp2;go_ret;exact⟨_,rfl,G.out.1,G.out.2,rfl⟩
end
section
open Go.Joins Go.Shelf
variable{b o base:Nat}{u v:Value}{i:Option Nat}{w d f:World}
structure l8(b o:Nat)(u:Value)(i:Option Nat)(w d:World):Prop where
 os:d.os=w.os
 tape:d.tape=w.tape
 output:d.output=w.output
 size:w.heap.size<=d.heap.size
 block:∀k,k<w.heap.size->k≠b->i≠some k->d.heap[k]?=w.heap[k]?
 this:d.heap[b]?=(w.setCell ⟨b,o,none⟩ u).heap[b]?
theorem l8.below{B:Nat}(h:l8 b o u i w d)(hB:B<=w.heap.size)(hb:B<=b)(a:∀k,i=some k->B<=k):Below B w d:=
 ⟨h.os,h.tape,h.output,h.size,λk hk=>h.block k (by omega) (by omega) (λe=>by have:=a k e;omega)⟩
theorem Ab(h:d.heap[b]?=w.heap[b]?):(d.setCell ⟨b,o,none⟩ u).heap[b]?=(w.setCell ⟨b,o,none⟩ u).heap[b]? :=by
 simp only[World.setCell,Array.getElem?_modify,h]
theorem vX{v':Value}{R R':List D}(q:bB w base b o v R)(h:f.ownsRow base 130 4 v' R'.length (R'.flatMap ak))(l:v'.ownBlock≠some b)(c:w.grownBy f v.ownBlock):
  bB (f.setCell ⟨b,o,none⟩ v') base b o v' R'/\l8 b o v' v.ownBlock w (f.setCell ⟨b,o,none⟩ v'):=by
 have m:=q.lt;obtain⟨cs,T,p,n⟩:=q.blk;have r:=q.own;have a:f.heap[b]?=w.heap[b]? :=c.block b m (λe=>r e.symm);refine⟨⟨⟨_,_,yc (a.trans p) v',?_⟩,?_,l⟩,?_⟩
 .have:=(aD.1 n).1;simp[this]
 .refine h.kept (row:=some b) ⟨rfl,rfl,rfl,by simp,λk j g=>?_⟩ (Or.inr l);exact zw _ _ _ _ (λe=>g (by rw[e]))
 .refine⟨c.os,c.tape,c.output,by simpa using c.size,λk j p n=>?_,Ab a⟩;rw[zw _ _ _ _ p];exact c.block k j (λe=>n e.symm)
theorem grown_of{W:World}(a:Below w.heap.size w W)(c:W.grownBy f i):w.grownBy f i:=
 ⟨c.os.trans a.os,c.tape.trans a.tape,c.output.trans a.output,di a.size c.size,λk e g=>(c.block k (fO e a.size) g).trans (a.block k e)⟩
theorem jq{n:Nat}{xs:List Value}(h:w.ownsRow base 130 4 v n xs):∃a c,v=.slice a n c:=by
 rcases h.2 with⟨rfl,e⟩|⟨g,cap,cur,rfl,_⟩
 .exact⟨none,0,by rw[e]⟩
 .exact⟨_,_,rfl⟩
theorem AY(base b o:Nat)(v:Value)(R:List D)(av:Int)(w:World)(h:bB w base b o v R)(E:R.length<=100000):
  Calls Tryz.prog 112 #[.pointer (some ⟨b,o,none⟩),.int .i64 av] w λe d=>e=.returned (.int .i64 ((R.length:Int) -((keepR (λx=>decide (x.t<=av)) R).length:Int)))/\∃v',bB d base b o v' (keepR (λx=>decide (x.t<=av)) R)/\l8 b o v' v.ownBlock w d/\v'.ownBlock=v.ownBlock:=by
 have B:=h.cell;have q:=h.lt;have G:∀args w,(callFunc 186 args).run Tryz.prog w=.ok (.enter 186 args) w:=enters_of Tryz.func186 (by kernel_rfl) rfl;have s:Below w.heap.size w (w.alloc (.cells #[.int .i64 av] 3)):=wh _ _
 have j:v.ownBlock≠some w.heap.size:=λe=>by have:=(h.row.lt _ e).2;omega
 have hd:=y8 base v R 186 #[.pointer (some ⟨w.heap.size,0,none⟩)] (λx=>decide (x.t<=av)) (w.alloc (.cells #[.int .i64 av] 3)) G (h.below s).row E (λW x F=>by
  have k:W.heap[w.heap.size]?=some (.cells #[.int .i64 av] 3):=(F.block w.heap.size (by simp) (λe=>j e.symm)).trans (vw _ _)
  exact MM w.heap.size av x W (by rw[vE k];rfl) (aD.1 k).1)
 have y:Hid (∀v' g,g.ownsRow base 130 4 v' (keepR (λx=>decide (x.t<=av)) R).length ((keepR (λx=>decide (x.t<=av)) R).flatMap ak)->v'.ownBlock=v.ownBlock->(w.alloc (.cells #[.int .i64 av] 3)).grownBy g v.ownBlock->(g.cell? ⟨b,o,none⟩=some v/\g.frozen? ⟨b,o,none⟩=false)/\bB (g.setCell ⟨b,o,none⟩ v') base b o v' (keepR (λx=>decide (x.t<=av)) R)/\l8 b o v' v.ownBlock w (g.setCell ⟨b,o,none⟩ v')):=by
  intro v' g n l p;have c:g.heap[b]?=w.heap[b]? :=(grown_of s p).block b q (λe=>h.own e.symm);exact⟨⟨(World.cell?_of_block (w:=w) (a:=⟨b,o,none⟩) c).trans B.1,(World.frozen?_of_block (w:=w) (a:=⟨b,o,none⟩) c).trans B.2⟩,vX h n (by rw[l];exact h.own) (grown_of s p)⟩
 have hkl:(keepR (λx=>decide (x.t<=av)) R).length<=R.length:=oo _ _;obtain⟨C,A,rfl⟩:=h.form;generalize keepR (λx=>decide (x.t<=av)) R=K at *
 have i1:(K.length:Int)<=(R.length:Int):=by omega
 have i2:(R.length:Int)<=100000:=by omega
 clear h j;go_enter Tryz.func112,Tryz.ntmps112;go_wp2_with fail;refine hd.mono ?_;rintro e g ⟨v',rfl,n,p,l⟩;obtain⟨c,z,m⟩:=y.out v' g n l p;have c2:=c.1;have f2:=c.2;have r:Hid (bB (g.setCell ⟨b,o,none⟩ v') base b o v' K/\l8 b o v' (Value.slice C R.length A).ownBlock w (g.setCell ⟨b,o,none⟩ v')/\v'.ownBlock=(Value.slice C R.length A).ownBlock):=⟨z,m,l⟩;obtain⟨oa',c',rfl⟩:=jq n;clear z m l n p hd y c;go_wp2;go_ret;exact⟨rfl,_,r.out.1,r.out.2.1,r.out.2.2⟩
end
section
open Go.Shelf
variable{c wr:World}{base b d p i:Nat}{R:List D}{key av:Int}{vm:Value}
def meets(key av:Int)(x:D):Bool:=decide (x.k=key/\x.t<=av)
def sH(x:D):D:={ x with n:=bR x.n}
def bF(key fH av:Int)(R:List D):List D:=(R.drop (aV key fH R)).takeWhile (meets key av)
def fo(R:List D)(p i:Nat):List D:=R.take p++(((R.drop p).take i).map sH++R.drop (p+i))
theorem uS(R:List D)(p:Nat):fo R p 0=R:=by simp[fo]
theorem y9(R:List D)(p i:Nat)(h:p+i<=R.length):(fo R p i).length=R.length:=by
 simp[fo];omega
theorem C9(R:List D)(p i k:Nat)(h:p+i<=R.length):(fo R p i)[k]?=if p<=k/\k<p+i then(R[k]?).map sH else R[k]? :=by
 have e:(R.take p).length=p:=by rw[List.length_take];omega
 have a:(((R.drop p).take i).map sH).length=i:=by rw[List.length_map,List.length_take,List.length_drop];omega
 unfold fo
 by_cases k1:k<p
 .rw[if_neg (by omega),sZ (by rw[e];exact k1),rM k1]
 .rw[pY (by rw[e];omega),e]
  by_cases k2:k<p+i
  .rw[if_pos (by omega),sZ (by rw[a];omega),List.getElem?_map,rM (by omega),List.getElem?_drop,show p+(k -p)=k by omega]
  .rw[if_neg (by omega),pY (by rw[a];omega),a,List.getElem?_drop,show p+i+(k -p -i)=k by omega]
theorem FX(R:List D)(p i:Nat)(h:p+i<R.length):(fo R p i)[p+i]?=R[p+i]? :=by
 rw[C9 R p i _ (by omega),if_neg (by omega)]
theorem MN(R:List D)(p i:Nat)(x:D)(a:R[p+i]?=some x):fo R p (i+1)=(fo R p i).set (p+i) (sH x):=by
 have h:p+i<R.length:=(kH.1 a).1;apply vg;intro k;rw[C9 R p (i+1) k (by omega)]
 by_cases e:k=p+i
 .subst e;rw[List.getElem?_set_self (by rw[y9 R p i (by omega)];exact h),if_pos (by omega),a];rfl
 .rw[List.getElem?_set_ne (by omega),C9 R p i k (by omega)]
  by_cases k1:p<=k/\k<p+i
  .rw[if_pos k1,if_pos (by omega)]
  .rw[if_neg k1,if_neg (by omega)]
theorem Da(q:D->Bool)(T:List D)(i:Nat)(hi:i<=T.length)(g:∀j x,j<i->T[j]?=some x->q x=true)(f:∀x,T[i]?=some x->q x=false):T.takeWhile q=T.take i:=by
 induction T generalizing i with
 |nil=>simp
 |cons a r ih=>
  cases i with
  |zero=>
   have:=f a rfl;simp[this]
  |succ i=>
   have h:=g 0 a (by omega) rfl;rw[List.takeWhile_cons,if_pos h,List.take_succ_cons,ih i (by simpa using hi) (λj x hj e=>g (j+1) x (by omega) (by simpa using e)) (λx e=>f x (by simpa using e))]
theorem Je(R:List D)(i:Nat)(x:D)(m:Int)(e:R[i]?=some x):(R.set i { x with n:=m}).flatMap ak=(R.flatMap ak).set (i*4+3) (.int .i64 m):=by
 induction R generalizing i with
 |nil=>simp at e
 |cons a r ih=>
  cases i with
  |zero=>simp at e;subst e;simp[ak]
  |succ i=>
   rw[List.set_cons_succ,List.flatMap_cons,List.flatMap_cons,ih i (by simpa using e)];simp[ak,show(i+1)*4+3=i*4+3+1+1+1+1 by omega]
structure Mt(c:World)(base b d p:Nat)(R:List D)(key av:Int)(i:Nat)(vm:Value)(wr:World):Prop where
 grown:c.grownBy wr (some b)
 row:wr.ownsRow base 130 4 (.slice (some ⟨b,0,none⟩) R.length d) R.length ((fo R p i).flatMap ak)
 met:wr.ownsRow c.heap.size 130 4 vm ((R.drop p).take i).length (((R.drop p).take i).flatMap ak)
 all:∀j x,j<i->R[p+j]?=some x->meets key av x=true
theorem Mt.start(h:c.ownsRow base 130 4 (.slice (some ⟨b,0,none⟩) R.length d) R.length (R.flatMap ak)):Mt c base b d p R key av 0 (.slice none 0 0) c:=
 ⟨⟨rfl,rfl,rfl,aO _,λ_ _ _=>rfl⟩,by rw[uS];exact h,Ak _ _ _ _,λj x a=>absurd a (Nat.not_lt_zero _)⟩
theorem Mt.step{W l:World}{s C:Nat}{x:D}(h:Mt c base b d p R key av i vm wr)(E:b<c.heap.size)(t:R[p+i]?=some x)(H:meets key av x=true)
  (m:Below wr.heap.size wr W) (g:l.ownsRow c.heap.size 130 4 (.slice (some ⟨s,0,none⟩) (((R.drop p).take i).length+1) C) (((R.drop p).take i).length+1) (((R.drop p).take i).flatMap ak++ak x)) (q:W.grownBy l vm.ownBlock):
  Mt c base b d p R key av (i+1) (.slice (some ⟨s,0,none⟩) (((R.drop p).take i).length+1) C) (l.setCell ⟨b,(p+i)*4+3,none⟩ (.int .i64 (bR x.n)))/\
   (∀j,j<R.length*4->(l.cell? ⟨b,j,none⟩).isSome=true/\l.frozen? ⟨b,j,none⟩=false):=by
 have v:p+i<R.length:=(kH.1 t).1;have hgw:b<W.heap.size:=fO E (di h.grown.size m.size)
 have B:vm.ownBlock≠some b:=λe=>by have:=(h.met.lt b e).1;omega
 have a:l.ownsRow base 130 4 (.slice (some ⟨b,0,none⟩) R.length d) R.length ((fo R p i).flatMap ak):=by
  refine(aL h.row m).kept q (Or.inr ?_);simp only[Value.ownBlock]
  exact λe=>B e.symm
 have f:c.grownBy l (some b):=by
  refine⟨q.os.trans (m.os.trans h.grown.os),q.tape.trans (m.tape.trans h.grown.tape),q.output.trans (m.output.trans h.grown.output),di h.grown.size (di m.size q.size),λk G o=>?_⟩;have r:k<wr.heap.size:=fO G h.grown.size;have w:k<W.heap.size:=fO r m.size;exact((q.block k w (λe=>by have:=(h.met.lt k e.symm).1;omega)).trans (m.block k r)).trans (h.grown.block k G o)
 have z:(R.drop p).take (i+1)=(R.drop p).take i++[x]:=by
  rw[List.take_add_one,List.getElem?_drop,t];rfl
 have u:s≠b:=λe=>by have:=(g.lt s rfl).1;omega
 refine⟨⟨kr f,?_,?_,λj y F A=>?_⟩,λj F=>pU a (y9 R p i (by omega)) j F⟩
 .rw[MN R p i x t];have:=vW a ((p+i)*4+3) (.int .i64 (bR x.n));rw[<-Je (fo R p i) (p+i) x (bR x.n) ((FX R p i v).trans t)]at this;exact this
 .have I:l.ownsRow c.heap.size 130 4 (.slice (some ⟨s,0,none⟩) (((R.drop p).take i).length+1) C) ((R.drop p).take (i+1)).length (((R.drop p).take (i+1)).flatMap ak):=by
   rw[z,List.length_append,List.flatMap_append];simpa using g
  refine I.kept (row:=some b) ⟨rfl,rfl,rfl,by simp,λk _ o=>zw _ _ _ _ (λe=>o (by rw[e]))⟩ (Or.inr (by simp[Value.ownBlock];exact u))
 .by_cases e:j=i
  .subst e;rw[t]at A;cases A;exact H
  .exact h.all j y (by omega) A
theorem Mt.met_is{fH:Int}(h:Mt c base b d (aV key fH R) R key av i vm wr)(hi:aV key fH R+i<=R.length)(f:∀x,R[aV key fH R+i]?=some x->meets key av x=false):bF key fH av R=(R.drop (aV key fH R)).take i:=by
 unfold bF;refine Da _ _ i (by simp;omega) (λj x e a=>h.all j x e (by rwa [List.getElem?_drop]at a)) (λx a=>f x (by rwa [List.getElem?_drop]at a))
end
section
open Go.Proofs.Tryz Go.Joins Go.Shelf
variable{c wr:World}{base a d i:Nat}{R:List D}{key av:Int}{vm:Value}
theorem Mt.go{W:World}{p:Nat}(h:Mt c base a d p R key av i vm wr)(b:Below wr.heap.size wr W):Mt c base a d p R key av i vm W:=
 ⟨lJ h.grown b,aL h.row b,aL h.met b,h.all⟩
theorem Mt.ends{w:World}{b o:Nat}{fH:Int}(g:bB w base b o (.slice (some ⟨a,0,none⟩) R.length d) R)(f:Below w.heap.size w c)(h:Mt c base a d (aV key fH R) R key av i vm wr)(hi:aV key fH R+i<=R.length)
  (l:∀x,R[aV key fH R+i]?=some x->meets key av x=false):
  wr.ownsRow w.heap.size 130 4 vm (bF key fH av R).length ((bF key fH av R).flatMap ak)/\bB wr base b o (.slice (some ⟨a,0,none⟩) R.length d) (fo R (aV key fH R) (bF key fH av R).length)/\w.grownBy wr (some a):=by
 have p:=h.met_is hi l
 have m:(bF key fH av R).length=i:=by rw[p,List.length_take,List.length_drop];omega
 have n:a≠b:=λe=>g.own (by rw[<-e];rfl)
 have j:b<c.heap.size:=fO g.lt f.size;refine⟨?_,⟨?_,?_,g.own⟩,?_⟩
 .rw[p];exact ownsRow_le h.met f.size
 .have m:=g.lt;obtain⟨cs,T,r,l⟩:=g.blk;exact⟨cs,T,(h.grown.block b j (λe=>n (by cases e;rfl))).trans ((f.block b m).trans r),l⟩
 .rw[m,y9 R _ i hi];exact h.row
 .exact⟨h.grown.os.trans f.os,h.grown.tape.trans f.tape,h.grown.output.trans f.output,di f.size h.grown.size,λk q s=>(h.grown.block k (fO q f.size) s).trans (f.block k q)⟩
theorem AU(base b o:Nat)(v:Value)(R:List D)(key fH av:Int)(w:World)(h:bB w base b o v R)(hs:ay R)(hR:R.length<=100000)(hn:∀x∈R,-9223372036854775808<=x.n/\x.n<=9223372036854775807):
  Calls prog 103 #[.pointer (some ⟨b,o,none⟩),.int .i64 key,.int .i64 fH,.int .i64 av] w λe F=>∃vm,e=.returned vm/\F.ownsRow w.heap.size 130 4 vm (bF key fH av R).length ((bF key fH av R).flatMap ak)/\
   bB F base b o v (fo R (aV key fH R) (bF key fH av R).length)/\w.grownBy F v.ownBlock:=by
 obtain⟨i0,hi,X,hz1,hz2⟩:=Dw xm
 have hk:=λp os=>(h.below (below_regrown w p os)).cell
 have T:Hid (∀p os,Calls prog 171 #[.pointer (some ⟨b,o,none⟩),.int .i64 key,.int .i64 fH] (Go.Sort.grow (redrawn w p) os) λe F=>e=.returned (.int .i64 (aV key fH R))/\Below (Go.Sort.grow (redrawn w p) os).heap.size (Go.Sort.grow (redrawn w p) os) F):=
  λp os=>BG base b o v R key fH _ (h.below (below_regrown w p os)) hs hR
 have z:=hid h;have HN:=hid hn;have hp:=QW key fH R;have hlt:=h.lt;have K:∃p,p=aV key fH R:=⟨_,rfl⟩;obtain⟨p,W⟩:=K;have r:=hid W;rw[<-W]at T hp;clear h hs hn W
 rcases ownsRow_forms z.out.row with⟨rfl,h0⟩|⟨a,d,rfl⟩
 .have hR0:Hid (R=[]):=nD h0
  have p0:p=0:=by omega
  subst p0;have e0:R.length=0:=h0;go_enter func103,ntmps103;go_wp2;refine wp_region_quiet_below (by kernel_rfl) (by kernel_rfl) ?_
  repeat (quiet_step (first|(go_at_call 171;exact Calls.regrown_of (T.out _ _))|fail))
  refine wpQuiet_nil ?_;intro _ C;obtain⟨⟨dq,l⟩,m⟩:=C;subst m;go_wp2;refine wp_loop_rounds 1 ?_;rw[rounds_succ];go_wp2;go_ret;have G:=below_regrown w dq l
  have hm:bF key fH av R=[]:=by rw[hR0.out];rfl
  refine⟨_,rfl,?_,?_,⟨G.os,G.tape,G.output,G.size,λk hk _=>G.block k hk⟩⟩
  .rw[hm];exact Ak _ _ _ _
  .rw[hm,List.length_nil,uS];exact z.out.below G
 .have hgs:a<w.heap.size:=(z.out.row.lt a rfl).2
  have hck:R.length<=d:=by
   rcases z.out.row.2 with⟨h1,_⟩|⟨g',cap',cur,h1,_,_,S,_⟩
   .cases h1
   .cases h1;exact S
  have i1:(0:Int)<=(p:Int):=by omega
  have i2:(p:Int)<=(R.length:Int):=by omega
  have i3:(R.length:Int)<=100000:=by omega
  have i4:p<=d:=by omega
  obtain⟨A,hA,hA2⟩:∃A:Addr,(if d=p then some (⟨a,0,none⟩:Addr)else some ⟨a,p*4,none⟩)=some A/\(p<R.length->A=⟨a,p*4,none⟩):=by
   by_cases e:d=p
   .exact⟨⟨a,0,none⟩,by simp[e],λh=>by omega⟩
   .exact⟨⟨a,p*4,none⟩,by simp[e],λ_=>rfl⟩
  have HA2:=hid hA2;clear hA2;go_enter func103,ntmps103;go_wp2;refine wp_region_quiet_below (by kernel_rfl) (by kernel_rfl) ?_
  repeat (quiet_step (first|(go_at_call 171;exact Calls.regrown_of (T.out _ _))|fail))
  refine wpQuiet_nil ?_;intro _ C;obtain⟨⟨dq,l⟩,m⟩:=C;subst m;have B:Hid (Below w.heap.size w (Go.Sort.grow (redrawn w dq) l)):=below_regrown w dq l;clear hk T
  dsimp only
  revert B;generalize Go.Sort.grow (redrawn w dq) l=c;intro B;have M0:Hid (Mt c base a d p R key av 0 (.slice none 0 0) c):=Mt.start (aL z.out.row B.out);have QX:a<c.heap.size:=fO hgs B.out.size
  have i5:((R.length -p:Nat):Int)<=100000:=by omega
  go_wp2
  go_loopg [9,24] (R.length -p) (λgg v9 v24 wr=>∃(i:Nat),i<=R.length -p/\gg=R.length -p -i/\v24=.int .i64 i/\Hid (Mt c base a d p R key av i v9 wr))
  case atStart=>exact⟨0,gy _,rfl,rfl,M0⟩
  case round=>
   obtain⟨i,hi2,hg,rfl,I⟩:=hrel;have HG:=hid hg;clear hg;have hgw:a<wr.heap.size:=fO QX I.out.grown.size
   by_cases hlt2:i<R.length -p
   .have U:=HA2.out (by omega);subst U;obtain⟨x,hx⟩:∃x,R[p+i]?=some x:=⟨_,dK (show p+i<R.length by omega)⟩;have V:=jo I.out.row (p+i) x ((FX R p i (by omega)).trans hx);rw[Nat.add_mul]at V;have Z:=hid hx;have N:=HN.out x (mh hx)
    have j1:(0:Int)<=(i:Int):=by omega
    have j2:(i:Int)<((R.length -p:Nat):Int):=by omega
    have j3:i<R.length -p:=hlt2
    have hti:((R.drop p).take i).length=i:=by rw[List.length_take,List.length_drop];omega
    clear hx
    by_cases hk1:x.k=key
    .by_cases ht:x.t<=av
     .have L:Hid (meets key av x=true):=by show meets key av x=true;simp[meets,hk1,ht]
      have HO:Hid (((wr.alloc (.cells #[.int .i64 x.k,.int .i64 x.t,.int .i64 x.v,.int .i64 x.n] 130)).alloc (.cells #[.int .i64 x.k,.int .i64 x.t,.int .i64 x.v,.int .i64 x.n] 130)).ownsRow c.heap.size 130 4 u9 ((R.drop p).take i).length (((R.drop p).take i).flatMap ak)):=(I.out.met.alloc _).alloc _
      have HW:Hid (∀j u,(ak x)[j]?=some u->((wr.alloc (.cells #[.int .i64 x.k,.int .i64 x.t,.int .i64 x.v,.int .i64 x.n] 130)).alloc (.cells #[.int .i64 x.k,.int .i64 x.t,.int .i64 x.v,.int .i64 x.n] 130)).cell? ((⟨wr.heap.size+1,0,none⟩:Addr).add j)=some u):=by
       have S:=vw (wr.alloc (.cells #[.int .i64 x.k,.int .i64 x.t,.int .i64 x.v,.int .i64 x.n] 130)) (.cells #[.int .i64 x.k,.int .i64 x.t,.int .i64 x.v,.int .i64 x.n] 130);simp only[World.size_alloc]at S;exact World.news_of_block S
      have Q:Below wr.heap.size wr ((wr.alloc (.cells #[.int .i64 x.k,.int .i64 x.t,.int .i64 x.v,.int .i64 x.n] 130)).alloc (.cells #[.int .i64 x.k,.int .i64 x.t,.int .i64 x.v,.int .i64 x.n] 130)):=wT _ _ _;have HB3:=hid Q
      have HV:Hid (u9.ownBlock≠some wr.heap.size):=λe=>by have:=(I.out.met.lt _ e).2;omega
      have hw2:c.heap.size<=wr.heap.size:=I.out.grown.size
      have P:(x.k !=key)=false:=by simp[hk1]
      have Y:¬(av<x.t):=by omega
      clear Q hk1 ht
      go_wp2_with (first
       |(refine wpList_append_lies _ rfl _ _ _ rfl c.heap.size 130 i0 zD 4 32 underlying67 hi X hz1 hz2 rfl (by omega) u9 ((R.drop p).take i).length (((R.drop p).take i).flatMap ak) rfl HO.out ⟨wr.heap.size+1,0,none⟩ 1 1 (ak x) rfl rfl HW.out (mo x) (by omega) (by unfold maxLen;omega) (by omega) (by simp;omega) _ rfl ?_;intro g1 oL w3 q f SH M;have M3:=I.out.step QX Z.out L.out HB3.out q f;have H:w3.heap[wr.heap.size]?=some (.cells #[.int .i64 x.k,.int .i64 x.t,.int .i64 x.v,.int .i64 x.n] 130):=(f.block wr.heap.size (by simp;omega) (λe=>HV.out e.symm)).trans (Eq.trans (zk _ _ _ (by simp)) (vw _ _));have hcb:w3.cell? ⟨wr.heap.size,3,none⟩=some (.int .i64 x.n):=(by rw[vE H];rfl);have M4:=hid M3.1;have s:=M3.2 ((p+i)*4+3) (by omega);rw[Nat.add_mul]at s;obtain⟨uo,huo⟩:=qC.1 s.1;have hfz:=s.2;clear M3 q f SH M H s)
       |(go_at_call 172;refine(FW x.n _ N.1 N.2).mono ?_;rintro e F ⟨rfl,rfl⟩)
       |fail)
      go_roundg (R.length -p -(i+1))
      case measure=>have:=HG.out;omega
      case rel=>
       have:=M4.out;rw[Nat.add_mul,hti]at this;exact⟨i+1,by omega,rfl,by first|rfl|(congr 1;omega)|go_num,this⟩
     .have L:Hid (meets key av x=false):=by show meets key av x=false;simp[meets];intro _;omega
      have P:(x.k !=key)=false:=by simp[hk1]
      have Y:av<x.t:=by omega
      clear hk1 ht;go_wp2;go_ret;have g:=Mt.ends (fH:=fH) z.out B.out (r.out ▸ I.out.go (wh wr (.cells #[.int .i64 x.k,.int .i64 x.t,.int .i64 x.v,.int .i64 x.n] 130))) (by rw[<-r.out];omega) (λy E=>by rw[<-r.out,Z.out]at E;cases E;exact L.out);exact⟨u9,rfl,g⟩
    .have L:Hid (meets key av x=false):=by show meets key av x=false;simp[meets,hk1]
     have P:(x.k !=key)=true:=by simp[hk1]
     clear hk1;go_wp2;go_ret;have g:=Mt.ends (fH:=fH) z.out B.out (r.out ▸ I.out.go (wh wr (.cells #[.int .i64 x.k,.int .i64 x.t,.int .i64 x.v,.int .i64 x.n] 130))) (by rw[<-r.out];omega) (λy E=>by rw[<-r.out,Z.out]at E;cases E;exact L.out);exact⟨u9,rfl,g⟩
   .have j2:¬((i:Int)<((R.length -p:Nat):Int)):=by omega
    go_wp2;go_ret
    have g:=Mt.ends (fH:=fH) z.out B.out (r.out ▸ I.out) (by rw[<-r.out];omega) (λy E=>by
     have h3:=(kH.1 E).1
     rw[<-r.out]at h3;omega)
    exact⟨u9,rfl,g⟩
end
end Go.Proofs.YthfpipieboophaaGreatDoor
