import Derived.Deep.RegionLaw
import Derived.Laws.AppendOwnNone
import Derived.Test.YthfpipieboophaaGreatDoorZBagm
namespace Go.Proofs.YthfpipieboophaaGreatDoor
set_option maxRecDepth 100000
set_option maxHeartbeats 40000000
open Go.RowKit
section
open Go.Proofs.Tryz Go.Joins
variable{W w:World}{base b o:Nat}{v:Value}
structure D where
 k:Int
 t:Int
 v:Int
 n:Int
 deriving DecidableEq,Inhabited
def ak(x:D):List Value:=[.int .i64 x.k,.int .i64 x.t,.int .i64 x.v,.int .i64 x.n]
def vD(x:D):Value:= .agg #[.int .i64 x.k,.int .i64 x.t,.int .i64 x.v,.int .i64 x.n]
def zD:Value:= .agg #[.int .i64 0,.int .i64 0,.int .i64 0,.int .i64 0]
theorem bS(x:D):(ak x).length=4:=rfl
theorem xm:(prog.info? 130).map (λi=>(i.zero,i.size,i.bytes))=some (some zD,4,32):=by kernel_rfl
theorem gG(xs:List D):(xs.flatMap ak).length=xs.length*4:=by
 induction xs with
 |nil=>rfl
 |cons a r ih=>rw[List.flatMap_cons,List.length_append,ih,bS,List.length_cons];omega
theorem mo(x:D):∀u∈ak x,u.oneCell'=true:=by
 intro u a;simp[ak]at a;rcases a with rfl|rfl|rfl|rfl <;>rfl
theorem uQ(R:List D):∀u∈R.flatMap ak,u.oneCell'=true:=by
 intro u a;obtain⟨x,_,h⟩:=List.mem_flatMap.1 a;exact mo x u h
theorem MG(xs:List D)(k j:Nat)(x:D)(c:xs[k]?=some x)(hj:j<4):(xs.flatMap ak)[k*4+j]?=(ak x)[j]? :=by
 induction xs generalizing k with
 |nil=>simp at c
 |cons a r ih=>
  rw[List.flatMap_cons]
  cases k with
  |zero=>
   simp at c;subst c;rw[eB (by rw[bS];omega)];congr 1;omega
  |succ k=>
   rw[dK (by rw[bS];omega),bS,show(k+1)*4+j -4=k*4+j by omega];exact ih k (by simpa using c)
theorem jo{gs n e:Nat}{xs:List D}(h:W.ownsRow base 130 4 (.slice (some ⟨gs,0,none⟩) n e) n (xs.flatMap ak))(k:Nat)(x:D)(d:xs[k]?=some x):
  W.cell? ⟨gs,k*4,none⟩=some (.int .i64 x.k)/\W.cell? ⟨gs,k*4+1,none⟩=some (.int .i64 x.t)/\W.cell? ⟨gs,k*4+2,none⟩=some (.int .i64 x.v)/\W.cell? ⟨gs,k*4+3,none⟩=some (.int .i64 x.n):=by
 have key:=λ(j:Nat) (v:Value) (a:j<4) (c:(ak x)[j]?=some v)=>h.cells (g:=gs) rfl (k*4+j) v ((MG xs k j x d a).trans c)
 simp only[bZ]at key;exact⟨key 0 _ (by omega) rfl,key 1 _ (by omega) rfl,key 2 _ (by omega) rfl,key 3 _ (by omega) rfl⟩
structure bB(w:World)(base b o:Nat)(v:Value)(R:List D):Prop where
 blk:∃cs T,w.heap[b]?=some (.cells cs T)/\cs[o]?=some v
 row:w.ownsRow base 130 4 v R.length (R.flatMap ak)
 own:v.ownBlock≠some b
theorem bB.lt{R:List D}(h:bB w base b o v R):b<w.heap.size:=by
 obtain⟨cs,T,a,_⟩:=h.blk;exact(ax.1 a).1
theorem bB.cell{R:List D}(h:bB w base b o v R):w.cell? ⟨b,o,none⟩=some v/\w.frozen? ⟨b,o,none⟩=false:=by
 obtain⟨cs,T,a,c⟩:=h.blk;exact⟨by rw[fq a];exact c,fV a o⟩
theorem bB.below{a:World}{R:List D}(h:bB w base b o v R)(c:Below w.heap.size w a):bB a base b o v R:=by
 have e:=h.lt;obtain⟨cs,T,f,d⟩:=h.blk;exact⟨⟨cs,T,(c.block _ e).trans f,d⟩,aL h.row c,h.own⟩
theorem bB.form{R:List D}(h:bB w base b o v R):∃a c,v=.slice a R.length c:=by
 rcases h.row.2 with⟨rfl,d⟩|⟨g,cap,cur,rfl,_⟩
 .exact⟨none,0,by rw[d]⟩
 .exact⟨_,_,rfl⟩
theorem kg(base b o:Nat)(v:Value)(R:List D)(w:World)(h:bB w base b o v R):
  Calls prog 102 #[.pointer (some ⟨b,o,none⟩)] w λe a=>e=.returned (.int .i64 R.length)/\a=w:=by
 have hc:=h.cell;obtain⟨oa,c,rfl⟩:=h.form;clear h;go_enter func102,ntmps102;go_wp2;go_ret;exact⟨rfl,rfl⟩
def bR(n:Int):Int:=if n=9223372036854775807 then n else n+1
theorem FW(n:Int)(w:World)(h1: -9223372036854775808<=n)(h2:n<=9223372036854775807):Calls prog 172 #[.int .i64 n] w λe c=>e=.returned (.int .i64 (bR n))/\c=w:=by
 by_cases e:n=9223372036854775807
 .subst e;go_enter func172,ntmps172;go_wp2;go_ret;exact⟨rfl,rfl⟩
 .have a:bR n=n+1:=by simp[bR,e]
  have he:(n==9223372036854775807)=false:=by simp[e]
  have h3:n<9223372036854775807:=by omega
  rw[a];clear a;go_enter func172,ntmps172;go_wp2;go_ret;exact⟨rfl,rfl⟩
theorem IZ(a:base<=W.heap.size):(W.alloc (.cells #[] 130)).ownsRow base 130 4 (.slice (some ⟨W.heap.size,0,none⟩) 0 0) 0 []:=
 ⟨rfl,.inr ⟨W.heap.size,0,#[],rfl,a,eZ _ _,aC _,aW _,rfl,rfl⟩⟩
theorem qR{P:Program}(w:World){ops:Array Oper}{rest:List Oper}{o:Oper}{a:Act}{Q:Exit->Act->World->Prop}(r:o.guard=none)(s x:Operand)(t:TypeId)
  (M:o.op=.call { callee:= .builtin .append,args:= #[s,x],argTypes:= #[t,t]})
  (base:Nat) (e:TypeId) (i:TypeInfo) (z:Value) (size bytes:Nat) (F:P.underlying t=some (.slice e)) (hi:P.info? e=some i) (L:i.zero=some z)
  (hsize:i.size=size) (B:i.bytes=bytes) (C:z.cells.size=size) (A:0<size)
  (q c0 n:Nat) (xs:List Value) (T:a.eval s=.slice (some ⟨q,0,none⟩) n c0) (l:w.ownsRow base e size (.slice (some ⟨q,0,none⟩) n c0) n xs)
  (ad:Addr) (m c:Nat) (news:List Value) (U:a.eval x=.slice (some ad) m c) (N:news.length=m*size) (k:∀j u,news[j]?=some u->w.cell? (ad.add j)=some u) (H:∀u∈news,u.oneCell'=true)
  (y:n+m<=maxLen) (d:(n+m)*bytes<=140737488355328) (f:base<=w.heap.size)
  (h:∀g cap p,p.ownsRow base e size (.slice (some ⟨g,0,none⟩) (n+m) cap) (n+m) (xs++news)->w.grownBy p (some q)->(g=q∨g=w.heap.size)->wpList P ops Q rest (a.put o.dst (.slice (some ⟨g,0,none⟩) (n+m) cap)) p):wpList P ops Q (o::rest) a w:=by
 refine wpList_plain r λ_ I=>?_
 obtain⟨v',p,R,E,S,G,K⟩:=run_append_own_at (P:=P) w base t o.type e i z size bytes F hi L hsize B C A _ n xs l ad m c news N k H y d f
 rcases E.2 with⟨rfl,_⟩|⟨g,cap,cur,rfl,_⟩
 .have:=(G.1 rfl).1;cases this
 .unfold Oper.wp execOp;simp only[M,resolve,invoke,builtin,Sem.run_bind,Sem.run_pure,Result.andThen_ok,List.map_toArray,List.map_cons,List.map_nil,T,U,R];refine I _ _ (h g cap p E S ?_);simpa[Value.ownBlock]using K
theorem QV(w:World):(binOp .eql 67 (.slice none 0 0) (.slice none 0 0)).run prog w=.ok (.bool true) w:=by kernel_rfl
theorem MH(a:Addr)(n c:Nat)(w:World):(binOp .eql 67 (.slice (some a) n c) (.slice none 0 0)).run prog w=.ok (.bool false) w:=by kernel_rfl
theorem MI(base:Nat)(v:Value)(R:List D)(w:World)(h:w.ownsRow base 130 4 v R.length (R.flatMap ak))(hR:R.length<=100000):
  Calls prog 189 #[v] w λe l=>∃m,e=.returned m/\l.ownsRow w.heap.size 130 4 m R.length (R.flatMap ak)/\Below w.heap.size w l:=by
 obtain⟨q,hi,f,i,d⟩:=je xm
 rcases ownsRow_forms h with⟨rfl,n⟩|⟨gs,p,rfl⟩
 .obtain rfl:R=[]:=di n;clear h n;have t:=QV;go_enter func189,ntmps189;go_wp2;go_ret;exact⟨_,rfl,iR _ _ _ _,iL _ _⟩
 .have x:Hid ((w.alloc (.cells #[] 130)).ownsRow w.heap.size 130 4 (.slice (some ⟨w.heap.size,0,none⟩) 0 0) 0 []):=IZ (aC _)
  have r:Hid (∀j u,(R.flatMap ak)[j]?=some u->(w.alloc (.cells #[] 130)).cell? ((⟨gs,0,none⟩:Addr).add j)=some u):=λj u s=>
   (aL h (fC w (.cells #[] 130))).cells (g:=gs) rfl j u s
  clear h;have t:=MH ⟨gs,0,none⟩ R.length p;go_enter func189,ntmps189
  go_wp2_with (first
   |(refine qR _ rfl _ _ _ rfl w.heap.size 130 q zD 4 32 underlying67 hi f i d rfl (by omega) w.heap.size 0 0 [] rfl x.out ⟨gs,0,none⟩ R.length p (R.flatMap ak) rfl (gG R) r.out (uQ R) (by unfold maxLen;omega) (by omega) (by simp) ?_;intro g1 oL w1 a c wF)
   |fail)
  go_ret;rw[Nat.zero_add,List.nil_append]at a;refine⟨_,rfl,?_,(fC w _).grown c (by simp) (λk e=>by cases e;exact aC _)⟩
  first|exact a|simpa using a
theorem EG(base b o:Nat)(v:Value)(R:List D)(w:World)(h:bB w base b o v R)(f:R.length<=100000):
  Calls prog 116 #[.pointer (some ⟨b,o,none⟩)] w λe c=>∃a,e=.returned a/\c.ownsRow w.heap.size 130 4 a R.length (R.flatMap ak)/\Below w.heap.size w c:=by
 have hc:=h.cell;have d:=MI base v R w h.row f;clear h;go_enter func116,ntmps116
 go_wp2_with (go_at_call 189;refine d.mono ?_;rintro e c ⟨a,rfl,i,g⟩)
 go_ret;exact⟨a,rfl,i,g⟩
end
section
open Go.Proofs.Tryz Go.Joins Go.Shelf
variable{x:D}{R:List D}
theorem Ja(g:Nat)(cb:Array Value)(n:Nat)(p:Nat->Bool)(w:World)(eg:∀args w,(callFunc g args).run prog w=.ok (.enter g args) w)(hn:n<=1000000)
  (A:∀(W:World) (i:Nat),Below w.heap.size w W->i<n->Calls prog g (#[.int .i64 i]++cb) W λe l=>e=.returned (.bool (p i))/\Below W.heap.size W l)
  (c:∀a b,a<=b->b<n->p a=true->p b=true):
  Calls prog 243 #[.int .i64 n,.func (.func g) #[] cb] w λe l=>∃r:Nat,e=.returned (.int .i64 r)/\r<=n/\(∀t,t<r->p t=false)/\(∀t,r<=t->t<n->p t=true)/\Below w.heap.size w l:=by
 have F:=hid A;have u:=hid c
 have i1:(n:Int)<=1000000:=by omega
 clear A c;go_enter func243,ntmps243;go_wp2
 go_loopg [5,6] n (λkx B E wr=>∃(lo hi:Nat),B=.int .i64 lo/\E=.int .i64 hi/\lo<=hi/\hi<=n/\hi -lo<=kx/\Hid ((∀t,t<lo->p t=false)/\(∀t,hi<=t->t<n->p t=true)/\Below w.heap.size w wr))
 case atStart=>exact⟨0,n,rfl,rfl,aW _,aC _,by omega,⟨λt f=>absurd f (Nat.not_lt_zero _),λt G s=>by omega,iL _ _⟩⟩
 case round=>
  obtain⟨lo,hi,rfl,rfl,hlh,q,z,I⟩:=hrel;have v:=hid z;clear z
  by_cases hlt:lo<hi
  .have C:(lo:Int)<(hi:Int):=by omega
   have k2:(hi:Int)<=1000000:=by omega
   have k:=F.out wr ((lo+hi)/2) I.out.2.2 (by omega);rw[show(((lo+hi)/2:Nat):Int)=((lo:Int)+(hi:Int))/2 by omega]at k;go_wp2_with fail;refine k.mono ?_;rintro e m ⟨rfl,d⟩;have y:Hid (Below w.heap.size w m):=I.out.2.2.trans (d.mono I.out.2.2.size);clear k d;cases hp:p ((lo+hi)/2)
   .have o:Hid ((∀t,t<(lo+hi)/2+1->p t=false)/\(∀t,hi<=t->t<n->p t=true)/\Below w.heap.size w m):=⟨λt f=>(by
     cases h:p t with
     |false=>rfl
     |true=>have:=u.out t ((lo+hi)/2) (by omega) (by omega) h;rw[hp]at this;cases this),I.out.2.1,y.out⟩
    clear hp;go_wp2
    go_roundg (hi -((lo+hi)/2+1))
    case measure=>have:=v.out;omega
    case rel=>exact⟨(lo+hi)/2+1,hi,by first|rfl|(congr 1;omega)|go_num,rfl,by omega,q,aC _,o⟩
   .have o:Hid ((∀t,t<lo->p t=false)/\(∀t,(lo+hi)/2<=t->t<n->p t=true)/\Below w.heap.size w m):=⟨I.out.1,λt f j=>u.out ((lo+hi)/2) t f j hp,y.out⟩;clear hp;go_wp2
    go_roundg ((lo+hi)/2 -lo)
    case measure=>have:=v.out;omega
    case rel=>exact⟨lo,(lo+hi)/2,rfl,by first|rfl|(congr 1;omega)|go_num,by omega,by omega,aC _,o⟩
  .have C:¬((lo:Int)<(hi:Int)):=by omega
   go_wp2;go_ret;refine⟨lo,rfl,by omega,I.out.1,λt G s=>I.out.2.1 t (by omega) s,I.out.2.2⟩
def aX(key time:Int)(x:D):Bool:=decide (x.k<key∨(x.k=key/\x.t<time))
def ay(R:List D):Prop:=R.Pairwise λa b=>a.k<b.k∨(a.k=b.k/\a.t<=b.t)
theorem bI{key time:Int}:aX key time x=false↔(key<x.k∨(x.k=key/\time<=x.t)):=by
 simp only[aX,decide_eq_false_iff_not];omega
theorem Jb(base b o bs d bt:Nat)(v:Value)(R:List D)(key time:Int)(i:Nat)(x:D)(w:World)(h:bB w base b o v R)(c:R[i]?=some x)
  (h1:w.cell? ⟨bs,0,none⟩=some (.pointer (some ⟨b,o,none⟩))) (h2:w.cell? ⟨d,0,none⟩=some (.int .i64 key)) (h3:w.cell? ⟨bt,0,none⟩=some (.int .i64 time)) (hbk:d<w.heap.size) (hbt:bt<w.heap.size):
  Calls prog 244 #[.int .i64 i,.pointer (some ⟨bs,0,none⟩),.pointer (some ⟨d,0,none⟩),.pointer (some ⟨bt,0,none⟩)] w λe f=>e=.returned (.bool (!aX key time x))/\Below w.heap.size w f:=by
 have hc:=h.cell;have hi:i<R.length:=(bP.1 c).1;obtain⟨gs,ck,rfl⟩:=gy h.row (by omega);have hr:=jo h.row i x c;have hgs:gs<w.heap.size:=(h.row.lt gs rfl).2
 have i1:(0:Int)<=(i:Int):=by omega
 have i2:(i:Int)<(R.length:Int):=by omega
 have hlt:=h.lt;clear h c
 by_cases c1:key<x.k
 .have a:aX key time x=false:=bI.2 (Or.inl c1);rw[a];clear a;go_enter func244,ntmps244;go_wp2;go_ret;exact⟨rfl,fC _ _⟩
 .have c1':¬key<x.k:=c1
  by_cases c2:x.k=key
  .subst c2
   by_cases c3:time<=x.t
   .have a:aX x.k time x=false:=bI.2 (Or.inr ⟨rfl,c3⟩);rw[a];clear a;go_enter func244,ntmps244;go_wp2;go_ret;exact⟨rfl,fC _ _⟩
   .have a:aX x.k time x=true:=by
     cases h:aX x.k time x with
     |true=>rfl
     |false=>rcases bI.1 h with h|h <;>omega
    have c3':¬time<=x.t:=c3;rw[a];clear a;go_enter func244,ntmps244;go_wp2;go_ret;exact⟨rfl,fC _ _⟩
  .have a:aX key time x=true:=by
    cases h:aX key time x with
    |true=>rfl
    |false=>rcases bI.1 h with h|h <;>omega
   have c2':(x.k==key)=false:=by simp[c2]
   rw[a];clear a;go_enter func244,ntmps244;go_wp2;go_ret;exact⟨rfl,fC _ _⟩
def aV(key time:Int)(R:List D):Nat:=R.countP (aX key time)
theorem Jc(h:ay R)(key time:Int){i j:Nat}{y:D}(hij:i<=j)(b:R[i]?=some x)(a:R[j]?=some y)(c:aX key time x=false):aX key time y=false:=by
 by_cases e:i=j
 .subst e;rw[b]at a;cases a;exact c
 .obtain⟨g,d⟩:=bP.1 b;obtain⟨f,k⟩:=bP.1 a;have:=List.pairwise_iff_getElem.1 h i j g f (by omega);rw[d,k]at this;rw[bI]at *;omega
theorem WC(key time:Int)(r:Nat)(hr:r<=R.length)(d:∀t x,t<r->R[t]?=some x->aX key time x=true)(c:∀t x,r<=t->R[t]?=some x->aX key time x=false):aV key time R=r:=by
 unfold aV;rw[<-List.take_append_drop r R,List.countP_append]
 have a1:(R.take r).countP (aX key time)=r:=by
  rw[List.countP_eq_length.2]
  .rw[List.length_take];omega
  .intro x b;obtain⟨t,a,e⟩:=List.mem_iff_getElem.1 b;rw[List.length_take]at a;rw[List.getElem_take]at e;exact d t x (by omega) (by rw[aO (by omega),e])
 have a2:(R.drop r).countP (aX key time)=0:=by
  rw[List.countP_eq_zero];intro x b;obtain⟨t,a,e⟩:=List.mem_iff_getElem.1 b;rw[List.length_drop]at a;rw[List.getElem_drop]at e;rw[c (r+t) x (by omega) (by rw[aO (by omega),e])];simp
 omega
theorem QW(key time:Int)(R:List D):aV key time R<=R.length:=List.countP_le_length
theorem oW(w:World)(p:Value)(key time:Int):
  (((w.alloc (.cells #[p] 251)).alloc (.cells #[.int .i64 key] 3)).alloc (.cells #[.int .i64 time] 3)).cell? ⟨w.heap.size,0,none⟩=some p/\
  (((w.alloc (.cells #[p] 251)).alloc (.cells #[.int .i64 key] 3)).alloc (.cells #[.int .i64 time] 3)).cell? ⟨w.heap.size+1,0,none⟩=some (.int .i64 key)/\
  (((w.alloc (.cells #[p] 251)).alloc (.cells #[.int .i64 key] 3)).alloc (.cells #[.int .i64 time] 3)).cell? ⟨w.heap.size+1+1,0,none⟩=some (.int .i64 time):=by
 have a:=eZ (w.alloc (.cells #[p] 251)) (.cells #[.int .i64 key] 3);have b:=eZ ((w.alloc (.cells #[p] 251)).alloc (.cells #[.int .i64 key] 3)) (.cells #[.int .i64 time] 3);simp only[World.size_alloc]at a b;refine⟨?_,?_,?_⟩
 .rw[fq (((gL _ _ _ (by simp;omega)).trans (gL _ _ _ (by simp))).trans (eZ _ _))];rfl
 .rw[fq ((gL _ _ _ (by simp)).trans a)];rfl
 .rw[fq b];rfl
theorem BG(base b o:Nat)(v:Value)(R:List D)(key time:Int)(w:World)(h:bB w base b o v R)(H:ay R)(hR:R.length<=100000):
  Calls prog 171 #[.pointer (some ⟨b,o,none⟩),.int .i64 key,.int .i64 time] w λe d=>e=.returned (.int .i64 (aV key time R))/\Below w.heap.size w d:=by
 have hc:=h.cell;have hlt:=h.lt;obtain⟨I,E,rfl⟩:=h.form;have A:∀args w,(callFunc 244 args).run prog w=.ok (.enter 244 args) w:=enters_of func244 (by kernel_rfl) rfl
 have c:=Ja 244 #[.pointer (some ⟨w.heap.size,0,none⟩),.pointer (some ⟨w.heap.size+1,0,none⟩),.pointer (some ⟨w.heap.size+1+1,0,none⟩)] R.length (λi=>match R[i]? with|some x=>!aX key time x|none=>true)
  (((w.alloc (.cells #[.pointer (some ⟨b,o,none⟩)] 251)).alloc (.cells #[.int .i64 key] 3)).alloc (.cells #[.int .i64 time] 3)) A (by omega) (by
   intro W i f hi;obtain⟨x,a⟩:∃x,R[i]?=some x:=⟨_,aO hi⟩;have q:Below w.heap.size w (((w.alloc (.cells #[.pointer (some ⟨b,o,none⟩)] 251)).alloc (.cells #[.int .i64 key] 3)).alloc (.cells #[.int .i64 time] 3)):=(((iL _ _).alloc (by simp) _).alloc (by simp) _).alloc (by simp;omega) _;have l:=f.size;simp only[World.size_alloc]at l;have K:bB W base b o (.slice I R.length E) R:=(h.below q).below f;simp only[a];refine Jb base b o w.heap.size (w.heap.size+1) (w.heap.size+1+1) _ R key time i x W K a ?_ ?_ ?_ (by omega) (by omega)
   .exact(f.cell (p:=⟨w.heap.size,0,none⟩) (by simp;omega)).trans (oW w _ _ _).1
   .exact(f.cell (p:=⟨w.heap.size+1,0,none⟩) (by simp)).trans (oW w _ _ _).2.1
   .exact(f.cell (p:=⟨w.heap.size+1+1,0,none⟩) (by simp)).trans (oW w _ _ _).2.2) (by
   intro i j n C s;obtain⟨x,a⟩:∃x,R[i]?=some x:=⟨_,aO (by omega)⟩;obtain⟨y,hy⟩:∃y,R[j]?=some y:=⟨_,aO C⟩;simp only[a,Bool.not_eq_true']at s;simp only[hy,Bool.not_eq_true']
   exact Jc H key time n a hy s)
 have k:Calls prog 243 #[.int .i64 R.length,.func (.func 244) #[] #[.pointer (some ⟨w.heap.size,0,none⟩),.pointer (some ⟨w.heap.size+1,0,none⟩),.pointer (some ⟨w.heap.size+1+1,0,none⟩)]] (((w.alloc (.cells #[.pointer (some ⟨b,o,none⟩)] 251)).alloc (.cells #[.int .i64 key] 3)).alloc (.cells #[.int .i64 time] 3)) λe d=>e=.returned (.int .i64 (aV key time R))/\Below w.heap.size w d:=by
  refine c.mono ?_;rintro e d ⟨r,rfl,G,F,u,q⟩
  have B:aV key time R=r:=WC key time r G (λt x g a=>by have:=F t g;simp only[a]at this;simpa using this) (λt x g a=>by
   have:=u t g (bP.1 a).1;simp only[a]at this;simpa using this)
  have m:Below w.heap.size w (((w.alloc (.cells #[.pointer (some ⟨b,o,none⟩)] 251)).alloc (.cells #[.int .i64 key] 3)).alloc (.cells #[.int .i64 time] 3)):=(((iL _ _).alloc (by simp) _).alloc (by simp) _).alloc (by simp;omega) _;exact⟨by rw[B],m.trans (q.mono (by simp;omega))⟩
 have hc3:=(h.below (show Below w.heap.size w (((w.alloc (.cells #[.pointer (some ⟨b,o,none⟩)] 251)).alloc (.cells #[.int .i64 key] 3)).alloc (.cells #[.int .i64 time] 3))from(((iL _ _).alloc (by simp) _).alloc (by simp) _).alloc (by simp;omega) _)).cell;clear h c;go_enter func171,ntmps171
 go_wp2_with (go_at_call 243;refine k.mono ?_;rintro e d ⟨rfl,z⟩)
 go_ret;exact⟨rfl,z⟩
end
section
open Go.Proofs.Tryz Go.Joins Go.Shelf
variable{W:World}{base g n cap size:Nat}{e:TypeId}{d:List Value}
def ni(d:List Value):Nat->List Value->List Value
 |_,[]=>d
 |o,v::r=>ni (d.set o v) (o+1) r
theorem MJ(vs:List Value):∀(d:List Value) (o k:Nat),k<=o->(ni d o vs).take k=d.take k:=by
 induction vs with
 |nil=>intro d o k _;rfl
 |cons v r ih=>
  intro d o k a;rw[ni,ih _ _ _ (by omega),List.take_set_of_le a]
theorem vW(h:W.ownsRow base e size (.slice (some ⟨g,0,none⟩) n cap) n d)(j:Nat)(u:Value):
  (W.setCell ⟨g,j,none⟩ u).ownsRow base e size (.slice (some ⟨g,0,none⟩) n cap) n (d.set j u):=by
 rcases h.2 with⟨a,_⟩|⟨g',cap',cur,a,k,l,b,i,c,f⟩
 .cases a
 .cases a;refine⟨by rw[List.length_set];exact h.1,.inr ⟨g,cap,cur.setIfInBounds j u,rfl,k,fZ l u,b,i,by simp[c],?_⟩⟩;rw[Array.toList_setIfInBounds,<-f,List.take_set]
theorem gH(vs:List Value):∀{W:World} {d:List Value} (o:Nat),W.ownsRow base e size (.slice (some ⟨g,0,none⟩) n cap) n d->
  (W.setCells g o vs).ownsRow base e size (.slice (some ⟨g,0,none⟩) n cap) n (ni d o vs):=by
 induction vs with
 |nil=>intro W d o h;exact h
 |cons v r ih=>intro W d o h;exact ih (o+1) (vW h o v)
theorem Jd(h:W.ownsRow base e size (.slice (some ⟨g,0,none⟩) n cap) n d)(i:Nat)(hi:i<=n):
  W.ownsRow base e size (.slice (some ⟨g,0,none⟩) i cap) i (d.take (i*size)):=by
 rcases h.2 with⟨a,_⟩|⟨g',cap',cur,a,k,l,h2,j,c,f⟩
 .cases a
 .cases a;have b:i*size<=n*size:=Nat.mul_le_mul_right _ hi;refine⟨by rw[List.length_take,h.1];omega,.inr ⟨g,cap,cur,rfl,k,l,by omega,j,c,?_⟩⟩;rw[<-f,List.take_take,Nat.min_eq_left b]
theorem qU(M:List D)(i:Nat):(M.take i).flatMap ak=(M.flatMap ak).take (i*4):=by
 induction M generalizing i with
 |nil=>simp
 |cons a r ih=>
  cases i with
  |zero=>simp
  |succ i=>
   rw[List.take_succ_cons,List.flatMap_cons,List.flatMap_cons,ih,List.take_append,bS,dA (l:=ak a) (by rw[bS];omega),show(i+1)*4 -4=i*4 by omega]
theorem MK(R:List D)(i:Nat)(x:D):(R.set i x).flatMap ak=ni (R.flatMap ak) (i*4) (ak x)∨R.length<=i:=by
 by_cases h:R.length<=i
 .exact Or.inr h
 .left
  induction R generalizing i with
  |nil=>simp at h
  |cons a r ih=>
   cases i with
   |zero=>simp[ni,ak]
   |succ i=>
    have b:=ih i (by simpa using h);rw[List.set_cons_succ,List.flatMap_cons,List.flatMap_cons,b];simp[ni,ak,show(i+1)*4=i*4+1+1+1+1 by omega]
theorem ML{R:List D}(h:W.ownsRow base 130 4 (.slice (some ⟨g,0,none⟩) n cap) n (R.flatMap ak))(i:Nat)(x:D)(hi:i<R.length):
  ((((W.setCell ⟨g,i*4,none⟩ (.int .i64 x.k)).setCell ⟨g,i*4+1,none⟩ (.int .i64 x.t)).setCell ⟨g,i*4+2,none⟩ (.int .i64 x.v)).setCell ⟨g,i*4+3,none⟩ (.int .i64 x.n)).ownsRow base 130 4 (.slice (some ⟨g,0,none⟩) n cap) n ((R.set i x).flatMap ak):=by
 rcases MK R i x with e|e
 .rw[e];exact gH (ak x) (i*4) h
 .omega
theorem wH{P:Program}(w:World)(t e ty:TypeId)(z:Value)(h:P.underlying t=some (.slice e))(i:∀w,(zeroValue e).run P w=.ok z w)(b o n c:Nat)(hn:0<n)(k:∀v∈(Builtin.zeroCells z.cells n).toList,v.oneCell'=true)
  (l:∀j,j<(Builtin.zeroCells z.cells n).toList.length->(w.cell? ⟨b,o+j,none⟩).isSome=true) (f:∀j,j<(Builtin.zeroCells z.cells n).toList.length->w.frozen? ⟨b,o+j,none⟩=false):
  (Builtin.clear_ #[t] ty #[.slice (some ⟨b,o,none⟩) n c]).run P w=.ok (.tuple #[]) (w.setCells b o (Builtin.zeroCells z.cells n).toList):=by
 have a:=run_storeCells_cells (P:=P) b o (Builtin.zeroCells z.cells n).toList 0 w (by simpa using l) (by simpa using f) k;simp only[Nat.add_zero]at a;obtain⟨m,rfl⟩:∃m,n=m+1:=⟨n -1,by omega⟩;simp[Builtin.clear_,run_underlying h,i,a]
theorem MM(bt:Nat)(av:Int)(x:D)(w:World)(h:w.cell? ⟨bt,0,none⟩=some (.int .i64 av))(hb:bt<w.heap.size):
  Calls prog 186 #[vD x,.pointer (some ⟨bt,0,none⟩)] w λe a=>e=.returned (.bool (decide (x.t<=av)))/\Below w.heap.size w a:=by
 simp only[vD];go_enter func186,ntmps186;go_wp2;go_ret;exact⟨rfl,fC _ _⟩
theorem Aa(base:Nat)(v:Value)(R:List D)(g:Nat)(cb:Array Value)(q:D->Bool)(w:World)(eg:∀args w,(callFunc g args).run prog w=.ok (.enter g args) w)(h:w.ownsRow base 130 4 v R.length (R.flatMap ak))(hR:R.length<=100000)
  (m:∀(W:World) (x:D),Below w.heap.size w W->Calls prog g (#[vD x]++cb) W λe l=>e=.returned (.bool (q x))/\Below W.heap.size W l):
  Calls prog 251 #[v,.func (.func g) #[] cb] w λe l=>Below w.heap.size w l/\((e=.returned (.int .i64 (-1))/\∀x∈R,q x=false)∨∃k:Nat,k<R.length/\e=.returned (.int .i64 k)/\(∀x,R[k]?=some x->q x=true)/\∀j x,j<k->R[j]?=some x->q x=false):=by
 rcases ownsRow_forms h with⟨rfl,r⟩|⟨gs,ck,rfl⟩
 .obtain rfl:R=[]:=di r;clear h r m;go_enter func251,ntmps251;go_wp2;refine wp_loop_rounds 1 ?_;rw[rounds_succ];go_wp2;go_ret;exact⟨iL _ _,Or.inl ⟨rfl,by simp⟩⟩
 .have E:=hid h;have B:=hid m;clear h m;go_enter func251,ntmps251;go_wp2
  go_loopg [8] R.length (λg A wr=>∃k:Nat,k<=R.length/\g=R.length -k/\A=.int .i64 k/\Hid (Below w.heap.size w wr/\∀j x,j<k->R[j]?=some x->q x=false))
  case atStart=>exact⟨0,aW _,rfl,rfl,⟨iL _ _,λj x c=>absurd c (Nat.not_lt_zero _)⟩⟩
  case round=>
   obtain⟨k,hk,s,rfl,I⟩:=hrel;have z:=hid s;clear s
   by_cases hlt:k<R.length
   .obtain⟨x,hx⟩:∃x,R[k]?=some x:=⟨_,aO hlt⟩;have f:=jo (aL E.out I.out.1) k x hx;have t:=hid hx;have i:=B.out wr x I.out.1
    have i1:(0:Int)<=(k:Int):=by omega
    have u:(k:Int)<(R.length:Int):=by omega
    have i3:(R.length:Int)<=100000:=by omega
    simp only[vD]at i;clear hx;go_wp2_with fail;refine i.mono ?_;rintro e p ⟨rfl,b⟩;have o:Hid (Below w.heap.size w p):=I.out.1.trans (b.mono I.out.1.size);clear i b f;cases hq:q x
    .have C:Hid (Below w.heap.size w p/\∀j x,j<k+1->R[j]?=some x->q x=false):=⟨o.out,λj y c a=>by
      by_cases e:j=k
      .subst e;rw[t.out]at a;cases a;exact hq
      .exact I.out.2 j y (by omega) a⟩
     clear hq;go_wp2
     go_roundg (R.length -(k+1))
     case measure=>have:=z.out;omega
     case rel=>exact⟨k+1,by omega,rfl,by first|rfl|(congr 1;omega)|go_num,C⟩
    .have F:=hid hq;clear hq;go_wp2;go_ret;exact⟨o.out,Or.inr ⟨k,hlt,rfl,λy a=>by rw[t.out]at a;cases a;exact F.out,I.out.2⟩⟩
   .have u:¬((k:Int)<(R.length:Int)):=by omega
    go_wp2;go_ret;refine⟨I.out.1,Or.inl ⟨rfl,λy a=>?_⟩⟩;obtain⟨j,c,e⟩:=List.mem_iff_getElem.1 a;exact I.out.2 j y (by omega) (by rw[aO c,e])
end
section
open Go.Proofs.Tryz Go.Joins Go.Shelf
variable{q:D->Bool}{R L:List D}{i j g:Nat}{x:D}{w W:World}
def keepR(q:D->Bool)(R:List D):List D:=R.filter λx=>!q x
structure Kept(q:D->Bool)(R L:List D)(i j:Nat):Prop where
 len:L.length=R.length
 front:L.take i=keepR q (R.take j)
 rest:∀k,j<=k->L[k]?=R[k]?
theorem uR(q:D->Bool)(R:List D)(j:Nat)(x:D)(h:R[j]?=some x):keepR q (R.take (j+1))=keepR q (R.take j)++if q x=true then[]else[x]:=by
 unfold keepR;rw[List.take_add_one,h,List.filter_append]
 cases hq:q x <;>simp[hq]
theorem Kept.start{k:Nat}(a:k<R.length)(f:∀x,R[k]?=some x->q x=true)(c:∀j x,j<k->R[j]?=some x->q x=false):Kept q R R k (k+1):=by
 refine⟨rfl,?_,λ_ _=>rfl⟩;obtain⟨x,hx⟩:∃x,R[k]?=some x:=⟨_,aO a⟩;rw[uR q R k x hx,if_pos (f x hx),List.append_nil];unfold keepR;rw[List.filter_eq_self.2];intro y d;obtain⟨j,b,e⟩:=List.mem_iff_getElem.1 d;rw[List.length_take]at b;rw[List.getElem_take]at e;rw[c j y (by omega) (by rw[aO (by omega),e])];rfl
theorem Kept.skip(h:Kept q R L i j)(b:R[j]?=some x)(a:q x=true):Kept q R L i (j+1):=
 ⟨h.len,by rw[uR q R j x b,if_pos a,List.append_nil];exact h.front,λk hk=>h.rest k (by omega)⟩
theorem Kept.put(h:Kept q R L i j)(hij:i<j)(hj:j<R.length)(b:R[j]?=some x)(a:q x=false):Kept q R (L.set i x) (i+1) (j+1):=by
 have hl:=h.len;refine⟨by rw[List.length_set];exact h.len,?_,λk hk=>?_⟩
 .rw[uR q R j x b,if_neg (by rw[a];simp),<-h.front,List.take_add_one,List.take_set_of_le (aC _),List.getElem?_set_self (by omega)];rfl
 .rw[List.getElem?_set_ne (by omega)];exact h.rest k (by omega)
theorem Kept.all(h:Kept q R L i R.length):L.take i=keepR q R:=by
 rw[h.front,List.take_length]
theorem lJ{b:World}{r:Option Nat}(h:w.grownBy W r)(a:Below W.heap.size W b):w.grownBy b r:=
 h.trans ⟨a.os,a.tape,a.output,a.size,λk c _=>a.block k c⟩
theorem kr{u:Value}(h:w.grownBy W (some g)):w.grownBy (W.setCell ⟨g,j,none⟩ u) (some g):=
 h.trans ⟨rfl,rfl,rfl,by simp,λk _ a=>iJ _ _ _ _ (λe=>a (by rw[e]))⟩
theorem kV(vs:List Value):∀{W:World} (o:Nat),w.grownBy W (some g)->w.grownBy (W.setCells g o vs) (some g):=by
 induction vs with
 |nil=>intro W o h;exact h
 |cons v r ih=>intro W o h;exact ih (o+1) (kr h)
theorem TP(w:World):(zeroValue 130).run prog w=.ok zD w:=by kernel_rfl
theorem C8(n:Nat):(Builtin.zeroCells zD.cells n).toList.length=n*4:=by
 simp[Builtin.zeroCells,zD,Value.cells]
theorem WE(n:Nat):∀v∈(Builtin.zeroCells zD.cells n).toList,v.oneCell'=true:=by
 intro v b;simp[Builtin.zeroCells,zD,Value.cells]at b;obtain⟨a,_,rfl⟩:=b;have:a % 4<4:=Nat.mod_lt _ (by omega)
 rcases(show a % 4=0∨a % 4=1∨a % 4=2∨a % 4=3 by omega)with h|h|h|h <;>(simp only[h];rfl)
theorem pU{base n cap:Nat}(h:W.ownsRow base 130 4 (.slice (some ⟨g,0,none⟩) n cap) n (R.flatMap ak))(hn:R.length=n)(j:Nat)(hj:j<n*4):(W.cell? ⟨g,j,none⟩).isSome=true/\W.frozen? ⟨g,j,none⟩=false:=by
 rcases h.2 with⟨a,_⟩|⟨g',cap',cur,a,hb,d,h2,h3,h4,h5⟩
 .cases a
 .cases a
  have c:j<(R.flatMap ak).length:=by rw[gG];omega
  have b:=h.cells (g:=g) rfl j _ (aO c);rw[bZ]at b;exact⟨by rw[b];rfl,fV d j⟩
theorem y8(base:Nat)(v:Value)(R:List D)(g:Nat)(cb:Array Value)(q:D->Bool)(w:World)(eg:∀args w,(callFunc g args).run prog w=.ok (.enter g args) w)(h:w.ownsRow base 130 4 v R.length (R.flatMap ak))(hR:R.length<=100000)
  (Q:∀(W:World) (x:D),w.grownBy W v.ownBlock->Calls prog g (#[vD x]++cb) W λe H=>e=.returned (.bool (q x))/\Below W.heap.size W H):
  Calls prog 185 #[v,.func (.func g) #[] cb] w λe H=>∃X,e=.returned X/\H.ownsRow base 130 4 X (keepR q R).length ((keepR q R).flatMap ak)/\w.grownBy H v.ownBlock/\X.ownBlock=v.ownBlock:=by
 have s:=Aa base v R g cb q w eg h hR (λW x o=>Q W x ⟨o.os,o.tape,o.output,o.size,λk A _=>o.block k A⟩);have K:=hid h;have HF:=hid Q;clear h Q;have c:=s;clear s;go_enter func185,ntmps185;go_wp2_with fail;refine c.mono ?_;rintro e w1 ⟨a,S⟩;have G1:Hid (w.grownBy w1 v.ownBlock):=⟨a.os,a.tape,a.output,a.size,λk A _=>a.block k A⟩;have R1:Hid (w1.ownsRow base 130 4 v R.length (R.flatMap ak)):=aL K.out a;clear a c
 rcases S with⟨rfl,y⟩|⟨k,A,rfl,E,z⟩
 .have Z:Hid (keepR q R=R):=by
   show keepR q R=R;unfold keepR;rw[List.filter_eq_self.2];intro x r;rw[y x r];rfl
  clear y;go_wp2;go_ret;exact⟨v,rfl,by rw[Z.out];exact R1.out,G1.out,rfl⟩
 .have K0:Hid (Kept q R R k (k+1)):=Kept.start A E z;clear E z;obtain⟨gs,f,rfl⟩:=gy K.out (by omega)
  have hck:R.length<=f:=by
   rcases K.out.2 with⟨Y,_⟩|⟨g',cap',cur,Y,_,_,h2,_⟩
   .cases Y
   .cases Y;exact h2
  have T:gs<w.heap.size:=(K.out.lt gs rfl).2
  have i0:(k:Int)<=100000:=by omega
  have i3:(R.length:Int)<=100000:=by omega
  have k1:((k:Int)== -1)=false:=by rw[beq_eq_false_iff_ne];omega
  have k1':(k:Int)≠ -1:=by omega
  go_wp2
  go_loopg [5,6] (R.length -(k+1)) (λgg v5 v6 wr=>∃(i j:Nat) (L:List D),i<j/\j<=R.length/\gg=R.length -j/\v5=.int .i64 i/\v6=.int .i64 j/\Hid (Kept q R L i j/\wr.ownsRow base 130 4 (.slice (some ⟨gs,0,none⟩) R.length f) R.length (L.flatMap ak)/\w.grownBy wr (some gs)))
  case atStart=>exact⟨k,k+1,R,by omega,by omega,rfl,rfl,by first|rfl|(congr 1;omega)|go_num,⟨K0.out,R1.out,G1.out⟩⟩
  case round=>
   obtain⟨i,j,L,P,hjn,hg,rfl,rfl,I⟩:=hrel;have HG:=hid hg;clear hg;have hgw:gs<wr.heap.size:=aR T I.out.2.2.size
   by_cases hlt:j<R.length
   .obtain⟨x,r⟩:∃x,R[j]?=some x:=⟨_,aO hlt⟩;have B:L[j]?=some x:=(I.out.1.rest j (aC _)).trans r;have M:=jo I.out.2.1 j x B;have HX:=hid r;have HL:=hid I.out.1.len;have V:=HF.out (wr.alloc (.cells #[.int .i64 x.k,.int .i64 x.t,.int .i64 x.v,.int .i64 x.n] 130)) x (lJ I.out.2.2 (fC _ _))
    have i1:(0:Int)<=(j:Int):=by omega
    have i2:(j:Int)<(R.length:Int):=by omega
    have i4:(0:Int)<=(i:Int):=by omega
    have i5:(i:Int)<(R.length:Int):=by omega
    simp only[vD]at V;clear r B;go_wp2_with fail;refine V.mono ?_;rintro e b ⟨rfl,l⟩;have fO:b.heap[wr.heap.size]?=some (.cells #[.int .i64 x.k,.int .i64 x.t,.int .i64 x.v,.int .i64 x.n] 130):=(l.block _ (by simp)).trans (eZ _ _)
    have hc3:b.cell? ⟨wr.heap.size,0,none⟩=some (.int .i64 x.k)/\b.cell? ⟨wr.heap.size,1,none⟩=some (.int .i64 x.t)/\b.cell? ⟨wr.heap.size,2,none⟩=some (.int .i64 x.v)/\b.cell? ⟨wr.heap.size,3,none⟩=some (.int .i64 x.n):=by
     refine⟨?_,?_,?_,?_⟩ <;>(rw[fq fO];rfl)
    have m:Hid (Kept q R L i j/\b.ownsRow base 130 4 (.slice (some ⟨gs,0,none⟩) R.length f) R.length (L.flatMap ak)/\w.grownBy b (some gs)):=
     ⟨I.out.1,aL (aL I.out.2.1 (fC _ _)) l,lJ (lJ I.out.2.2 (fC _ _)) l⟩
    clear V l M fO;cases hq:q x
    .have d:=λu hu=>pU m.out.2.1 HL.out (i*4+u) hu
     have f0:=d 0 (by omega);have f1:=d 1 (by omega);have f2:=d 2 (by omega);have f3:=d 3 (by omega);rw[Nat.add_zero]at f0;obtain⟨u0,e0⟩:=dN.1 f0.1;obtain⟨u1,Z⟩:=dN.1 f1.1;obtain⟨u2,e2⟩:=dN.1 f2.1;obtain⟨u3,e3⟩:=dN.1 f3.1;have z0:=f0.2;have z1:=f1.2;have z2:=f2.2;have z3:=f3.2
     have U:Hid (Kept q R (L.set i x) (i+1) (j+1)/\((((b.setCell ⟨gs,i*4,none⟩ (.int .i64 x.k)).setCell ⟨gs,i*4+1,none⟩ (.int .i64 x.t)).setCell ⟨gs,i*4+2,none⟩ (.int .i64 x.v)).setCell ⟨gs,i*4+3,none⟩ (.int .i64 x.n)).ownsRow base 130 4 (.slice (some ⟨gs,0,none⟩) R.length f) R.length ((L.set i x).flatMap ak)/\
       w.grownBy ((((b.setCell ⟨gs,i*4,none⟩ (.int .i64 x.k)).setCell ⟨gs,i*4+1,none⟩ (.int .i64 x.t)).setCell ⟨gs,i*4+2,none⟩ (.int .i64 x.v)).setCell ⟨gs,i*4+3,none⟩ (.int .i64 x.n)) (some gs)):=
      ⟨m.out.1.put P hlt HX.out hq,ML m.out.2.1 i x (by have:=HL.out;omega),kr (kr (kr (kr m.out.2.2)))⟩
     clear hq d f0 f1 f2 f3;go_wp2
     go_roundg (R.length -(j+1))
     case measure=>have:=HG.out;omega
     case rel=>exact⟨i+1,j+1,L.set i x,by omega,by omega,rfl,by first|rfl|(congr 1;omega)|go_num,by first|rfl|(congr 1;omega)|go_num,U⟩
    .have U:Hid (Kept q R L i (j+1)/\b.ownsRow base 130 4 (.slice (some ⟨gs,0,none⟩) R.length f) R.length (L.flatMap ak)/\w.grownBy b (some gs)):=⟨m.out.1.skip HX.out hq,m.out.2.1,m.out.2.2⟩;clear hq;go_wp2
     go_roundg (R.length -(j+1))
     case measure=>have:=HG.out;omega
     case rel=>exact⟨i,j+1,L,by omega,by omega,rfl,rfl,by first|rfl|(congr 1;omega)|go_num,U⟩
   .have C:Hid (Kept q R L i R.length):=by
     have e:j=R.length:=by omega
     show Kept q R L i R.length;rw[<-e];exact I.out.1
    have i2:¬((j:Int)<(R.length:Int)):=by omega
    have i4:(0:Int)<=(i:Int):=by omega
    have i5:(i:Int)<=(R.length:Int):=by omega
    have i6:i<=f:=by omega
    have i7:¬f=i:=by omega
    have F:∀ty,(Builtin.clear_ #[67] ty #[.slice (some ⟨gs,i*4,none⟩) (R.length -i) (f -i)]).run prog wr=.ok (.tuple #[]) (wr.setCells gs (i*4) (Builtin.zeroCells zD.cells (R.length -i)).toList):=λty=>
     wH wr 67 130 ty zD underlying67 TP gs (i*4) (R.length -i) (f -i) (by omega) (WE _)
      (λt N=>by rw[C8]at N;exact(pU I.out.2.1 C.out.len (i*4+t) (by omega)).1) (λt N=>by rw[C8]at N;exact(pU I.out.2.1 C.out.len (i*4+t) (by omega)).2)
    have G:Hid ((wr.setCells gs (i*4) (Builtin.zeroCells zD.cells (R.length -i)).toList).ownsRow base 130 4 (.slice (some ⟨gs,0,none⟩) i f) (keepR q R).length ((keepR q R).flatMap ak)/\w.grownBy (wr.setCells gs (i*4) (Builtin.zeroCells zD.cells (R.length -i)).toList) (some gs)):=by
     have ha:=Jd (gH (Builtin.zeroCells zD.cells (R.length -i)).toList (i*4) I.out.2.1) i (by omega);rw[MJ _ _ _ _ (aC _),<-qU,C.out.all]at ha
     have p:(keepR q R).length=i:=by
      rw[<-C.out.all,List.length_take,C.out.len];omega
     refine⟨?_,kV _ _ I.out.2.2⟩;rw[p];exact ha
    revert F G;generalize wr.setCells gs (i*4) (Builtin.zeroCells zD.cells (R.length -i)).toList=wz;intro F G;go_wp2;go_ret;exact⟨_,rfl,G.out.1,G.out.2,rfl⟩
end
section
open Go.Joins Go.Shelf
variable{w d:World}{b o base:Nat}{v:Value}
structure l8(b o:Nat)(u:Value)(om:Option Nat)(w w':World):Prop where
 os:w'.os=w.os
 tape:w'.tape=w.tape
 output:w'.output=w.output
 size:w.heap.size<=w'.heap.size
 block:∀k,k<w.heap.size->k≠b->om≠some k->w'.heap[k]?=w.heap[k]?
 this:w'.heap[b]?=(w.setCell ⟨b,o,none⟩ u).heap[b]?
theorem Ab{a:World}{u:Value}(h:a.heap[b]?=w.heap[b]?):(a.setCell ⟨b,o,none⟩ u).heap[b]?=(w.setCell ⟨b,o,none⟩ u).heap[b]? :=by
 simp only[World.setCell,Array.getElem?_modify,h]
theorem vX{c:Value}{R R':List D}(n:bB w base b o v R)(i:d.ownsRow base 130 4 c R'.length (R'.flatMap ak))(h:c.ownBlock≠some b)(f:w.grownBy d v.ownBlock):
  bB (d.setCell ⟨b,o,none⟩ c) base b o c R'/\l8 b o c v.ownBlock w (d.setCell ⟨b,o,none⟩ c):=by
 have l:=n.lt;obtain⟨cs,T,p,m⟩:=n.blk;have q:=n.own;have a:d.heap[b]?=w.heap[b]? :=f.block b l (λe=>q e.symm);refine⟨⟨⟨_,_,fZ (a.trans p) c,?_⟩,?_,h⟩,?_⟩
 .have:=(ax.1 m).1;simp[this]
 .refine i.kept (row:=some b) ⟨rfl,rfl,rfl,by simp,λk g j=>?_⟩ (Or.inr h);exact iJ _ _ _ _ (λe=>j (by rw[e]))
 .refine⟨f.os,f.tape,f.output,by simpa using f.size,λk g p m=>?_,Ab a⟩;rw[iJ _ _ _ _ p];exact f.block k g (λe=>m e.symm)
theorem grown_of{W:World}{f:Option Nat}(a:Below w.heap.size w W)(c:W.grownBy d f):w.grownBy d f:=
 ⟨c.os.trans a.os,c.tape.trans a.tape,c.output.trans a.output,aH a.size c.size,λk e g=>(c.block k (aR e a.size) g).trans (a.block k e)⟩
theorem jq{n:Nat}{xs:List Value}(h:w.ownsRow base 130 4 v n xs):∃a c,v=.slice a n c:=by
 rcases h.2 with⟨rfl,e⟩|⟨g,cap,cur,rfl,_⟩
 .exact⟨none,0,by rw[e]⟩
 .exact⟨_,_,rfl⟩
theorem AY(base b o:Nat)(v:Value)(R:List D)(av:Int)(w:World)(h:bB w base b o v R)(F:R.length<=100000):
  Calls Tryz.prog 112 #[.pointer (some ⟨b,o,none⟩),.int .i64 av] w λe u=>e=.returned (.int .i64 ((R.length:Int) -((keepR (λx=>decide (x.t<=av)) R).length:Int)))/\∃f,bB u base b o f (keepR (λx=>decide (x.t<=av)) R)/\l8 b o f v.ownBlock w u/\f.ownBlock=v.ownBlock:=by
 have s:=h.cell;have p:=h.lt;have C:∀args w,(callFunc 186 args).run Tryz.prog w=.ok (.enter 186 args) w:=enters_of Tryz.func186 (by kernel_rfl) rfl;have r:Below w.heap.size w (w.alloc (.cells #[.int .i64 av] 3)):=fC _ _
 have i:v.ownBlock≠some w.heap.size:=λe=>by have:=(h.row.lt _ e).2;omega
 have hd:=y8 base v R 186 #[.pointer (some ⟨w.heap.size,0,none⟩)] (λx=>decide (x.t<=av)) (w.alloc (.cells #[.int .i64 av] 3)) C (h.below r).row F (λW x E=>by
  have m:W.heap[w.heap.size]?=some (.cells #[.int .i64 av] 3):=(E.block w.heap.size (by simp) (λe=>i e.symm)).trans (eZ _ _)
  exact MM w.heap.size av x W (by rw[fq m];rfl) (ax.1 m).1)
 have z:Hid (∀f g,g.ownsRow base 130 4 f (keepR (λx=>decide (x.t<=av)) R).length ((keepR (λx=>decide (x.t<=av)) R).flatMap ak)->f.ownBlock=v.ownBlock->(w.alloc (.cells #[.int .i64 av] 3)).grownBy g v.ownBlock->(g.cell? ⟨b,o,none⟩=some v/\g.frozen? ⟨b,o,none⟩=false)/\bB (g.setCell ⟨b,o,none⟩ f) base b o f (keepR (λx=>decide (x.t<=av)) R)/\l8 b o f v.ownBlock w (g.setCell ⟨b,o,none⟩ f)):=by
  intro f g n k j;have c:g.heap[b]?=w.heap[b]? :=(grown_of r j).block b p (λe=>h.own e.symm);exact⟨⟨(World.cell?_of_block (w:=w) (a:=⟨b,o,none⟩) c).trans s.1,(World.frozen?_of_block (w:=w) (a:=⟨b,o,none⟩) c).trans s.2⟩,vX h n (by rw[k];exact h.own) (grown_of r j)⟩
 have hkl:(keepR (λx=>decide (x.t<=av)) R).length<=R.length:=dG _ _;obtain⟨A,y,rfl⟩:=h.form;generalize keepR (λx=>decide (x.t<=av)) R=K at *
 have i1:(K.length:Int)<=(R.length:Int):=by omega
 have i2:(R.length:Int)<=100000:=by omega
 clear h i;go_enter Tryz.func112,Tryz.ntmps112;go_wp2_with fail;refine hd.mono ?_;rintro e g ⟨f,rfl,n,j,k⟩;obtain⟨c,B,l⟩:=z.out f g n k j;have c2:=c.1;have f2:=c.2;have q:Hid (bB (g.setCell ⟨b,o,none⟩ f) base b o f K/\l8 b o f (Value.slice A R.length y).ownBlock w (g.setCell ⟨b,o,none⟩ f)/\f.ownBlock=(Value.slice A R.length y).ownBlock):=⟨B,l,k⟩;obtain⟨oa',c',rfl⟩:=jq n;clear B l k n j hd z c;go_wp2;go_ret;exact⟨rfl,_,q.out.1,q.out.2.1,q.out.2.2⟩
end
section
open Go.Shelf
variable{d wr:World}{base c f p i:Nat}{R:List D}{b av:Int}{g:Value}
def meets(b av:Int)(x:D):Bool:=decide (x.k=b/\x.t<=av)
def sH(x:D):D:={ x with n:=bR x.n}
def bF(b fH av:Int)(R:List D):List D:=(R.drop (aV b fH R)).takeWhile (meets b av)
def fo(R:List D)(p i:Nat):List D:=R.take p++(((R.drop p).take i).map sH++R.drop (p+i))
theorem uS(R:List D)(p:Nat):fo R p 0=R:=by simp[fo]
theorem y9(R:List D)(p i:Nat)(h:p+i<=R.length):(fo R p i).length=R.length:=by
 simp[fo];omega
theorem C9(R:List D)(p i k:Nat)(h:p+i<=R.length):(fo R p i)[k]?=if p<=k/\k<p+i then(R[k]?).map sH else R[k]? :=by
 have e:(R.take p).length=p:=by rw[List.length_take];omega
 have a:(((R.drop p).take i).map sH).length=i:=by rw[List.length_map,List.length_take,List.length_drop];omega
 unfold fo
 by_cases k1:k<p
 .rw[if_neg (by omega),eB (by rw[e];exact k1),dQ k1]
 .rw[dK (by rw[e];omega),e]
  by_cases k2:k<p+i
  .rw[if_pos (by omega),eB (by rw[a];omega),List.getElem?_map,dQ (by omega),List.getElem?_drop,show p+(k -p)=k by omega]
  .rw[if_neg (by omega),dK (by rw[a];omega),a,List.getElem?_drop,show p+i+(k -p -i)=k by omega]
theorem FX(R:List D)(p i:Nat)(h:p+i<R.length):(fo R p i)[p+i]?=R[p+i]? :=by
 rw[C9 R p i _ (by omega),if_neg (by omega)]
theorem MN(R:List D)(p i:Nat)(x:D)(a:R[p+i]?=some x):fo R p (i+1)=(fo R p i).set (p+i) (sH x):=by
 have h:p+i<R.length:=(bP.1 a).1;apply eH;intro k;rw[C9 R p (i+1) k (by omega)]
 by_cases e:k=p+i
 .subst e;rw[List.getElem?_set_self (by rw[y9 R p i (by omega)];exact h),if_pos (by omega),a];rfl
 .rw[List.getElem?_set_ne (by omega),C9 R p i k (by omega)]
  by_cases k1:p<=k/\k<p+i
  .rw[if_pos k1,if_pos (by omega)]
  .rw[if_neg k1,if_neg (by omega)]
theorem Da(q:D->Bool)(T:List D)(i:Nat)(hi:i<=T.length)(k:∀j x,j<i->T[j]?=some x->q x=true)(h:∀x,T[i]?=some x->q x=false):T.takeWhile q=T.take i:=by
 induction T generalizing i with
 |nil=>simp
 |cons a r ih=>
  cases i with
  |zero=>
   have:=h a rfl;simp[this]
  |succ i=>
   have l:=k 0 a (by omega) rfl;rw[List.takeWhile_cons,if_pos l,List.take_succ_cons,ih i (by simpa using hi) (λj x hj e=>k (j+1) x (by omega) (by simpa using e)) (λx e=>h x (by simpa using e))]
theorem Je(R:List D)(i:Nat)(x:D)(m:Int)(e:R[i]?=some x):(R.set i { x with n:=m}).flatMap ak=(R.flatMap ak).set (i*4+3) (.int .i64 m):=by
 induction R generalizing i with
 |nil=>simp at e
 |cons a r ih=>
  cases i with
  |zero=>simp at e;subst e;simp[ak]
  |succ i=>
   rw[List.set_cons_succ,List.flatMap_cons,List.flatMap_cons,ih i (by simpa using e)];simp[ak,show(i+1)*4+3=i*4+3+1+1+1+1 by omega]
structure Mt(d:World)(base c f p:Nat)(R:List D)(b av:Int)(i:Nat)(g:Value)(wr:World):Prop where
 grown:d.grownBy wr (some c)
 row:wr.ownsRow base 130 4 (.slice (some ⟨c,0,none⟩) R.length f) R.length ((fo R p i).flatMap ak)
 met:wr.ownsRow d.heap.size 130 4 g ((R.drop p).take i).length (((R.drop p).take i).flatMap ak)
 all:∀j x,j<i->R[p+j]?=some x->meets b av x=true
theorem Mt.start(h:d.ownsRow base 130 4 (.slice (some ⟨c,0,none⟩) R.length f) R.length (R.flatMap ak)):Mt d base c f p R b av 0 (.slice none 0 0) d:=
 ⟨⟨rfl,rfl,rfl,aC _,λ_ _ _=>rfl⟩,by rw[uS];exact h,iR _ _ _ _,λj x a=>absurd a (Nat.not_lt_zero _)⟩
theorem Mt.step{W o:World}{t C:Nat}{x:D}(h:Mt d base c f p R b av i g wr)(E:c<d.heap.size)(v:R[p+i]?=some x)(L:meets b av x=true)
  (q:Below wr.heap.size wr W) (m:o.ownsRow d.heap.size 130 4 (.slice (some ⟨t,0,none⟩) (((R.drop p).take i).length+1) C) (((R.drop p).take i).length+1) (((R.drop p).take i).flatMap ak++ak x)) (s:W.grownBy o g.ownBlock):
  Mt d base c f p R b av (i+1) (.slice (some ⟨t,0,none⟩) (((R.drop p).take i).length+1) C) (o.setCell ⟨c,(p+i)*4+3,none⟩ (.int .i64 (bR x.n)))/\
   (∀j,j<R.length*4->(o.cell? ⟨c,j,none⟩).isSome=true/\o.frozen? ⟨c,j,none⟩=false):=by
 have A:p+i<R.length:=(bP.1 v).1;have hgw:c<W.heap.size:=aR E (aH h.grown.size q.size)
 have F:g.ownBlock≠some c:=λe=>by have:=(h.met.lt c e).1;omega
 have a:o.ownsRow base 130 4 (.slice (some ⟨c,0,none⟩) R.length f) R.length ((fo R p i).flatMap ak):=by
  refine(aL h.row q).kept s (Or.inr ?_);simp only[Value.ownBlock]
  exact λe=>F e.symm
 have l:d.grownBy o (some c):=by
  refine⟨s.os.trans (q.os.trans h.grown.os),s.tape.trans (q.tape.trans h.grown.tape),s.output.trans (q.output.trans h.grown.output),aH h.grown.size (aH q.size s.size),λk H r=>?_⟩;have u:k<wr.heap.size:=aR H h.grown.size;have w:k<W.heap.size:=aR u q.size;exact((s.block k w (λe=>by have:=(h.met.lt k e.symm).1;omega)).trans (q.block k u)).trans (h.grown.block k H r)
 have B:(R.drop p).take (i+1)=(R.drop p).take i++[x]:=by
  rw[List.take_add_one,List.getElem?_drop,v];rfl
 have G:t≠c:=λe=>by have:=(m.lt t rfl).1;omega
 refine⟨⟨kr l,?_,?_,λj y I z=>?_⟩,λj I=>pU a (y9 R p i (by omega)) j I⟩
 .rw[MN R p i x v];have:=vW a ((p+i)*4+3) (.int .i64 (bR x.n));rw[<-Je (fo R p i) (p+i) x (bR x.n) ((FX R p i A).trans v)]at this;exact this
 .have K:o.ownsRow d.heap.size 130 4 (.slice (some ⟨t,0,none⟩) (((R.drop p).take i).length+1) C) ((R.drop p).take (i+1)).length (((R.drop p).take (i+1)).flatMap ak):=by
   rw[B,List.length_append,List.flatMap_append];simpa using m
  refine K.kept (row:=some c) ⟨rfl,rfl,rfl,by simp,λk _ r=>iJ _ _ _ _ (λe=>r (by rw[e]))⟩ (Or.inr (by simp[Value.ownBlock];exact G))
 .by_cases e:j=i
  .subst e;rw[v]at z;cases z;exact L
  .exact h.all j y (by omega) z
theorem Mt.met_is{fH:Int}(h:Mt d base c f (aV b fH R) R b av i g wr)(hi:aV b fH R+i<=R.length)(k:∀x,R[aV b fH R+i]?=some x->meets b av x=false):bF b fH av R=(R.drop (aV b fH R)).take i:=by
 unfold bF;refine Da _ _ i (by simp;omega) (λj x e a=>h.all j x e (by rwa [List.getElem?_drop]at a)) (λx a=>k x (by rwa [List.getElem?_drop]at a))
end
section
open Go.Proofs.Tryz Go.Joins Go.Shelf
variable{d wr:World}{base c f i:Nat}{R:List D}{a av:Int}{g:Value}
theorem Mt.go{W:World}{p:Nat}(h:Mt d base c f p R a av i g wr)(b:Below wr.heap.size wr W):Mt d base c f p R a av i g W:=
 ⟨lJ h.grown b,aL h.row b,aL h.met b,h.all⟩
theorem Mt.ends{w:World}{b o:Nat}{fH:Int}(l:bB w base b o (.slice (some ⟨c,0,none⟩) R.length f) R)(j:Below w.heap.size w d)(h:Mt d base c f (aV a fH R) R a av i g wr)(hi:aV a fH R+i<=R.length)
  (n:∀x,R[aV a fH R+i]?=some x->meets a av x=false):
  wr.ownsRow w.heap.size 130 4 g (bF a fH av R).length ((bF a fH av R).flatMap ak)/\bB wr base b o (.slice (some ⟨c,0,none⟩) R.length f) (fo R (aV a fH R) (bF a fH av R).length)/\w.grownBy wr (some c):=by
 have s:=h.met_is hi n
 have p:(bF a fH av R).length=i:=by rw[s,List.length_take,List.length_drop];omega
 have m:c≠b:=λe=>l.own (by rw[<-e];rfl)
 have q:b<d.heap.size:=aR l.lt j.size;refine⟨?_,⟨?_,?_,l.own⟩,?_⟩
 .rw[s];exact ownsRow_le h.met j.size
 .have p:=l.lt;obtain⟨cs,T,t,n⟩:=l.blk;exact⟨cs,T,(h.grown.block b q (λe=>m (by cases e;rfl))).trans ((j.block b p).trans t),n⟩
 .rw[p,y9 R _ i hi];exact h.row
 .exact⟨h.grown.os.trans j.os,h.grown.tape.trans j.tape,h.grown.output.trans j.output,aH j.size h.grown.size,λk r u=>(h.grown.block k (aR r j.size) u).trans (j.block k r)⟩
theorem AU(base b o:Nat)(v:Value)(R:List D)(a fH av:Int)(w:World)(h:bB w base b o v R)(hs:ay R)(hR:R.length<=100000)(hn:∀x∈R,-9223372036854775808<=x.n/\x.n<=9223372036854775807):
  Calls prog 103 #[.pointer (some ⟨b,o,none⟩),.int .i64 a,.int .i64 fH,.int .i64 av] w λe K=>∃g,e=.returned g/\K.ownsRow w.heap.size 130 4 g (bF a fH av R).length ((bF a fH av R).flatMap ak)/\
   bB K base b o v (fo R (aV a fH R) (bF a fH av R).length)/\w.grownBy K v.ownBlock:=by
 obtain⟨i0,hi,Z,hz1,hz2⟩:=je xm
 have hk:=λp os=>(h.below (below_regrown w p os)).cell
 have U:Hid (∀p os,Calls prog 171 #[.pointer (some ⟨b,o,none⟩),.int .i64 a,.int .i64 fH] (Go.Sort.grow (redrawn w p) os) λe K=>e=.returned (.int .i64 (aV a fH R))/\Below (Go.Sort.grow (redrawn w p) os).heap.size (Go.Sort.grow (redrawn w p) os) K):=
  λp os=>BG base b o v R a fH _ (h.below (below_regrown w p os)) hs hR
 have C:=hid h;have HN:=hid hn;have hp:=QW a fH R;have hlt:=h.lt;have Q:∃p,p=aV a fH R:=⟨_,rfl⟩;obtain⟨p,nD⟩:=Q;have B:=hid nD;rw[<-nD]at U hp;clear h hs hn nD
 rcases ownsRow_forms C.out.row with⟨rfl,h0⟩|⟨c,f,rfl⟩
 .have hR0:Hid (R=[]):=di h0
  have p0:p=0:=by omega
  subst p0;have e0:R.length=0:=h0;go_enter func103,ntmps103;go_wp2;refine wp_region_quiet_below (by kernel_rfl) (by kernel_rfl) ?_
  repeat (quiet_step (first|(go_at_call 171;exact Calls.regrown_of (U.out _ _))|fail))
  refine wpQuiet_nil ?_;intro _ E;obtain⟨⟨dq,s⟩,r⟩:=E;subst r;go_wp2;refine wp_loop_rounds 1 ?_;rw[rounds_succ];go_wp2;go_ret;have H:=below_regrown w dq s
  have hm:bF a fH av R=[]:=by rw[hR0.out];rfl
  refine⟨_,rfl,?_,?_,⟨H.os,H.tape,H.output,H.size,λk hk _=>H.block k hk⟩⟩
  .rw[hm];exact iR _ _ _ _
  .rw[hm,List.length_nil,uS];exact C.out.below H
 .have hgs:c<w.heap.size:=(C.out.row.lt c rfl).2
  have hck:R.length<=f:=by
   rcases C.out.row.2 with⟨h1,_⟩|⟨g',cap',cur,h1,_,_,V,_⟩
   .cases h1
   .cases h1;exact V
  have i1:(0:Int)<=(p:Int):=by omega
  have i2:(p:Int)<=(R.length:Int):=by omega
  have i3:(R.length:Int)<=100000:=by omega
  have i4:p<=f:=by omega
  obtain⟨A,hA,hA2⟩:∃A:Addr,(if f=p then some (⟨c,0,none⟩:Addr)else some ⟨c,p*4,none⟩)=some A/\(p<R.length->A=⟨c,p*4,none⟩):=by
   by_cases e:f=p
   .exact⟨⟨c,0,none⟩,by simp[e],λh=>by omega⟩
   .exact⟨⟨c,p*4,none⟩,by simp[e],λ_=>rfl⟩
  have HA2:=hid hA2;clear hA2;go_enter func103,ntmps103;go_wp2;refine wp_region_quiet_below (by kernel_rfl) (by kernel_rfl) ?_
  repeat (quiet_step (first|(go_at_call 171;exact Calls.regrown_of (U.out _ _))|fail))
  refine wpQuiet_nil ?_;intro _ E;obtain⟨⟨dq,s⟩,r⟩:=E;subst r;have G:Hid (Below w.heap.size w (Go.Sort.grow (redrawn w dq) s)):=below_regrown w dq s;clear hk U
  dsimp only
  revert G;generalize Go.Sort.grow (redrawn w dq) s=d;intro G;have M0:Hid (Mt d base c f p R a av 0 (.slice none 0 0) d):=Mt.start (aL C.out.row G.out);have QX:c<d.heap.size:=aR hgs G.out.size
  have i5:((R.length -p:Nat):Int)<=100000:=by omega
  go_wp2
  go_loopg [9,24] (R.length -p) (λgg v9 Y wr=>∃(i:Nat),i<=R.length -p/\gg=R.length -p -i/\Y=.int .i64 i/\Hid (Mt d base c f p R a av i v9 wr))
  case atStart=>exact⟨0,aW _,rfl,rfl,M0⟩
  case round=>
   obtain⟨i,hi2,hg,rfl,I⟩:=hrel;have HG:=hid hg;clear hg;have hgw:c<wr.heap.size:=aR QX I.out.grown.size
   by_cases hlt2:i<R.length -p
   .have X:=HA2.out (by omega);subst X;obtain⟨x,hx⟩:∃x,R[p+i]?=some x:=⟨_,aO (show p+i<R.length by omega)⟩;have W:=jo I.out.row (p+i) x ((FX R p i (by omega)).trans hx);rw[Nat.add_mul]at W;have HX:=hid hx;have S:=HN.out x (cZ hx)
    have j1:(0:Int)<=(i:Int):=by omega
    have j2:(i:Int)<((R.length -p:Nat):Int):=by omega
    have j3:i<R.length -p:=hlt2
    have hti:((R.drop p).take i).length=i:=by rw[List.length_take,List.length_drop];omega
    clear hx
    by_cases hk1:x.k=a
    .by_cases ht:x.t<=av
     .have M:Hid (meets a av x=true):=by show meets a av x=true;simp[meets,hk1,ht]
      have HO:Hid (((wr.alloc (.cells #[.int .i64 x.k,.int .i64 x.t,.int .i64 x.v,.int .i64 x.n] 130)).alloc (.cells #[.int .i64 x.k,.int .i64 x.t,.int .i64 x.v,.int .i64 x.n] 130)).ownsRow d.heap.size 130 4 u9 ((R.drop p).take i).length (((R.drop p).take i).flatMap ak)):=(I.out.met.alloc _).alloc _
      have HW:Hid (∀j u,(ak x)[j]?=some u->((wr.alloc (.cells #[.int .i64 x.k,.int .i64 x.t,.int .i64 x.v,.int .i64 x.n] 130)).alloc (.cells #[.int .i64 x.k,.int .i64 x.t,.int .i64 x.v,.int .i64 x.n] 130)).cell? ((⟨wr.heap.size+1,0,none⟩:Addr).add j)=some u):=by
       have V:=eZ (wr.alloc (.cells #[.int .i64 x.k,.int .i64 x.t,.int .i64 x.v,.int .i64 x.n] 130)) (.cells #[.int .i64 x.k,.int .i64 x.t,.int .i64 x.v,.int .i64 x.n] 130);simp only[World.size_alloc]at V;exact World.news_of_block V
      have N:Below wr.heap.size wr ((wr.alloc (.cells #[.int .i64 x.k,.int .i64 x.t,.int .i64 x.v,.int .i64 x.n] 130)).alloc (.cells #[.int .i64 x.k,.int .i64 x.t,.int .i64 x.v,.int .i64 x.n] 130)):=fK _ _ _;have HB3:=hid N
      have HV:Hid (u9.ownBlock≠some wr.heap.size):=λe=>by have:=(I.out.met.lt _ e).2;omega
      have hw2:d.heap.size<=wr.heap.size:=I.out.grown.size
      have L:(x.k !=a)=false:=by simp[hk1]
      have hgt:¬(av<x.t):=by omega
      clear N hk1 ht
      go_wp2_with (first
       |(refine wpList_append_lies _ rfl _ _ _ rfl d.heap.size 130 i0 zD 4 32 underlying67 hi Z hz1 hz2 rfl (by omega) u9 ((R.drop p).take i).length (((R.drop p).take i).flatMap ak) rfl HO.out ⟨wr.heap.size+1,0,none⟩ 1 1 (ak x) rfl rfl HW.out (mo x) (by omega) (by unfold maxLen;omega) (by omega) (by simp;omega) _ rfl ?_;intro g1 oL w3 q l SH T;have M3:=I.out.step QX HX.out M.out HB3.out q l;have P:w3.heap[wr.heap.size]?=some (.cells #[.int .i64 x.k,.int .i64 x.t,.int .i64 x.v,.int .i64 x.n] 130):=(l.block wr.heap.size (by simp;omega) (λe=>HV.out e.symm)).trans (Eq.trans (gL _ _ _ (by simp)) (eZ _ _));have hcb:w3.cell? ⟨wr.heap.size,3,none⟩=some (.int .i64 x.n):=(by rw[fq P];rfl);have M4:=hid M3.1;have z:=M3.2 ((p+i)*4+3) (by omega);rw[Nat.add_mul]at z;obtain⟨uo,huo⟩:=dN.1 z.1;have hfz:=z.2;clear M3 q l SH T P z)
       |(go_at_call 172;refine(FW x.n _ S.1 S.2).mono ?_;rintro e K ⟨rfl,rfl⟩)
       |fail)
      go_roundg (R.length -p -(i+1))
      case measure=>have:=HG.out;omega
      case rel=>
       have:=M4.out;rw[Nat.add_mul,hti]at this;exact⟨i+1,by omega,rfl,by first|rfl|(congr 1;omega)|go_num,this⟩
     .have M:Hid (meets a av x=false):=by show meets a av x=false;simp[meets];intro _;omega
      have L:(x.k !=a)=false:=by simp[hk1]
      have hgt:av<x.t:=by omega
      clear hk1 ht;go_wp2;go_ret;have m:=Mt.ends (fH:=fH) C.out G.out (B.out ▸ I.out.go (fC wr (.cells #[.int .i64 x.k,.int .i64 x.t,.int .i64 x.v,.int .i64 x.n] 130))) (by rw[<-B.out];omega) (λy F=>by rw[<-B.out,HX.out]at F;cases F;exact M.out);exact⟨u9,rfl,m⟩
    .have M:Hid (meets a av x=false):=by show meets a av x=false;simp[meets,hk1]
     have L:(x.k !=a)=true:=by simp[hk1]
     clear hk1;go_wp2;go_ret;have m:=Mt.ends (fH:=fH) C.out G.out (B.out ▸ I.out.go (fC wr (.cells #[.int .i64 x.k,.int .i64 x.t,.int .i64 x.v,.int .i64 x.n] 130))) (by rw[<-B.out];omega) (λy F=>by rw[<-B.out,HX.out]at F;cases F;exact M.out);exact⟨u9,rfl,m⟩
   .have j2:¬((i:Int)<((R.length -p:Nat):Int)):=by omega
    go_wp2;go_ret
    have m:=Mt.ends (fH:=fH) C.out G.out (B.out ▸ I.out) (by rw[<-B.out];omega) (λy F=>by
     have h3:=(bP.1 F).1
     rw[<-B.out]at h3;omega)
    exact⟨u9,rfl,m⟩
end
end Go.Proofs.YthfpipieboophaaGreatDoor
