import Derived.Test.YthfpipieboophaaGreatDoorZRjl
import Derived.Test.YthfpipieboophaaGreatDoorRjf
import Derived.Test.YthfpipieboophaaGreatDoorRjh
namespace Go.Proofs.YthfpipieboophaaGreatDoor
set_option maxRecDepth 100000
set_option maxHeartbeats 40000000
open Go.RowKit Go.Sort Go.Shelf
section
variable{R E:List Hl}{c:Int}
structure RS where
 x:RJ
 M:List O
 f0:Int
 f1:Int
abbrev nN(E:List Hl):Prop:=E.Pairwise (λa b=>rY b a=false)
structure iP(R:List Hl)(c:Int):Prop where
 inc:R.Pairwise (λa b=>a.came<b.came)
 le:∀h∈R,h.came<=c
theorem FH:∀{R:List Hl},R.Pairwise (λa b=>a.came<b.came)->∀a∈R,∀b∈R,a.came=b.came->a=b
 |[],_,a,ha,_,_,_=>by simp at ha
 |x::R,h,a,ha,b,hb,e=>by
  rw[List.pairwise_cons]at h
  rcases dM.1 ha with h1|h1
  .rcases dM.1 hb with h2|h2
   .rw[h1,h2]
   .have:=h.1 b h2;rw[h1]at e;omega
  .rcases dM.1 hb with h2|h2
   .have:=h.1 a h1;rw[h2]at e;omega
   .exact FH h.2 a h1 b h2 e
theorem qD{d:List Hl}(h:R.Pairwise (λa b=>a.came<b.came))(f:E.Perm R)(e:d.Perm R)(m:nN E)(l:nN d):E=d:=by
 refine List.Perm.eq_of_pairwise (le:=λa b=>rY b a=false) (λa b g k j i=>?_) m l (f.trans e.symm);rw[mW]at j i;exact FH h a (f.subset g) b (e.subset k) (by omega)
theorem oN(h:nN E):ay (E.map fE):=by
 unfold ay;rw[List.pairwise_map];refine h.imp ?_;intro a b d;rw[mW]at d;show a.k<b.k∨(a.k=b.k/\a.t<=b.t);omega
def M8(k fr av:Int)(h:Hl):Hl:=if eF k fr av h=true then kN h else h
theorem oO(k fr av:Int)(h:Hl):(M8 k fr av h).k=h.k/\(M8 k fr av h).t=h.t/\(M8 k fr av h).came=h.came:=by
 unfold M8
 split
 .exact⟨rfl,rfl,rfl⟩
 .exact⟨rfl,rfl,rfl⟩
theorem V6(k fr av:Int)(a b:Hl):rY (M8 k fr av a) (M8 k fr av b)=rY a b:=by
 unfold rY;obtain⟨f,e,h⟩:=oO k fr av a;obtain⟨d,g,i⟩:=oO k fr av b;rw[f,e,h,d,g,i]
theorem iP.inc'(h:iP R c)(k fr av:Int):iP (R.map λh=>if eF k fr av h=true then kN h else h) c:=by
 refine⟨?_,?_⟩
 .show(R.map (M8 k fr av)).Pairwise _;rw[List.pairwise_map];refine h.inc.imp ?_;intro a b d;rw[(oO k fr av a).2.2,(oO k fr av b).2.2];exact d
 .intro y e;obtain⟨z,f,rfl⟩:=dH.1 e;show(M8 k fr av z).came<=c;rw[(oO k fr av z).2.2];exact h.le z f
theorem iP.more{d:Int}(h:iP R c)(a:c<=d):iP R d:=⟨h.inc,λy b=>Int.le_trans (h.le y b) a⟩
theorem iP.put(h:iP R c)(y:Hl)(hy:y.came=c+1):iP (R++[y]) (c+1):=by
 refine⟨?_,?_⟩
 .rw[List.pairwise_append];refine⟨h.inc,List.pairwise_singleton _ _,?_⟩;intro a d b e
  have:b=y:=by simpa using e
  subst this;have:=h.le a d;omega
 .intro z f
  rcases List.mem_append.1 f with g|g
  .have:=h.le z g;omega
  .have:z=y:=by simpa using g
   subst this;omega
theorem iP.filt(h:iP R c)(f:Hl->Bool):iP (R.filter f) c:=⟨h.inc.filter f,λy a=>h.le y (List.mem_filter.1 a).1⟩
end
section
open Go.Joins
variable{a bj:Nat}{rs:RS}{P:Nat->Prop}{W f:World}{v d c b:Value}{x:RJ}{M:List O}{f0 f1:Int}
def RE(a:Nat)(rs:RS)(P:Nat->Prop)(W:World):Prop:=
 ∃bj v c b,nM W a bj v c b rs.x rs.M rs.f0 rs.f1/\∀k,P k↔(k=a∨k=bj∨v.ownBlock=some k∨c.ownBlock=some k∨b.ownBlock=some k)
theorem RE.plt(h:RE a rs P W):∀k,P k->k<W.heap.size:=by
 obtain⟨bj,v,c,b,g,j⟩:=h;intro k i
 rcases(j k).1 i with e|e|e|e|e
 .rw[e];exact g.bag.lt
 .rw[e];exact g.join.lt
 .exact(g.bag.row.lt k e).2
 .exact(g.join.r0.lt k e).2
 .exact(g.join.r1.lt k e).2
theorem RE.pbe(h:RE a rs P W):P a:=by
 obtain⟨bj,v,c,b,hA,e⟩:=h;exact(e a).2 (.inl rfl)
theorem RE.still(h:RE a rs P W)(l:∀k,P k->f.heap[k]?=W.heap[k]?):RE a rs P f:=by
 obtain⟨bj,v,c,b,j,i⟩:=h;refine⟨bj,v,c,b,⟨⟨(l a ((i a).2 (.inl rfl))).trans j.bag.blk,?_⟩,⟨(l bj ((i bj).2 (.inr (.inl rfl)))).trans j.join.blk,?_,?_,j.join.apart⟩⟩,i⟩
 .exact ag j.bag.row (λg e=>l g ((i g).2 (.inr (.inr (.inl e)))))
 .exact ag j.join.r0 (λg e=>l g ((i g).2 (.inr (.inr (.inr (.inl e))))))
 .exact ag j.join.r1 (λg e=>l g ((i g).2 (.inr (.inr (.inr (.inr e))))))
theorem RE.below(h:RE a rs P W)(g:Below W.heap.size W f):RE a rs P f:=
 h.still (λk e=>g.block k (h.plt k e))
theorem mZ{e:World}(h:dF e v d)(hs:W.heap.size<=e.heap.size):dF W v d:=by
 rcases h with g|⟨q,g,gq⟩
 .exact .inl g
 .exact .inr ⟨q,g,by omega⟩
theorem pR(h:dF W v d):∀g,d.ownBlock=some g->v.ownBlock=some g∨W.heap.size<=g:=by
 intro g e
 rcases h with h|⟨q,h,hq⟩
 .exact .inl (h ▸ e)
 .rw[h]at e;cases e;exact .inr hq
theorem jV{R E:List Hl}{mode s k t u fr av:Int}(e:E.Perm R)(g:R.length<=300):(bU mode s k t u ((E.filter (eF k fr av)).map fE)).length<=1000:=by
 have h1:((E.filter (eF k fr av)).map fE).length<=300:=by
  rw[List.length_map];exact aH (dG _ _) (by rw[e.length_eq];exact g)
 unfold bU
 split
 .split <;>simp
 .exact aH (rP _ _ _ _ _ _ _) (by omega)
def Dh(st:Sx)(k t u:Int):List Ch:=if(st.feed0 k t u).1=0 then qc st.x ⟨k,t,u⟩else[]
def Di(st:Sx)(k t u:Int):List Ch:=if(st.feed1 k t u).1=0 then qd st.x ⟨k,t,u⟩else[]
theorem nM.turn{j:World}{o i:Value}{m:RJ}(h:nM W a bj v c b x M f0 f1)(p:dh j 0 bj o i m)(n:W.grownBy j (some bj)):nM j a bj v o i m M f0 f1:=by
 have k:a≠bj:=λe=>by
  have l:=h.bag.blk;rw[e,h.join.blk]at l;cases l
 refine⟨⟨(n.block a h.bag.lt (λe=>k (Option.some.inj e))).trans h.bag.blk,ag h.bag.row (λg e=>n.block g (h.bag.row.lt g e).2 (λr=>?_))⟩,p⟩;have q:=Option.some.inj r;exact dZ h.bag.row h.join.blk (by decide) (q ▸ e)
theorem oC(h:nM W a bj v c b x M f0 f1):W.cell? ⟨a,0,none⟩=some (.pointer (some ⟨bj,0,none⟩)):=by
 rw[fq h.bag.blk];rfl
end
section
theorem jw(n:Int):aa [n]=Lib.itoa n:=by
 unfold aa;rw[List.map_cons,Lib.join_cons];simp[Lib.joinTail]
theorem fB(ns:List Int)(f:∀n∈ns,af n)(d:ns.length<=1000)(w:World)(h:jP w)(g:Nat)(W:World)(b:Below w.heap.size w W)(a:W.heap[g]?=some (.cells (ns.map (Value.int .i64)).toArray 3)):
  Calls Tryz.prog 54 #[.slice (some ⟨g,0,none⟩) ns.length ns.length] W λe c=>e=.returned (sV (aa ns))/\Below W.heap.size W c:=
 jW ns g 0 ns.length W (aG h b) f (ax.1 a).1 (BS a) d
theorem yY{a b c:Int}(e:af a)(f:af b)(g:af c):∀n∈[a,b,c],af n:=by
 intro n d;simp at d
 rcases d with rfl|rfl|rfl
 .exact e
 .exact f
 .exact g
end
section
open Go.Joins
variable{a f0 f1 b c:Int}{α:Type}{w W r d p:World}{m:Value}{g cap n:Nat}{ns:List Int}
def nK(lo hi mode f0 f1 late m0 m1:Int):List UInt8:=[112,108,97,110,32]++aa [lo,hi,mode]++[10,102,101,100,32]++aa [f0,f1,late]++[10,109,97,114,107,115,32]++aa [m0,m1]++[10]
def ed(s:Int)(y:Hl):List UInt8:=[114,111,119,32]++aa [s,y.k,y.t,y.v,y.met]++[10]
def Tg(o:O):Int:=gY o.hl+2*gY o.hr
def kX(o:O):List UInt8:=[111,117,116,32]++aa (Tg o::dV o)++[10]
def FI(x:RJ)(f0 f1:Int)(E0 E1:List Hl)(Z:List O):List UInt8:=nK x.lo x.hi x.mode f0 f1 x.late x.m0 x.m1++E0.flatMap (ed 0)++E1.flatMap (ed 1)++Z.flatMap kX++[101,110,100,10]
structure Ym(x:RJ)(M:List O)(f0 f1:Int):Prop where
 lo:af x.lo
 hi:af x.hi
 mode:af x.mode
 f0:af f0
 f1:af f1
 late:af x.late
 m0:af x.m0
 m1:af x.m1
 r0:∀y∈x.R0,af y.k/\af y.t/\af y.v/\af y.met
 r1:∀y∈x.R1,af y.k/\af y.t/\af y.v/\af y.met
 l0:x.R0.length<=300
 l1:x.R1.length<=300
 o:∀o∈M,(o.hl=true∨o.hr=true)/\(af o.lk/\af o.lt/\af o.lv)/\(af o.rk/\af o.rt/\af o.rv)
 lm:M.length<=1000000
theorem aB{l:List Int}(h:af a)(f:∀n∈l,af n):∀n∈a::l,af n:=by
 intro n i
 rcases dM.1 i with e|e
 .rw[e];exact h
 .exact f n e
theorem kS:∀n∈([]:List Int),af n:=λn e=>by cases e
theorem sI(s:Int)(e:af s)(y:Hl)(h:af y.k/\af y.t/\af y.v/\af y.met):∀n∈[s,y.k,y.t,y.v,y.met],af n:=aB e (aB h.1 (aB h.2.1 (aB h.2.2.1 (aB h.2.2.2 kS))))
theorem FJ(s:Int)(e:af s)(y:Hl)(h:af y.k/\af y.t/\af y.v/\af y.met):(ed s y).length<=200:=by
 have:=bL _ (sI s e y h);unfold ed;simp only[List.length_append,List.length_cons,List.length_nil]at this⊢;omega
theorem xe(f:α->List UInt8)(c:Nat):∀(E:List α),(∀a∈E,(f a).length<=c)->(E.flatMap f).length<=E.length*c
 |[],_=>by simp
 |a::E,h=>by
  have h1:=h a (by simp);have h2:=xe f c E (λb e=>h b (by simp[e]));rw[List.flatMap_cons,List.length_append,List.length_cons,Nat.add_mul];omega
theorem uJ(f:α->List UInt8)(E:List α)(q:Nat)(y:α)(h:E[q]?=some y):(E.take (q+1)).flatMap f=(E.take q).flatMap f++f y:=by
 rw[List.take_add_one,h];simp
theorem Mf(o:O)(h:(af o.lk/\af o.lt/\af o.lv)/\(af o.rk/\af o.rt/\af o.rv)):(∀n∈dV o,af n)/\(dV o).length<=6:=by
 unfold dV;obtain⟨⟨f,i,k⟩,e,j,l⟩:=h
 cases o.hl <;>cases o.hr
 .exact⟨kS,by simp⟩
 .exact⟨aB e (aB j (aB l kS)),by simp⟩
 .exact⟨aB f (aB i (aB k kS)),by simp⟩
 .exact⟨aB f (aB i (aB k (aB e (aB j (aB l kS))))),by simp⟩
theorem Ti(o:O):af (Tg o):=by
 unfold Tg gY
 cases o.hl <;>cases o.hr <;>exact⟨by decide,by decide⟩
theorem Qt(o:O)(h:(af o.lk/\af o.lt/\af o.lv)/\(af o.rk/\af o.rt/\af o.rv)):(kX o).length<=200:=by
 have e:=Mf o h;have:=bL _ (aB (Ti o) e.1);unfold kX;simp only[List.length_append,List.length_cons,List.length_nil]at this⊢;have:=e.2;omega
theorem Mg{lo hi mode late e m1:Int}(k:af lo)(i:af hi)(q:af mode)(j:af f0)(o:af f1)(f:af late)(l:af e)(h:af m1):(aa [lo,hi,mode]).length<=66/\(aa [f0,f1,late]).length<=66/\(aa [e,m1]).length<=44/\(nK lo hi mode f0 f1 late e m1).length<=200:=by
 have a:=bL _ (yY k i q);have b:=bL _ (yY j o f);have c:=bL _ (ku l h);unfold nK;simp only[List.length_append,List.length_cons,List.length_nil]at a b c⊢;exact⟨a,b,c,by omega⟩
def Bv(t:List UInt8):Value:=if 60000<t.length then .tuple #[.string ⟨#[]⟩,.int .i64 4]else .tuple #[sV t,.int .i64 0]
def Qu(w:World)(x:RJ)(M:List O)(f0 f1:Int)(e:Ending)(w':World):Prop:=
 ∃(E0 E1:List Hl) (Z:List O),E0.Perm x.R0/\E0.Pairwise (λa b=>rY b a=false)/\E1.Perm x.R1/\E1.Pairwise (λa b=>rY b a=false)/\Z.Perm M/\bJ Z/\e=.returned (Bv (FI x f0 f1 E0 E1 Z))/\Below w.heap.size w w'
def Tj(x:RJ)(f0 f1:Int)(i:Nat)(t:List UInt8):Prop:=
 (i=0/\t=nK x.lo x.hi x.mode f0 f1 x.late x.m0 x.m1)∨
 (i=1/\∃E0:List Hl,E0.Perm x.R0/\E0.Pairwise (λa b=>rY b a=false)/\t=nK x.lo x.hi x.mode f0 f1 x.late x.m0 x.m1++E0.flatMap (ed 0))∨
 (i=2/\∃E0 E1:List Hl,E0.Perm x.R0/\E0.Pairwise (λa b=>rY b a=false)/\E1.Perm x.R1/\E1.Pairwise (λa b=>rY b a=false)/\t=nK x.lo x.hi x.mode f0 f1 x.late x.m0 x.m1++E0.flatMap (ed 0)++E1.flatMap (ed 1))
structure Tk(w:World)(E:List Hl)(m:Value)(W:World):Prop where
 low:Below w.heap.size w W
 row:W.ownsRow w.heap.size 117 5 m E.length (E.flatMap bz)
theorem Tk.go{E:List Hl}(h:Tk w E m W)(f:Below W.heap.size W r):Tk w E m r:=
 ⟨h.low.trans (f.mono h.low.size),ag h.row (λg e=>f.block g (h.row.lt g e).2)⟩
theorem FK{base q:Nat}{C:List Hl}{y:Hl}(h:W.ownsRow base 117 5 (.slice (some ⟨g,0,none⟩) n cap) n (C.flatMap bz))(hn:C.length=n)(f:C[q]?=some y):W.cell? ⟨g,q*5,none⟩=some (.int .i64 y.k)/\W.cell? ⟨g,q*5+1,none⟩=some (.int .i64 y.t)/\W.cell? ⟨g,q*5+2,none⟩=some (.int .i64 y.v)/\W.cell? ⟨g,q*5+3,none⟩=some (.int .i64 y.met)/\W.cell? ⟨g,q*5+4,none⟩=some (.int .i64 y.came):=by
 have hl:q<C.length:=(bP.1 f).1
 have e:∀j,j<5->W.cell? ⟨g,q*5+j,none⟩=(bz y)[j]? :=λj i=>by
  rw[h.cellAt (q*5+j) (by omega),cB bz 5 fM C q j y f i]
 exact⟨e 0 (by omega),e 1 (by omega),e 2 (by omega),e 3 (by omega),e 4 (by omega)⟩
structure Tm(w:World)(Z:List O)(vz:Value)(W:World):Prop where
 low:Below w.heap.size w W
 row:W.ownsRow w.heap.size 89 9 vz Z.length (Z.flatMap ah)
theorem Tm.go{Z:List O}{i:Value}(h:Tm w Z i W)(f:Below W.heap.size W r):Tm w Z i r:=
 ⟨h.low.trans (f.mono h.low.size),ag h.row (λg e=>f.block g (h.row.lt g e).2)⟩
structure Lr(d:World)(ns:List Int)(m:Value)(W:World):Prop where
 low:Below d.heap.size d W
 row:W.ownsRow d.heap.size 3 1 m ns.length (ns.map (Value.int .i64))
theorem Lr.go(h:Lr d ns m W)(f:Below W.heap.size W r):Lr d ns m r:=
 ⟨h.low.trans (f.mono h.low.size),ag h.row (λg e=>f.block g (h.row.lt g e).2)⟩
theorem Kc(d:World)(o:Obj)(cs:Array Value):∀j u,cs.toList[j]?=some u->((d.alloc o).alloc (.cells cs 3)).cell? ((⟨d.heap.size+1,0,none⟩:Addr).add j)=some u:=by
 have:=World.news_of_block (eZ (d.alloc o) (.cells cs 3));simpa using this
theorem oU:∀u∈ns.map (Value.int .i64),u.oneCell'=true:=by
 intro u e;obtain⟨n,_,rfl⟩:=dH.1 e;rfl
theorem sJ:∀u∈[(Value.int .i64 a),.int .i64 b,.int .i64 c],u.oneCell'=true:=oU (ns:=[a,b,c])
theorem yZ{o:Obj}{cs:Array Value}(f:p.ownsRow d.heap.size 3 1 (.slice (some ⟨g,0,none⟩) (0+3) cap) (0+3) ([]++[.int .i64 a,.int .i64 b,.int .i64 c]))(h:((d.alloc o).alloc (.cells cs 3)).grownBy p (Value.slice none 0 0).ownBlock):Lr d [a,b,c] (.slice (some ⟨g,0,none⟩) 3 cap) p:=
 ⟨((fC d o).alloc (by simp) _).grown h (by simp;omega) (λk e=>by simp[Value.ownBlock]at e),f⟩
theorem Tn(h:Lr d ns m W)(f:p.ownsRow d.heap.size 3 1 (.slice (some ⟨g,0,none⟩) (ns.length+3) cap) (ns.length+3) (ns.map (Value.int .i64)++[.int .i64 a,.int .i64 b,.int .i64 c]))(i:W.grownBy p m.ownBlock):Lr d (ns++[a,b,c]) (.slice (some ⟨g,0,none⟩) (ns.length+3) cap) p:=
 ⟨h.low.grown i h.low.size (λk e=>(h.row.lt k e).1),by rw[List.length_append,List.map_append];exact f⟩
theorem CV(h:Lr d ns (.slice (some ⟨g,0,none⟩) n cap) W):∀j u,(ns.map (Value.int .i64))[j]?=some u->W.cell? ((⟨g,0,none⟩:Addr).add j)=some u:=
 λj u e=>h.row.cells (g:=g) rfl j u e
theorem Tp{P:Program}{c:Code}{Q:Exit->Act->World->Prop}{a:Act}(h:∀f:Exit->Act->World->Prop,Hid (∀e a w,Q e a w->f e a w)->c.wp P f a w):c.wp P Q a w:=h Q (λ_ _ _ h=>h)
theorem heap_drew(W:World)(g:Nat):W.drew.heap[g]?=W.heap[g]? :=rfl
abbrev xh(be bj:Nat)(x:RJ)(f0 f1:Int)(W:World):Prop:=W.cell? ⟨be,0,none⟩=some (.pointer (some ⟨bj,0,none⟩))/\W.cell? ⟨be,2,none⟩=some (.int .i64 f0)/\W.cell? ⟨be,3,none⟩=some (.int .i64 f1)/\W.cell? ⟨bj,0,none⟩=some (.int .i64 x.lo)/\W.cell? ⟨bj,1,none⟩=some (.int .i64 x.hi)/\W.cell? ⟨bj,2,none⟩=some (.int .i64 x.mode)/\W.cell? ⟨bj,7,none⟩=some (.int .i64 x.late)/\W.cell? ⟨bj,5,none⟩=some (.int .i64 x.m0)/\W.cell? ⟨bj,6,none⟩=some (.int .i64 x.m1)
theorem Tq{be bj:Nat}{v f e:Value}{x:RJ}{M:List O}(h:nM W be bj v f e x M f0 f1):xh be bj x f0 f1 W:=by
 have a:=h.bag.blk;have b:=h.join.blk;refine⟨?_,?_,?_,?_,?_,?_,?_,?_,?_⟩
 .rw[fq a];rfl
 .rw[fq a];rfl
 .rw[fq a];rfl
 .rw[fq b];rfl
 .rw[fq b];rfl
 .rw[fq b];rfl
 .rw[fq b];rfl
 .rw[fq b];rfl
 .rw[fq b];rfl
end
end Go.Proofs.YthfpipieboophaaGreatDoor
