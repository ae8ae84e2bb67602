import Derived.Test.YthfpipieboophaaGreatDoorZVwa
namespace Go.Proofs.YthfpipieboophaaGreatDoor
set_option maxRecDepth 100000
set_option maxHeartbeats 40000000
open Go.RowKit Go.Sort
section
open Go.Proofs.Tryz Go.Joins
variable{w W q:World}{S:Nat->Prop}{a bj d i:Nat}{j l m:Value}{f0 f1 f:Int}{x:J}{L:List O}{C:List Ch}
theorem lC{base n e size:Nat}{v:Value}{xs:List Value}(h:w.ownsRow base e size v n xs):∃b c,v=.slice b n c:=by
 rcases h.2 with⟨rfl,k⟩|⟨g,cap,cur,rfl,_⟩
 .exact⟨none,0,by rw[k]⟩
 .exact⟨_,_,rfl⟩
theorem Oh(a bj d:Nat)(j l:Value)(f0 f1:Int)(n:Option Nat)(r:Nat->Prop)(x:J)(L:List O)(c:Ch)(w:World)(h:az w a bj d j l f0 f1 n r x L L)(b:c.x.wf)(E:c.g=true->c.x∈L)(hL:L.length<=3000000):
  Calls prog 47 #[.pointer (some ⟨a,0,none⟩),vC c.x c.g] w λe v=>e=.returned (.tuple #[])/\∃y A,az v a bj d j l f0 f1 y A x (if c.g=true then L.erase c.x else c.x::L) (if c.g=true then L.erase c.x else c.x::L)/\(∀k,y=some k->n=some k∨w.heap.size<=k)/\(∀k,A k->r k∨w.heap.size<=k)/\Turned (λk=>k=a∨n=some k∨r k) w v:=by
 obtain⟨o,g⟩:=c;cases g
 .refine x8 a bj d j l f0 f1 n r x L (o::L) o false w h (λW s=>?_) (λW y s=>?_)
  .exact(KA a 6 L.length n L W s.bag o b (by omega) (by omega)).mono λe v ⟨p,y,t,u,B⟩=>⟨⟨_,p⟩,y,_,t,u,B⟩
  .exact(D8 a 8 L.length r L W s.grp o b (by omega)).mono λe v ⟨p,t,u⟩=>⟨⟨_,p⟩,_,t,u⟩
 .have z:=E rfl;refine x8 a bj d j l f0 f1 n r x L (L.erase o) o true w h (λW s=>?_) (λW y s=>?_)
  .exact(Gn a 6 L.length n L W s.bag o b z (by omega) (by omega)).mono λe v ⟨p,t,u⟩=>⟨⟨_,p⟩,n,_,t,u,.inl rfl⟩
  .exact(Cq a 8 L.length r L W s.grp o b z (by omega)).mono λe v ⟨p,t,u⟩=>⟨⟨_,p⟩,_,t,u⟩
structure Fl(w:World)(S:Nat->Prop)(a bj d:Nat)(j l:Value)(f0 f1:Int)(x:J)(L:List O)(C:List Ch)(m:Value)(i:Nat)(W:World):Prop where
 ex:∃om Sg,az W a bj d j l f0 f1 om Sg x (iE L (C.take i)) (iE L (C.take i))/\(∀k,aT bj d j l om Sg k->S k∨w.heap.size<=k)/\(∀k,m.ownBlock=some k->¬aT bj d j l om Sg k)
 row:W.ownsRow w.heap.size 95 10 m C.length (C.flatMap aQ)
 turn:Turned S w W
theorem Fl.apply(h:Fl w S a bj d j l f0 f1 x L C m i W){c:Ch}(r:C[i]?=some c)(t:G7 L C)(v:∀c∈C,c.x.wf)(hL:L.length<=1000000)(hC:C.length<=1000000)(p:Below W.heap.size W q):
  Calls prog 47 #[.pointer (some ⟨a,0,none⟩),vC c.x c.g] q λe z=>e=.returned (.tuple #[])/\Hid (Fl w S a bj d j l f0 f1 x L C m (i+1) z):=by
 obtain⟨F,A,s,o,n⟩:=h.ex;have K:=s.below p;have hi:i<C.length:=(kH.1 r).1;have M:=D9 (C.take i) L;rw[List.length_take]at M;refine(Oh a bj d j l f0 f1 F A x _ c q K (v c (mh r)) (λP=>(Oi C L i c t r P).1) (by omega)).mono ?_;rintro e z ⟨rfl,I,H,G,E,y,B⟩;have hws:=h.turn.size;have hbs:=p.size;have u:q.ownsRow w.heap.size 95 10 m C.length (C.flatMap aQ):=aL h.row p;refine⟨rfl,⟨I,H,?_,λk e=>?_,λk e=>?_⟩,?_,?_⟩
 .rw[KX C L i c r];exact G
 .rcases e with e|e|e
  .exact o k (.inl e)
  .rcases E k e with e|e
   .exact o k (.inr (.inl e))
   .exact .inr (by omega)
  .rcases y k e with e|e
   .exact o k (.inr (.inr e))
   .exact .inr (by omega)
 .have hlt:=(u.lt k e).2;rintro(b|b|b)
  .exact n k e (.inl b)
  .rcases E k b with b|b
   .exact n k e (.inr (.inl b))
   .omega
  .rcases y k b with b|b
   .exact n k e (.inr (.inr b))
   .omega
 .refine ag u (λk e=>B.block k (u.lt k e).2 ?_);rintro(b|b|b)
  .exact n k e (.inr (.inr (by rw[b];exact s.inS)))
  .exact n k e (.inr (.inl b))
  .exact n k e (.inr (.inr b))
 .refine(h.turn.trans (Turned.of_below (S:=λ_=>False) p) (λ_ _ e=>e.elim)).trans B (λk hk e=>?_)
  have N:aT bj d j l F A k:=by
   rcases e with e|e|e
   .exact .inr (.inr (by rw[e];exact s.inS))
   .exact .inr (.inl e)
   .exact .inr (.inr e)
  rcases o k N with e|e
  .exact e
  .omega
theorem Fl.below(h:Fl w S a bj d j l f0 f1 x L C m i W)(b:Below W.heap.size W q):Fl w S a bj d j l f0 f1 x L C m i q:=by
 obtain⟨n,o,k,c,g⟩:=h.ex;exact⟨⟨n,o,k.below b,c,g⟩,aL h.row b,h.turn.trans (Turned.of_below (S:=λ_=>False) b) (λ_ _ e=>e.elim)⟩
def aZ(f:Int):Int:=if f=9223372036854775807 then f else f+1
theorem wS(h:0<=f/\f<=9223372036854775807):0<=aZ f/\aZ f<=9223372036854775807:=by unfold aZ;split <;>omega
theorem rJ(h:0<=f/\f<=9223372036854775807):max f (wrap64 (f+1))=aZ f:=by
 unfold aZ
 split
 .rename_i e
  subst e
  have:wrap64 (9223372036854775807+1)= -9223372036854775808:=by unfold wrap64;omega
  rw[this];omega
 .have:wrap64 (f+1)=f+1:=by unfold wrap64;omega
  rw[this];omega
theorem Ea(w:World):Calls prog 46 #[.nilIface] w λe b=>e=.returned (.int .i64 0)/\b=w:=by
 go_enter func46,ntmps46;go_wp2;go_ret;exact⟨rfl,rfl⟩
abbrev bu(k t v:Int):Obj:= .cells #[.int .i64 k,.int .i64 t,.int .i64 v] 37
theorem bQ{b:Nat}{k t v:Int}(h:W.heap[b]?=some (bu k t v)):W.cell? ⟨b,0,none⟩=some (.int .i64 k)/\W.cell? ⟨b,1,none⟩=some (.int .i64 t)/\W.cell? ⟨b,2,none⟩=some (.int .i64 v):=by
 refine⟨?_,?_,?_⟩ <;>(rw[vE h];rfl)
theorem aas(a bj d:Nat)(j l:Value)(f0 f1:Int)(F:Option Nat)(G:Nat->Prop)(x A:J)(L:List O)(C:List Ch)(k t v:Int)(s K E:Int)(hs:s=0/\K=aZ f0/\E=f1∨s=1/\K=f0/\E=aZ f1)(w:World)(h:az w a bj d j l f0 f1 F G x L L)
  (hx:A.lo=x.lo/\A.hi=x.hi/\A.mode=x.mode)
  (hJ:∀W,ai W 0 bj d j l x->Calls prog 45 #[.pointer (some ⟨bj,0,none⟩),.int .i64 s,.agg #[.int .i64 k,.int .i64 t,.int .i64 v]] W λe r=>∃m u n,e=.returned (.tuple #[m,.nilIface])/\ai r 0 bj d u n A/\r.ownsRow W.heap.size 95 10 m C.length (C.flatMap aQ)/\Turned (eP bj d j l) W r/\(∀k,eP bj d u n k->eP bj d j l k∨W.heap.size<=k)/\(∀k,m.ownBlock=some k->¬eP bj d u n k))
  (X:G7 L C) (Z:∀c∈C,c.x.wf) (hL:L.length<=1000000) (hC:C.length<=1000000):
  Calls prog 11 #[.pointer (some ⟨a,0,none⟩),.int .i64 s,.agg #[.int .i64 k,.int .i64 t,.int .i64 v]] w λe r=>∃m u n,e=.returned (.tuple #[m,.nilIface])/\Fl w (aT bj d j l F G) a bj d u n K E A L C m C.length r:=by
 have HJ:∀(o:Nat) (f f':Int),(∀W u n A,az W a bj d u n f0 f1 F G A L L->W.cell? ⟨a,o,none⟩=some (.int .i64 f)/\W.frozen? ⟨a,o,none⟩=false/\az (W.setCell ⟨a,o,none⟩ (.int .i64 f')) a bj d u n K E F G A L L)->(∀W,Below w.heap.size w W->W.heap[w.heap.size]?=some (bu k t v)->Calls prog 45 #[.pointer (some ⟨bj,0,none⟩),.int .i64 s,.agg #[.int .i64 k,.int .i64 t,.int .i64 v]] W λe r=>∃m,e=.returned (.tuple #[m,.nilIface])/\(r.cell? ⟨a,o,none⟩=some (.int .i64 f)/\r.frozen? ⟨a,o,none⟩=false/\a<r.heap.size)/\(r.cell? ⟨a,3,none⟩=some (.pointer (some ⟨bj,0,none⟩))/\r.cell? ⟨w.heap.size,0,none⟩=some (.int .i64 k)/\r.cell? ⟨w.heap.size,1,none⟩=some (.int .i64 t)/\r.cell? ⟨w.heap.size,2,none⟩=some (.int .i64 v))/\Hid (∃u n,Fl w (aT bj d j l F G) a bj d u n K E A L C m 0 (r.setCell ⟨a,o,none⟩ (.int .i64 f')))):=by
  intro o f f' B W hW N;have T:=h.below hW;refine(hJ W T.join).mono ?_;rintro e r ⟨m,u,n,rfl,h1,z,h3,h4,h5⟩;have y:=T.joined h1 hx h3 h4;have V:=y.cells;have hws:=hW.size
  have hs:∀k,k≠a->(r.setCell ⟨a,o,none⟩ (.int .i64 f')).heap[k]?=r.heap[k]? :=λk e=>zw _ _ _ _ e
  have R:=T.blt;refine⟨m,rfl,⟨(B _ _ _ _ y).1,(B _ _ _ _ y).2.1,y.blt⟩,⟨V.2.2.2.1,bQ ((h3.block _ (aD.1 N).1 (λe=>by have:=h.join.foot_lt e;omega)).trans N)⟩,u,n,⟨F,G,?_,λk e=>?_,λk e=>?_⟩,?_,?_⟩
  .exact(B _ _ _ _ y).2.2
  .rcases e with e|e
   .rcases h4 k e with e|e
    .exact .inl (.inl e)
    .exact .inr (by omega)
   .exact .inl (.inr e)
  .have hl9:=(z.lt k e).1;rintro(U|U|U)
   .exact h5 k e U
   .have:=(T.bag.ne U).2;omega
   .have:=T.grp.lt U;omega
  .refine ag (z.mono hws) (λk e=>hs k ?_);have:=(z.lt k e).1;omega
  .refine(((Turned.of_below (S:=aT bj d j l F G) hW).trans h3 (λ_ _ e=>.inl e)).trans (bC (b:=a)) (λk _ e=>.inr (.inr (by rw[e];exact h.inS))))
 have HO:Hid (G7 L C/\(∀c∈C,c.x.wf)):=⟨X,Z⟩;have Y:=h.cells;have R:=h.blt;have r0:=h.r0;have r1:=h.r1;clear h hJ X Z hx
 rcases hs with⟨rfl,e0,e1⟩|⟨rfl,e0,e1⟩
 case' inl=>(have H:=hid (HJ 4 f0 (aZ f0) λW _ _ _ z=>⟨z.cells.2.2.2.2.1,z.cells.2.2.2.2.2.2.1,by rw[e0,e1];exact z.setf 4 _ _ _ (.inl ⟨rfl,rfl,rfl⟩) (wS r0)⟩);have HM:=hid (rJ r0);have hf:=r0;have is0:=trivial)
 case' inr=>(have H:=hid (HJ 5 f1 (aZ f1) λW _ _ _ z=>⟨z.cells.2.2.2.2.2.1,z.cells.2.2.2.2.2.2.2,by rw[e0,e1];exact z.setf 5 _ _ _ (.inr ⟨rfl,rfl,rfl⟩) (wS r1)⟩);have HM:=hid (rJ r1);have hf:=r1)
 all_goals
  clear HJ r0 r1 e0 e1;go_enter func11,ntmps11;go_wp2;have B1:Hid (Below w.heap.size w (w.alloc (bu k t v)).drew/\(w.alloc (bu k t v)).drew.heap[w.heap.size]?=some (bu k t v)):=⟨(wh _ _).drew,vw w (bu k t v)⟩;have Q:(w.alloc (bu k t v)).cell? ⟨a,3,none⟩=some (.pointer (some ⟨bj,0,none⟩))/\(w.alloc (bu k t v)).cell? ⟨w.heap.size,0,none⟩=some (.int .i64 k)/\(w.alloc (bu k t v)).cell? ⟨w.heap.size,1,none⟩=some (.int .i64 t)/\(w.alloc (bu k t v)).cell? ⟨w.heap.size,2,none⟩=some (.int .i64 v):=⟨((wh w (bu k t v)).cell (p:=⟨a,3,none⟩) R).trans Y.2.2.2.1,bQ (vw w (bu k t v))⟩;clear Y
  go_region_held3 (λW=>W.cell? ⟨a,3,none⟩=some (.pointer (some ⟨bj,0,none⟩))/\W.cell? ⟨w.heap.size,0,none⟩=some (.int .i64 k)/\W.cell? ⟨w.heap.size,1,none⟩=some (.int .i64 t)/\W.cell? ⟨w.heap.size,2,none⟩=some (.int .i64 v)) (first|exact Q|exact P|fail) (first
   |(go_at_call 45;refine(H.out _ B1.out.1 B1.out.2).mono ?_;rintro e w1 ⟨m,rfl,hc4,P,h1⟩)
   |fail)
  clear Q P B1 H
  go_wp2_with (first
   |(go_at_call 46;refine(Ea _).mono ?_;rintro e r ⟨rfl,hw⟩;have hw:=hw.symm;subst hw)
   |fail)
  go_region
  rw[HM.out];obtain⟨u,n,E⟩:=h1.out;have M:=hid (E.below ((zI _ _).drew));revert M
  first|(have _:=is0;generalize(w1.setCell ⟨a,4,none⟩ (.int .i64 (aZ f0))).drew=w2)|generalize(w1.setCell ⟨a,5,none⟩ (.int .i64 (aZ f1))).drew=w2
  intro M;clear E h1 hc4;obtain⟨Xt,c9,e9⟩:=lC M.out.row;subst e9;go_wp2
  go_loopg [51] C.length (λgg Zt wr=>∃i:Nat,i<=C.length/\gg=C.length -i/\Zt=.int .i64 i/\Hid (Fl w (aT bj d j l F G) a bj d u n K E A L C (.slice Xt C.length c9) i wr))
  case atStart=>exact⟨0,gy _,rfl,rfl,M⟩
  case round=>
   obtain⟨i,hile,iU,rfl,I⟩:=hrel;have HG:=hid iU;clear iU M
   by_cases hlt2:i<C.length
   .obtain⟨c,V⟩:∃c,C[i]?=some c:=⟨_,dK hlt2⟩;obtain⟨Xu,ck9,U1⟩:=yg I.out.row (show 0<C.length by omega);cases U1;have hcc:=Eb I.out.row i c V;have hgl:Xu<wr.heap.size:=(I.out.row.lt Xu rfl).2
    have j1:(0:Int)<=(i:Int):=by omega
    have j2:(i:Int)<(C.length:Int):=by omega
    have j3:(C.length:Int)<=1000000:=by omega
    have HA:=I.out.apply V HO.out.1 HO.out.2 hL hC (wh wr (wy c.x c.g));have HB:Hid (Calls prog 47 #[.pointer (some ⟨a,0,none⟩),vC c.x c.g] (wr.alloc (wy c.x c.g)) λe r=>e=.returned (.tuple #[])/\Hid (Fl w (aT bj d j l F G) a bj d u n K E A L C (.slice (some ⟨Xu,0,none⟩) C.length c9) (i+1) r)):=HA;simp only[vC]at HB;clear HA V I
    go_wp2_with (first
     |(go_at_call 47;refine HB.out.mono ?_;rintro e w3 ⟨rfl,I2⟩)
     |fail)
    go_roundg (C.length -(i+1))
    all_goals first
     |(have:=HG.out;omega)
     |exact⟨i+1,by omega,rfl,by first|rfl|(congr 1;omega)|go_num,I2⟩
   .have j2:¬((i:Int)<(C.length:Int)):=by omega
    have hie:i=C.length:=by omega
    go_wp2;have hI:=I.out;rw[hie]at hI;exact CU (v:= .tuple #[.slice Xt C.length c9,.nilIface]) (by simp[results,Tryz.results11,go_sem]) rfl ⟨_,rfl,u,n,hI⟩
end
section
open Go.Shelf
variable{w:World}{bj c:Nat}{f d:Value}
theorem xS:Jv:=λw=>
 (AnyF.slices_SortFunc_none { Tryz.sortO with} none 0 (.func (.func 122) #[] #[]) w).mono λ_ _ h=>h
theorem lY{Z e:List O}(h:Z.Perm e)(i:bJ Z)(g:bJ e):Z=e:=by
 refine List.Perm.eq_of_pairwise (le:=λa b=>cO a b<=0) (λa b _ _ h3 j=>?_) i g h;rw[qw]at j;exact(wI a b).1 (by omega)
def fK(be:Nat)(x:J)(L:List O)(S:Nat->Prop)(w:World):Prop:=
 ∃bj c f d f0 f1 om Sg,az w be bj c f d f0 f1 om Sg x L L/\∀k,S k↔aT bj c f d om Sg k
theorem Az{n s i j p m o t:Nat}{u v:Value}{xs ys:List Value}(l:w.ownsRow n i p u o xs)(q:w.ownsRow s j m v t ys)(h:i≠j){k:Nat}(b:u.ownBlock=some k):v.ownBlock≠some k:=by
 rcases l.2 with⟨rfl,_⟩|⟨g,cap,cur,rfl,_,r,_⟩
 .simp[Value.ownBlock]at b
 .rcases q.2 with⟨rfl,_⟩|⟨g',cap',cur',rfl,_,a,_⟩
  .simp[Value.ownBlock]
  .simp[Value.ownBlock]at b⊢;subst b;intro e;subst e;rw[r]at a;cases a;exact h rfl
theorem Ec(k a b:Int){R:List D}(h:ay R):(bF k a b R).length<=R.length:=by
 rw[gM h];exact oo _ _
theorem jg{b a:Value}(i:dF w f b)(j:dF w d a):∀k,eP bj c b a k->eP bj c f d k∨w.heap.size<=k:=by
 rintro k (e|e|e|e)
 .exact .inl (.inl e)
 .exact .inl (.inr (.inl e))
 .rcases i with h|⟨g,h,hl⟩
  .exact .inl (.inr (.inr (.inl (by rw[<-h];exact e))))
  .rw[h]at e;cases e;exact .inr hl
 .rcases j with h|⟨g,h,hl⟩
  .exact .inl (.inr (.inr (.inr (by rw[<-h];exact e))))
  .rw[h]at e;cases e;exact .inr hl
theorem aac{W:World}{x o:J}{r:Rw}{s:Int}{M:List D}(p:ai W 0 bj c f d x)(B:au r.k r.t r.v=true)(a:DF x)(A:s=0/\o=x.fed0 r.k r.t r.v/\M=bF r.k (r.t+x.lo) (r.t+x.hi) x.R1/\x.m0<r.t/\(x.m1<r.t+x.hi->x.R0.length<300)∨s=1/\o=x.fed1 r.k r.t r.v/\M=bF r.k (r.t+ -x.hi) (r.t+ -x.lo) x.R0/\x.m1<r.t/\(x.m0<r.t+ -x.lo->x.R1.length<300)):
  Calls Tryz.prog 45 #[.pointer (some ⟨bj,0,none⟩),.int .i64 s,.agg #[.int .i64 r.k,.int .i64 r.t,.int .i64 r.v]] W λe n=>∃m u g,e=.returned (.tuple #[m,.nilIface])/\ai n 0 bj c u g o/\n.ownsRow W.heap.size 95 10 m (bU x.mode s r.k r.t r.v M).length ((bU x.mode s r.k r.t r.v M).flatMap aQ)/\Turned (eP bj c f d) W n/\(∀k,eP bj c u g k->eP bj c f d k∨W.heap.size<=k)/\(∀k,m.ownBlock=some k->¬eP bj c u g k):=by
 refine(aap 0 bj c f d x o M s r.k r.t r.v W p (gy _) B a.lo1 a.lo2 a.hi1 a.hi2 a.s0 a.s1 a.l0 a.l1 ?_).mono ?_
 .rcases A with⟨h,b,j,z,i⟩|⟨h,b,j,z,i⟩
  .exact .inl ⟨h,b,j,λy q=>by have:=a.n1 y q;omega,by omega,i⟩
  .exact .inr ⟨h,b,j,λy q=>by have:=a.n0 y q;omega,by omega,i⟩
 .rintro e n ⟨m,u0,u1,rfl,h,b,j,z,i⟩;refine⟨m,u0,u1,rfl,h,b,j.mono (λk e=>e.elim .inl (λe=>e.elim (λe=>.inr (.inr (.inl e))) (λe=>.inr (.inr (.inr e))))),jg z i,λk e=>?_⟩;have hl:=(b.lt k e).1;rintro(l|l|l|l)
  .have:=p.lt;omega
  .have:=p.ltm;omega
  .exact Az b h.r0 (by decide) e l
  .exact Az b h.r1 (by decide) e l
end
end Go.Proofs.YthfpipieboophaaGreatDoor
