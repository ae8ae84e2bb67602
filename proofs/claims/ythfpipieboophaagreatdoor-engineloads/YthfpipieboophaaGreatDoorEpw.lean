import Derived.Test.YthfpipieboophaaGreatDoorZRlm
namespace Go.Proofs.YthfpipieboophaaGreatDoor
set_option maxRecDepth 100000
set_option maxHeartbeats 40000000
open Go.Proofs.Tryz Go.Joins Go.RowKit Go.Sort Go.Shelf
variable{b bj a m i l:Nat}{f d:Value}{x:J}{st:Sx}{S K:Nat->Prop}{W j:World}{rs:RS}{k t v:Int}
def PwQ(st:Sx)(m:Nat)(b:Nat)(S:Nat->Prop)(W:World):Prop:=
 ∃bj a f d om Sg,vw W b bj a f d st.f0 st.f1 om Sg st.x m/\∀k,S k↔aT bj a f d om Sg k
theorem vw.more{w:World}{f0 f1:Int}{g:Option Nat}{e:Nat->Prop}{q:Nat}(h:vw w b bj a f d f0 f1 g e x m)(c:m<=q):vw w b bj a f d f0 f1 g e x q:=by
 obtain⟨o,n,p⟩:=h.bag;obtain⟨G,r⟩:=h.grp;exact⟨h.head,h.join,⟨o,aH n c,p⟩,⟨G,r.mono c⟩,h.jb,h.bg,h.r0,h.r1⟩
theorem aej(h:PE st b S W)(c:st.L.length<=m):PwQ st m b S W:=by
 obtain⟨bj,a,f,d,n,g,h,e⟩:=h;exact⟨bj,a,f,d,n,g,h.weak c c,e⟩
theorem ab4(st:Sx)(m b:Nat):tV (PwQ st m b):=by
 rintro S W W' ⟨bj,a,f,d,p,o,h,c⟩ g n;exact⟨bj,a,f,d,p,o,h.still g (λk e=>n k ((c k).2 e)),c⟩
theorem abf(h:PwQ st m b S W):∀k,S k->k<W.heap.size:=by
 obtain⟨bj,a,f,d,om,Sg,h,c⟩:=h
 exact λk e=>h.lt ((c k).1 e)
theorem abu{z:J}{r:Rw}{s:Int}{M:List D}(C:ai W 0 bj a f d x)(G:au r.k r.t r.v=true)(c:Ga i x rs)(F:s=0/\z=x.fed0 r.k r.t r.v/\M=bF r.k (r.t+x.lo) (r.t+x.hi) x.R1/\x.m0<r.t/\(x.m1<r.t+x.hi->x.R0.length<300)∨s=1/\z=x.fed1 r.k r.t r.v/\M=bF r.k (r.t+ -x.hi) (r.t+ -x.lo) x.R0/\x.m1<r.t/\(x.m0<r.t+ -x.lo->x.R1.length<300)):
  Calls prog 45 #[.pointer (some ⟨bj,0,none⟩),.int .i64 s,.agg #[.int .i64 r.k,.int .i64 r.t,.int .i64 r.v]] W λe w=>∃p B h,e=.returned (.tuple #[p,.nilIface])/\ai w 0 bj a B h z/\w.ownsRow W.heap.size 95 10 p (bU x.mode s r.k r.t r.v M).length ((bU x.mode s r.k r.t r.v M).flatMap aQ)/\Turned (eP bj a f d) W w/\(∀k,eP bj a B h k->eP bj a f d k∨W.heap.size<=k)/\(∀k,p.ownBlock=some k->¬eP bj a B h k):=by
 refine(aap 0 bj a f d x z M s r.k r.t r.v W C (aW _) G c.pl.1.1 c.pl.1.2 c.pl.2.1.1 c.pl.2.1.2 c.r0.sorted c.r1.sorted c.l0 c.l1 ?_).mono ?_
 .rcases F with⟨n,g,o,E,q⟩|⟨n,g,o,E,q⟩
  .exact .inl ⟨n,g,o,λy A=>(c.r1.each c.n1 y A).1,by omega,q⟩
  .exact .inr ⟨n,g,o,λy A=>(c.r0.each c.n0 y A).1,by omega,q⟩
 .rintro e w ⟨p,u0,u1,rfl,n,g,o,E,q⟩;refine⟨p,u0,u1,rfl,n,g,o.mono (λk e=>e.elim .inl (λe=>e.elim (λe=>.inr (.inr (.inl e))) (λe=>.inr (.inr (.inr e))))),jg E q,λk e=>?_⟩;have hl:=(g.lt k e).1;rintro(u|u|u|u)
  .have:=C.lt;omega
  .have:=C.ltm;omega
  .exact Az g n.r0 (by decide) e u
  .exact Az g n.r1 (by decide) e u
theorem ael(U:PwQ st m b S W)(n:Ga i st.x rs)(hm:m<=400000)(G:au k t v=true)(s w z:Int)(q:J)(C:List Ch)
  (T:s=0/\q=st.x.fed0 k t v/\C=qc st.x ⟨k,t,v⟩/\w=aZ st.f0/\z=st.f1/\st.x.m0<t/\(st.x.m1<t+st.x.hi->st.x.R0.length<300)∨s=1/\q=st.x.fed1 k t v/\C=qd st.x ⟨k,t,v⟩/\w=st.f0/\z=aZ st.f1/\st.x.m1<t/\(st.x.m0<t+ -st.x.lo->st.x.R1.length<300)):
  Calls prog 11 #[.pointer (some ⟨b,0,none⟩),.int .i64 s,.agg #[.int .i64 k,.int .i64 t,.int .i64 v]] W λe o=>∃p S',e=.returned (.tuple #[p,.nilIface])/\o.ownsRow W.heap.size 95 10 p C.length (C.flatMap aQ)/\(∀L,PwQ ⟨q,w,z,L⟩ (m+2000) b S' o)/\eO S S' W o:=by
 obtain⟨bj,a,f,d,X,V,h,Q⟩:=U;have B:(⟨k,t,v⟩:Rw).small:=dI (r:=⟨k,t,v⟩) G;have l0:=n.l0;have l1:=n.l1
 obtain⟨hx,hwf,hC,A,hJ⟩:(q.lo=st.x.lo/\q.hi=st.x.hi/\q.mode=st.x.mode)/\(∀c∈C,c.x.wf)/\C.length<=1000/\(s=0/\w=aZ st.f0/\z=st.f1∨s=1/\w=st.f0/\z=aZ st.f1)/\(∀W,ai W 0 bj a f d st.x->Calls prog 45 #[.pointer (some ⟨bj,0,none⟩),.int .i64 s,.agg #[.int .i64 k,.int .i64 t,.int .i64 v]] W λe o=>∃p u g,e=.returned (.tuple #[p,.nilIface])/\ai o 0 bj a u g q/\o.ownsRow W.heap.size 95 10 p C.length (C.flatMap aQ)/\Turned (eP bj a f d) W o/\(∀k,eP bj a u g k->eP bj a f d k∨W.heap.size<=k)/\(∀k,p.ownBlock=some k->¬eP bj a u g k)):=by
  rcases T with⟨rfl,rfl,rfl,rfl,rfl,M,I⟩|⟨rfl,rfl,rfl,rfl,rfl,M,I⟩
  .refine⟨⟨rfl,rfl,rfl⟩,wN st.x.mode 0 ⟨k,t,v⟩ _ B (λy N=>(n.r1.each n.n1 y (wO N)).2),?_,.inl ⟨rfl,rfl,rfl⟩,λW H=>abu (r:=⟨k,t,v⟩) H G n (.inl ⟨rfl,rfl,rfl,M,I⟩)⟩;have E:=pg st.x.mode 0 k t v (bF k (t+st.x.lo) (t+st.x.hi) st.x.R1);have F:=Ec k (t+st.x.lo) (t+st.x.hi) n.r1.sorted;show(bU st.x.mode 0 k t v (bF k (t+st.x.lo) (t+st.x.hi) st.x.R1)).length<=_;omega
  .refine⟨⟨rfl,rfl,rfl⟩,wN st.x.mode 1 ⟨k,t,v⟩ _ B (λy N=>(n.r0.each n.n0 y (wO N)).2),?_,.inr ⟨rfl,rfl,rfl⟩,λW H=>abu (r:=⟨k,t,v⟩) H G n (.inr ⟨rfl,rfl,rfl,M,I⟩)⟩;have E:=pg st.x.mode 1 k t v (bF k (t+ -st.x.hi) (t+ -st.x.lo) st.x.R0);have F:=Ec k (t+ -st.x.hi) (t+ -st.x.lo) n.r0.sorted;show(bU st.x.mode 1 k t v (bF k (t+ -st.x.hi) (t+ -st.x.lo) st.x.R0)).length<=_;omega
 refine(aeG b bj a f d st.f0 st.f1 X V st.x q m C k t v s w z A W h hx hJ hwf (by omega) (by omega)).mono ?_;rintro e o ⟨p,u,g,rfl,A⟩;obtain⟨P,R,E,F,h3⟩:=A.ex;exact⟨p,aT bj a u g P R,rfl,A.row,λL=>⟨bj,a,u,g,P,R,E.more (by omega),λ_=>Iff.rfl⟩,⟨λk e=>⟨(F k e).imp (Q k).2 id,E.lt e⟩,A.turn.mono (λk e=>(Q k).2 e)⟩⟩
theorem aem(p:W.cell? ⟨2,0,none⟩=some iD)(E:PwQ st m b S W)(F:Ga i st.x rs)(B:au k t v=true)(s g c:Int)(A:s=0/\g=aZ st.f0/\c=st.f1/\t<=st.x.m0∨s=1/\g=st.f0/\c=aZ st.f1/\t<=st.x.m1):
  Calls prog 11 #[.pointer (some ⟨b,0,none⟩),.int .i64 s,.agg #[.int .i64 k,.int .i64 t,.int .i64 v]] W λe o=>e=.returned (.tuple #[.slice none 0 0,.iface 24 (.int .i64 10)])/\PwQ ⟨{ st.x with late:=bR st.x.late},g,c,st.L⟩ m b S o/\eO S S W o:=by
 obtain⟨bj,a,f,d,w,u,h,r⟩:=E;have hlt:=F.late
 obtain⟨hsd,hF,hl⟩:bM s=true/\(s=0/\g=aZ st.f0/\c=st.f1∨s=1/\g=st.f0/\c=aZ st.f1)/\t<=kW st.x.m0 st.x.m1 s:=by
  rcases A with⟨rfl,n,q,h⟩|⟨rfl,n,q,h⟩
  .exact⟨rfl,.inl ⟨rfl,n,q⟩,by simpa[kW]using h⟩
  .exact⟨rfl,.inr ⟨rfl,n,q⟩,by simpa[kW]using h⟩
 refine(acK b bj a f d st.f0 st.f1 w u st.x { st.x with late:=bR st.x.late} m k t v s g c hF W p h ⟨rfl,rfl,rfl⟩ (λW C=>aaC 0 bj a f d st.x s k t v W C B hsd hl (by omega) (by omega))).mono ?_;rintro e o ⟨rfl,y,z⟩;exact⟨rfl,⟨bj,a,f,d,w,u,y,r⟩,λk e=>⟨.inl e,y.lt ((r k).1 e)⟩,z.mono (λk e=>(r k).2 e)⟩
theorem aeH(n:W.cell? ⟨2,0,none⟩=some iD)(z:PwQ st m b S W)(s c k t v:Int)(hc:c=1∨c=12)(w:∀bj a f d W,ai W 0 bj a f d st.x->Calls prog 45 #[.pointer (some ⟨bj,0,none⟩),.int .i64 s,.agg #[.int .i64 k,.int .i64 t,.int .i64 v]] W λe g=>e=.returned (.tuple #[.slice none 0 0,.iface 24 (.int .i64 c)])/\Below W.heap.size W g):
  Calls prog 11 #[.pointer (some ⟨b,0,none⟩),.int .i64 s,.agg #[.int .i64 k,.int .i64 t,.int .i64 v]] W λe g=>e=.returned (.tuple #[.slice none 0 0,.iface 24 (.int .i64 c)])/\PwQ st m b S g/\eO S S W g:=by
 obtain⟨bj,a,f,d,r,q,h,p⟩:=z;refine(ac1 b bj a f d st.f0 st.f1 r q st.x m s c k t v (by omega) (by omega) W n h (λW y=>w bj a f d W y)).mono ?_;rintro e g ⟨rfl,o⟩;have u:=h.below o;exact⟨rfl,⟨bj,a,f,d,r,q,u,p⟩,λk e=>⟨.inl e,u.lt ((p k).1 e)⟩,Turned.of_below o⟩
theorem PwQ.up(h:PwQ st m b S W):PwQ st (m+2000) b S W:=by
 obtain⟨bj,a,f,d,g,e,h,c⟩:=h;exact⟨bj,a,f,d,g,e,h.more (by omega),c⟩
theorem aen(G:PwQ st m b S W)(E:Ga i st.x rs)(R:m<=400000)(z:W.cell? ⟨2,0,none⟩=some iD)(s k t v:Int):
  Calls prog 11 #[.pointer (some ⟨b,0,none⟩),.int .i64 s,.agg #[.int .i64 k,.int .i64 t,.int .i64 v]] W λe h=>∃o S',e=.returned (.tuple #[o,jI (Dk st s k t v).1])/\h.ownsRow W.heap.size 95 10 o (vH st s k t v).length ((vH st s k t v).flatMap aQ)/\PwQ (Dk st s k t v).2 (m+2000) b S' h/\eO S S' W h:=by
 obtain⟨⟨N,M⟩,⟨H,I⟩,_⟩:=E.pl
 have bad:∀c,(c=1∨c=12)->(Dk st s k t v=(c,st))->(vH st s k t v=[])->(∀bj a f d W,ai W 0 bj a f d st.x->Calls prog 45 #[.pointer (some ⟨bj,0,none⟩),.int .i64 s,.agg #[.int .i64 k,.int .i64 t,.int .i64 v]] W λe h=>e=.returned (.tuple #[.slice none 0 0,.iface 24 (.int .i64 c)])/\Below W.heap.size W h)->Calls prog 11 #[.pointer (some ⟨b,0,none⟩),.int .i64 s,.agg #[.int .i64 k,.int .i64 t,.int .i64 v]] W λe h=>∃o S',e=.returned (.tuple #[o,jI (Dk st s k t v).1])/\h.ownsRow W.heap.size 95 10 o (vH st s k t v).length ((vH st s k t v).flatMap aQ)/\PwQ (Dk st s k t v).2 (m+2000) b S' h/\eO S S' W h:=by
  intro c T A u P;rw[A,u];refine(aeH z G s c k t v T P).mono ?_;rintro e h ⟨rfl,r,w⟩;refine⟨_,S,?_,iR _ _ _ _,r.up,w⟩;unfold jI;rw[if_neg (by show ¬c=0;omega)]
 have late:∀p q,Dk st s k t v=(10,⟨{ st.x with late:=bR st.x.late},p,q,st.L⟩)->vH st s k t v=[]->au k t v=true->(s=0/\p=aZ st.f0/\q=st.f1/\t<=st.x.m0∨s=1/\p=st.f0/\q=aZ st.f1/\t<=st.x.m1)->Calls prog 11 #[.pointer (some ⟨b,0,none⟩),.int .i64 s,.agg #[.int .i64 k,.int .i64 t,.int .i64 v]] W λe h=>∃o S',e=.returned (.tuple #[o,jI (Dk st s k t v).1])/\h.ownsRow W.heap.size 95 10 o (vH st s k t v).length ((vH st s k t v).flatMap aQ)/\PwQ (Dk st s k t v).2 (m+2000) b S' h/\eO S S' W h:=by
  intro p q A u g F;rw[A,u];refine(aem z G E g s p q F).mono ?_;rintro e h ⟨rfl,r,w⟩;exact⟨_,S,rfl,iR _ _ _ _,r.up,w⟩
 have take:∀p q y C,Dk st s k t v=(0,⟨y,p,q,iE st.L C⟩)->vH st s k t v=C->au k t v=true->(s=0/\y=st.x.fed0 k t v/\C=qc st.x ⟨k,t,v⟩/\p=aZ st.f0/\q=st.f1/\st.x.m0<t/\(st.x.m1<t+st.x.hi->st.x.R0.length<300)∨s=1/\y=st.x.fed1 k t v/\C=qd st.x ⟨k,t,v⟩/\p=st.f0/\q=aZ st.f1/\st.x.m1<t/\(st.x.m0<t+ -st.x.lo->st.x.R1.length<300))->Calls prog 11 #[.pointer (some ⟨b,0,none⟩),.int .i64 s,.agg #[.int .i64 k,.int .i64 t,.int .i64 v]] W λe h=>∃o S',e=.returned (.tuple #[o,jI (Dk st s k t v).1])/\h.ownsRow W.heap.size 95 10 o (vH st s k t v).length ((vH st s k t v).flatMap aQ)/\PwQ (Dk st s k t v).2 (m+2000) b S' h/\eO S S' W h:=by
  intro p q y C A u g F;rw[A,u];refine(ael G E R g s p q y C F).mono ?_;rintro e h ⟨o,S',rfl,r,w,Q⟩;exact⟨o,S',rfl,r,w _,Q⟩
 by_cases h0:s=0
 .subst h0
  by_cases g:au k t v=false
  .exact bad 1 (.inl rfl) (by unfold Dk Sx.feed0;rw[if_pos rfl,if_pos g]) (by unfold vH Dh Sx.feed0;rw[if_pos rfl,if_pos g];rfl) (λbj a f d W _=>O9 bj 0 k t v W (.inr g))
  have n:au k t v=true:=by simpa using g
  by_cases hl:t<=st.x.m0
  .exact late _ _ (by unfold Dk Sx.feed0;rw[if_pos rfl,if_neg g,if_pos hl]) (by unfold vH Dh Sx.feed0;rw[if_pos rfl,if_neg g,if_pos hl];rfl) n (.inl ⟨rfl,rfl,rfl,hl⟩)
  by_cases hr:st.x.m1<t+st.x.hi/\300<=st.x.R0.length
  .exact bad 12 (.inr rfl) (by unfold Dk Sx.feed0;rw[if_pos rfl,if_neg g,if_neg hl,if_pos hr]) (by unfold vH Dh Sx.feed0;rw[if_pos rfl,if_neg g,if_neg hl,if_pos hr];rfl) (λbj a f d W B=>aaH 0 bj a f d st.x 0 k t v W B n N M H I (.inl ⟨rfl,by omega,hr.1,hr.2⟩))
  .exact take _ _ _ _ (by unfold Dk Sx.feed0;rw[if_pos rfl,if_neg g,if_neg hl,if_neg hr]) (by unfold vH Dh Sx.feed0;rw[if_pos rfl,if_neg g,if_neg hl,if_neg hr];rfl) n (.inl ⟨rfl,rfl,rfl,rfl,rfl,by omega,λe=>Nat.lt_of_not_le (λu=>hr ⟨e,u⟩)⟩)
 by_cases r:s=1
 .subst r
  by_cases g:au k t v=false
  .exact bad 1 (.inl rfl) (by unfold Dk Sx.feed1;rw[if_neg h0,if_pos rfl,if_pos g]) (by unfold vH Di Sx.feed1;rw[if_neg h0,if_pos rfl,if_pos g];rfl) (λbj a f d W _=>O9 bj 1 k t v W (.inr g))
  have n:au k t v=true:=by simpa using g
  by_cases hl:t<=st.x.m1
  .exact late _ _ (by unfold Dk Sx.feed1;rw[if_neg h0,if_pos rfl,if_neg g,if_pos hl]) (by unfold vH Di Sx.feed1;rw[if_neg h0,if_pos rfl,if_neg g,if_pos hl];rfl) n (.inr ⟨rfl,rfl,rfl,hl⟩)
  by_cases hr:st.x.m0<t+ -st.x.lo/\300<=st.x.R1.length
  .exact bad 12 (.inr rfl) (by unfold Dk Sx.feed1;rw[if_neg h0,if_pos rfl,if_neg g,if_neg hl,if_pos hr]) (by unfold vH Di Sx.feed1;rw[if_neg h0,if_pos rfl,if_neg g,if_neg hl,if_pos hr];rfl) (λbj a f d W B=>aaH 0 bj a f d st.x 1 k t v W B n N M H I (.inr ⟨rfl,by omega,hr.1,hr.2⟩))
  .exact take _ _ _ _ (by unfold Dk Sx.feed1;rw[if_neg h0,if_pos rfl,if_neg g,if_neg hl,if_neg hr]) (by unfold vH Di Sx.feed1;rw[if_neg h0,if_pos rfl,if_neg g,if_neg hl,if_neg hr];rfl) n (.inr ⟨rfl,rfl,rfl,rfl,rfl,by omega,λe=>Nat.lt_of_not_le (λu=>hr ⟨e,u⟩)⟩)
 .exact bad 1 (.inl rfl) (by unfold Dk;rw[if_neg h0,if_neg r]) (by unfold vH;rw[if_neg h0,if_neg r]) (λbj a f d W _=>O9 bj s k t v W (.inl (JP h0 r)))
theorem adS(c:Ga i st.x rs)(s k t v:Int):(vH st s k t v).length<=1000:=by
 have l0:=c.l0;have l1:=c.l1;unfold vH
 split
 .unfold Dh
  split
  .have g:=pg st.x.mode 0 k t v (bF k (t+st.x.lo) (t+st.x.hi) st.x.R1);have e:=Ec k (t+st.x.lo) (t+st.x.hi) c.r1.sorted;show(bU st.x.mode 0 k t v (bF k (t+st.x.lo) (t+st.x.hi) st.x.R1)).length<=_;omega
  .simp
 .split
  .unfold Di
   split
   .have g:=pg st.x.mode 1 k t v (bF k (t+ -st.x.hi) (t+ -st.x.lo) st.x.R0);have e:=Ec k (t+ -st.x.hi) (t+ -st.x.lo) c.r0.sorted;show(bU st.x.mode 1 k t v (bF k (t+ -st.x.hi) (t+ -st.x.lo) st.x.R0)).length<=_;omega
   .simp
  .simp
def EwQ(j:World)(b l:Nat)(st:Sx)(i:Nat)(K:Nat->Prop)(W:World):Prop:=
 ∃S P rs,PwQ st (6000+2000*i) b S W/\RE l rs P W/\Ga i st.x rs/\(∀k,S k->¬P k/\¬K k/\j.heap.size<=k)/\(∀k,P k->¬K k/\j.heap.size<=k)/\(∀k,K k->k<W.heap.size)/\Below j.heap.size j W
theorem EwQ.hold{g:World}(h:EwQ j b l st i K W)(c:Below W.heap.size W g):EwQ j b l st i K g:=by
 obtain⟨S,P,rs,n,q,s,p,r,u,o⟩:=h;exact⟨S,P,rs,ab4 st _ b S W g n c.size (λk e=>c.block k (abf n k e)),q.below c,s,p,r,λk e=>aR (u k e) c.size,o.trans (c.mono o.size)⟩
theorem EwQ.feeds(h:EwQ j b l st i K W)(hi:i<=100)(B:j.cell? ⟨2,0,none⟩=some iD)(s k t v:Int):
  Calls prog 10 #[.pointer (some ⟨l,0,none⟩),.int .i64 s,.agg #[.int .i64 k,.int .i64 t,.int .i64 v]] W λe w=>∃vx,e=.returned (.tuple #[vx,.int .i64 (Dk st s k t v).1])/\kH K W w/\Below j.heap.size j w/\(vH st s k t v).length<=1000/\
   ∀q,Below w.heap.size w q->Calls prog 11 #[.pointer (some ⟨b,0,none⟩),.int .i64 s,.agg #[.int .i64 k,.int .i64 t,.int .i64 v]] q λe F=>∃G,e=.returned (.tuple #[G,jI (Dk st s k t v).1])/\F.ownsRow 0 95 10 G (vH st s k t v).length ((vH st s k t v).flatMap aQ)/\F.ownsRow 0 95 10 vx (vH st s k t v).length ((vH st s k t v).flatMap aQ)/\kH K W F/\EwQ j b l (Dk st s k t v).2 (i+1) K F:=by
 obtain⟨S,P,rs,E,Y,N,y,A,C,I⟩:=h;refine(adT Y N (by omega) s k t v).mono ?_;rintro e w ⟨vx,rfl,R,rs',P',H,V,L,Q⟩
 have c:kH K W w:=λk c=>L.block k (C k c) (λe=>(A k e).1 c)
 refine⟨vx,rfl,c,rO I L (λk e=>(A k e).2),adS N s k t v,?_⟩;intro q n;have z:Turned P W q:=L.trans (Turned.of_below (S:=λ_=>False) n) (λ_ _ e=>e.elim);have M:=ab4 st _ b S W q E z.size (λk c=>z.block k (abf E k c) (y k c).1);have T:Below j.heap.size j q:=rO I z (λk e=>(A k e).2);refine(aen M N (by omega) ((T.cell (p:=⟨2,0,none⟩) (World.block_lt_of_cell? _ _ B)).trans B) s k t v).mono ?_;rintro e F ⟨G,S',rfl,c1,U,c3⟩;have u:q.ownsRow W.heap.size 95 10 vx (vH st s k t v).length ((vH st s k t v).flatMap aQ):=ag R (λg e=>n.block g (R.lt g e).2);have hz:=I.size;have hz2:=z.size;refine⟨G,rfl,ownsRow_le c1 (aW _),ag (ownsRow_le u (aW _)) (λg e=>c3.2.block g (u.lt g e).2 (λX=>by have:=abf E g X;have:=(u.lt g e).1;omega)),λk r=>?_,?_⟩
 .have Z:=C k r;exact(c3.2.block k (by omega) (λe=>(y k e).2.1 r)).trans (z.block k Z (λe=>(A k e).1 r))
 .refine⟨S',P',rs',by rw[show 6000+2000*(i+1)=6000+2000*i+2000 by omega];exact U,(H.below n).still (λk c=>c3.2.block k ((H.below n).plt k c) (λe=>?_)),V,λk c=>?_,λk c=>?_,λk c=>?_,rO T c3.2 (λk e=>(y k e).2.2)⟩
  .rcases Q k c with o|o
   .exact(y k e).1 o
   .have:=abf E k e;omega
  .rcases(c3.1 k c).1 with e|e
   .refine⟨λo=>?_,(y k e).2⟩
    rcases Q k o with e3|e3
    .exact(y k e).1 e3
    .have:=abf E k e;omega
   .refine⟨λo=>?_,λo=>?_,by omega⟩
    .have:=(H.below n).plt k o;omega
    .have:=C k o;omega
  .rcases Q k c with e|e
   .exact A k e
   .exact⟨λo=>by have:=C k o;omega,by omega⟩
  .have:=C k c;have:=c3.2.size;omega
end Go.Proofs.YthfpipieboophaaGreatDoor
