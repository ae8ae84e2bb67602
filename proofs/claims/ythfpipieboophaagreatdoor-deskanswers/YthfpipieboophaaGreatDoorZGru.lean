import Derived.Test.YthfpipieboophaaGreatDoorZGrm
namespace Go.Proofs.YthfpipieboophaaGreatDoor
set_option maxRecDepth 100000
set_option maxHeartbeats 40000000
open Go.Proofs.Tryz Go.Joins Go.RowKit Go.Sort
section
def noG(G:Int->Option Tl)(x:O):Prop:=G x.k=none∨∃τ,G x.k=some τ/\x.hr=true/\x.rv∉τ.R
def OQ(x:O)(τ:Tl):Prop:=x.hr=true->x.rv∈τ.R
theorem H6(b o g m n:Nat)(z:Int->Nat×Nat)(G:Int->Option Tl)(D:DataW Value)(w:World)(hcell:w.cell? ⟨b,o,none⟩=some (.map (some g)))(hblt:b<w.heap.size)(h:fe w b g z m G n D)(x:O)(A:x.wf)(τ:Tl)(B:G x.k=some τ)(I:OQ x τ)(E:τ.c=1)(hm:m<100000000):
  Calls prog 181 #[.pointer (some ⟨b,o,none⟩),vO x] w λe H=>e=.returned .nilIface/\H.ownsMap prog 3 gR g n (D.del (gi x.k))/\(w.alloc (.cells (ah x).toArray 89)).grownBy H (some g):=by
 have s:=h.tals x.k τ B;have C:=h.look (W:=(w.alloc (.cells (ah x).toArray 89)).drew) (zk w _ g h.own.lt) A.k B;have N:=s.cells;have p:=s.lt;have u:=s.len;obtain⟨nr,Dr,hnr,K,v⟩:=s.own;have q:=AO (W:=(w.alloc (.cells (ah x).toArray 89)).drew.drew) (ownsMap_at K (zk w _ _ p.2)) v x.rv A.rv;have L:τ.R.count x.rv<=τ.R.length:=List.count_le_length
 have f:x.hr=true->(1:Int)<=τ.R.count x.rv:=λe=>by have:=List.count_pos_iff.2 (I e);omega
 have y:(τ.R.count x.rv:Int)<100000000:=by omega
 have i:(w.alloc (.cells (ah x).toArray 89)).drew.drew.drew.ownsMap prog 3 gR g n D:=ownsMap_at h.own (zk w _ g h.own.lt);obtain⟨F,hd,d,l⟩:=i.drop fJ underlying104 (yt A.k) 0;have a:Hid (F.ownsMap prog 3 gR g n (D.del (gi x.k))/\(w.alloc (.cells (ah x).toArray 89)).grownBy F (some g)):=⟨d,l.grown.os,l.grown.tape,l.grown.output,l.grown.size,l.grown.block⟩;rw[E]at N;clear v K h s B i d l L u I E;generalize(τ.R.count x.rv:Int)=cn at *;generalize(z x.k).1=t at *;generalize(z x.k).2=r at *;obtain⟨k,lk,lt,lv,rk,rt,rv,hl,M⟩:=x;cases M
 .clear q f;simp only[vO,ah]at C hd a⊢;go_enter func181,ntmps181;go_wp2
  go_region
  all_goals (try go_wp2)
  all_goals go_region
  all_goals (try go_wp2)
  all_goals go_region
  all_goals (try go_wp2)
  all_goals go_ret
  all_goals exact⟨rfl,a.out⟩
 .have j:=f rfl;clear f;simp only[vO,ah]at C hd q a j y⊢;go_enter func181,ntmps181;go_wp2
  go_region
  all_goals (try go_wp2)
  all_goals go_region
  all_goals (try go_wp2)
  all_goals go_region
  all_goals (try go_wp2)
  all_goals go_ret
  all_goals exact⟨rfl,a.out⟩
def iM(w:World)(x:O)(t:Nat)(c s:Int):World:=
 if x.hl then(((w.setCell ⟨t,0,none⟩ (.int .i64 (c -1))).setCell ⟨t,1,none⟩ (.int .i64 (wrap64 (s -x.lv)))).alloc (.cells (ah x).toArray 89)).drew.drew.drew
 else((w.setCell ⟨t,0,none⟩ (.int .i64 (c -1))).alloc (.cells (ah x).toArray 89)).drew.drew
def AR(τ:Tl)(x:O):Tl:=⟨τ.c -1,if x.hl then wrap64 (τ.s -x.lv)else τ.s,τ.R⟩
theorem Ey{w:World}{t r:Nat}(τ:Tl)(x:O)(h2:1<=τ.c)(h:w.heap[t]?=some (.cells #[.int .i64 τ.c,.int .i64 τ.s,.map (some r)] 283)):
  (iM w x t τ.c τ.s).heap[t]?=some (.cells #[.int .i64 (AR τ x).c,.int .i64 (AR τ x).s,.map (some r)] 283)/\(iM w x t τ.c τ.s).heap.size=w.heap.size+1/\
  (∀j,j<w.heap.size->j≠t->(iM w x t τ.c τ.s).heap[j]?=w.heap[j]?)/\(iM w x t τ.c τ.s).os=w.os/\(iM w x t τ.c τ.s).tape=w.tape/\(iM w x t τ.c τ.s).output=w.output:=by
 have b:t<w.heap.size:=(aD.1 h).1
 have e:(w.setCell ⟨t,0,none⟩ (.int .i64 ((τ.c:Int) -1))).heap[t]?=some (.cells #[.int .i64 ((τ.c:Int) -1),.int .i64 τ.s,.map (some r)] 283):=by
  rw[yc h];rfl
 have g:∀j,j≠t->(w.setCell ⟨t,0,none⟩ (.int .i64 ((τ.c:Int) -1))).heap[j]?=w.heap[j]? :=λj a=>zw _ _ _ _ a
 have d:(AR τ x).c=τ.c -1:=rfl
 have i:(((τ.c -1:Nat):Int))=(τ.c:Int) -1:=by omega
 rw[d,i];unfold iM;cases hl:x.hl
 .simp only[Bool.false_eq_true,if_false];refine⟨?_,by simp,λj f a=>?_,rfl,rfl,rfl⟩
  .refine(zk _ _ t (by simpa using b)).trans ?_;rw[e];simp[AR,hl]
  .exact(zk _ _ j (by simpa using f)).trans (g j a)
 .simp only[if_true];refine⟨?_,by simp,λj f a=>?_,rfl,rfl,rfl⟩
  .refine(zk _ _ t (by simpa using b)).trans ?_;rw[yc e];simp[AR,hl]
  .refine(zk _ _ j (by simpa using f)).trans ?_;rw[zw _ _ _ _ a];exact g j a
theorem H7(b o I m n:Nat)(a:Int->Nat×Nat)(G:Int->Option Tl)(D:DataW Value)(w:World)(hcell:w.cell? ⟨b,o,none⟩=some (.map (some I)))(hblt:b<w.heap.size)(h:fe w b I a m G n D)(x:O)(N:x.wf)(τ:Tl)(A:G x.k=some τ)(E:OQ x τ)(U:2<=τ.c)(Z:m<100000000):
  Calls prog 181 #[.pointer (some ⟨b,o,none⟩),vO x] w λe g=>e=.returned .nilIface/\
   ((x.hr=false/\g=iM w x (a x.k).1 τ.c τ.s)∨(x.hr=true/\g.heap.size=(iM w x (a x.k).1 τ.c τ.s).heap.size/\(iM w x (a x.k).1 τ.c τ.s).grownBy g (some (a x.k).2)/\∃n D,n<=m+1/\g.ownsMap prog 3 (plainElem (H:=Unit) prog 3) (a x.k).2 n D/\jU D (τ.R.erase x.rv))):=by
 have l:=h.tals x.k τ A;have z:=h.look (W:=(w.alloc (.cells (ah x).toArray 89)).drew) (zk w _ I h.own.lt) N.k A;have hc:=l.cells;have j:=l.lt;have C:=l.ne;have hnb:=h.nb x.k τ A;have p:=l.len
 have hlo:(2:Int)<=τ.c:=by omega
 have ZH:=l.hi
 have hhi:(τ.c:Int)<100000000:=by omega
 obtain⟨P,p2,K,T,V,Q⟩:=Ey τ x (by omega) l.blk;obtain⟨nr,Y,B,F,v⟩:=l.own;have u:=AO (W:=(w.alloc (.cells (ah x).toArray 89)).drew.drew) (ownsMap_at F (zk w _ _ j.2)) v x.rv N.rv;have S:τ.R.count x.rv<=τ.R.length:=List.count_le_length
 have f:x.hr=true->(1:Int)<=τ.R.count x.rv:=λe=>by have:=List.count_pos_iff.2 (E e);omega
 have i:(τ.R.count x.rv:Int)<100000000:=by omega
 have M:fD (iM w x (a x.k).1 τ.c τ.s) (a x.k).1 (a x.k).2 m (AR τ x):=
  ⟨P,⟨nr,Y,B,ownsMap_at F (K _ j.2 C.symm),v⟩,by show 1<=τ.c -1;omega,by show τ.c -1<=m;omega,p⟩
 have q:Hid (x.hr=true->Calls prog 250 #[tp (a x.k).1,.int .i64 x.rv] (iM w x (a x.k).1 τ.c τ.s) λe g=>e=.returned (.tuple #[])/\(g.heap.size=(iM w x (a x.k).1 τ.c τ.s).heap.size/\(iM w x (a x.k).1 τ.c τ.s).grownBy g (some (a x.k).2)/\∃n D,n<=m+1/\g.ownsMap prog 3 (plainElem (H:=Unit) prog 3) (a x.k).2 n D/\jU D (τ.R.erase x.rv))):=
  λe=>zK _ _ m _ _ M x.rv (E e) Z
 clear P p2 K T V Q v F h l A S p E U M ZH;generalize(τ.R.count x.rv:Int)=cn at *;generalize(a x.k).1=t at *;generalize(a x.k).2=r at *;generalize(τ.c:Int)=c at *;generalize τ.s=s at *;generalize τ.R=R at *;obtain⟨k,lk,lt,lv,rk,rt,rv,L,X⟩:=x;cases X
 .clear u f q;cases L
  .simp only[vO,ah,iM,Bool.false_eq_true,if_false]at z⊢;go_enter func181,ntmps181;go_wp2
   go_region
   all_goals (try go_wp2)
   all_goals go_region
   all_goals (try go_wp2)
   all_goals go_ret
   all_goals exact⟨rfl,.inl ⟨trivial,rfl⟩⟩
  .simp only[vO,ah,iM,Bool.false_eq_true,if_true]at z⊢;go_enter func181,ntmps181;go_wp2
   go_region
   all_goals (try go_wp2)
   all_goals go_region
   all_goals (try go_wp2)
   all_goals go_region
   all_goals (try go_wp2)
   all_goals go_ret
   all_goals exact⟨rfl,.inl ⟨trivial,rfl⟩⟩
 .have d:=f rfl;have y:=q.out rfl;clear f q;cases L
  .simp only[vO,ah,iM,Bool.false_eq_true,if_false]at z u y d i⊢;have q:Hid _:=y;clear y;go_enter func181,ntmps181;go_wp2
   go_region
   all_goals (try go_wp2)
   all_goals go_region
   all_goals (go_wp2_with (go_at_call 250;refine Calls.mono (Hid.out q) ?_;rintro e g ⟨rfl,hpost⟩))
   all_goals go_ret
   all_goals exact⟨rfl,.inr ⟨trivial,hpost⟩⟩
  .simp only[vO,ah,iM,if_true]at z u y d i⊢;have q:Hid _:=y;clear y;go_enter func181,ntmps181;go_wp2
   go_region
   all_goals (try go_wp2)
   all_goals go_region
   all_goals (try go_wp2)
   all_goals go_region
   all_goals (go_wp2_with (go_at_call 250;refine Calls.mono (Hid.out q) ?_;rintro e g ⟨rfl,hpost⟩))
   all_goals go_ret
   all_goals exact⟨rfl,.inr ⟨trivial,hpost⟩⟩
end
section
def qi(G:Int->Option Tl)(x:O)(τ:Tl):Int->Option Tl:=lQ G x.k (if τ.c=1 then none else some (gP τ x))
theorem Le(b o m:Nat)(S:Nat->Prop)(G:Int->Option Tl)(w:World)(h:lu w b o m S G)(x:O)(hx:x.wf)(τ:Tl)(C:G x.k=some τ)(hy:OQ x τ)(hm:m<100000000):
  Calls prog 181 #[.pointer (some ⟨b,o,none⟩),vO x] w λe v=>e=.returned .nilIface/\lu v b o (m+1) (More S w v) (qi G x τ)/\kF S b o w v:=by
 obtain⟨om,L,r,M,y⟩:=h
 rcases r.map with⟨rfl,rfl⟩|⟨F,n,D,rfl,u⟩
 .cases C
 have z:=u.tals x.k τ C;have hlo:=z.lo;have hhi:=z.hi;have hlen:=z.len;have XO:=u.own.lt;have K:=r.blt
 by_cases h1:τ.c=1
 .refine(H6 b o F m n L G D w r.cell.1 r.blt u x hx τ C hy h1 hm).mono λe v ⟨X,I,f⟩=>⟨X,?_⟩
  have W:qi G x τ=lQ G x.k none:=by simp[qi,h1]
  have Y:∀j,j<w.heap.size->j≠F->v.heap[j]?=w.heap[j]? :=λj d g=>(f.block j (by simp;omega) (λe=>g (by injection e))).trans (zk w _ j d)
  have B:w.heap.size<=v.heap.size:=by have:=f.size;simp at this;omega
  have H:=Y b K u.bmb.symm;rw[W];refine⟨⟨some F,L,⟨?_,.inr ⟨F,n,_,rfl,(u.del x.k I λj d _=>Y j d).mono (Nat.le_succ m)⟩⟩,λj d=>.inl (M j ?_),λj d=>?_⟩,⟨f.os,f.tape,f.output,B,λj d hn=>Y j d (λe=>hn (M j (.inr (.inl (by rw[e]))))),λcs T hc=>⟨cs,H.trans hc,rfl,λ_ _=>rfl⟩⟩⟩
  .obtain⟨cs,T,k1,k2⟩:=r.blk;exact⟨cs,T,H.trans k1,k2⟩
  .rcases d with e|e|⟨i,τi,hi,e⟩
   .exact .inl e
   .exact .inr (.inl e)
   .by_cases ei:i=x.k
    .rw[ei,dL]at hi;cases hi
    .rw[aJ _ _ ei]at hi;exact .inr (.inr ⟨i,τi,hi,e⟩)
  .rcases d with d|d
   .exact fO (y j d) B
   .exact d.2
 .refine(H7 b o F m n L G D w r.cell.1 r.blt u x hx τ C hy (by omega) hm).mono λe v ⟨X,hE⟩=>⟨X,?_⟩
  have W:qi G x τ=lQ G x.k (some (gP τ x)):=by simp[qi,h1]
  rw[W];have g:=z.ne;have t:=z.lt;obtain⟨p1,p2,P,p4,p5,p6⟩:=Ey τ x (by omega) z.blk;obtain⟨nr,Dr,hnr,l7,V⟩:=z.own
  rcases hE with⟨E,rfl⟩|⟨E,B,p,n',D',Q,A,U⟩
  .refine wU r u M y C (Nat.le_succ m) ⟨p1,⟨nr,Dr,by omega,ownsMap_at l7 (P _ t.2 g.symm),?_⟩,by simp[gP];omega,by simp[gP];omega,?_⟩ (λj d N _=>P j d N) (by omega) p4 p5 p6
   .simpa[gP,E]using V
   .simp[gP,E];omega
  .have q:∀j,j<w.heap.size->j≠(L x.k).2->v.heap[j]?=(iM w x (L x.k).1 τ.c τ.s).heap[j]? :=λj d Z=>p.block j (by omega) (λe=>Z (by injection e))
   refine wU r u M y C (Nat.le_succ m) ⟨(q _ t.1 g).trans p1,⟨n',D',Q,A,?_⟩,by simp[gP];omega,by simp[gP];omega,?_⟩ (λj d N Z=>(q j d Z).trans (P j d N)) (by omega) (p.os.trans p4) (p.tape.trans p5) (p.output.trans p6)
   .simpa[gP,E]using U
   .have:=List.length_erase_le (a:=x.rv) (l:=τ.R);simp[gP,E];omega
def WW(x:O)(g:Bool):Value:= .agg #[.int .i64 x.k,.int .i64 x.lk,.int .i64 x.lt,.int .i64 x.lv,.int .i64 x.rk,.int .i64 x.rt,.int .i64 x.rv,.bool x.hl,.bool x.hr,.bool g]
abbrev SB(x:O)(g:Bool):Obj:= .cells #[.int .i64 x.k,.int .i64 x.lk,.int .i64 x.lt,.int .i64 x.lv,.int .i64 x.rk,.int .i64 x.rt,.int .i64 x.rv,.bool x.hl,.bool x.hr,.bool g] 95
theorem Ez{S:Nat->Prop}{w c:World}{o:Obj}{b d m:Nat}{G:Int->Option Tl}(h:lu c b d m (More S (w.alloc o) c) G)(e:kF S b d (w.alloc o) c):lu c b d m (More S w c) G/\kF S b d w c:=by
 refine⟨?_,(kF.of_below (wh w o)).trans e λ_ _ h=>h⟩;obtain⟨n,l,f,i,k⟩:=h;have g:=e.size;simp at g;refine⟨n,l,f,λj a=>(i j a).imp id λh=>?_,λj a=>?_⟩
 .simp at h;exact⟨by omega,h.2⟩
 .rcases a with a|a
  .exact k j (.inl a)
  .exact a.2
theorem Ia(b o m:Nat)(S:Nat->Prop)(G:Int->Option Tl)(w:World)(h:lu w b o m S G)(x:O)(g:x.wf)(d:m<100000000):
  Calls prog 108 #[.pointer (some ⟨b,o,none⟩),WW x false] w λe a=>e=.returned .nilIface/\lu a b o (m+1) (More S w a) (yz G x)/\kF S b o w a:=by
 have c:Hid (Calls prog 182 #[.pointer (some ⟨b,o,none⟩),vO x] (w.alloc (SB x false)) λe a=>e=.returned (.tuple #[])/\lu a b o (m+1) (More S w a) (yz G x)/\kF S b o w a):=
  (OP b o m S G _ (h.below (wh w (SB x false))) x g d).mono λe a ⟨f,i,j⟩=>⟨f,Ez i j⟩
 clear h;simp only[vO]at c;simp only[WW];go_enter func108,ntmps108
 go_wp2_with (go_at_call 182;refine Calls.mono (Hid.out c) ?_;rintro e a ⟨rfl,hpost⟩)
 go_ret;exact⟨rfl,hpost⟩
theorem EA(b o m:Nat)(S:Nat->Prop)(G:Int->Option Tl)(w:World)(h:lu w b o m S G)(x:O)(j:x.wf)(τ:Tl)(f:G x.k=some τ)(c:OQ x τ)(g:m<100000000):
  Calls prog 108 #[.pointer (some ⟨b,o,none⟩),WW x true] w λe a=>e=.returned .nilIface/\lu a b o (m+1) (More S w a) (qi G x τ)/\kF S b o w a:=by
 have d:Hid (Calls prog 181 #[.pointer (some ⟨b,o,none⟩),vO x] (w.alloc (SB x true)) λe a=>e=.returned .nilIface/\lu a b o (m+1) (More S w a) (qi G x τ)/\kF S b o w a):=
  (Le b o m S G _ (h.below (wh w (SB x true))) x j τ f c g).mono λe a ⟨i,l,n⟩=>⟨i,Ez l n⟩
 clear h f c;simp only[vO]at d;simp only[WW];go_enter func108,ntmps108
 go_wp2_with (go_at_call 181;refine Calls.mono (Hid.out d) ?_;rintro e a ⟨rfl,hpost⟩)
 go_ret;exact⟨rfl,hpost⟩
end
section
variable{r R R':List Int}
def lo:List Int->Int
 |[]=>0
 |[x]=>x
 |x::y::r=>min x (lo (y::r))
def hi:List Int->Int
 |[]=>0
 |[x]=>x
 |x::y::r=>max x (hi (y::r))
theorem jC(x:Int)(h:r≠[]):lo (x::r)=min x (lo r):=by
 cases r with
 |nil=>exact absurd rfl h
 |cons y r=>rfl
theorem jD(x:Int)(h:r≠[]):hi (x::r)=max x (hi r):=by
 cases r with
 |nil=>exact absurd rfl h
 |cons y r=>rfl
theorem wQ:∀{R:List Int},R≠[]->lo R∈R/\∀y∈R,lo R<=y
 |[],h=>absurd rfl h
 |[x],_=>by simp[lo]
 |x::y::r,_=>by
  have ih:=wQ (R:=y::r) (by simp);rw[jC x (by simp)];refine⟨?_,λz a=>?_⟩
  .by_cases h:x<=lo (y::r)
   .rw[Int.min_eq_left h];simp
   .rw[Int.min_eq_right (by omega)];exact List.mem_cons_of_mem _ ih.1
  .rcases qh.1 a with rfl|a
   .omega
   .have:=ih.2 z a;omega
theorem wR:∀{R:List Int},R≠[]->hi R∈R/\∀y∈R,y<=hi R
 |[],h=>absurd rfl h
 |[x],_=>by simp[hi]
 |x::y::r,_=>by
  have ih:=wR (R:=y::r) (by simp);rw[jD x (by simp)];refine⟨?_,λz a=>?_⟩
  .by_cases h:hi (y::r)<=x
   .rw[Int.max_eq_left h];simp
   .rw[Int.max_eq_right (by omega)];exact List.mem_cons_of_mem _ ih.1
  .rcases qh.1 a with rfl|a
   .omega
   .have:=ih.2 z a;omega
theorem Ct(h:∀x,x∈R↔x∈R'):lo R=lo R':=by
 by_cases e:R=[]
 .subst e
  have:R'=[]:=List.eq_nil_iff_forall_not_mem.2 λx c=>by simpa using(h x).2 c
  rw[this]
 .have g:R'≠[]:=λi=>e (List.eq_nil_iff_forall_not_mem.2 λx c=>by have:=(h x).1 c;rw[i]at this;cases this)
  have d:=wQ e;have f:=wQ g;have a:=d.2 _ ((h _).2 f.1);have b:=f.2 _ ((h _).1 d.1);omega
theorem Cu(h:∀x,x∈R↔x∈R'):hi R=hi R':=by
 by_cases e:R=[]
 .subst e
  have:R'=[]:=List.eq_nil_iff_forall_not_mem.2 λx c=>by simpa using(h x).2 c
  rw[this]
 .have g:R'≠[]:=λi=>e (List.eq_nil_iff_forall_not_mem.2 λx c=>by have:=(h x).1 c;rw[i]at this;cases this)
  have d:=wR e;have f:=wR g;have a:=d.2 _ ((h _).2 f.1);have b:=f.2 _ ((h _).1 d.1);omega
def some?(R:List Int):Bool:= !R.isEmpty
theorem tZ(h:∀x,x∈R↔x∈R'):some? R=some? R':=by
 cases R with
 |nil=>
  have:R'=[]:=List.eq_nil_iff_forall_not_mem.2 λx c=>by simpa using(h x).2 c
  rw[this]
 |cons a r=>
  cases R' with
  |nil=>have:=(h a).1 (by simp);cases this
  |cons b s=>rfl
def vG(k:Int)(τ:Tl):Value:= .agg #[.int .i64 k,.int .i64 τ.c,.int .i64 τ.s,.int .i64 (lo τ.R),.int .i64 (hi τ.R),.bool (some? τ.R)]
structure Gl(w:World)(ob:Nat)(k:Int)(τ:Tl)(left:Lit->Bool)(xs:List Int)(wr:World):Prop where
 blk:wr.heap[ob]?=some (.cells #[.int .i64 k,.int .i64 τ.c,.int .i64 τ.s,.int .i64 (lo xs),.int .i64 (hi xs),.bool (some? xs)] 140)
 below:Below w.heap.size w wr
 mem:∀x,x∈xs↔x∈τ.R/\left (gi x)=false
theorem l5{wr:World}{a:Nat}{k c s l h:Int}{b:Bool}(d:wr.heap[a]?=some (.cells #[.int .i64 k,.int .i64 c,.int .i64 s,.int .i64 l,.int .i64 h,.bool b] 140)):
  wr.cell? ⟨a,0,none⟩=some (.int .i64 k)/\wr.cell? ⟨a,1,none⟩=some (.int .i64 c)/\wr.cell? ⟨a,2,none⟩=some (.int .i64 s)/\wr.cell? ⟨a,3,none⟩=some (.int .i64 l)/\wr.cell? ⟨a,4,none⟩=some (.int .i64 h)/\wr.cell? ⟨a,5,none⟩=some (.bool b)/\
  wr.frozen? ⟨a,0,none⟩=false/\wr.frozen? ⟨a,1,none⟩=false/\wr.frozen? ⟨a,2,none⟩=false/\wr.frozen? ⟨a,3,none⟩=false/\wr.frozen? ⟨a,4,none⟩=false/\wr.frozen? ⟨a,5,none⟩=false:=by
 refine⟨?_,?_,?_,?_,?_,?_,x9 d 0,x9 d 1,x9 d 2,x9 d 3,x9 d 4,x9 d 5⟩ <;>(rw[vE d];rfl)
theorem Lf(t r m:Nat)(τ:Tl)(w:World)(h:fD w t r m τ)(k:Int):
  Calls prog 130 #[tp t,.int .i64 k] w λe w'=>e=.returned (vG k τ)/\Below w.heap.size w w':=by
 have hc:=h.cells;have htlt:=h.lt;obtain⟨n,D,hn,N,B⟩:=h.own
 let o:Obj:= .cells #[.int .i64 0,.int .i64 0,.int .i64 0,.int .i64 0,.int .i64 0,.bool false] 140
 let q:Obj:= .cells #[.int .i64 k,.int .i64 τ.c,.int .i64 τ.s,.int .i64 0,.int .i64 0,.bool false] 140
 have u:((w.alloc o).alloc q).drew.ownsMap prog 3 (plainElem (H:=Unit) prog 3) r n D:=((N.alloc o).alloc q).drew
 have P:((w.alloc o).alloc q).drew.heap[w.heap.size+1]?=some q:=by
  have e:(w.alloc o).heap.size=w.heap.size+1:=by simp
  have:=(MapKept.heap_alloc (w.alloc o) q).1;rw[e]at this;exact this
 have Q:((w.alloc o).alloc q).drew.heap[w.heap.size]?=some o:=(zk (w.alloc o) q _ (by simp)).trans (MapKept.heap_alloc w o).1;have XP:Below w.heap.size w ((w.alloc o).alloc q).drew:=(((zI _ w).alloc (aO _) o).alloc (by simp) q).drew
 have es:((w.alloc o).alloc q).drew.heap.size=w.heap.size+2:=by simp
 have T:Hid _:=P;have S:Hid _:=Q;have XQ:Hid _:=XP;have V:Hid _:=es;clear P Q XP es;simp only[o,q]at u T S XQ V;clear o q;go_enter func130,ntmps130;go_wp2
 go_region
 go_wp2_with (first
  |(at_range;refine wpList_range_own _ rfl _ 281 rfl 3 3 fJ underlying281 _ r n _ rfl u ?_;intro w0 I i hs0)
  |go_in)
 go_frame
 rw[V.out]at I hs0⊢
 go_loopw [6] (λ_ wr=>∃(left:Lit->Bool) (cnt:Nat) (xs:List Int),wr.ranges prog 3 (plainElem (H:=Unit) prog 3) r (w.heap.size+2) n D left cnt/\Hid (Gl w (w.heap.size+1) k τ left xs wr/\wr.heap[w.heap.size]?=some (.cells #[.int .i64 0,.int .i64 0,.int .i64 0,.int .i64 0,.int .i64 0,.bool false] 140)))
  (λ_ wr=>wr.rangeLeft r (w.heap.size+2))
 case atStart=>
  have hblt:w.heap.size+1<w.heap.size+2:=by omega
  refine⟨_,_,[],I,⟨(i.block _ (by rw[V.out];omega) (by simp)).trans T.out,?_,λx=>?_⟩,(i.block _ (by rw[V.out];omega) (by simp)).trans S.out⟩
  .exact XQ.out.trans ⟨i.os,i.tape,i.output,i.size,λj Y=>i.block j (by rw[V.out];omega) (by simp)⟩
  .constructor
   .intro A;cases A
   .rintro⟨A,hl⟩;rw[B.has x (B.wf x A)]at hl;simp[A]at hl
 case round=>
  obtain⟨left,cnt,xs,M,HG⟩:=hrel
  go_wp2_with (first
   |(at_next;refine wpList_next_ranges_ii _ rfl _ rfl 3 3 .i64 .i64 fJ underlying3 underlying3 r (w.heap.size+2) n _ _ _ rfl M ?_ ?_)
   |go_in)
  .intro hc0 hl0;obtain⟨z,W⟩:=HG.out
   have f:∀x,x∈xs↔x∈τ.R:=λx=>by rw[z.mem x,hl0];simp
   have C:=l5 z.blk;have hcz:=l5 W;rw[Ct f,Cu f,tZ f]at C;have HB:=hid z.below;have hsz:w.heap.size+1<wr.heap.size:=(aD.1 z.blk).1;clear z W HG;go_wp2;refine CU (v:=vG k τ) (by simp[results,Tryz.results130,go_sem,hcz,vG]) rfl ⟨rfl,?_⟩;exact(((((HB.out.setCell (p:=⟨w.heap.size,0,none⟩) (aO _) _).setCell (p:=⟨w.heap.size,1,none⟩) (aO _) _).setCell (p:=⟨w.heap.size,2,none⟩) (aO _) _).setCell (p:=⟨w.heap.size,3,none⟩) (aO _) _).setCell (p:=⟨w.heap.size,4,none⟩) (aO _) _).setCell (p:=⟨w.heap.size,5,none⟩) (aO _) _
  .intro x c w1 cnt1 X hwc hlx hat U hlt d hs1 hen;obtain⟨z,W⟩:=HG.out;have hr2:=M.lt;have g:=(d.block (w.heap.size+1) (by omega) (λe=>by injection e;omega)).trans z.blk;have hz1:=(d.block w.heap.size (by omega) (λe=>by injection e;omega)).trans W;have C:=l5 g;have G:Maps.has D (gi x)=true:=Maps.has_true_of_atKey hat
   have Um:x∈τ.R:=by
    have:=B.has x X;rw[G]at this;simpa using this.symm
   have F:∀y,y∈x::xs↔y∈τ.R/\(left (gi y) && !(gi y).sameKey (gi x))=false:=λy=>by
    by_cases e:y=x
    .subst e;simp[Um,WideAt.sameKey_self (qF X)]
    .simp[e,z.mem y,Maps.sameKey_ne (oG e)]
   have hstep:∀K:World,K.heap[w.heap.size+1]?=some (.cells #[.int .i64 k,.int .i64 τ.c,.int .i64 τ.s,.int .i64 (lo (x::xs)),.int .i64 (hi (x::xs)),.bool (some? (x::xs))] 140)->w1.grownBy K (some (w.heap.size+1))->
     (∃left cnt xs,K.ranges prog 3 (plainElem (H:=Unit) prog 3) r (w.heap.size+2) n D left cnt/\Hid (Gl w (w.heap.size+1) k τ left xs K/\K.heap[w.heap.size]?=some (.cells #[.int .i64 0,.int .i64 0,.int .i64 0,.int .i64 0,.int .i64 0,.bool false] 140)))/\K.rangeLeft r (w.heap.size+2)<wr.rangeLeft r (w.heap.size+2):=λK hb' l=>by
    have E:=U.kept l (λe=>by injection e;omega) (λe=>by injection e;omega);refine⟨⟨_,_,x::xs,E,⟨hb',?_,F⟩,(l.block _ (by omega) (λe=>by injection e;omega)).trans hz1⟩,?_⟩
    .exact z.below.trans ⟨l.os.trans d.os,l.tape.trans d.tape,l.output.trans d.output,di d.size l.size,λj Y=>(l.block j (by omega) (λe=>by injection e;omega)).trans (d.block j (by omega) (λe=>by injection e;omega))⟩
    .rw[E.left_eq,M.left_eq];exact hlt
   have HS:Hid _:=hstep;have Z:Hid _:=g;clear HG B hstep F G Um hz1 g z W
   by_cases A:xs=[]
   .subst A;simp only[lo,hi,some?,List.isEmpty_nil,Bool.not_true]at C;go_wp2;refine HS.out _ ?_ ?_
    .rw[yc (yc (yc (yc (yc Z.out _) _) _) _)];simp[lo,hi,some?]
    .exact⟨rfl,rfl,rfl,by simp,λj _ Y=>by
      have b:j≠w.heap.size+1:=λe=>Y (by rw[e])
      rw[zw _ _ _ _ b,zw _ _ _ _ b,zw _ _ _ _ b,zw _ _ _ _ b,zw _ _ _ _ b]⟩
   .have L:some? xs=true:=by cases xs with
     |nil=>exact absurd rfl A
     |cons a r=>rfl
    rw[L]at C;have HX:=hid A;have HSM:=hid L;clear A L;go_wp2;refine HS.out _ ?_ ?_
    .rw[yc (yc Z.out _) _]
     have e1:min x (lo xs)=if x<lo xs then x else lo xs:=by split <;>omega
     have e2:max x (hi xs)=if hi xs<x then x else hi xs:=by split <;>omega
     rw[jC x HX.out,jD x HX.out,e1,e2,HSM.out];rfl
    .exact⟨rfl,rfl,rfl,by simp,λj _ Y=>by
      have b:j≠w.heap.size+1:=λe=>Y (by rw[e])
      rw[zw _ _ _ _ b,zw _ _ _ _ b]⟩
end
end Go.Proofs.YthfpipieboophaaGreatDoor
