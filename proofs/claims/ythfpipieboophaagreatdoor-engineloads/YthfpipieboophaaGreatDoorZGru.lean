import Derived.Test.YthfpipieboophaaGreatDoorZGrm
namespace Go.Proofs.YthfpipieboophaaGreatDoor
set_option maxRecDepth 100000
set_option maxHeartbeats 40000000
open Go.RowKit Go.Sort
section
open Go.Proofs.Tryz Go.Joins
def noG(G:Int->Option Tl)(x:O):Prop:=G x.k=none∨∃τ,G x.k=some τ/\x.hr=true/\x.rv∉τ.R
theorem aeo(b o m:Nat)(f:Option Nat)(j:Int->Nat×Nat)(G:Int->Option Tl)(w:World)(h:CB w b o f j m G)(x:O)(d:x.wf)(c:G x.k=none):
  Calls prog 181 #[.pointer (some ⟨b,o,none⟩),vO x] w λe g=>e=.returned (.iface 24 (.int .i64 8))/\Below w.heap.size w g:=by
 have hcell:=h.cell;have hblt:=h.blt
 have i:(Instr.lookup 104 (.map f) (.int .i64 x.k) true).run prog (w.alloc (.cells (ah x).toArray 89)).drew=.ok (.tuple #[.pointer none,.bool false]) (w.alloc (.cells (ah x).toArray 89)).drew:=by
  rcases h.map with⟨rfl,rfl⟩|⟨l,n,D,rfl,a⟩
  .exact adU _ d.k
  .exact a.look_none (W:=(w.alloc (.cells (ah x).toArray 89)).drew) (gL w _ l a.own.lt) d.k c
 clear h c;simp only[vO,ah]at i⊢;go_enter func181,ntmps181;go_wp2
 go_region
 all_goals (try go_wp2)
 all_goals go_region
 all_goals (try go_wp2)
 all_goals go_ret
 all_goals exact⟨rfl,((fC _ _).drew).drew⟩
theorem ach(b o j m n:Nat)(i:Int->Nat×Nat)(G:Int->Option Tl)(D:DataW Value)(w:World)(hcell:w.cell? ⟨b,o,none⟩=some (.map (some j)))(hblt:b<w.heap.size)(h:fe w b j i m G n D)(x:O)(q:x.wf)(τ:Tl)(l:G x.k=some τ)(s:x.hr=true)(c:x.rv∉τ.R):
  Calls prog 181 #[.pointer (some ⟨b,o,none⟩),vO x] w λe u=>e=.returned (.iface 24 (.int .i64 8))/\Below w.heap.size w u:=by
 have g:=h.tals x.k τ l;have v:=h.look (W:=(w.alloc (.cells (ah x).toArray 89)).drew) (gL w _ j h.own.lt) q.k l;have hc:=g.cells;have a:=g.lt;obtain⟨nr,Dr,hnr,p,f⟩:=g.own;have d:=AO (W:=(w.alloc (.cells (ah x).toArray 89)).drew.drew) (ownsMap_at p (gL w _ _ a.2)) f x.rv q.rv;rw[List.count_eq_zero.2 c]at d;clear f p h g l c;generalize(i x.k).1=t at *;generalize(i x.k).2=r at *;obtain⟨k,lk,lt,lv,rk,rt,rv,hl,hr'⟩:=x;simp only at s;subst s;simp only[vO,ah]at v d⊢;go_enter func181,ntmps181;go_wp2
 go_region
 all_goals (try go_wp2)
 all_goals go_region
 all_goals (try go_wp2)
 all_goals go_ret
 all_goals exact⟨rfl,((fC _ _).drew).drew⟩
def OQ(x:O)(τ:Tl):Prop:=x.hr=true->x.rv∈τ.R
theorem H6(b o g m n:Nat)(A:Int->Nat×Nat)(G:Int->Option Tl)(D:DataW Value)(w:World)(hcell:w.cell? ⟨b,o,none⟩=some (.map (some g)))(hblt:b<w.heap.size)(h:fe w b g A m G n D)(x:O)(B:x.wf)(τ:Tl)(y:G x.k=some τ)(H:OQ x τ)(F:τ.c=1)(hm:m<100000000):
  Calls prog 181 #[.pointer (some ⟨b,o,none⟩),vO x] w λe C=>e=.returned .nilIface/\C.ownsMap prog 3 gR g n (D.del (gi x.k))/\(w.alloc (.cells (ah x).toArray 89)).grownBy C (some g):=by
 have q:=h.tals x.k τ y;have E:=h.look (W:=(w.alloc (.cells (ah x).toArray 89)).drew) (gL w _ g h.own.lt) B.k y;have N:=q.cells;have p:=q.lt;have s:=q.len;obtain⟨nr,Dr,hnr,I,v⟩:=q.own;have u:=AO (W:=(w.alloc (.cells (ah x).toArray 89)).drew.drew) (ownsMap_at I (gL w _ _ p.2)) v x.rv B.rv;have L:τ.R.count x.rv<=τ.R.length:=List.count_le_length
 have f:x.hr=true->(1:Int)<=τ.R.count x.rv:=λe=>by have:=List.count_pos_iff.2 (H e);omega
 have z:(τ.R.count x.rv:Int)<100000000:=by omega
 have i:(w.alloc (.cells (ah x).toArray 89)).drew.drew.drew.ownsMap prog 3 gR g n D:=ownsMap_at h.own (gL w _ g h.own.lt);obtain⟨K,hd,d,l⟩:=i.drop fJ underlying104 (yt B.k) 0;have a:Hid (K.ownsMap prog 3 gR g n (D.del (gi x.k))/\(w.alloc (.cells (ah x).toArray 89)).grownBy K (some g)):=⟨d,l.grown.os,l.grown.tape,l.grown.output,l.grown.size,l.grown.block⟩;rw[F]at N;clear v I h q y i d l L s H F;generalize(τ.R.count x.rv:Int)=cn at *;generalize(A x.k).1=t at *;generalize(A x.k).2=r at *;obtain⟨k,lk,lt,lv,rk,rt,rv,hl,M⟩:=x;cases M
 .clear u f;simp only[vO,ah]at E hd a⊢;go_enter func181,ntmps181;go_wp2
  go_region
  all_goals (try go_wp2)
  all_goals go_region
  all_goals (try go_wp2)
  all_goals go_region
  all_goals (try go_wp2)
  all_goals go_ret
  all_goals exact⟨rfl,a.out⟩
 .have j:=f rfl;clear f;simp only[vO,ah]at E hd u a j z⊢;go_enter func181,ntmps181;go_wp2
  go_region
  all_goals (try go_wp2)
  all_goals go_region
  all_goals (try go_wp2)
  all_goals go_region
  all_goals (try go_wp2)
  all_goals go_ret
  all_goals exact⟨rfl,a.out⟩
def iM(w:World)(x:O)(t:Nat)(c s:Int):World:=
 if x.hl then(((w.setCell ⟨t,0,none⟩ (.int .i64 (c -1))).setCell ⟨t,1,none⟩ (.int .i64 (wrap64 (s -x.lv)))).alloc (.cells (ah x).toArray 89)).drew.drew.drew
 else((w.setCell ⟨t,0,none⟩ (.int .i64 (c -1))).alloc (.cells (ah x).toArray 89)).drew.drew
def AR(τ:Tl)(x:O):Tl:=⟨τ.c -1,if x.hl then wrap64 (τ.s -x.lv)else τ.s,τ.R⟩
theorem Ey{w:World}{t r:Nat}(τ:Tl)(x:O)(h2:1<=τ.c)(h:w.heap[t]?=some (.cells #[.int .i64 τ.c,.int .i64 τ.s,.map (some r)] 283)):
  (iM w x t τ.c τ.s).heap[t]?=some (.cells #[.int .i64 (AR τ x).c,.int .i64 (AR τ x).s,.map (some r)] 283)/\(iM w x t τ.c τ.s).heap.size=w.heap.size+1/\
  (∀j,j<w.heap.size->j≠t->(iM w x t τ.c τ.s).heap[j]?=w.heap[j]?)/\(iM w x t τ.c τ.s).os=w.os/\(iM w x t τ.c τ.s).tape=w.tape/\(iM w x t τ.c τ.s).output=w.output:=by
 have b:t<w.heap.size:=(ax.1 h).1
 have d:(w.setCell ⟨t,0,none⟩ (.int .i64 ((τ.c:Int) -1))).heap[t]?=some (.cells #[.int .i64 ((τ.c:Int) -1),.int .i64 τ.s,.map (some r)] 283):=by
  rw[fZ h];rfl
 have g:∀j,j≠t->(w.setCell ⟨t,0,none⟩ (.int .i64 ((τ.c:Int) -1))).heap[j]?=w.heap[j]? :=λj a=>iJ _ _ _ _ a
 have e:(AR τ x).c=τ.c -1:=rfl
 have i:(((τ.c -1:Nat):Int))=(τ.c:Int) -1:=by omega
 rw[e,i];unfold iM;cases hl:x.hl
 .simp only[Bool.false_eq_true,if_false];refine⟨?_,by simp,λj f a=>?_,rfl,rfl,rfl⟩
  .refine(gL _ _ t (by simpa using b)).trans ?_;rw[d];simp[AR,hl]
  .exact(gL _ _ j (by simpa using f)).trans (g j a)
 .simp only[if_true];refine⟨?_,by simp,λj f a=>?_,rfl,rfl,rfl⟩
  .refine(gL _ _ t (by simpa using b)).trans ?_;rw[fZ d];simp[AR,hl]
  .refine(gL _ _ j (by simpa using f)).trans ?_;rw[iJ _ _ _ _ a];exact g j a
theorem H7(b o E m n:Nat)(a:Int->Nat×Nat)(G:Int->Option Tl)(D:DataW Value)(w:World)(hcell:w.cell? ⟨b,o,none⟩=some (.map (some E)))(hblt:b<w.heap.size)(h:fe w b E a m G n D)(x:O)(P:x.wf)(τ:Tl)(A:G x.k=some τ)(F:OQ x τ)(T:2<=τ.c)(hm:m<100000000):
  Calls prog 181 #[.pointer (some ⟨b,o,none⟩),vO x] w λe g=>e=.returned .nilIface/\
   ((x.hr=false/\g=iM w x (a x.k).1 τ.c τ.s)∨(x.hr=true/\g.heap.size=(iM w x (a x.k).1 τ.c τ.s).heap.size/\(iM w x (a x.k).1 τ.c τ.s).grownBy g (some (a x.k).2)/\∃n D,n<=m+1/\g.ownsMap prog 3 (plainElem (H:=Unit) prog 3) (a x.k).2 n D/\jU D (τ.R.erase x.rv))):=by
 have l:=h.tals x.k τ A;have z:=h.look (W:=(w.alloc (.cells (ah x).toArray 89)).drew) (gL w _ E h.own.lt) P.k A;have hc:=l.cells;have i:=l.lt;have B:=l.ne;have hnb:=h.nb x.k τ A;have p:=l.len
 have hlo:(2:Int)<=τ.c:=by omega
 have X:=l.hi
 have hhi:(τ.c:Int)<100000000:=by omega
 obtain⟨M,U,K,S,Q,V⟩:=Ey τ x (by omega) l.blk;obtain⟨nr,Y,C,I,v⟩:=l.own;have u:=AO (W:=(w.alloc (.cells (ah x).toArray 89)).drew.drew) (ownsMap_at I (gL w _ _ i.2)) v x.rv P.rv;have Z:τ.R.count x.rv<=τ.R.length:=List.count_le_length
 have d:x.hr=true->(1:Int)<=τ.R.count x.rv:=λe=>by have:=List.count_pos_iff.2 (F e);omega
 have j:(τ.R.count x.rv:Int)<100000000:=by omega
 have L:fD (iM w x (a x.k).1 τ.c τ.s) (a x.k).1 (a x.k).2 m (AR τ x):=
  ⟨M,⟨nr,Y,C,ownsMap_at I (K _ i.2 B.symm),v⟩,by show 1<=τ.c -1;omega,by show τ.c -1<=m;omega,p⟩
 have q:Hid (x.hr=true->Calls prog 250 #[tp (a x.k).1,.int .i64 x.rv] (iM w x (a x.k).1 τ.c τ.s) λe g=>e=.returned (.tuple #[])/\(g.heap.size=(iM w x (a x.k).1 τ.c τ.s).heap.size/\(iM w x (a x.k).1 τ.c τ.s).grownBy g (some (a x.k).2)/\∃n D,n<=m+1/\g.ownsMap prog 3 (plainElem (H:=Unit) prog 3) (a x.k).2 n D/\jU D (τ.R.erase x.rv))):=
  λe=>zK _ _ m _ _ L x.rv (F e) hm
 clear M U K S Q V v I h l A Z p F T L X;generalize(τ.R.count x.rv:Int)=cn at *;generalize(a x.k).1=t at *;generalize(a x.k).2=r at *;generalize(τ.c:Int)=c at *;generalize τ.s=s at *;generalize τ.R=R at *;obtain⟨k,lk,lt,lv,rk,rt,rv,N,hr⟩:=x;cases hr
 .clear u d q;cases N
  .simp only[vO,ah,iM,Bool.false_eq_true,if_false]at z⊢;go_enter func181,ntmps181;go_wp2
   go_region
   all_goals (try go_wp2)
   all_goals go_region
   all_goals (try go_wp2)
   all_goals go_ret
   all_goals exact⟨rfl,.inl ⟨trivial,rfl⟩⟩
  .simp only[vO,ah,iM,Bool.false_eq_true,if_true]at z⊢;go_enter func181,ntmps181;go_wp2
   go_region
   all_goals (try go_wp2)
   all_goals go_region
   all_goals (try go_wp2)
   all_goals go_region
   all_goals (try go_wp2)
   all_goals go_ret
   all_goals exact⟨rfl,.inl ⟨trivial,rfl⟩⟩
 .have f:=d rfl;have y:=q.out rfl;clear d q;cases N
  .simp only[vO,ah,iM,Bool.false_eq_true,if_false]at z u y f j⊢;have q:Hid _:=y;clear y;go_enter func181,ntmps181;go_wp2
   go_region
   all_goals (try go_wp2)
   all_goals go_region
   all_goals (go_wp2_with (go_at_call 250;refine Calls.mono (Hid.out q) ?_;rintro e g ⟨rfl,hpost⟩))
   all_goals go_ret
   all_goals exact⟨rfl,.inr ⟨trivial,hpost⟩⟩
  .simp only[vO,ah,iM,if_true]at z u y f j⊢;have q:Hid _:=y;clear y;go_enter func181,ntmps181;go_wp2
   go_region
   all_goals (try go_wp2)
   all_goals go_region
   all_goals (try go_wp2)
   all_goals go_region
   all_goals (go_wp2_with (go_at_call 250;refine Calls.mono (Hid.out q) ?_;rintro e g ⟨rfl,hpost⟩))
   all_goals go_ret
   all_goals exact⟨rfl,.inr ⟨trivial,hpost⟩⟩
end
section
open Go.Proofs.Tryz Go.Joins
def qi(G:Int->Option Tl)(x:O)(τ:Tl):Int->Option Tl:=lQ G x.k (if τ.c=1 then none else some (gP τ x))
theorem ac2(b o m:Nat)(S:Nat->Prop)(G:Int->Option Tl)(w:World)(h:lu w b o m S G)(x:O)(c:x.wf)(j:noG G x):
  Calls prog 181 #[.pointer (some ⟨b,o,none⟩),vO x] w λe g=>e=.returned (.iface 24 (.int .i64 8))/\Below w.heap.size w g:=by
 obtain⟨k,d,a,hS,hlt⟩:=h
 rcases j with hk|⟨τ,hk,hr,hno⟩
 .exact aeo b o m k d G w a x c hk
 .rcases a.map with⟨rfl,rfl⟩|⟨f,n,D,rfl,i⟩
  .cases hk
  .exact ach b o f m n d G D w a.cell.1 a.blt i x c τ hk hr hno
theorem Le(b o m:Nat)(S:Nat->Prop)(G:Int->Option Tl)(w:World)(h:lu w b o m S G)(x:O)(hx:x.wf)(τ:Tl)(C:G x.k=some τ)(hy:OQ x τ)(hm:m<100000000):
  Calls prog 181 #[.pointer (some ⟨b,o,none⟩),vO x] w λe t=>e=.returned .nilIface/\lu t b o (m+1) (More S w t) (qi G x τ)/\kF S b o w t:=by
 obtain⟨om,H,p,M,y⟩:=h
 rcases p.map with⟨rfl,rfl⟩|⟨I,n,D,rfl,u⟩
 .cases C
 have z:=u.tals x.k τ C;have hlo:=z.lo;have hhi:=z.hi;have hlen:=z.len;have XO:=u.own.lt;have F:=p.blt
 by_cases h1:τ.c=1
 .refine(H6 b o I m n H G D w p.cell.1 p.blt u x hx τ C hy h1 hm).mono λe t ⟨W,E,f⟩=>⟨W,?_⟩
  have P:qi G x τ=lQ G x.k none:=by simp[qi,h1]
  have Q:∀j,j<w.heap.size->j≠I->t.heap[j]?=w.heap[j]? :=λj d g=>(f.block j (by simp;omega) (λe=>g (by injection e))).trans (gL w _ j d)
  have A:w.heap.size<=t.heap.size:=by have:=f.size;simp at this;omega
  have K:=Q b F u.bmb.symm;rw[P];refine⟨⟨some I,H,⟨?_,.inr ⟨I,n,_,rfl,(u.del x.k E λj d _=>Q j d).mono (Nat.le_succ m)⟩⟩,λj d=>.inl (M j ?_),λj d=>?_⟩,⟨f.os,f.tape,f.output,A,λj d hn=>Q j d (λe=>hn (M j (.inr (.inl (by rw[e]))))),λcs T hc=>⟨cs,K.trans hc,rfl,λ_ _=>rfl⟩⟩⟩
  .obtain⟨cs,T,k1,k2⟩:=p.blk;exact⟨cs,T,K.trans k1,k2⟩
  .rcases d with e|e|⟨i,τi,hi,e⟩
   .exact .inl e
   .exact .inr (.inl e)
   .by_cases ei:i=x.k
    .rw[ei,dL]at hi;cases hi
    .rw[aJ _ _ ei]at hi;exact .inr (.inr ⟨i,τi,hi,e⟩)
  .rcases d with d|d
   .exact aR (y j d) A
   .exact d.2
 .refine(H7 b o I m n H G D w p.cell.1 p.blt u x hx τ C hy (by omega) hm).mono λe t ⟨W,hE⟩=>⟨W,?_⟩
  have P:qi G x τ=lQ G x.k (some (gP τ x)):=by simp[qi,h1]
  rw[P];have g:=z.ne;have v:=z.lt;obtain⟨p1,p2,N,p4,p5,p6⟩:=Ey τ x (by omega) z.blk;obtain⟨nr,Dr,hnr,l7,X⟩:=z.own
  rcases hE with⟨L,rfl⟩|⟨L,A,r,n',D',V,B,U⟩
  .refine wU p u M y C (Nat.le_succ m) ⟨p1,⟨nr,Dr,by omega,ownsMap_at l7 (N _ v.2 g.symm),?_⟩,by simp[gP];omega,by simp[gP];omega,?_⟩ (λj d Y _=>N j d Y) (by omega) p4 p5 p6
   .simpa[gP,L]using X
   .simp[gP,L];omega
  .have q:∀j,j<w.heap.size->j≠(H x.k).2->t.heap[j]?=(iM w x (H x.k).1 τ.c τ.s).heap[j]? :=λj d Z=>r.block j (by omega) (λe=>Z (by injection e))
   refine wU p u M y C (Nat.le_succ m) ⟨(q _ v.1 g).trans p1,⟨n',D',V,B,?_⟩,by simp[gP];omega,by simp[gP];omega,?_⟩ (λj d Y Z=>(q j d Z).trans (N j d Y)) (by omega) (r.os.trans p4) (r.tape.trans p5) (r.output.trans p6)
   .simpa[gP,L]using U
   .have:=List.length_erase_le (a:=x.rv) (l:=τ.R);simp[gP,L];omega
def WW(x:O)(g:Bool):Value:= .agg #[.int .i64 x.k,.int .i64 x.lk,.int .i64 x.lt,.int .i64 x.lv,.int .i64 x.rk,.int .i64 x.rt,.int .i64 x.rv,.bool x.hl,.bool x.hr,.bool g]
abbrev SB(x:O)(g:Bool):Obj:= .cells #[.int .i64 x.k,.int .i64 x.lk,.int .i64 x.lt,.int .i64 x.lv,.int .i64 x.rk,.int .i64 x.rt,.int .i64 x.rv,.bool x.hl,.bool x.hr,.bool g] 95
theorem Ez{S:Nat->Prop}{w c:World}{o:Obj}{b d m:Nat}{G:Int->Option Tl}(h:lu c b d m (More S (w.alloc o) c) G)(e:kF S b d (w.alloc o) c):lu c b d m (More S w c) G/\kF S b d w c:=by
 refine⟨?_,(kF.of_below (fC w o)).trans e λ_ _ h=>h⟩;obtain⟨n,i,g,f,k⟩:=h;have l:=e.size;simp at l;refine⟨n,i,g,λj a=>(f j a).imp id λh=>?_,λj a=>?_⟩
 .simp at h;exact⟨by omega,h.2⟩
 .rcases a with a|a
  .exact k j (.inl a)
  .exact a.2
theorem Ia(b o m:Nat)(S:Nat->Prop)(G:Int->Option Tl)(w:World)(h:lu w b o m S G)(x:O)(g:x.wf)(i:m<100000000):
  Calls prog 108 #[.pointer (some ⟨b,o,none⟩),WW x false] w λe a=>e=.returned .nilIface/\lu a b o (m+1) (More S w a) (yz G x)/\kF S b o w a:=by
 have c:Hid (Calls prog 182 #[.pointer (some ⟨b,o,none⟩),vO x] (w.alloc (SB x false)) λe a=>e=.returned (.tuple #[])/\lu a b o (m+1) (More S w a) (yz G x)/\kF S b o w a):=
  (OP b o m S G _ (h.below (fC w (SB x false))) x g i).mono λe a ⟨j,d,f⟩=>⟨j,Ez d f⟩
 clear h;simp only[vO]at c;simp only[WW];go_enter func108,ntmps108
 go_wp2_with (go_at_call 182;refine Calls.mono (Hid.out c) ?_;rintro e a ⟨rfl,hpost⟩)
 go_ret;exact⟨rfl,hpost⟩
theorem EA(b o m:Nat)(S:Nat->Prop)(G:Int->Option Tl)(w:World)(h:lu w b o m S G)(x:O)(j:x.wf)(τ:Tl)(d:G x.k=some τ)(c:OQ x τ)(l:m<100000000):
  Calls prog 108 #[.pointer (some ⟨b,o,none⟩),WW x true] w λe a=>e=.returned .nilIface/\lu a b o (m+1) (More S w a) (qi G x τ)/\kF S b o w a:=by
 have f:Hid (Calls prog 181 #[.pointer (some ⟨b,o,none⟩),vO x] (w.alloc (SB x true)) λe a=>e=.returned .nilIface/\lu a b o (m+1) (More S w a) (qi G x τ)/\kF S b o w a):=
  (Le b o m S G _ (h.below (fC w (SB x true))) x j τ d c l).mono λe a ⟨n,g,i⟩=>⟨n,Ez g i⟩
 clear h d c;simp only[vO]at f;simp only[WW];go_enter func108,ntmps108
 go_wp2_with (go_at_call 181;refine Calls.mono (Hid.out f) ?_;rintro e a ⟨rfl,hpost⟩)
 go_ret;exact⟨rfl,hpost⟩
theorem acJ(b o m:Nat)(S:Nat->Prop)(G:Int->Option Tl)(w:World)(h:lu w b o m S G)(x:O)(j:x.wf)(f:noG G x):
  Calls prog 108 #[.pointer (some ⟨b,o,none⟩),WW x true] w λe c=>e=.returned (.iface 24 (.int .i64 8))/\Below w.heap.size w c:=by
 have a:=fC w (SB x true)
 have d:Hid (Calls prog 181 #[.pointer (some ⟨b,o,none⟩),vO x] (w.alloc (SB x true)) λe c=>e=.returned (.iface 24 (.int .i64 8))/\Below w.heap.size w c):=
  (ac2 b o m S G _ (h.below a) x j f).mono λe c ⟨i,g⟩=>⟨i,a.trans (g.mono (by simp))⟩
 clear a h f;simp only[vO]at d;simp only[WW];go_enter func108,ntmps108
 go_wp2_with (go_at_call 181;refine Calls.mono (Hid.out d) ?_;rintro e c ⟨rfl,hpost⟩)
 go_ret;exact⟨rfl,hpost⟩
end
section
def lo:List Int->Int
 |[]=>0
 |[x]=>x
 |x::y::r=>min x (lo (y::r))
def hi:List Int->Int
 |[]=>0
 |[x]=>x
 |x::y::r=>max x (hi (y::r))
end
end Go.Proofs.YthfpipieboophaaGreatDoor
