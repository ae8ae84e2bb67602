import Derived.Test.YthfpipieboophaaGreatDoorZHd
namespace Go.Proofs.YthfpipieboophaaGreatDoor
set_option maxRecDepth 100000
set_option maxHeartbeats 40000000
open Go.RowKit Go.Sort
section
open Go.Proofs.Tryz
variable{x:Int}{D:DataW Unit}{R:List Int}
abbrev gi(n:Int):Lit:= .int .i64 n
abbrev gd(n:Int):DataW Unit:= .lit (.int .i64 n)
theorem fJ:Maps.Keyed prog 3:=Maps.int_keyed underlying3
theorem yt(h:(gi x).wf=true):keyOf prog 3 (.int .i64 x)=some (gi x):=Maps.keyOf_int_mk underlying3 h
theorem qF(h:(gi x).wf=true):WideAt.IsKeyLit (gi x):=fJ.key (yt h)
theorem oG{y:Int}(h:x≠y):gi x≠gi y:=λe=>h (by injection e)
theorem Vh(w:World):(zeroValue 3).run prog w=.ok (.int .i64 0) w:=by kernel_rfl
theorem Cz(w:World):(zeroValue 221).run prog w=.ok (.pointer none) w:=by kernel_rfl
structure jU(D:DataW Unit)(R:List Int):Prop where
 isMap:Maps.IsMap D
 wf:∀x∈R,(gi x).wf=true
 at_:∀x,(gi x).wf=true->D.atKey (gi x) (gd 0)=gd (R.count x)
 has:∀x,(gi x).wf=true->Maps.has D (gi x)=decide (x∈R)
 keys:∀l,Maps.has D l=true->∃x∈R,l=gi x
theorem yu:jU (.map []) []:=
 ⟨Maps.isMap_empty,by simp,λx _=>rfl,λx _=>rfl,λl h=>by cases h⟩
theorem jU.perm{R':List Int}(h:jU D R)(p:R.Perm R'):jU D R':=
 ⟨h.isMap,λx a=>h.wf x (p.mem_iff.2 a),λx a=>by rw[h.at_ x a,p.count_eq],λx a=>by rw[h.has x a];simp[p.mem_iff],
  λl b=>by obtain⟨x,a,e⟩:=h.keys l b;exact⟨x,p.mem_iff.1 a,e⟩⟩
theorem jU.put(h:jU D R)(x:Int)(c:(gi x).wf=true):jU (D.put (gi x) (gd (R.count x+1))) (x::R):=by
 refine⟨h.isMap.put _ _,λy a=>?_,λy a=>?_,λy a=>?_,λl b=>?_⟩
 .rcases dM.1 a with rfl|a
  .exact c
  .exact h.wf y a
 .by_cases e:y=x
  .subst e;rw[Maps.atKey_put_same h.isMap (qF a)];simp
  .rw[iZ (oG e),h.at_ y a,List.count_cons_of_ne (Ne.symm e)]
 .by_cases e:y=x
  .subst e;rw[Maps.has_put_same h.isMap (qF a)];simp
  .rw[iY (oG e),h.has y a];simp[e]
 .by_cases e:l=gi x
  .exact⟨x,by simp,e⟩
  .rw[iY e]at b;obtain⟨y,a,rfl⟩:=h.keys l b;exact⟨y,by simp[a],rfl⟩
theorem jU.less(h:jU D R)(x:Int)(hx:(gi x).wf=true)(h2:2<=R.count x):jU (D.put (gi x) (gd (R.count x -1))) (R.erase x):=by
 have b:x∈R.erase x:=by rw[<-List.count_pos_iff,List.count_erase_self];omega
 refine⟨h.isMap.put _ _,λy a=>h.wf y (List.mem_of_mem_erase a),λy a=>?_,λy a=>?_,λl c=>?_⟩
 .by_cases e:y=x
  .subst e;rw[Maps.atKey_put_same h.isMap (qF a),List.count_erase_self];congr 2;omega
  .rw[iZ (oG e),h.at_ y a,List.count_erase_of_ne e]
 .by_cases e:y=x
  .subst e;rw[Maps.has_put_same h.isMap (qF a)];simp[b]
  .rw[iY (oG e),h.has y a];simp[eY e]
 .by_cases e:l=gi x
  .exact⟨x,b,e⟩
  .rw[iY e]at c;obtain⟨y,a,rfl⟩:=h.keys l c;exact⟨y,(eY (λd=>e (by rw[d]))).2 a,rfl⟩
theorem jU.del(h:jU D R)(x:Int)(d:R.count x=1):jU (D.del (gi x)) (R.erase x):=by
 have c:x∉R.erase x:=by rw[<-List.count_eq_zero,List.count_erase_self];omega
 refine⟨h.isMap.del _,λy a=>h.wf y (List.mem_of_mem_erase a),λy a=>?_,λy a=>?_,λl b=>?_⟩
 .by_cases e:y=x
  .subst e;rw[Maps.atKey_del_same,List.count_erase_self,d];rfl
  .rw[Maps.atKey_del_other (oG e),h.at_ y a,List.count_erase_of_ne e]
 .by_cases e:y=x
  .subst e;rw[Maps.has_del_same];simp[c]
  .rw[Maps.has_del_other (oG e),h.has y a];simp[eY e]
 .by_cases e:l=gi x
  .subst e;rw[Maps.has_del_same]at b;cases b
  .rw[Maps.has_del_other e]at b;obtain⟨y,a,rfl⟩:=h.keys l b;exact⟨y,(eY (λf=>e (by rw[f]))).2 a,rfl⟩
theorem AO{W:World}{r n:Nat}(a:W.ownsMap prog 3 (plainElem (H:=Unit) prog 3) r n D)(f:jU D R)(x:Int)(e:(gi x).wf=true):
  (Instr.lookup 281 (.map (some r)) (.int .i64 x) false).run prog W=.ok (.int .i64 (R.count x)) W:=by
 obtain⟨c,b,d,_⟩:=a.lookup_int fJ underlying281 underlying3 (Vh _) (yt e);rw[f.at_ x e]at d
 injection d with h1;injection h1 with _ h2
 rw[b,h2]
end
section
open Go.Proofs.Tryz Go.Joins
variable{k:Int}{w f W:World}{t r m p b d n o:Nat}{D:DataW Value}{a:Int->Nat×Nat}{g:Option Nat}{S:Nat->Prop}
structure Tl where
 c:Nat
 s:Int
 R:List Int
def bE(τ:Tl)(x:O):Tl:=⟨τ.c+1,if x.hl then wrap64 (τ.s+x.lv)else τ.s,if x.hr then x.rv::τ.R else τ.R⟩
def gP(τ:Tl)(x:O):Tl:=⟨τ.c -1,if x.hl then wrap64 (τ.s -x.lv)else τ.s,if x.hr then τ.R.erase x.rv else τ.R⟩
def lQ(G:Int->Option Tl)(k:Int)(v:Option Tl):Int->Option Tl:=λj=>if j=k then v else G j
theorem dL(G:Int->Option Tl)(k:Int)(v:Option Tl):lQ G k v k=v:=by simp[lQ]
theorem aJ(G:Int->Option Tl){j:Int}(v:Option Tl)(h:j≠k):lQ G k v j=G j:=by simp[lQ,h]
abbrev gR:Value->Option (DataW Value×List MemPlace):=λv=>some (.held v,[])
abbrev tp(t:Nat):Value:= .pointer (some ⟨t,0,none⟩)
structure fD(w:World)(t r m:Nat)(τ:Tl):Prop where
 blk:w.heap[t]?=some (.cells #[.int .i64 τ.c,.int .i64 τ.s,.map (some r)] 283)
 own:∃n D,n<=m/\w.ownsMap prog 3 (plainElem (H:=Unit) prog 3) r n D/\jU D τ.R
 lo:1<=τ.c
 hi:τ.c<=m
 len:τ.R.length<=m
theorem fD.mono{τ:Tl}(h:fD w t r m τ)(c:m<=p):fD w t r p τ:=by
 obtain⟨n,D,e,j,i⟩:=h.own;exact⟨h.blk,⟨n,D,aH e c,j,i⟩,h.lo,aH h.hi c,aH h.len c⟩
theorem fD.kept{τ:Tl}(h:fD w t r m τ)(q:f.heap[t]?=w.heap[t]?)(j:f.heap[r]?=w.heap[r]?):fD f t r m τ:=by
 obtain⟨n,D,e,⟨s,c,u,l⟩,i⟩:=h.own;exact⟨q.trans h.blk,⟨n,D,e,⟨s,c,j.trans u,l⟩,i⟩,h.lo,h.hi,h.len⟩
theorem fD.lt{τ:Tl}(h:fD w t r m τ):t<w.heap.size/\r<w.heap.size:=by
 obtain⟨n,D,_,c,_⟩:=h.own;exact⟨(ax.1 h.blk).1,c.lt⟩
theorem fD.ne{τ:Tl}(h:fD w t r m τ):t≠r:=by
 obtain⟨n,D,_,⟨es,c,i,_⟩,_⟩:=h.own;intro e;have:=h.blk;rw[e,i]at this;cases this
structure wB(D:DataW Value)(a:Int->Nat×Nat)(G:Int->Option Tl):Prop where
 isMap:Maps.IsMap D
 has:∀k,(gi k).wf=true->Maps.has D (gi k)=(G k).isSome
 at_:∀k τ,G k=some τ->∀zd,D.atKey (gi k) zd=.held (tp (a k).1)
 keys:∀l,Maps.has D l=true->∃k τ,l=gi k/\G k=some τ
 wf:∀k τ,G k=some τ->(gi k).wf=true
def ic(a:Int->Nat×Nat)(k:Int)(v:Nat×Nat):Int->Nat×Nat:=λj=>if j=k then v else a j
theorem OE(a:Int->Nat×Nat):wB (.map []) a (λ_=>none):=
 ⟨Maps.isMap_empty,λk _=>rfl,(λ_ _ h=>by cases h),(λl h=>by cases h),(λ_ _ h=>by cases h)⟩
theorem wB.set{G:Int->Option Tl}(h:wB D a G){τ:Tl}(i:G k=some τ)(τ':Tl):wB D a (lQ G k (some τ')):=by
 refine⟨h.isMap,λj c=>?_,λj τj c=>?_,λl q=>?_,λj τj c=>?_⟩
 .by_cases e:j=k
  .subst e;rw[h.has j c,i,dL];rfl
  .rw[h.has j c,aJ _ _ e]
 .by_cases e:j=k
  .subst e;exact h.at_ j τ i
  .rw[aJ _ _ e]at c;exact h.at_ j τj c
 .obtain⟨j,τj,rfl,c⟩:=h.keys l q
  by_cases e:j=k
  .exact⟨j,τ',rfl,by rw[e,dL]⟩
  .exact⟨j,τj,rfl,by rw[aJ _ _ e];exact c⟩
 .by_cases e:j=k
  .subst e;exact h.wf j τ i
  .rw[aJ _ _ e]at c;exact h.wf j τj c
theorem wB.new{G:Int->Option Tl}(h:wB D a G)(i:(gi k).wf=true)(t r:Nat)(τ':Tl):
  wB (D.put (gi k) (.held (tp t))) (ic a k (t,r)) (lQ G k (some τ')):=by
 refine⟨h.isMap.put _ _,λj c=>?_,λj τj c zd=>?_,λl q=>?_,λj τj c=>?_⟩
 .by_cases e:j=k
  .subst e;rw[Maps.has_put_same h.isMap (qF c),dL];rfl
  .rw[iY (oG e),h.has j c,aJ _ _ e]
 .by_cases e:j=k
  .subst e;rw[Maps.atKey_put_same h.isMap (qF i)];simp[ic]
  .rw[aJ _ _ e]at c;rw[iZ (oG e),h.at_ j τj c zd];simp[ic,e]
 .by_cases e:l=gi k
  .exact⟨k,τ',e,dL _ _ _⟩
  .rw[iY e]at q;obtain⟨j,τj,rfl,c⟩:=h.keys l q;exact⟨j,τj,rfl,by rw[aJ _ _ (λs=>e (by rw[s]))];exact c⟩
 .by_cases e:j=k
  .subst e;exact i
  .rw[aJ _ _ e]at c;exact h.wf j τj c
theorem wB.del{G:Int->Option Tl}(h:wB D a G)(k:Int):wB (D.del (gi k)) a (lQ G k none):=by
 refine⟨h.isMap.del _,λj c=>?_,λj τj c zd=>?_,λl i=>?_,λj τj c=>?_⟩
 .by_cases e:j=k
  .subst e;rw[Maps.has_del_same,dL];rfl
  .rw[Maps.has_del_other (oG e),h.has j c,aJ _ _ e]
 .by_cases e:j=k
  .subst e;rw[dL]at c;cases c
  .rw[aJ _ _ e]at c;rw[Maps.atKey_del_other (oG e),h.at_ j τj c zd]
 .by_cases e:l=gi k
  .subst e;rw[Maps.has_del_same]at i;cases i
  .rw[Maps.has_del_other e]at i;obtain⟨j,τj,rfl,c⟩:=h.keys l i;exact⟨j,τj,rfl,by rw[aJ _ _ (λq=>e (by rw[q]))];exact c⟩
 .by_cases e:j=k
  .subst e;rw[dL]at c;cases c
  .rw[aJ _ _ e]at c;exact h.wf j τj c
structure fe(w:World)(b d:Nat)(a:Int->Nat×Nat)(m:Nat)(G:Int->Option Tl)(n:Nat)(D:DataW Value):Prop where
 le:n<=m
 own:w.ownsMap prog 3 gR d n D
 dat:wB D a G
 tals:∀k τ,G k=some τ->fD w (a k).1 (a k).2 m τ
 bmb:d≠b
 nb:∀k τ,G k=some τ->(a k).1≠b/\(a k).2≠b/\(a k).1≠d/\(a k).2≠d
 inj:∀k k' τ τ',G k=some τ->G k'=some τ'->k≠k'->(a k).1≠(a k').1/\(a k).2≠(a k').2
def foot(b:Nat)(g:Option Nat)(a:Int->Nat×Nat)(G:Int->Option Tl)(j:Nat):Prop:=j=b∨g=some j∨∃k τ,G k=some τ/\(j=(a k).1∨j=(a k).2)
theorem fe.mono{G:Int->Option Tl}(h:fe w b d a m G n D)(c:m<=p):fe w b d a p G n D:=
 ⟨aH h.le c,h.own,h.dat,λk τ e=>(h.tals k τ e).mono c,h.bmb,h.nb,h.inj⟩
theorem ownsMap_at{H:Type}{P:Program}{k:TypeId}{R:Value->Option (DataW H×List MemPlace)}{D:DataW H}(h:w.ownsMap P k R b n D)(e:f.heap[b]?=w.heap[b]?):f.ownsMap P k R b n D:=by
 obtain⟨j,c,l,i⟩:=h;exact⟨j,c,e.trans l,i⟩
theorem fe.kept{G:Int->Option Tl}(h:fe w b d a m G n D)(e:∀j,foot b (some d) a G j->j≠b->f.heap[j]?=w.heap[j]?):fe f b d a m G n D:=
 ⟨h.le,ownsMap_at h.own (e d (.inr (.inl rfl)) h.bmb),h.dat,λk τ c=>(h.tals k τ c).kept (e _ (.inr (.inr ⟨k,τ,c,.inl rfl⟩)) (h.nb k τ c).1) (e _ (.inr (.inr ⟨k,τ,c,.inr rfl⟩)) (h.nb k τ c).2.1),h.bmb,h.nb,h.inj⟩
theorem fe.lt{G:Int->Option Tl}(h:fe w b d a m G n D){j:Nat}(c:foot b (some d) a G j)(i:j≠b):j<w.heap.size:=by
 rcases c with rfl|e|⟨k,τ,hG,rfl|rfl⟩
 .exact absurd rfl i
 .cases e;exact h.own.lt
 .exact(h.tals k τ hG).lt.1
 .exact(h.tals k τ hG).lt.2
theorem fe.set{G:Int->Option Tl}(h:fe w b d a m G n D){τ τ':Tl}(s:G k=some τ)(H:m<=p)
  (N:fD f (a k).1 (a k).2 p τ') (z:∀j,j<w.heap.size->j≠b->j≠(a k).1->j≠(a k).2->f.heap[j]?=w.heap[j]?):fe f b d a p (lQ G k (some τ')) n D:=by
 have u:=h.nb k τ s
 have A:∀j τj,lQ G k (some τ') j=some τj->∃τ0,G j=some τ0:=λj τj i=>by
  by_cases e:j=k
  .exact⟨τ,by rw[e];exact s⟩
  .rw[aJ _ _ e]at i;exact⟨τj,i⟩
 refine⟨aH h.le H,ownsMap_at h.own (z d h.own.lt h.bmb u.2.2.1.symm u.2.2.2.symm),h.dat.set s τ',λj τj i=>?_,h.bmb,λj τj i=>?_,λj C τj Q i v x=>?_⟩
 .by_cases e:j=k
  .subst e;rw[dL]at i;cases i;exact N
  .rw[aJ _ _ e]at i;have q:=h.tals j τj i;have E:=h.nb j τj i;have F:=h.inj j k τj τ i s e;have I:=h.tals k τ s
   have P:(a j).1≠(a k).2:=λB=>by
    obtain⟨K,M,_,⟨L,c,l,_⟩,_⟩:=I.own;have:=q.blk;rw[B,l]at this;cases this
   have R:(a j).2≠(a k).1:=λB=>by
    obtain⟨K,M,_,⟨L,c,l,_⟩,_⟩:=q.own;have:=I.blk;rw[<-B,l]at this;cases this
   exact(q.kept (z _ q.lt.1 E.1 F.1 P) (z _ q.lt.2 E.2.1 R F.2)).mono H
 .obtain⟨τ0,y⟩:=A j τj i;exact h.nb j τ0 y
 .obtain⟨τ0,y⟩:=A j τj i;obtain⟨τ1,q⟩:=A C Q v;exact h.inj j C τ0 τ1 y q x
theorem fe.new{G:Int->Option Tl}(h:fe w b d a m G n D)(A:(gi k).wf=true)(hk:G k=none){τ':Tl}(hlt:b<w.heap.size)
  (ht:w.heap.size<=t) (hr:w.heap.size<=r) (s:f.ownsMap prog 3 gR d (n+1) (D.put (gi k) (.held (tp t)))) (B:fD f t r (m+1) τ') (y:∀j,j<w.heap.size->j≠b->j≠d->f.heap[j]?=w.heap[j]?):
  fe f b d (ic a k (t,r)) (m+1) (lQ G k (some τ')) (n+1) (D.put (gi k) (.held (tp t))):=by
 have Eu:=h.own.lt;refine⟨Nat.succ_le_succ h.le,s,h.dat.new A t r τ',λj τj c=>?_,h.bmb,λj τj c=>?_,λj v τj z c i u=>?_⟩
 .by_cases e:j=k
  .subst e;rw[dL]at c;cases c;simpa[ic]using B
  .rw[aJ _ _ e]at c;have l:=h.tals j τj c;have x:=h.nb j τj c;simp only[ic,e,if_false];exact(l.kept (y _ l.lt.1 x.1 x.2.2.1) (y _ l.lt.2 x.2.1 x.2.2.2)).mono (Nat.le_succ _)
 .by_cases e:j=k
  .subst e;simp only[ic,if_true];omega
  .rw[aJ _ _ e]at c;simp only[ic,e,if_false];exact h.nb j τj c
 .by_cases e:j=k
  .subst e
   have q:v≠j:=λe=>u e.symm
   rw[aJ _ _ q]at i;have l:=h.tals v z i;simp only[ic,if_true,q,if_false];have:=l.lt;omega
  .rw[aJ _ _ e]at c
   by_cases q:v=k
   .subst q;have l:=h.tals j τj c;simp only[ic,if_true,e,if_false];have:=l.lt;omega
   .rw[aJ _ _ q]at i;simp only[ic,e,q,if_false];exact h.inj j v τj z c i u
theorem fe.del{G:Int->Option Tl}(h:fe w b d a m G n D)(k:Int)
  (i:f.ownsMap prog 3 gR d n (D.del (gi k))) (z:∀j,j<w.heap.size->j≠b->j≠d->f.heap[j]?=w.heap[j]?):fe f b d a m (lQ G k none) n (D.del (gi k)):=by
 have l:∀j τj,lQ G k none j=some τj->G j=some τj:=λj τj c=>by
  by_cases e:j=k
  .subst e;rw[dL]at c;cases c
  .rw[aJ _ _ e]at c;exact c
 refine⟨h.le,i,h.dat.del k,λj τj c=>?_,h.bmb,λj τj c=>h.nb j τj (l j τj c),λj x τj y c s u=>h.inj j x τj y (l j τj c) (l x y s) u⟩;have v:=h.tals j τj (l j τj c);have q:=h.nb j τj (l j τj c);exact v.kept (z _ v.lt.1 q.1 q.2.2.1) (z _ v.lt.2 q.2.1 q.2.2.2)
theorem fe.look{G:Int->Option Tl}(h:fe w b d a m G n D)(l:W.heap[d]?=w.heap[d]?)(i:(gi k).wf=true){τ:Tl}(j:G k=some τ):
  (Instr.lookup 104 (.map (some d)) (.int .i64 k) true).run prog W=.ok (.tuple #[tp (a k).1,.bool true]) W:=by
 obtain⟨v,ps,c,e⟩:=(ownsMap_at h.own l).look_ok fJ underlying104 (Cz W) (zd:= .held (.pointer none)) (zp:=[]) rfl (yt i);rw[h.dat.at_ k τ j]at e;simp only[gR,Option.some.injEq,Prod.mk.injEq,DataW.held.injEq]at e;rw[c,e.1,h.dat.has k i,j];rfl
theorem fe.look_none{G:Int->Option Tl}(h:fe w b d a m G n D)(l:W.heap[d]?=w.heap[d]?)(i:(gi k).wf=true)(q:G k=none):
  (Instr.lookup 104 (.map (some d)) (.int .i64 k) true).run prog W=.ok (.tuple #[.pointer none,.bool false]) W:=by
 obtain⟨es,clock,s,F,_,rfl⟩:=ownsMap_at h.own l
 rcases Maps.fit_look true fJ underlying104 (Cz W) s F (yt i)with⟨c,_,e⟩|⟨e0,y,_,_,c,hRv,e,_⟩
 .exact c
 .have j:=h.dat.has k i;rw[Maps.has_true_of_atKey e,q]at j;cases j
theorem adU(W:World)(c:(gi k).wf=true):(Instr.lookup 104 (.map none) (.int .i64 k) true).run prog W=.ok (.tuple #[.pointer none,.bool false]) W:=
 Maps.look_nil (w:=W) true fJ underlying104 (Cz _) (yt c)
structure CB(w:World)(b o:Nat)(g:Option Nat)(a:Int->Nat×Nat)(m:Nat)(G:Int->Option Tl):Prop where
 blk:∃cs T,w.heap[b]?=some (.cells cs T)/\cs[o]?=some (.map g)
 map:(g=none/\G=λ_=>none)∨∃d n D,g=some d/\fe w b d a m G n D
theorem CB.blt{G:Int->Option Tl}(h:CB w b o g a m G):b<w.heap.size:=by
 obtain⟨cs,T,c,_⟩:=h.blk;exact(ax.1 c).1
theorem CB.kept{G:Int->Option Tl}(h:CB w b o g a m G)(e:∀j,foot b g a G j->f.heap[j]?=w.heap[j]?):CB f b o g a m G:=by
 refine⟨?_,?_⟩
 .obtain⟨cs,T,c,l⟩:=h.blk;exact⟨cs,T,(e b (.inl rfl)).trans c,l⟩
 .rcases h.map with c|⟨d,n,D,rfl,hm⟩
  .exact .inl c
  .exact .inr ⟨d,n,D,rfl,hm.kept λj i _=>e j i⟩
theorem CB.mono{G:Int->Option Tl}(h:CB w b o g a m G)(c:m<=p):CB w b o g a p G:=
 ⟨h.blk,h.map.imp id λ⟨d,n,D,e,i⟩=>⟨d,n,D,e,i.mono c⟩⟩
theorem CB.cell{G:Int->Option Tl}(h:CB w b o g a m G):w.cell? ⟨b,o,none⟩=some (.map g)/\w.frozen? ⟨b,o,none⟩=false:=by
 obtain⟨cs,T,c,e⟩:=h.blk;exact⟨by rw[fq c];exact e,fV c o⟩
theorem fD.cells{τ:Tl}(h:fD w t r m τ):w.cell? ⟨t,0,none⟩=some (.int .i64 τ.c)/\w.cell? ⟨t,1,none⟩=some (.int .i64 τ.s)/\w.cell? ⟨t,2,none⟩=some (.map (some r))/\
  w.frozen? ⟨t,0,none⟩=false/\w.frozen? ⟨t,1,none⟩=false/\w.frozen? ⟨t,2,none⟩=false:=by
 refine⟨?_,?_,?_,fV h.blk 0,fV h.blk 1,fV h.blk 2⟩ <;>(rw[fq h.blk];rfl)
structure kF(S:Nat->Prop)(b o:Nat)(w f:World):Prop where
 os:f.os=w.os
 tape:f.tape=w.tape
 output:f.output=w.output
 size:w.heap.size<=f.heap.size
 block:∀k,k<w.heap.size->¬S k->f.heap[k]?=w.heap[k]?
 this:∀cs T,w.heap[b]?=some (.cells cs T)->∃cs':Array Value,f.heap[b]?=some (.cells cs' T)/\cs'.size=cs.size/\∀i,i≠o->cs'[i]?=cs[i]?
theorem kF.of_below(h:Below w.heap.size w f):kF S b o w f:=
 ⟨h.os,h.tape,h.output,h.size,λk e _=>h.block k e,λcs _ c=>⟨cs,(h.block b (ax.1 c).1).trans c,rfl,λ_ _=>rfl⟩⟩
theorem kF.trans{S':Nat->Prop}{u v:World}(h:kF S b o u v)(k:kF S' b o v w)(C:∀j,j<u.heap.size->S' j->S j):kF S b o u w:=
 ⟨k.os.trans h.os,k.tape.trans h.tape,k.output.trans h.output,aH h.size k.size,λj q s=>(k.block j (aR q h.size) (λe=>s (C j q e))).trans (h.block j q s),λcs T F=>by
  obtain⟨l,E,y,z⟩:=h.this cs T F;obtain⟨c,x,A,B⟩:=k.this l T E
  exact⟨c,x,A.trans y,λi hi=>(B i hi).trans (z i hi)⟩⟩
def lu(w:World)(b o m:Nat)(S:Nat->Prop)(G:Int->Option Tl):Prop:=∃g a,CB w b o g a m G/\(∀j,foot b g a G j->S j)/\∀j,S j->j<w.heap.size
theorem lu.kept{G:Int->Option Tl}(h:lu w b o m S G)(l:w.heap.size<=f.heap.size)(i:∀j,S j->f.heap[j]?=w.heap[j]?):lu f b o m S G:=by
 obtain⟨g,a,q,e,s⟩:=h;exact⟨g,a,q.kept λj c=>i j (e j c),e,λj c=>aR (s j c) l⟩
theorem lu.below{G:Int->Option Tl}(h:lu w b o m S G)(c:Below w.heap.size w f):lu f b o m S G:=
 h.kept c.size λj e=>c.block j (by obtain⟨_,_,_,_,i⟩:=h;exact i j e)
theorem lu.mono{G:Int->Option Tl}(h:lu w b o m S G)(c:m<=p):lu w b o p S G:=by
 obtain⟨g,a,i,e,j⟩:=h;exact⟨g,a,i.mono c,e,j⟩
theorem lu.in{G:Int->Option Tl}(h:lu w b o m S G):S b/\b<w.heap.size:=by
 obtain⟨g,a,c,e,h3⟩:=h;exact⟨e b (.inl rfl),c.blt⟩
end
section
open Go.Proofs.Tryz Go.Joins
theorem Ev(a:Nat)(w:World):(binOp .eql 104 (.map (some a)) (.map none)).run prog w=.ok (.bool false) w:=by kernel_rfl
theorem OG(w:World):(binOp .eql 104 (.map none) (.map none)).run prog w=.ok (.bool true) w:=by kernel_rfl
theorem zJ(t r m:Nat)(τ:Tl)(w:World)(h:fD w t r m τ)(x:Int)(k:(gi x).wf=true)(l:τ.R.count x=1):
  Calls prog 250 #[tp t,.int .i64 x] w λe i=>e=.returned (.tuple #[])/\i.heap.size=w.heap.size/\w.grownBy i (some r)/\∃n D,n<=m+1/\i.ownsMap prog 3 (plainElem (H:=Unit) prog 3) r n D/\jU D (τ.R.erase x):=by
 have hc:=h.cells;obtain⟨n,D,hn,a,c⟩:=h.own;have d:=AO a c x k;rw[l]at d;obtain⟨g,hd,b,j⟩:=a.drop fJ underlying281 (yt k) 0
 have f:g.heap.size=w.heap.size:=by
  obtain⟨_,_,_,_,_,rfl⟩:=j;simp[ChangeMaps.setBlock]
 have hpost:Hid (g.heap.size=w.heap.size/\w.grownBy g (some r)/\∃n D,n<=m+1/\g.ownsMap prog 3 (plainElem (H:=Unit) prog 3) r n D/\jU D (τ.R.erase x)):=
  ⟨f,j.grown,n,_,by omega,b,c.del x l⟩
 clear h f j b a c;go_enter func250,ntmps250;go_wp2
 (try simp only[Exit.inBlock,Exit.then])
 refine ja (results_none rfl _ _ _) rfl ?_;exact⟨rfl,hpost.out⟩
theorem yw(t r m:Nat)(τ:Tl)(w:World)(h:fD w t r m τ)(x:Int)(l:(gi x).wf=true)(p:2<=τ.R.count x)(hm:m<100000000):
  Calls prog 250 #[tp t,.int .i64 x] w λe j=>e=.returned (.tuple #[])/\j.heap.size=w.heap.size/\w.grownBy j (some r)/\∃n D,n<=m+1/\j.ownsMap prog 3 (plainElem (H:=Unit) prog 3) r n D/\jU D (τ.R.erase x):=by
 have hc:=h.cells;have hlen:=h.len;obtain⟨n,D,hn,b,f⟩:=h.own;have o:τ.R.count x<=τ.R.length:=List.count_le_length;have hrun:=AO b f x l;obtain⟨i,hd,d,k⟩:=b.store fJ underlying281 (by unfold maxLen;omega) (yt l) (plainElem_int (H:=Unit) (a:=(τ.R.count x:Int) -1) underlying3 (WalkArith.wf_i64 (by omega)))
 have g:i.heap.size=w.heap.size:=by
  obtain⟨_,_,_,_,_,rfl⟩:=k;simp[ChangeMaps.setBlock]
 have hpost:Hid (i.heap.size=w.heap.size/\w.grownBy i (some r)/\∃n D,n<=m+1/\i.ownsMap prog 3 (plainElem (H:=Unit) prog 3) r n D/\jU D (τ.R.erase x)):=
  ⟨g,k.grown,n+1,_,by omega,d,f.less x l p⟩
 have hlo:2<=(τ.R.count x:Int):=by omega
 have hhi:(τ.R.count x:Int)<100000000:=by omega
 clear h g k d b f o p;generalize(τ.R.count x:Int)=c at *;go_enter func250,ntmps250;go_wp2
 go_end0
 exact⟨rfl,hpost.out⟩
theorem zK(t r m:Nat)(τ:Tl)(w:World)(h:fD w t r m τ)(x:Int)(d:x∈τ.R)(f:m<100000000):
  Calls prog 250 #[tp t,.int .i64 x] w λe b=>e=.returned (.tuple #[])/\b.heap.size=w.heap.size/\w.grownBy b (some r)/\∃n D,n<=m+1/\b.ownsMap prog 3 (plainElem (H:=Unit) prog 3) r n D/\jU D (τ.R.erase x):=by
 have a:(gi x).wf=true:=by obtain⟨n,D,hn,hown,c⟩:=h.own;exact c.wf x d
 have hpos:0<τ.R.count x:=List.count_pos_iff.2 d
 by_cases h1:τ.R.count x=1
 .exact zJ t r m τ w h x a h1
 .exact yw t r m τ w h x a (by omega) f
def l6(w:World)(x:O)(t:Nat)(c s:Int):World:=
 if x.hl then(((w.setCell ⟨t,0,none⟩ (.int .i64 (c+1))).setCell ⟨t,1,none⟩ (.int .i64 (wrap64 (s+x.lv)))).alloc (.cells (ah x).toArray 89)).drew.drew
 else((w.setCell ⟨t,0,none⟩ (.int .i64 (c+1))).alloc (.cells (ah x).toArray 89)).drew
theorem JY{w:World}{t r:Nat}(τ:Tl)(x:O)(h:w.heap[t]?=some (.cells #[.int .i64 τ.c,.int .i64 τ.s,.map (some r)] 283)):
  (l6 w x t τ.c τ.s).heap[t]?=some (.cells #[.int .i64 (bE τ x).c,.int .i64 (bE τ x).s,.map (some r)] 283)/\(l6 w x t τ.c τ.s).heap.size=w.heap.size+1/\
  (∀j,j<w.heap.size->j≠t->(l6 w x t τ.c τ.s).heap[j]?=w.heap[j]?)/\(l6 w x t τ.c τ.s).os=w.os/\(l6 w x t τ.c τ.s).tape=w.tape/\(l6 w x t τ.c τ.s).output=w.output:=by
 have b:t<w.heap.size:=(ax.1 h).1
 have d:(w.setCell ⟨t,0,none⟩ (.int .i64 ((τ.c:Int)+1))).heap[t]?=some (.cells #[.int .i64 ((τ.c:Int)+1),.int .i64 τ.s,.map (some r)] 283):=by
  rw[fZ h];rfl
 have g:∀j,j≠t->(w.setCell ⟨t,0,none⟩ (.int .i64 ((τ.c:Int)+1))).heap[j]?=w.heap[j]? :=λj a=>iJ _ _ _ _ a
 have e:(bE τ x).c=τ.c+1:=rfl
 have i:(((τ.c+1:Nat):Int))=(τ.c:Int)+1:=by omega
 rw[e,i];unfold l6;cases hl:x.hl
 .simp only[Bool.false_eq_true,if_false];refine⟨?_,by simp,λj f a=>?_,rfl,rfl,rfl⟩
  .refine(gL _ _ t (by simpa using b)).trans ?_;rw[d];simp[bE,hl]
  .exact(gL _ _ j (by simpa using f)).trans (g j a)
 .simp only[if_true];refine⟨?_,by simp,λj f a=>?_,rfl,rfl,rfl⟩
  .refine(gL _ _ t (by simpa using b)).trans ?_;rw[fZ d];simp[bE,hl]
  .refine(gL _ _ j (by simpa using f)).trans ?_;rw[iJ _ _ _ _ a];exact g j a
theorem Lc(b o B m n:Nat)(g:Int->Nat×Nat)(G:Int->Option Tl)(D:DataW Value)(w:World)(hcell:w.cell? ⟨b,o,none⟩=some (.map (some B)))(hblt:b<w.heap.size)(h:fe w b B g m G n D)(x:O)(C:x.wf)(τ:Tl)(A:G x.k=some τ)(hm:m<100000000):
  Calls prog 182 #[.pointer (some ⟨b,o,none⟩),vO x] w λe E=>e=.returned (.tuple #[])/\
   ((x.hr=false/\E=l6 w x (g x.k).1 τ.c τ.s)∨(x.hr=true/\∃n D,n<=m+1/\E.ownsMap prog 3 (plainElem (H:=Unit) prog 3) (g x.k).2 n D/\jU D (x.rv::τ.R)/\(l6 w x (g x.k).1 τ.c τ.s).drew.grownBy E (some (g x.k).2))):=by
 have l:=h.tals x.k τ A;have z:=h.look (W:=(w.alloc (.cells (ah x).toArray 89)).drew) (gL w _ B h.own.lt) C.k A;have hc:=l.cells;have u:=l.lt;have hnb:=h.nb x.k τ A
 have hlo:(1:Int)<=τ.c:=by have:=l.lo;omega
 have hhi:(τ.c:Int)<100000000:=by have:=l.hi;omega
 have F:=l.ne;obtain⟨X,S,L,Q,P,T⟩:=JY τ x l.blk;obtain⟨nr,U,I,M,q⟩:=l.own;have K:((l6 w x (g x.k).1 τ.c τ.s).drew).ownsMap prog 3 (plainElem (H:=Unit) prog 3) (g x.k).2 nr U:=ownsMap_at M (L _ u.2 F.symm);have V:τ.R.count x.rv<=τ.R.length:=List.count_le_length;have y:=l.len;have p:=AO K q x.rv C.rv;obtain⟨N,j,i,v⟩:=K.store fJ underlying281 (by unfold maxLen;omega) (yt C.rv) (plainElem_int (H:=Unit) (a:=(τ.R.count x.rv:Int)+1) underlying3 (WalkArith.wf_i64 (by omega)))
 have d:Hid (∃n D,n<=m+1/\N.ownsMap prog 3 (plainElem (H:=Unit) prog 3) (g x.k).2 n D/\jU D (x.rv::τ.R)/\(l6 w x (g x.k).1 τ.c τ.s).drew.grownBy N (some (g x.k).2)):=
  ⟨nr+1,_,by omega,i,q.put x.rv C.rv,v.grown⟩
 have hcnt:(τ.R.count x.rv:Int)<100000000:=by omega
 have aa5:0<=(τ.R.count x.rv:Int):=by omega
 clear X S L Q P T K i v q M I h l A V y;generalize(τ.R.count x.rv:Int)=cn at *;generalize(g x.k).1=t at *;generalize(g x.k).2=r at *;generalize(τ.c:Int)=c at *;generalize τ.s=s at *;have hq:=Ev B;obtain⟨k,lk,lt,lv,rk,rt,rv,Y,Z⟩:=x
 cases Y <;>cases Z
 .clear d p j;simp only[vO,ah,l6,Bool.false_eq_true,if_false]at z⊢;go_enter func182,ntmps182;go_wp2
  go_region
  all_goals (try go_wp2)
  all_goals go_end0
  all_goals exact⟨rfl,.inl ⟨trivial,rfl⟩⟩
 .have f:=d;clear d;simp only[vO,ah,l6,Bool.false_eq_true,if_false]at z p j⊢;simp only[ah,l6,Bool.false_eq_true,if_false]at f;have d:Hid _:=f;clear f;go_enter func182,ntmps182;go_wp2
  go_region
  all_goals (try go_wp2)
  all_goals go_region
  all_goals (try go_wp2)
  all_goals go_end0
  all_goals exact⟨rfl,.inr ⟨trivial,d⟩⟩
 .clear d p j;simp only[vO,ah,l6,Bool.false_eq_true,if_true]at z⊢;go_enter func182,ntmps182;go_wp2
  go_region
  all_goals (try go_wp2)
  all_goals go_region
  all_goals (try go_wp2)
  all_goals go_end0
  all_goals exact⟨rfl,.inl ⟨trivial,rfl⟩⟩
 .have f:=d;clear d;simp only[vO,ah,l6,if_true]at z p j⊢;simp only[ah,l6,if_true]at f;have d:Hid _:=f;clear f;go_enter func182,ntmps182;go_wp2
  go_region
  all_goals (try go_wp2)
  all_goals go_region
  all_goals (try go_wp2)
  all_goals go_region
  all_goals (try go_wp2)
  all_goals go_end0
  all_goals exact⟨rfl,.inr ⟨trivial,d⟩⟩
end
section
open Go.Proofs.Tryz Go.Joins
variable{V f:World}{b g m n:Nat}{i:Int->Nat×Nat}{G:Int->Option Tl}{D:DataW Value}
def jk(W:World)(x:O)(t:Nat):World:=
 if x.hl then((W.setCell ⟨t,0,none⟩ (.int .i64 1)).setCell ⟨t,1,none⟩ (.int .i64 (wrap64 x.lv))).drew
 else W.setCell ⟨t,0,none⟩ (.int .i64 1)
abbrev τ0:Tl:=⟨0,0,[]⟩
theorem JZ{W:World}{t r:Nat}(x:O)(h:W.heap[t]?=some (.cells #[.int .i64 0,.int .i64 0,.map (some r)] 283)):
  (jk W x t).heap[t]?=some (.cells #[.int .i64 (bE τ0 x).c,.int .i64 (bE τ0 x).s,.map (some r)] 283)/\(jk W x t).heap.size=W.heap.size/\
  (∀j,j≠t->(jk W x t).heap[j]?=W.heap[j]?)/\(jk W x t).os=W.os/\(jk W x t).tape=W.tape/\(jk W x t).output=W.output:=by
 have d:(W.setCell ⟨t,0,none⟩ (.int .i64 1)).heap[t]?=some (.cells #[.int .i64 1,.int .i64 0,.map (some r)] 283):=by
  rw[fZ h];rfl
 have e:∀j,j≠t->(W.setCell ⟨t,0,none⟩ (.int .i64 1)).heap[j]?=W.heap[j]? :=λj a=>iJ _ _ _ _ a
 unfold jk;cases hl:x.hl
 .simp only[Bool.false_eq_true,if_false];refine⟨?_,by simp,e,rfl,rfl,rfl⟩;rw[d];simp[bE,hl]
 .simp only[if_true];refine⟨?_,by simp,λj a=>?_,rfl,rfl,rfl⟩
  .refine(fZ d _).trans ?_;simp[bE,hl]
  .refine(iJ _ _ _ _ a).trans ?_;exact e j a
def ug(V:World):World:=((V.alloc (.map #[] 0)).alloc (.cells #[.int .i64 0,.int .i64 0,.map (some V.heap.size)] 283)).drew
structure NewAt(V f:World)(g n:Nat)(D:DataW Value)(k:Int):Prop where
 own:f.ownsMap prog 3 gR g (n+1) (D.put (gi k) (.held (tp (V.heap.size+1))))
 size:f.heap.size=V.heap.size+2
 block:∀j,j<V.heap.size->j≠g->f.heap[j]?=V.heap[j]?
 rb:f.heap[V.heap.size]?=some (.map #[] 0)
 tb:f.heap[V.heap.size+1]?=some (.cells #[.int .i64 0,.int .i64 0,.map (some V.heap.size)] 283)
 os:f.os=V.os
 tape:f.tape=V.tape
 output:f.output=V.output
theorem OJ(h:fe V b g i m G n D){k:Int}(x:(gi k).wf=true)(hm:m<100000000):
  ∃f,(Instr.mapUpdate 104 (.map (some g)) (.int .i64 k) (tp (V.heap.size+1))).run prog (ug V)=.ok () f/\NewAt V f g n D k:=by
 have q:=h.own.lt
 have s:(ug V).heap.size=V.heap.size+2:=by unfold ug;simp
 have v:∀j,j<V.heap.size->(ug V).heap[j]?=V.heap[j]? :=λj u=>by
  unfold ug;refine(gL _ _ j (by simp;omega)).trans (gL _ _ j u)
 have l:(ug V).ownsMap prog 3 gR g n D:=ownsMap_at h.own (v g q)
 have y:(ug V).heap[V.heap.size]?=some (.map #[] 0):=by
  unfold ug;refine(gL _ _ _ (by simp)).trans ?_;exact(MapKept.heap_alloc V _).1
 have w:(ug V).heap[V.heap.size+1]?=some (.cells #[.int .i64 0,.int .i64 0,.map (some V.heap.size)] 283):=by
  have:=(MapKept.heap_alloc (V.alloc (.map #[] 0)) (.cells #[.int .i64 0,.int .i64 0,.map (some V.heap.size)] 283)).1
  have e:(V.alloc (.map #[] 0)).heap.size=V.heap.size+1:=by simp
  rw[e]at this;exact this
 obtain⟨f,p,a,o⟩:=l.store fJ underlying104 (by have:=h.le;unfold maxLen;omega) (yt x) (val:=tp (V.heap.size+1)) (d:= .held (tp (V.heap.size+1))) (ps:=[]) rfl;have c:=o.grown
 have t:f.heap.size=V.heap.size+2:=by
  obtain⟨_,_,_,_,_,rfl⟩:=o;simp[ChangeMaps.setBlock,s]
 refine⟨f,p,a,t,λj u r=>?_,?_,?_,c.os,c.tape,c.output⟩
 .rw[c.block j (by omega) (λe=>r (by injection e))];exact v j u
 .rw[c.block _ (by omega) (λe=>by injection e;omega)];exact y
 .rw[c.block _ (by omega) (λe=>by injection e;omega)];exact w
def Ends(V W':World)(b g m n:Nat)(i:Int->Nat×Nat)(G:Int->Option Tl)(D:DataW Value)(x:O):Prop:=
 fe W' b g (ic i x.k (V.heap.size+1,V.heap.size)) (m+1) (lQ G x.k (some (bE τ0 x))) (n+1) (D.put (gi x.k) (.held (tp (V.heap.size+1))))/\
 (∀j,j<V.heap.size->j≠g->W'.heap[j]?=V.heap[j]?)/\V.heap.size<=W'.heap.size/\W'.os=V.os/\W'.tape=V.tape/\W'.output=V.output
theorem Uk(h:fe V b g i m G n D)(s:b<V.heap.size)(x:O)(v:x.wf)(t:G x.k=none)(a:NewAt V f g n D x.k)(l:x.hr=false):
  Ends V (jk f x (V.heap.size+1)) b g m n i G D x:=by
 obtain⟨u,p2,d,p,o,q⟩:=JZ x a.tb;have Eu:=h.own.lt;have hs:=a.size;refine⟨h.new v.k t s (by omega) (by omega) (ownsMap_at a.own (d _ (by omega))) ?_ (λj e _ c=>(d j (by omega)).trans (a.block j e c)),λj e c=>(d j (by omega)).trans (a.block j e c),by omega,p.trans a.os,o.trans a.tape,q.trans a.output⟩;refine⟨u,⟨0,.map [],by omega,?_,?_⟩,by simp[bE],by simp[bE],by simp[bE,l]⟩
 .have r:=World.ownsMap_made (H:=Unit) V prog 3 (plainElem prog 3);refine ownsMap_at r ?_;rw[(MapKept.heap_alloc V _).1,d _ (by omega),a.rb]
 .have:(bE τ0 x).R=[]:=by simp[bE,l]
  rw[this];exact yu
theorem Ul(h:fe V b g i m G n D)(F:b<V.heap.size)(x:O)(t:x.wf)(I:G x.k=none)(d:NewAt V f g n D x.k)(w:x.hr=true):
  ∃o,(Instr.lookup 281 (.map (some V.heap.size)) (.int .i64 x.rv) false).run prog (jk f x (V.heap.size+1)).drew=.ok (.int .i64 0) (jk f x (V.heap.size+1)).drew/\
   (Instr.mapUpdate 281 (.map (some V.heap.size)) (.int .i64 x.rv) (.int .i64 1)).run prog (jk f x (V.heap.size+1)).drew=.ok () o/\Ends V o b g m n i G D x:=by
 obtain⟨B,p2,s,A,z,E⟩:=JZ x d.tb;have Eu:=h.own.lt;have hs:=d.size
 have y:(jk f x (V.heap.size+1)).drew.ownsMap prog 3 (plainElem (H:=Unit) prog 3) V.heap.size 0 (.map []):=by
  refine ownsMap_at (World.ownsMap_made (H:=Unit) V prog 3 (plainElem prog 3)) ?_;rw[(MapKept.heap_alloc V _).1];exact(s _ (by omega)).trans d.rb
 have C:=AO y yu x.rv t.rv;obtain⟨o,p,l,v⟩:=y.store fJ underlying281 (by unfold maxLen;omega) (yt t.rv) (plainElem_int (H:=Unit) (a:=1) underlying3 (by decide));have r:=v.grown
 have q:∀j,j<f.heap.size->j≠V.heap.size->o.heap[j]?=(jk f x (V.heap.size+1)).heap[j]? :=λj u c=>r.block j (by show j<(jk f x (V.heap.size+1)).heap.size;omega) (λe=>c (by injection e))
 have hs3:(jk f x (V.heap.size+1)).heap.size<=o.heap.size:=r.size;refine⟨o,C,p,h.new t.k I F (by omega) (by omega) (ownsMap_at d.own ((q _ (by omega) (by omega)).trans (s _ (by omega)))) ?_ (λj u _ c=>(q j (by omega) (by omega)).trans ((s j (by omega)).trans (d.block j u c))),λj u c=>(q j (by omega) (by omega)).trans ((s j (by omega)).trans (d.block j u c)),by omega,r.os.trans (A.trans d.os),r.tape.trans (z.trans d.tape),r.output.trans (E.trans d.output)⟩;refine⟨(q _ (by omega) (by omega)).trans B,⟨0+1,_,by omega,l,?_⟩,by simp[bE],by simp[bE],by simp[bE,w]⟩
 have:(bE τ0 x).R=[x.rv]:=by simp[bE,w]
 rw[this];exact yu.put x.rv t.rv
end
section
open Go.Proofs.Tryz Go.Joins
theorem AP{W:World}{a:Nat}{x:O}(h:W.heap[a]?=some (.cells (ah x).toArray 89)):
  W.cell? ⟨a,0,none⟩=some (.int .i64 x.k)/\W.cell? ⟨a,3,none⟩=some (.int .i64 x.lv)/\W.cell? ⟨a,6,none⟩=some (.int .i64 x.rv)/\W.cell? ⟨a,7,none⟩=some (.bool x.hl)/\W.cell? ⟨a,8,none⟩=some (.bool x.hr):=by
 refine⟨?_,?_,?_,?_,?_⟩ <;>(rw[fq h];rfl)
theorem AQ{V a:World}{b n:Nat}{D:DataW Value}{k:Int}(h:NewAt V a b n D k):
  a.cell? ⟨V.heap.size+1,0,none⟩=some (.int .i64 0)/\a.cell? ⟨V.heap.size+1,1,none⟩=some (.int .i64 0)/\a.cell? ⟨V.heap.size+1,2,none⟩=some (.map (some V.heap.size))/\a.frozen? ⟨V.heap.size+1,0,none⟩=false/\a.frozen? ⟨V.heap.size+1,1,none⟩=false:=by
 refine⟨?_,?_,?_,fV h.tb 0,fV h.tb 1⟩ <;>(rw[fq h.tb];rfl)
def lookW(w:World)(x:O):World:=(w.alloc (.cells (ah x).toArray 89)).drew
theorem Sz(b o c m n:Nat)(v:Int->Nat×Nat)(G:Int->Option Tl)(D:DataW Value)(w:World)(q:w.cell? ⟨b,o,none⟩=some (.map (some c)))(A:b<w.heap.size)(h:fe w b c v m G n D)(x:O)(I:x.wf)(C:G x.k=none)(T:m<100000000):
  Calls prog 182 #[.pointer (some ⟨b,o,none⟩),vO x] w λe Q=>e=.returned (.tuple #[])/\Ends (lookW w x) Q b c m n v G D x:=by
 have z:fe (lookW w x) b c v m G n D:=h.kept λj U K=>gL w _ j (h.lt U K)
 have i:(lookW w x).heap.size=w.heap.size+1:=by simp[lookW]
 have XO:=h.own.lt;have u:=z.look_none rfl I.k C;obtain⟨y,P,l⟩:=OJ z I.k T
 have g:(Instr.mapUpdate 104 (.map (some c)) (.int .i64 x.k) (tp (w.heap.size+1+1))).run prog ((((w.alloc (.cells (ah x).toArray 89)).alloc (.map #[] 0)).alloc (.cells #[.int .i64 0,.int .i64 0,.map (some (w.heap.size+1))] 283)).drew.drew)=.ok () y:=by
  have e:ug (lookW w x)=((((w.alloc (.cells (ah x).toArray 89)).alloc (.map #[] 0)).alloc (.cells #[.int .i64 0,.int .i64 0,.map (some (w.heap.size+1))] 283)).drew.drew):=by
   unfold ug;rw[i];rfl
  rw[<-e,<-P,i]
 have d:(((w.alloc (.cells (ah x).toArray 89)).alloc (.map #[] 0)).alloc (.cells #[.int .i64 0,.int .i64 0,.map (some (w.heap.size+1))] 283)).cell? ⟨b,o,none⟩=some (.map (some c)):=by
  rw[World.cell?_alloc_past _ _ _ (by simp;omega),World.cell?_alloc_past _ _ _ (by simp;omega),World.cell?_alloc_past _ _ _ A,q]
 clear P;have M:y.heap[w.heap.size]?=some (.cells (ah x).toArray 89):=(l.block _ (by omega) (by omega)).trans (MapKept.heap_alloc w _).1;have f:=AP M;have B:=AQ l;have hq:=Ev c;have hmm:= @run_makeMap prog
 have H:b<(lookW w x).heap.size:=by omega
 cases hrr:x.hr
 .have a:Hid (Ends (lookW w x) (jk y x ((lookW w x).heap.size+1)) b c m n v G D x):=Uk z H x I C l hrr;rw[i]at a
  have s:Hid (∀t,t=jk y x (w.heap.size+1+1)->Ends (lookW w x) t b c m n v G D x):=λt e=>by rw[e];exact a
  clear a
  have F:w.heap.size+1+1<y.heap.size:=by have:=l.size;omega
  clear z h l M C;rw[i]at B;generalize yx:Ends (lookW w x)=E at *;clear yx;simp only[lookW]at u;clear i H;obtain⟨k,lk,lt,lv,rk,rt,rv,L,S⟩:=x;simp only at hrr;subst hrr;cases L
  .simp only[vO,ah,jk,Bool.false_eq_true,if_false]at u g d f s⊢;go_enter func182,ntmps182;go_wp2
   go_region
   all_goals (try go_wp2)
   all_goals go_region
   all_goals (try go_wp2)
   all_goals go_end0
   all_goals exact⟨rfl,s.out _ rfl⟩
  .simp only[vO,ah,jk,if_true]at u g d f s⊢;go_enter func182,ntmps182;go_wp2
   go_region
   all_goals (try go_wp2)
   all_goals go_region
   all_goals (try go_wp2)
   all_goals go_region
   all_goals (try go_wp2)
   all_goals go_end0
   all_goals exact⟨rfl,s.out _ rfl⟩
 .obtain⟨R,r,p,N⟩:=Ul z H x I C l hrr;rw[i]at r p;have a:=hid N
  have s:Hid (∀t,t=R->Ends (lookW w x) t b c m n v G D x):=λt e=>by rw[e];exact a
  clear a N
  have F:w.heap.size+1+1<y.heap.size:=by have:=l.size;omega
  clear z h l M C;rw[i]at B;generalize yx:Ends (lookW w x)=E at *;clear yx;simp only[lookW]at u;clear i H;obtain⟨k,lk,lt,lv,rk,rt,rv,L,S⟩:=x;simp only at hrr;subst hrr;cases L
  .simp only[vO,ah,jk,Bool.false_eq_true,if_false]at u g d f r p⊢;go_enter func182,ntmps182;go_wp2
   go_region
   all_goals (try go_wp2)
   all_goals go_region
   all_goals (try go_wp2)
   all_goals go_region
   all_goals (try go_wp2)
   all_goals go_end0
   all_goals exact⟨rfl,s.out _ rfl⟩
  .simp only[vO,ah,jk,if_true]at u g d f r p⊢;go_enter func182,ntmps182;go_wp2
   go_region
   all_goals (try go_wp2)
   all_goals go_region
   all_goals (try go_wp2)
   all_goals go_region
   all_goals (try go_wp2)
   all_goals go_region
   all_goals (try go_wp2)
   all_goals go_end0
   all_goals exact⟨rfl,s.out _ rfl⟩
end
section
open Go.Proofs.Tryz
variable{w:World}{b:Nat}
def iX(w:World)(b o:Nat)(x:O):World:=(((w.setCell ⟨b,o,none⟩ (.map (some (w.heap.size+1)))).alloc (.cells (ah x).toArray 89)).alloc (.map #[] 0)).drew
theorem OM{m:Nat}(c:Int->Nat×Nat)(x:O)(o:Nat)(hblt:b<w.heap.size):fe (iX w b o x) b (w.heap.size+1) c m (λ_=>none) 0 (.map []):=by
 refine⟨aW _,?_,OE c,(λ_ _ h=>by cases h),by omega,(λ_ _ h=>by cases h),(λ_ _ _ _ h=>by cases h)⟩;have a:=World.ownsMap_made (H:=Value) ((w.setCell ⟨b,o,none⟩ (.map (some (w.heap.size+1)))).alloc (.cells (ah x).toArray 89)) prog 3 gR
 have e:((w.setCell ⟨b,o,none⟩ (.map (some (w.heap.size+1)))).alloc (.cells (ah x).toArray 89)).heap.size=w.heap.size+1:=by simp
 rw[e]at a;exact a.drew
theorem OO(x:O)(b o:Nat):(iX w b o x).heap[w.heap.size]?=some (.cells (ah x).toArray 89):=by
 have e:(w.setCell ⟨b,o,none⟩ (.map (some (w.heap.size+1)))).heap.size=w.heap.size:=by simp
 refine(gL _ _ _ (by simp)).trans ?_;have:=(MapKept.heap_alloc (w.setCell ⟨b,o,none⟩ (.map (some (w.heap.size+1)))) (.cells (ah x).toArray 89)).1;rw[e]at this;exact this
theorem zM{o:Nat}{v:Value}(h:w.cell? ⟨b,o,none⟩=some v)(u:Value):(w.setCell ⟨b,o,none⟩ u).cell? ⟨b,o,none⟩=some u:=World.cell?_setCell_same _ _ _ h
theorem SA(b o m:Nat)(u:Int->Nat×Nat)(w:World)(p:w.cell? ⟨b,o,none⟩=some (.map none))(hfr:w.frozen? ⟨b,o,none⟩=false)(i:b<w.heap.size)(x:O)(F:x.wf)(Q:m<100000000):
  Calls prog 182 #[.pointer (some ⟨b,o,none⟩),vO x] w λe N=>e=.returned (.tuple #[])/\Ends (iX w b o x) N b (w.heap.size+1) m 0 u (λ_=>none) (.map []) x:=by
 have y:=OM (m:=m) u x o i;have A:(λ_=>none:Int->Option Tl) x.k=none:=rfl
 have j:(iX w b o x).heap.size=w.heap.size+2:=by simp[iX]
 have t:=y.look_none rfl F.k A;obtain⟨v,M,l⟩:=OJ y F.k Q
 have h:(Instr.mapUpdate 104 (.map (some (w.heap.size+1))) (.int .i64 x.k) (tp (w.heap.size+2+1))).run prog (((((w.setCell ⟨b,o,none⟩ (.map (some (w.heap.size+1)))).alloc (.cells (ah x).toArray 89)).alloc (.map #[] 0)).alloc (.map #[] 0)).alloc (.cells #[.int .i64 0,.int .i64 0,.map (some (w.heap.size+2))] 283)).drew.drew=.ok () v:=by
  have e:ug (iX w b o x)=(((((w.setCell ⟨b,o,none⟩ (.map (some (w.heap.size+1)))).alloc (.cells (ah x).toArray 89)).alloc (.map #[] 0)).alloc (.map #[] 0)).alloc (.cells #[.int .i64 0,.int .i64 0,.map (some (w.heap.size+2))] 283)).drew.drew:=by
   unfold ug;rw[j];rfl
  rw[<-e,<-M,j]
 have G:(w.setCell ⟨b,o,none⟩ (.map (some (w.heap.size+1)))).cell? ⟨b,o,none⟩=some (.map (some (w.heap.size+1))):=zM p _
 have d:(((w.setCell ⟨b,o,none⟩ (.map (some (w.heap.size+1)))).alloc (.cells (ah x).toArray 89)).alloc (.map #[] 0)).cell? ⟨b,o,none⟩=some (.map (some (w.heap.size+1))):=by
  rw[World.cell?_alloc_past _ _ _ (by simp;omega),World.cell?_alloc_past _ _ _ (by simpa using i),G]
 have c:((((w.setCell ⟨b,o,none⟩ (.map (some (w.heap.size+1)))).alloc (.cells (ah x).toArray 89)).alloc (.map #[] 0)).alloc (.map #[] 0)).cell? ⟨b,o,none⟩=some (.map (some (w.heap.size+1))):=by
  rw[World.cell?_alloc_past _ _ _ (by simp;omega),d]
 have f:(((((w.setCell ⟨b,o,none⟩ (.map (some (w.heap.size+1)))).alloc (.cells (ah x).toArray 89)).alloc (.map #[] 0)).alloc (.map #[] 0)).alloc (.cells #[.int .i64 0,.int .i64 0,.map (some (w.heap.size+2))] 283)).cell? ⟨b,o,none⟩=some (.map (some (w.heap.size+1))):=by
  rw[World.cell?_alloc_past _ _ _ (by simp;omega),c]
 clear M;have I:v.heap[w.heap.size]?=some (.cells (ah x).toArray 89):=(l.block _ (by omega) (by omega)).trans (OO x b o);have g:=AP I;have z:=AQ l;have hq:=OG;have hmm:= @run_makeMap prog
 have C:b<(iX w b o x).heap.size:=by omega
 cases hrr:x.hr
 .have a:Hid (Ends (iX w b o x) (jk v x ((iX w b o x).heap.size+1)) b (w.heap.size+1) m 0 u (λ_=>none) (.map []) x):=Uk y C x F A l hrr;rw[j]at a
  have r:Hid (∀s,s=jk v x (w.heap.size+2+1)->Ends (iX w b o x) s b (w.heap.size+1) m 0 u (λ_=>none) (.map []) x):=λs e=>by rw[e];exact a
  clear a
  have B:w.heap.size+2+1<v.heap.size:=by have:=l.size;omega
  clear y l I A;rw[j]at z;generalize yx:Ends (iX w b o x)=E at *;clear yx;simp only[iX]at t;clear j C;obtain⟨k,lk,lt,lv,rk,rt,rv,H,P⟩:=x;simp only at hrr;subst hrr;cases H
  .simp only[vO,ah,jk,Bool.false_eq_true,if_false]at t h d f c g r⊢;go_enter func182,ntmps182;go_wp2
   go_region
   all_goals (try go_wp2)
   all_goals go_region
   all_goals (try go_wp2)
   all_goals go_end0
   all_goals exact⟨rfl,r.out _ rfl⟩
  .simp only[vO,ah,jk,if_true]at t h d f c g r⊢;go_enter func182,ntmps182;go_wp2
   go_region
   all_goals (try go_wp2)
   all_goals go_region
   all_goals (try go_wp2)
   all_goals go_region
   all_goals (try go_wp2)
   all_goals go_end0
   all_goals exact⟨rfl,r.out _ rfl⟩
 .obtain⟨K,q,n,L⟩:=Ul y C x F A l hrr;rw[j]at q n;have a:Hid (Ends (iX w b o x) K b (w.heap.size+1) m 0 u (λ_=>none) (.map []) x):=L
  have r:Hid (∀s,s=K->Ends (iX w b o x) s b (w.heap.size+1) m 0 u (λ_=>none) (.map []) x):=λs e=>by rw[e];exact a
  clear a L
  have B:w.heap.size+2+1<v.heap.size:=by have:=l.size;omega
  clear y l I A;rw[j]at z;generalize yx:Ends (iX w b o x)=E at *;clear yx;simp only[iX]at t;clear j C;obtain⟨k,lk,lt,lv,rk,rt,rv,H,P⟩:=x;simp only at hrr;subst hrr;cases H
  .simp only[vO,ah,jk,Bool.false_eq_true,if_false]at t h d f c g q n⊢;go_enter func182,ntmps182;go_wp2
   go_region
   all_goals (try go_wp2)
   all_goals go_region
   all_goals (try go_wp2)
   all_goals go_region
   all_goals (try go_wp2)
   all_goals go_end0
   all_goals exact⟨rfl,r.out _ rfl⟩
  .simp only[vO,ah,jk,if_true]at t h d f c g q n⊢;go_enter func182,ntmps182;go_wp2
   go_region
   all_goals (try go_wp2)
   all_goals go_region
   all_goals (try go_wp2)
   all_goals go_region
   all_goals (try go_wp2)
   all_goals go_region
   all_goals (try go_wp2)
   all_goals go_end0
   all_goals exact⟨rfl,r.out _ rfl⟩
end
section
open Go.Joins
variable{w a:World}{b o d m n:Nat}{f:Int->Nat×Nat}{G:Int->Option Tl}{D:DataW Value}{S:Nat->Prop}
def yz(G:Int->Option Tl)(x:O):Int->Option Tl:=lQ G x.k (some (bE ((G x.k).getD τ0) x))
def More(S:Nat->Prop)(w a:World)(j:Nat):Prop:=S j∨(w.heap.size<=j/\j<a.heap.size)
theorem wU{s:Nat}(v:CB w b o (some d) f m G)(h:fe w b d f m G n D)(t:∀j,foot b (some d) f G j->S j)(q:∀j,S j->j<w.heap.size)
  {k:Int} {τ τ':Tl} (l:G k=some τ) (B:m<=s) (E:fD a (f k).1 (f k).2 s τ') (r:∀j,j<w.heap.size->j≠(f k).1->j≠(f k).2->a.heap[j]?=w.heap[j]?)
  (u:w.heap.size<=a.heap.size) (F:a.os=w.os) (z:a.tape=w.tape) (A:a.output=w.output):
  lu a b o s (More S w a) (lQ G k (some τ'))/\kF S b o w a:=by
 have p:=h.nb k τ l;have g:a.heap[b]?=w.heap[b]? :=r b v.blt p.1.symm p.2.1.symm;refine⟨⟨some d,f,⟨?_,.inr ⟨d,n,D,rfl,h.set l B E λj c _=>r j c⟩⟩,λj c=>.inl (t j ?_),λj c=>?_⟩,⟨F,z,A,u,λj c x=>r j c (λe=>x (t j (.inr (.inr ⟨k,τ,l,.inl e⟩)))) (λe=>x (t j (.inr (.inr ⟨k,τ,l,.inr e⟩)))),λcs T H=>⟨cs,g.trans H,rfl,λ_ _=>rfl⟩⟩⟩
 .obtain⟨cs,T,y,C⟩:=v.blk;exact⟨cs,T,g.trans y,C⟩
 .rcases c with e|e|⟨i,τi,hi,e⟩
  .exact .inl e
  .exact .inr (.inl e)
  .by_cases ei:i=k
   .rw[ei]at e;exact .inr (.inr ⟨k,τ,l,e⟩)
   .rw[aJ _ _ ei]at hi;exact .inr (.inr ⟨i,τi,hi,e⟩)
 .rcases c with c|c
  .exact aR (q j c) u
  .exact c.2
theorem J3{V:World}{B:Option Nat}{x:O}(t:∀j,foot b B f G j->S j)(p:∀j,S j->j<w.heap.size)
  (Q:Ends V a b d m n f G D x) (hV:w.heap.size<=V.heap.size) (C:B=some d∨(w.heap.size<=d/\d<V.heap.size)) (y:∃cs T,w.heap[b]?=some (.cells cs T)/\o<cs.size/\V.heap[b]?=some (.cells (cs.setIfInBounds o (.map (some d))) T))
  (z:∀j,j<w.heap.size->j≠b->V.heap[j]?=w.heap[j]?) (P:V.os=w.os) (F:V.tape=w.tape) (K:V.output=w.output) (N:G x.k=none):
  lu a b o (m+1) (More S w a) (yz G x)/\kF S b o w a:=by
 obtain⟨v,h,hsz,M,H,R⟩:=Q;obtain⟨cs,T,c1,I,c3⟩:=y;have l:S b:=t b (.inl rfl);have hblt:=p b l
 have s:yz G x=lQ G x.k (some (bE τ0 x)):=by unfold yz;rw[N];rfl
 have L:d≠b:=v.bmb;have r:a.heap[b]?=some (.cells (cs.setIfInBounds o (.map (some d))) T):=(h b (by omega) L.symm).trans c3;rw[s]
 have q:∀j,foot b (some d) (ic f x.k (V.heap.size+1,V.heap.size)) (lQ G x.k (some (bE τ0 x))) j->j≠b->j<a.heap.size:=λj c u=>v.lt c u
 refine⟨⟨some d,_,⟨⟨_,T,r,by simp[I]⟩,.inr ⟨d,_,_,rfl,v⟩⟩,λj c=>?_,λj c=>?_⟩,⟨M.trans P,H.trans F,R.trans K,by omega,λj c E=>?_,λcs' T' g=>?_⟩⟩
 .have A:=c
  rcases c with e|e|⟨i,τi,hi,e⟩
  .exact .inl (by rw[e];exact l)
  .injection e with e
   rcases C with hb|hb
   .exact .inl (t j (.inr (.inl (by rw[hb,e]))))
   .exact .inr ⟨by omega,by omega⟩
  .by_cases ei:i=x.k
   .rw[ei]at e;simp only[ic,if_true]at e;refine .inr ⟨by omega,q j A (λe'=>?_)⟩;omega
   .rw[aJ _ _ ei]at hi;simp only[ic,ei,if_false]at e;exact .inl (t j (.inr (.inr ⟨i,τi,hi,e⟩)))
 .rcases c with c|c
  .have:=p j c;omega
  .exact c.2
 .have U:j≠b:=λe=>E (by rw[e];exact l)
  have W:j≠d:=λe=>by
   rcases C with hb|hb
   .exact E (t j (.inr (.inl (by rw[hb,e]))))
   .omega
  exact(h j (by omega) W).trans (z j c U)
 .rw[c1]at g
  injection g with g
  injection g with k1 k2
  subst k1;subst k2;exact⟨_,r,by simp,λi hi=>by simp[Ne.symm hi]⟩
theorem OP(b o m:Nat)(S:Nat->Prop)(G:Int->Option Tl)(w:World)(h:lu w b o m S G)(x:O)(R:x.wf)(U:m<100000000):
  Calls Tryz.prog 182 #[.pointer (some ⟨b,o,none⟩),vO x] w λe a=>e=.returned (.tuple #[])/\lu a b o (m+1) (More S w a) (yz G x)/\kF S b o w a:=by
 obtain⟨om,f,B,L,r⟩:=h;have g:=B.cell;have l:=B.blt;obtain⟨cs,T,v,I⟩:=B.blk;have W:o<cs.size:=(ax.1 I).1
 rcases B.map with⟨rfl,rfl⟩|⟨d,n,D,rfl,C⟩
 .refine(SA b o m f w g.1 g.2 l x R U).mono λe a ⟨E,F⟩=>⟨E,?_⟩
  have P:(iX w b o x).heap.size=w.heap.size+2:=by simp[iX]
  refine J3 L r F (by omega) (.inr ⟨by omega,by omega⟩) ⟨cs,T,v,W,?_⟩ (λj u t=>?_) rfl rfl rfl rfl
  .refine(gL _ _ _ (by simp;omega)).trans ((gL _ _ _ (by simpa using l)).trans ?_);exact fZ v _
  .refine(gL _ _ _ (by simp;omega)).trans ((gL _ _ _ (by simpa using u)).trans ?_);exact iJ _ _ _ _ t
 .cases hk:G x.k with
  |none=>
   refine(Sz b o d m n f G D w g.1 l C x R hk U).mono λe a ⟨E,F⟩=>⟨E,?_⟩
   have P:(lookW w x).heap.size=w.heap.size+1:=by simp[lookW]
   refine J3 L r F (by omega) (.inl rfl) ⟨cs,T,v,W,?_⟩ (λj u _=>gL w _ j u) rfl rfl rfl hk;refine(gL w _ b l).trans (v.trans ?_)
   have:cs.setIfInBounds o (.map (some d))=cs:=by
    apply Array.ext_getElem?;intro i
    by_cases ei:i=o
    .subst ei;rw[I];simp[W]
    .simp[Ne.symm ei]
   rw[this]
  |some τ=>
   refine(Lc b o d m n f G D w g.1 l C x R τ hk U).mono λe a ⟨E,F⟩=>⟨E,?_⟩
   have K:yz G x=lQ G x.k (some (bE τ x)):=by unfold yz;rw[hk];rfl
   rw[K];have z:=C.tals x.k τ hk;have t:=z.ne;have y:=z.lt;obtain⟨p1,p2,M,p4,Z,p6⟩:=JY τ x z.blk;obtain⟨nr,Dr,hnr,l7,V⟩:=z.own;have hlo:=z.lo;have hhi:=z.hi;have hlen:=z.len
   rcases F with⟨H,rfl⟩|⟨H,n',D',Q,A,N,p⟩
   .refine wU B C L r hk (Nat.le_succ m) ⟨p1,⟨nr,Dr,by omega,ownsMap_at l7 (M _ y.2 t.symm),?_⟩,by simp[bE],by simp[bE];omega,?_⟩ (λj u X _=>M j u X) (by omega) p4 Z p6
    .simpa[bE,H]using V
    .simp[bE,H];omega
   .have q:∀j,j<w.heap.size->j≠(f x.k).2->a.heap[j]?=(l6 w x (f x.k).1 τ.c τ.s).heap[j]? :=λj u Y=>p.block j (by show j<(l6 w x (f x.k).1 τ.c τ.s).heap.size;omega) (λe=>Y (by injection e))
    have hs':(l6 w x (f x.k).1 τ.c τ.s).heap.size<=a.heap.size:=p.size;refine wU B C L r hk (Nat.le_succ m) ⟨(q _ y.1 t).trans p1,⟨n',D',Q,A,?_⟩,by simp[bE],by simp[bE];omega,?_⟩ (λj u X Y=>(q j u Y).trans (M j u X)) (by omega) (p.os.trans p4) (p.tape.trans Z) (p.output.trans p6)
    .simpa[bE,H]using N
    .simp[bE,H];omega
end
end Go.Proofs.YthfpipieboophaaGreatDoor
