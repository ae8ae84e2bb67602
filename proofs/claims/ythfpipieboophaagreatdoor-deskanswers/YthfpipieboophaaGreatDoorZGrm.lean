import Derived.Test.YthfpipieboophaaGreatDoorZHd
namespace Go.Proofs.YthfpipieboophaaGreatDoor
set_option maxRecDepth 100000
set_option maxHeartbeats 40000000
open Go.RowKit Go.Sort
section
open Go.Proofs.Tryz
variable{x:Int}{D:DataW Unit}{R:List Int}
abbrev gi(n:Int):Lit:= .int .i64 n
abbrev gd(n:Int):DataW Unit:= .lit (.int .i64 n)
theorem fJ:Maps.Keyed prog 3:=Maps.int_keyed underlying3
theorem yt(h:(gi x).wf=true):keyOf prog 3 (.int .i64 x)=some (gi x):=Maps.keyOf_int_mk underlying3 h
theorem qF(h:(gi x).wf=true):WideAt.IsKeyLit (gi x):=fJ.key (yt h)
theorem oG{y:Int}(h:x≠y):gi x≠gi y:=λe=>h (by injection e)
theorem Vh(w:World):(zeroValue 3).run prog w=.ok (.int .i64 0) w:=by kernel_rfl
theorem Cz(w:World):(zeroValue 221).run prog w=.ok (.pointer none) w:=by kernel_rfl
structure jU(D:DataW Unit)(R:List Int):Prop where
 isMap:Maps.IsMap D
 wf:∀x∈R,(gi x).wf=true
 at_:∀x,(gi x).wf=true->D.atKey (gi x) (gd 0)=gd (R.count x)
 has:∀x,(gi x).wf=true->Maps.has D (gi x)=decide (x∈R)
 keys:∀l,Maps.has D l=true->∃x∈R,l=gi x
theorem yu:jU (.map []) []:=
 ⟨Maps.isMap_empty,by simp,λx _=>rfl,λx _=>rfl,λl h=>by cases h⟩
theorem jU.perm{R':List Int}(h:jU D R)(p:R.Perm R'):jU D R':=
 ⟨h.isMap,λx a=>h.wf x (p.mem_iff.2 a),λx a=>by rw[h.at_ x a,p.count_eq],λx a=>by rw[h.has x a];simp[p.mem_iff],
  λl b=>by obtain⟨x,a,e⟩:=h.keys l b;exact⟨x,p.mem_iff.1 a,e⟩⟩
theorem jU.put(h:jU D R)(x:Int)(c:(gi x).wf=true):jU (D.put (gi x) (gd (R.count x+1))) (x::R):=by
 refine⟨h.isMap.put _ _,λy a=>?_,λy a=>?_,λy a=>?_,λl b=>?_⟩
 .rcases qh.1 a with rfl|a
  .exact c
  .exact h.wf y a
 .by_cases e:y=x
  .subst e;rw[Maps.atKey_put_same h.isMap (qF a)];simp
  .rw[Cr (oG e),h.at_ y a,List.count_cons_of_ne (Ne.symm e)]
 .by_cases e:y=x
  .subst e;rw[Maps.has_put_same h.isMap (qF a)];simp
  .rw[BB (oG e),h.has y a];simp[e]
 .by_cases e:l=gi x
  .exact⟨x,by simp,e⟩
  .rw[BB e]at b;obtain⟨y,a,rfl⟩:=h.keys l b;exact⟨y,by simp[a],rfl⟩
theorem jU.less(h:jU D R)(x:Int)(hx:(gi x).wf=true)(h2:2<=R.count x):jU (D.put (gi x) (gd (R.count x -1))) (R.erase x):=by
 have b:x∈R.erase x:=by rw[<-List.count_pos_iff,List.count_erase_self];omega
 refine⟨h.isMap.put _ _,λy a=>h.wf y (List.mem_of_mem_erase a),λy a=>?_,λy a=>?_,λl c=>?_⟩
 .by_cases e:y=x
  .subst e;rw[Maps.atKey_put_same h.isMap (qF a),List.count_erase_self];congr 2;omega
  .rw[Cr (oG e),h.at_ y a,List.count_erase_of_ne e]
 .by_cases e:y=x
  .subst e;rw[Maps.has_put_same h.isMap (qF a)];simp[b]
  .rw[BB (oG e),h.has y a];simp[vv e]
 .by_cases e:l=gi x
  .exact⟨x,b,e⟩
  .rw[BB e]at c;obtain⟨y,a,rfl⟩:=h.keys l c;exact⟨y,(vv (λd=>e (by rw[d]))).2 a,rfl⟩
theorem jU.del(h:jU D R)(x:Int)(d:R.count x=1):jU (D.del (gi x)) (R.erase x):=by
 have c:x∉R.erase x:=by rw[<-List.count_eq_zero,List.count_erase_self];omega
 refine⟨h.isMap.del _,λy a=>h.wf y (List.mem_of_mem_erase a),λy a=>?_,λy a=>?_,λl b=>?_⟩
 .by_cases e:y=x
  .subst e;rw[Maps.atKey_del_same,List.count_erase_self,d];rfl
  .rw[Maps.atKey_del_other (oG e),h.at_ y a,List.count_erase_of_ne e]
 .by_cases e:y=x
  .subst e;rw[Maps.has_del_same];simp[c]
  .rw[Maps.has_del_other (oG e),h.has y a];simp[vv e]
 .by_cases e:l=gi x
  .subst e;rw[Maps.has_del_same]at b;cases b
  .rw[Maps.has_del_other e]at b;obtain⟨y,a,rfl⟩:=h.keys l b;exact⟨y,(vv (λf=>e (by rw[f]))).2 a,rfl⟩
theorem AO{W:World}{r n:Nat}(b:W.ownsMap prog 3 (plainElem (H:=Unit) prog 3) r n D)(f:jU D R)(x:Int)(e:(gi x).wf=true):
  (Instr.lookup 281 (.map (some r)) (.int .i64 x) false).run prog W=.ok (.int .i64 (R.count x)) W:=by
 obtain⟨c,d,a,_⟩:=b.lookup_int fJ underlying281 underlying3 (Vh _) (yt e);rw[f.at_ x e]at a
 injection a with h1;injection h1 with _ h2
 rw[d,h2]
end
section
open Go.Proofs.Tryz Go.Joins
variable{k:Int}{j t r m p b d n o:Nat}{w f W:World}{D:DataW Value}{a:Int->Nat×Nat}{g:Option Nat}{S:Nat->Prop}
structure Tl where
 c:Nat
 s:Int
 R:List Int
def bE(τ:Tl)(x:O):Tl:=⟨τ.c+1,if x.hl then wrap64 (τ.s+x.lv)else τ.s,if x.hr then x.rv::τ.R else τ.R⟩
def gP(τ:Tl)(x:O):Tl:=⟨τ.c -1,if x.hl then wrap64 (τ.s -x.lv)else τ.s,if x.hr then τ.R.erase x.rv else τ.R⟩
def lQ(G:Int->Option Tl)(k:Int)(v:Option Tl):Int->Option Tl:=λj=>if j=k then v else G j
theorem dL(G:Int->Option Tl)(k:Int)(v:Option Tl):lQ G k v k=v:=by simp[lQ]
theorem aJ(G:Int->Option Tl){j:Int}(v:Option Tl)(h:j≠k):lQ G k v j=G j:=by simp[lQ,h]
abbrev gR:Value->Option (DataW Value×List MemPlace):=λv=>some (.held v,[])
abbrev tp(t:Nat):Value:= .pointer (some ⟨t,0,none⟩)
structure fD(w:World)(t r m:Nat)(τ:Tl):Prop where
 blk:w.heap[t]?=some (.cells #[.int .i64 τ.c,.int .i64 τ.s,.map (some r)] 283)
 own:∃n D,n<=m/\w.ownsMap prog 3 (plainElem (H:=Unit) prog 3) r n D/\jU D τ.R
 lo:1<=τ.c
 hi:τ.c<=m
 len:τ.R.length<=m
theorem fD.mono{τ:Tl}(h:fD w t r m τ)(c:m<=p):fD w t r p τ:=by
 obtain⟨n,D,l,e,i⟩:=h.own;exact⟨h.blk,⟨n,D,di l c,e,i⟩,h.lo,di h.hi c,di h.len c⟩
theorem fD.kept{τ:Tl}(h:fD w t r m τ)(i:f.heap[t]?=w.heap[t]?)(e:f.heap[r]?=w.heap[r]?):fD f t r m τ:=by
 obtain⟨n,D,q,⟨v,c,l,s⟩,u⟩:=h.own;exact⟨i.trans h.blk,⟨n,D,q,⟨v,c,e.trans l,s⟩,u⟩,h.lo,h.hi,h.len⟩
theorem fD.lt{τ:Tl}(h:fD w t r m τ):t<w.heap.size/\r<w.heap.size:=by
 obtain⟨n,D,_,c,_⟩:=h.own;exact⟨(aD.1 h.blk).1,c.lt⟩
theorem fD.ne{τ:Tl}(h:fD w t r m τ):t≠r:=by
 obtain⟨n,D,_,⟨es,c,i,_⟩,_⟩:=h.own;intro e;have:=h.blk;rw[e,i]at this;cases this
structure wB(D:DataW Value)(a:Int->Nat×Nat)(G:Int->Option Tl):Prop where
 isMap:Maps.IsMap D
 has:∀k,(gi k).wf=true->Maps.has D (gi k)=(G k).isSome
 at_:∀k τ,G k=some τ->∀zd,D.atKey (gi k) zd=.held (tp (a k).1)
 keys:∀l,Maps.has D l=true->∃k τ,l=gi k/\G k=some τ
 wf:∀k τ,G k=some τ->(gi k).wf=true
def ic(a:Int->Nat×Nat)(k:Int)(v:Nat×Nat):Int->Nat×Nat:=λj=>if j=k then v else a j
theorem OE(a:Int->Nat×Nat):wB (.map []) a (λ_=>none):=
 ⟨Maps.isMap_empty,λk _=>rfl,(λ_ _ h=>by cases h),(λl h=>by cases h),(λ_ _ h=>by cases h)⟩
theorem wB.set{G:Int->Option Tl}(h:wB D a G){τ:Tl}(i:G k=some τ)(τ':Tl):wB D a (lQ G k (some τ')):=by
 refine⟨h.isMap,λj c=>?_,λj τj c=>?_,λl q=>?_,λj τj c=>?_⟩
 .by_cases e:j=k
  .subst e;rw[h.has j c,i,dL];rfl
  .rw[h.has j c,aJ _ _ e]
 .by_cases e:j=k
  .subst e;exact h.at_ j τ i
  .rw[aJ _ _ e]at c;exact h.at_ j τj c
 .obtain⟨j,τj,rfl,c⟩:=h.keys l q
  by_cases e:j=k
  .exact⟨j,τ',rfl,by rw[e,dL]⟩
  .exact⟨j,τj,rfl,by rw[aJ _ _ e];exact c⟩
 .by_cases e:j=k
  .subst e;exact h.wf j τ i
  .rw[aJ _ _ e]at c;exact h.wf j τj c
theorem wB.new{G:Int->Option Tl}(h:wB D a G)(i:(gi k).wf=true)(t r:Nat)(τ':Tl):
  wB (D.put (gi k) (.held (tp t))) (ic a k (t,r)) (lQ G k (some τ')):=by
 refine⟨h.isMap.put _ _,λj c=>?_,λj τj c zd=>?_,λl q=>?_,λj τj c=>?_⟩
 .by_cases e:j=k
  .subst e;rw[Maps.has_put_same h.isMap (qF c),dL];rfl
  .rw[BB (oG e),h.has j c,aJ _ _ e]
 .by_cases e:j=k
  .subst e;rw[Maps.atKey_put_same h.isMap (qF i)];simp[ic]
  .rw[aJ _ _ e]at c;rw[Cr (oG e),h.at_ j τj c zd];simp[ic,e]
 .by_cases e:l=gi k
  .exact⟨k,τ',e,dL _ _ _⟩
  .rw[BB e]at q;obtain⟨j,τj,rfl,c⟩:=h.keys l q;exact⟨j,τj,rfl,by rw[aJ _ _ (λs=>e (by rw[s]))];exact c⟩
 .by_cases e:j=k
  .subst e;exact i
  .rw[aJ _ _ e]at c;exact h.wf j τj c
theorem wB.del{G:Int->Option Tl}(h:wB D a G)(k:Int):wB (D.del (gi k)) a (lQ G k none):=by
 refine⟨h.isMap.del _,λj c=>?_,λj τj c zd=>?_,λl i=>?_,λj τj c=>?_⟩
 .by_cases e:j=k
  .subst e;rw[Maps.has_del_same,dL];rfl
  .rw[Maps.has_del_other (oG e),h.has j c,aJ _ _ e]
 .by_cases e:j=k
  .subst e;rw[dL]at c;cases c
  .rw[aJ _ _ e]at c;rw[Maps.atKey_del_other (oG e),h.at_ j τj c zd]
 .by_cases e:l=gi k
  .subst e;rw[Maps.has_del_same]at i;cases i
  .rw[Maps.has_del_other e]at i;obtain⟨j,τj,rfl,c⟩:=h.keys l i;exact⟨j,τj,rfl,by rw[aJ _ _ (λq=>e (by rw[q]))];exact c⟩
 .by_cases e:j=k
  .subst e;rw[dL]at c;cases c
  .rw[aJ _ _ e]at c;exact h.wf j τj c
structure fe(w:World)(b d:Nat)(a:Int->Nat×Nat)(m:Nat)(G:Int->Option Tl)(n:Nat)(D:DataW Value):Prop where
 le:n<=m
 own:w.ownsMap prog 3 gR d n D
 dat:wB D a G
 tals:∀k τ,G k=some τ->fD w (a k).1 (a k).2 m τ
 bmb:d≠b
 nb:∀k τ,G k=some τ->(a k).1≠b/\(a k).2≠b/\(a k).1≠d/\(a k).2≠d
 inj:∀k k' τ τ',G k=some τ->G k'=some τ'->k≠k'->(a k).1≠(a k').1/\(a k).2≠(a k').2
def foot(b:Nat)(g:Option Nat)(a:Int->Nat×Nat)(G:Int->Option Tl)(j:Nat):Prop:=j=b∨g=some j∨∃k τ,G k=some τ/\(j=(a k).1∨j=(a k).2)
theorem fe.mono{G:Int->Option Tl}(h:fe w b d a m G n D)(c:m<=p):fe w b d a p G n D:=
 ⟨di h.le c,h.own,h.dat,λk τ e=>(h.tals k τ e).mono c,h.bmb,h.nb,h.inj⟩
theorem ownsMap_at{H:Type}{P:Program}{k:TypeId}{R:Value->Option (DataW H×List MemPlace)}{D:DataW H}(h:w.ownsMap P k R b n D)(e:f.heap[b]?=w.heap[b]?):f.ownsMap P k R b n D:=by
 obtain⟨q,c,i,l⟩:=h;exact⟨q,c,e.trans i,l⟩
theorem fe.kept{G:Int->Option Tl}(h:fe w b d a m G n D)(e:∀j,foot b (some d) a G j->j≠b->f.heap[j]?=w.heap[j]?):fe f b d a m G n D:=
 ⟨h.le,ownsMap_at h.own (e d (.inr (.inl rfl)) h.bmb),h.dat,λk τ c=>(h.tals k τ c).kept (e _ (.inr (.inr ⟨k,τ,c,.inl rfl⟩)) (h.nb k τ c).1) (e _ (.inr (.inr ⟨k,τ,c,.inr rfl⟩)) (h.nb k τ c).2.1),h.bmb,h.nb,h.inj⟩
theorem fe.lt{G:Int->Option Tl}(h:fe w b d a m G n D)(i:foot b (some d) a G j)(c:j≠b):j<w.heap.size:=by
 rcases i with rfl|e|⟨k,τ,hG,rfl|rfl⟩
 .exact absurd rfl c
 .cases e;exact h.own.lt
 .exact(h.tals k τ hG).lt.1
 .exact(h.tals k τ hG).lt.2
theorem fe.set{G:Int->Option Tl}(h:fe w b d a m G n D){τ τ':Tl}(u:G k=some τ)(C:m<=p)
  (K:fD f (a k).1 (a k).2 p τ') (x:∀j,j<w.heap.size->j≠b->j≠(a k).1->j≠(a k).2->f.heap[j]?=w.heap[j]?):fe f b d a p (lQ G k (some τ')) n D:=by
 have s:=h.nb k τ u
 have A:∀j τj,lQ G k (some τ') j=some τj->∃τ0,G j=some τ0:=λj τj i=>by
  by_cases e:j=k
  .exact⟨τ,by rw[e];exact u⟩
  .rw[aJ _ _ e]at i;exact⟨τj,i⟩
 refine⟨di h.le C,ownsMap_at h.own (x d h.own.lt h.bmb s.2.2.1.symm s.2.2.2.symm),h.dat.set u τ',λj τj i=>?_,h.bmb,λj τj i=>?_,λj H τj M i y B=>?_⟩
 .by_cases e:j=k
  .subst e;rw[dL]at i;cases i;exact K
  .rw[aJ _ _ e]at i;have l:=h.tals j τj i;have E:=h.nb j τj i;have F:=h.inj j k τj τ i u e;have I:=h.tals k τ u
   have L:(a j).1≠(a k).2:=λz=>by
    obtain⟨P,Q,_,⟨N,c,q,_⟩,_⟩:=I.own;have:=l.blk;rw[z,q]at this;cases this
   have R:(a j).2≠(a k).1:=λz=>by
    obtain⟨P,Q,_,⟨N,c,q,_⟩,_⟩:=l.own;have:=I.blk;rw[<-z,q]at this;cases this
   exact(l.kept (x _ l.lt.1 E.1 F.1 L) (x _ l.lt.2 E.2.1 R F.2)).mono C
 .obtain⟨τ0,v⟩:=A j τj i;exact h.nb j τ0 v
 .obtain⟨τ0,v⟩:=A j τj i;obtain⟨τ1,l⟩:=A H M y;exact h.inj j H τ0 τ1 v l B
theorem fe.new{G:Int->Option Tl}(h:fe w b d a m G n D)(B:(gi k).wf=true)(hk:G k=none){τ':Tl}(hlt:b<w.heap.size)
  (ht:w.heap.size<=t) (hr:w.heap.size<=r) (s:f.ownsMap prog 3 gR d (n+1) (D.put (gi k) (.held (tp t)))) (A:fD f t r (m+1) τ') (z:∀j,j<w.heap.size->j≠b->j≠d->f.heap[j]?=w.heap[j]?):
  fe f b d (ic a k (t,r)) (m+1) (lQ G k (some τ')) (n+1) (D.put (gi k) (.held (tp t))):=by
 have Eu:=h.own.lt;refine⟨Nat.succ_le_succ h.le,s,h.dat.new B t r τ',λj τj c=>?_,h.bmb,λj τj c=>?_,λj x τj y c i u=>?_⟩
 .by_cases e:j=k
  .subst e;rw[dL]at c;cases c;simpa[ic]using A
  .rw[aJ _ _ e]at c;have l:=h.tals j τj c;have v:=h.nb j τj c;simp only[ic,e,if_false];exact(l.kept (z _ l.lt.1 v.1 v.2.2.1) (z _ l.lt.2 v.2.1 v.2.2.2)).mono (Nat.le_succ _)
 .by_cases e:j=k
  .subst e;simp only[ic,if_true];omega
  .rw[aJ _ _ e]at c;simp only[ic,e,if_false];exact h.nb j τj c
 .by_cases e:j=k
  .subst e
   have q:x≠j:=λe=>u e.symm
   rw[aJ _ _ q]at i;have l:=h.tals x y i;simp only[ic,if_true,q,if_false];have:=l.lt;omega
  .rw[aJ _ _ e]at c
   by_cases q:x=k
   .subst q;have l:=h.tals j τj c;simp only[ic,if_true,e,if_false];have:=l.lt;omega
   .rw[aJ _ _ q]at i;simp only[ic,e,q,if_false];exact h.inj j x τj y c i u
theorem fe.del{G:Int->Option Tl}(h:fe w b d a m G n D)(k:Int)
  (i:f.ownsMap prog 3 gR d n (D.del (gi k))) (x:∀j,j<w.heap.size->j≠b->j≠d->f.heap[j]?=w.heap[j]?):fe f b d a m (lQ G k none) n (D.del (gi k)):=by
 have l:∀j τj,lQ G k none j=some τj->G j=some τj:=λj τj c=>by
  by_cases e:j=k
  .subst e;rw[dL]at c;cases c
  .rw[aJ _ _ e]at c;exact c
 refine⟨h.le,i,h.dat.del k,λj τj c=>?_,h.bmb,λj τj c=>h.nb j τj (l j τj c),λj z τj y c u v=>h.inj j z τj y (l j τj c) (l z y u) v⟩;have s:=h.tals j τj (l j τj c);have q:=h.nb j τj (l j τj c);exact s.kept (x _ s.lt.1 q.1 q.2.2.1) (x _ s.lt.2 q.2.1 q.2.2.2)
theorem fe.look{G:Int->Option Tl}(h:fe w b d a m G n D)(q:W.heap[d]?=w.heap[d]?)(i:(gi k).wf=true){τ:Tl}(l:G k=some τ):
  (Instr.lookup 104 (.map (some d)) (.int .i64 k) true).run prog W=.ok (.tuple #[tp (a k).1,.bool true]) W:=by
 obtain⟨v,ps,c,e⟩:=(ownsMap_at h.own q).look_ok fJ underlying104 (Cz W) (zd:= .held (.pointer none)) (zp:=[]) rfl (yt i);rw[h.dat.at_ k τ l]at e;simp only[gR,Option.some.injEq,Prod.mk.injEq,DataW.held.injEq]at e;rw[c,e.1,h.dat.has k i,l];rfl
theorem fe.look1{G:Int->Option Tl}(h:fe w b d a m G n D)(l:W.heap[d]?=w.heap[d]?)(i:(gi k).wf=true){τ:Tl}(q:G k=some τ):
  (Instr.lookup 104 (.map (some d)) (.int .i64 k) false).run prog W=.ok (tp (a k).1) W:=by
 obtain⟨v,ps,c,e⟩:=(ownsMap_at h.own l).lookup fJ underlying104 (Cz W) (zd:= .held (.pointer none)) (zp:=[]) rfl (yt i);rw[h.dat.at_ k τ q]at e;simp only[gR,Option.some.injEq,Prod.mk.injEq,DataW.held.injEq]at e;rw[c,e.1]
theorem fe.look_none{G:Int->Option Tl}(h:fe w b d a m G n D)(q:W.heap[d]?=w.heap[d]?)(i:(gi k).wf=true)(u:G k=none):
  (Instr.lookup 104 (.map (some d)) (.int .i64 k) true).run prog W=.ok (.tuple #[.pointer none,.bool false]) W:=by
 obtain⟨es,clock,s,F,_,rfl⟩:=ownsMap_at h.own q
 rcases Maps.fit_look true fJ underlying104 (Cz W) s F (yt i)with⟨c,_,e⟩|⟨e0,y,_,_,c,hRv,e,_⟩
 .exact c
 .have l:=h.dat.has k i;rw[Maps.has_true_of_atKey e,u]at l;cases l
structure CB(w:World)(b o:Nat)(g:Option Nat)(a:Int->Nat×Nat)(m:Nat)(G:Int->Option Tl):Prop where
 blk:∃cs T,w.heap[b]?=some (.cells cs T)/\cs[o]?=some (.map g)
 map:(g=none/\G=λ_=>none)∨∃d n D,g=some d/\fe w b d a m G n D
theorem CB.blt{G:Int->Option Tl}(h:CB w b o g a m G):b<w.heap.size:=by
 obtain⟨cs,T,c,_⟩:=h.blk;exact(aD.1 c).1
theorem CB.lt{G:Int->Option Tl}(h:CB w b o g a m G)(c:foot b g a G j):j<w.heap.size:=by
 by_cases e:j=b
 .rw[e];exact h.blt
 .rcases h.map with⟨rfl,rfl⟩|⟨d,n,D,rfl,i⟩
  .rcases c with h1|h1|⟨k,τ,h1,_⟩
   .exact absurd h1 e
   .cases h1
   .cases h1
  .exact i.lt c e
theorem CB.kept{G:Int->Option Tl}(h:CB w b o g a m G)(e:∀j,foot b g a G j->f.heap[j]?=w.heap[j]?):CB f b o g a m G:=by
 refine⟨?_,?_⟩
 .obtain⟨cs,T,c,l⟩:=h.blk;exact⟨cs,T,(e b (.inl rfl)).trans c,l⟩
 .rcases h.map with c|⟨d,n,D,rfl,hm⟩
  .exact .inl c
  .exact .inr ⟨d,n,D,rfl,hm.kept λj i _=>e j i⟩
theorem CB.below{G:Int->Option Tl}(h:CB w b o g a m G)(e:Below w.heap.size w f):CB f b o g a m G:=h.kept λ_ c=>e.block _ (h.lt c)
theorem CB.mono{G:Int->Option Tl}(h:CB w b o g a m G)(c:m<=p):CB w b o g a p G:=
 ⟨h.blk,h.map.imp id λ⟨d,n,D,e,i⟩=>⟨d,n,D,e,i.mono c⟩⟩
theorem CB.cell{G:Int->Option Tl}(h:CB w b o g a m G):w.cell? ⟨b,o,none⟩=some (.map g)/\w.frozen? ⟨b,o,none⟩=false:=by
 obtain⟨cs,T,c,e⟩:=h.blk;exact⟨by rw[vE c];exact e,x9 c o⟩
theorem fD.cells{τ:Tl}(h:fD w t r m τ):w.cell? ⟨t,0,none⟩=some (.int .i64 τ.c)/\w.cell? ⟨t,1,none⟩=some (.int .i64 τ.s)/\w.cell? ⟨t,2,none⟩=some (.map (some r))/\
  w.frozen? ⟨t,0,none⟩=false/\w.frozen? ⟨t,1,none⟩=false/\w.frozen? ⟨t,2,none⟩=false:=by
 refine⟨?_,?_,?_,x9 h.blk 0,x9 h.blk 1,x9 h.blk 2⟩ <;>(rw[vE h.blk];rfl)
structure kF(S:Nat->Prop)(b o:Nat)(w f:World):Prop where
 os:f.os=w.os
 tape:f.tape=w.tape
 output:f.output=w.output
 size:w.heap.size<=f.heap.size
 block:∀k,k<w.heap.size->¬S k->f.heap[k]?=w.heap[k]?
 this:∀cs T,w.heap[b]?=some (.cells cs T)->∃cs':Array Value,f.heap[b]?=some (.cells cs' T)/\cs'.size=cs.size/\∀i,i≠o->cs'[i]?=cs[i]?
theorem kF.of_below(h:Below w.heap.size w f):kF S b o w f:=
 ⟨h.os,h.tape,h.output,h.size,λk e _=>h.block k e,λcs _ c=>⟨cs,(h.block b (aD.1 c).1).trans c,rfl,λ_ _=>rfl⟩⟩
theorem kF.trans{S':Nat->Prop}{u v:World}(h:kF S b o u v)(k:kF S' b o v w)(C:∀j,j<u.heap.size->S' j->S j):kF S b o u w:=
 ⟨k.os.trans h.os,k.tape.trans h.tape,k.output.trans h.output,di h.size k.size,λj l s=>(k.block j (fO l h.size) (λe=>s (C j l e))).trans (h.block j l s),λcs T F=>by
  obtain⟨c,x,z,A⟩:=h.this cs T F;obtain⟨q,B,E,y⟩:=k.this c T x
  exact⟨q,B,E.trans z,λi hi=>(y i hi).trans (A i hi)⟩⟩
theorem kF.below{B:Nat}(h:kF S b o w f)(hB:B<=w.heap.size)(c:∀k,S k->B<=k):Below B w f:=
 ⟨h.os,h.tape,h.output,h.size,λk hk=>h.block k (by omega) (λe=>by have:=c k e;omega)⟩
def lu(w:World)(b o m:Nat)(S:Nat->Prop)(G:Int->Option Tl):Prop:=∃g a,CB w b o g a m G/\(∀j,foot b g a G j->S j)/\∀j,S j->j<w.heap.size
theorem lu.kept{G:Int->Option Tl}(h:lu w b o m S G)(q:w.heap.size<=f.heap.size)(s:∀j,S j->f.heap[j]?=w.heap[j]?):lu f b o m S G:=by
 obtain⟨g,a,l,e,i⟩:=h;exact⟨g,a,l.kept λj c=>s j (e j c),e,λj c=>fO (i j c) q⟩
theorem lu.below{G:Int->Option Tl}(h:lu w b o m S G)(c:Below w.heap.size w f):lu f b o m S G:=
 h.kept c.size λj e=>c.block j (by obtain⟨_,_,_,_,i⟩:=h;exact i j e)
theorem lu.mono{G:Int->Option Tl}(h:lu w b o m S G)(i:m<=p):lu w b o p S G:=by
 obtain⟨g,a,l,c,e⟩:=h;exact⟨g,a,l.mono i,c,e⟩
theorem lu.in{G:Int->Option Tl}(h:lu w b o m S G):S b/\b<w.heap.size:=by
 obtain⟨g,a,e,c,h3⟩:=h;exact⟨c b (.inl rfl),e.blt⟩
end
section
open Go.Proofs.Tryz Go.Joins
theorem Ev(a:Nat)(w:World):(binOp .eql 104 (.map (some a)) (.map none)).run prog w=.ok (.bool false) w:=by kernel_rfl
theorem OG(w:World):(binOp .eql 104 (.map none) (.map none)).run prog w=.ok (.bool true) w:=by kernel_rfl
theorem zJ(t r m:Nat)(τ:Tl)(w:World)(h:fD w t r m τ)(x:Int)(l:(gi x).wf=true)(k:τ.R.count x=1):
  Calls prog 250 #[tp t,.int .i64 x] w λe i=>e=.returned (.tuple #[])/\i.heap.size=w.heap.size/\w.grownBy i (some r)/\∃n D,n<=m+1/\i.ownsMap prog 3 (plainElem (H:=Unit) prog 3) r n D/\jU D (τ.R.erase x):=by
 have hc:=h.cells;obtain⟨n,D,hn,a,c⟩:=h.own;have d:=AO a c x l;rw[k]at d;obtain⟨g,hd,b,j⟩:=a.drop fJ underlying281 (yt l) 0
 have f:g.heap.size=w.heap.size:=by
  obtain⟨_,_,_,_,_,rfl⟩:=j;simp[ChangeMaps.setBlock]
 have hpost:Hid (g.heap.size=w.heap.size/\w.grownBy g (some r)/\∃n D,n<=m+1/\g.ownsMap prog 3 (plainElem (H:=Unit) prog 3) r n D/\jU D (τ.R.erase x)):=
  ⟨f,j.grown,n,_,by omega,b,c.del x k⟩
 clear h f j b a c;go_enter func250,ntmps250;go_wp2
 (try simp only[Exit.inBlock,Exit.then])
 refine CU (results_none rfl _ _ _) rfl ?_;exact⟨rfl,hpost.out⟩
theorem yw(t r m:Nat)(τ:Tl)(w:World)(h:fD w t r m τ)(x:Int)(k:(gi x).wf=true)(p:2<=τ.R.count x)(hm:m<100000000):
  Calls prog 250 #[tp t,.int .i64 x] w λe j=>e=.returned (.tuple #[])/\j.heap.size=w.heap.size/\w.grownBy j (some r)/\∃n D,n<=m+1/\j.ownsMap prog 3 (plainElem (H:=Unit) prog 3) r n D/\jU D (τ.R.erase x):=by
 have hc:=h.cells;have hlen:=h.len;obtain⟨n,D,hn,b,f⟩:=h.own;have l:τ.R.count x<=τ.R.length:=List.count_le_length;have hrun:=AO b f x k;obtain⟨i,hd,d,o⟩:=b.store fJ underlying281 (by unfold maxLen;omega) (yt k) (plainElem_int (H:=Unit) (a:=(τ.R.count x:Int) -1) underlying3 (WalkArith.wf_i64 (by omega)))
 have g:i.heap.size=w.heap.size:=by
  obtain⟨_,_,_,_,_,rfl⟩:=o;simp[ChangeMaps.setBlock]
 have hpost:Hid (i.heap.size=w.heap.size/\w.grownBy i (some r)/\∃n D,n<=m+1/\i.ownsMap prog 3 (plainElem (H:=Unit) prog 3) r n D/\jU D (τ.R.erase x)):=
  ⟨g,o.grown,n+1,_,by omega,d,f.less x k p⟩
 have hlo:2<=(τ.R.count x:Int):=by omega
 have hhi:(τ.R.count x:Int)<100000000:=by omega
 clear h g o d b f l p;generalize(τ.R.count x:Int)=c at *;go_enter func250,ntmps250;go_wp2
 go_end0
 exact⟨rfl,hpost.out⟩
theorem zK(t r m:Nat)(τ:Tl)(w:World)(h:fD w t r m τ)(x:Int)(d:x∈τ.R)(f:m<100000000):
  Calls prog 250 #[tp t,.int .i64 x] w λe b=>e=.returned (.tuple #[])/\b.heap.size=w.heap.size/\w.grownBy b (some r)/\∃n D,n<=m+1/\b.ownsMap prog 3 (plainElem (H:=Unit) prog 3) r n D/\jU D (τ.R.erase x):=by
 have a:(gi x).wf=true:=by obtain⟨n,D,hn,hown,c⟩:=h.own;exact c.wf x d
 have hpos:0<τ.R.count x:=List.count_pos_iff.2 d
 by_cases h1:τ.R.count x=1
 .exact zJ t r m τ w h x a h1
 .exact yw t r m τ w h x a (by omega) f
def l6(w:World)(x:O)(t:Nat)(c s:Int):World:=
 if x.hl then(((w.setCell ⟨t,0,none⟩ (.int .i64 (c+1))).setCell ⟨t,1,none⟩ (.int .i64 (wrap64 (s+x.lv)))).alloc (.cells (ah x).toArray 89)).drew.drew
 else((w.setCell ⟨t,0,none⟩ (.int .i64 (c+1))).alloc (.cells (ah x).toArray 89)).drew
theorem JY{w:World}{t r:Nat}(τ:Tl)(x:O)(h:w.heap[t]?=some (.cells #[.int .i64 τ.c,.int .i64 τ.s,.map (some r)] 283)):
  (l6 w x t τ.c τ.s).heap[t]?=some (.cells #[.int .i64 (bE τ x).c,.int .i64 (bE τ x).s,.map (some r)] 283)/\(l6 w x t τ.c τ.s).heap.size=w.heap.size+1/\
  (∀j,j<w.heap.size->j≠t->(l6 w x t τ.c τ.s).heap[j]?=w.heap[j]?)/\(l6 w x t τ.c τ.s).os=w.os/\(l6 w x t τ.c τ.s).tape=w.tape/\(l6 w x t τ.c τ.s).output=w.output:=by
 have b:t<w.heap.size:=(aD.1 h).1
 have e:(w.setCell ⟨t,0,none⟩ (.int .i64 ((τ.c:Int)+1))).heap[t]?=some (.cells #[.int .i64 ((τ.c:Int)+1),.int .i64 τ.s,.map (some r)] 283):=by
  rw[yc h];rfl
 have g:∀j,j≠t->(w.setCell ⟨t,0,none⟩ (.int .i64 ((τ.c:Int)+1))).heap[j]?=w.heap[j]? :=λj a=>zw _ _ _ _ a
 have d:(bE τ x).c=τ.c+1:=rfl
 have i:(((τ.c+1:Nat):Int))=(τ.c:Int)+1:=by omega
 rw[d,i];unfold l6;cases hl:x.hl
 .simp only[Bool.false_eq_true,if_false];refine⟨?_,by simp,λj f a=>?_,rfl,rfl,rfl⟩
  .refine(zk _ _ t (by simpa using b)).trans ?_;rw[e];simp[bE,hl]
  .exact(zk _ _ j (by simpa using f)).trans (g j a)
 .simp only[if_true];refine⟨?_,by simp,λj f a=>?_,rfl,rfl,rfl⟩
  .refine(zk _ _ t (by simpa using b)).trans ?_;rw[yc e];simp[bE,hl]
  .refine(zk _ _ j (by simpa using f)).trans ?_;rw[zw _ _ _ _ a];exact g j a
theorem Lc(b o C m n:Nat)(g:Int->Nat×Nat)(G:Int->Option Tl)(D:DataW Value)(w:World)(hcell:w.cell? ⟨b,o,none⟩=some (.map (some C)))(hblt:b<w.heap.size)(h:fe w b C g m G n D)(x:O)(A:x.wf)(τ:Tl)(B:G x.k=some τ)(hm:m<100000000):
  Calls prog 182 #[.pointer (some ⟨b,o,none⟩),vO x] w λe K=>e=.returned (.tuple #[])/\
   ((x.hr=false/\K=l6 w x (g x.k).1 τ.c τ.s)∨(x.hr=true/\∃n D,n<=m+1/\K.ownsMap prog 3 (plainElem (H:=Unit) prog 3) (g x.k).2 n D/\jU D (x.rv::τ.R)/\(l6 w x (g x.k).1 τ.c τ.s).drew.grownBy K (some (g x.k).2))):=by
 have l:=h.tals x.k τ B;have z:=h.look (W:=(w.alloc (.cells (ah x).toArray 89)).drew) (zk w _ C h.own.lt) A.k B;have hc:=l.cells;have u:=l.lt;have hnb:=h.nb x.k τ B
 have hlo:(1:Int)<=τ.c:=by have:=l.lo;omega
 have hhi:(τ.c:Int)<100000000:=by have:=l.hi;omega
 have F:=l.ne;obtain⟨Z,Y,L,S,T,P⟩:=JY τ x l.blk;obtain⟨nr,X,E,N,q⟩:=l.own;have I:((l6 w x (g x.k).1 τ.c τ.s).drew).ownsMap prog 3 (plainElem (H:=Unit) prog 3) (g x.k).2 nr X:=ownsMap_at N (L _ u.2 F.symm);have Q:τ.R.count x.rv<=τ.R.length:=List.count_le_length;have v:=l.len;have j:=AO I q x.rv A.rv;obtain⟨M,p,i,y⟩:=I.store fJ underlying281 (by unfold maxLen;omega) (yt A.rv) (plainElem_int (H:=Unit) (a:=(τ.R.count x.rv:Int)+1) underlying3 (WalkArith.wf_i64 (by omega)))
 have d:Hid (∃n D,n<=m+1/\M.ownsMap prog 3 (plainElem (H:=Unit) prog 3) (g x.k).2 n D/\jU D (x.rv::τ.R)/\(l6 w x (g x.k).1 τ.c τ.s).drew.grownBy M (some (g x.k).2)):=
  ⟨nr+1,_,by omega,i,q.put x.rv A.rv,y.grown⟩
 have hcnt:(τ.R.count x.rv:Int)<100000000:=by omega
 have aa5:0<=(τ.R.count x.rv:Int):=by omega
 clear Z Y L S T P I i y q N E h l B Q v;generalize(τ.R.count x.rv:Int)=cn at *;generalize(g x.k).1=t at *;generalize(g x.k).2=r at *;generalize(τ.c:Int)=c at *;generalize τ.s=s at *;have hq:=Ev C;obtain⟨k,lk,lt,lv,rk,rt,rv,U,V⟩:=x
 cases U <;>cases V
 .clear d j p;simp only[vO,ah,l6,Bool.false_eq_true,if_false]at z⊢;go_enter func182,ntmps182;go_wp2
  go_region
  all_goals (try go_wp2)
  all_goals go_end0
  all_goals exact⟨rfl,.inl ⟨trivial,rfl⟩⟩
 .have f:=d;clear d;simp only[vO,ah,l6,Bool.false_eq_true,if_false]at z j p⊢;simp only[ah,l6,Bool.false_eq_true,if_false]at f;have d:Hid _:=f;clear f;go_enter func182,ntmps182;go_wp2
  go_region
  all_goals (try go_wp2)
  all_goals go_region
  all_goals (try go_wp2)
  all_goals go_end0
  all_goals exact⟨rfl,.inr ⟨trivial,d⟩⟩
 .clear d j p;simp only[vO,ah,l6,Bool.false_eq_true,if_true]at z⊢;go_enter func182,ntmps182;go_wp2
  go_region
  all_goals (try go_wp2)
  all_goals go_region
  all_goals (try go_wp2)
  all_goals go_end0
  all_goals exact⟨rfl,.inl ⟨trivial,rfl⟩⟩
 .have f:=d;clear d;simp only[vO,ah,l6,if_true]at z j p⊢;simp only[ah,l6,if_true]at f;have d:Hid _:=f;clear f;go_enter func182,ntmps182;go_wp2
  go_region
  all_goals (try go_wp2)
  all_goals go_region
  all_goals (try go_wp2)
  all_goals go_region
  all_goals (try go_wp2)
  all_goals go_end0
  all_goals exact⟨rfl,.inr ⟨trivial,d⟩⟩
end
section
open Go.Proofs.Tryz Go.Joins
variable{V f:World}{b g m n:Nat}{i:Int->Nat×Nat}{G:Int->Option Tl}{D:DataW Value}
def jk(W:World)(x:O)(t:Nat):World:=
 if x.hl then((W.setCell ⟨t,0,none⟩ (.int .i64 1)).setCell ⟨t,1,none⟩ (.int .i64 (wrap64 x.lv))).drew
 else W.setCell ⟨t,0,none⟩ (.int .i64 1)
abbrev τ0:Tl:=⟨0,0,[]⟩
theorem JZ{W:World}{t r:Nat}(x:O)(h:W.heap[t]?=some (.cells #[.int .i64 0,.int .i64 0,.map (some r)] 283)):
  (jk W x t).heap[t]?=some (.cells #[.int .i64 (bE τ0 x).c,.int .i64 (bE τ0 x).s,.map (some r)] 283)/\(jk W x t).heap.size=W.heap.size/\
  (∀j,j≠t->(jk W x t).heap[j]?=W.heap[j]?)/\(jk W x t).os=W.os/\(jk W x t).tape=W.tape/\(jk W x t).output=W.output:=by
 have d:(W.setCell ⟨t,0,none⟩ (.int .i64 1)).heap[t]?=some (.cells #[.int .i64 1,.int .i64 0,.map (some r)] 283):=by
  rw[yc h];rfl
 have e:∀j,j≠t->(W.setCell ⟨t,0,none⟩ (.int .i64 1)).heap[j]?=W.heap[j]? :=λj a=>zw _ _ _ _ a
 unfold jk;cases hl:x.hl
 .simp only[Bool.false_eq_true,if_false];refine⟨?_,by simp,e,rfl,rfl,rfl⟩;rw[d];simp[bE,hl]
 .simp only[if_true];refine⟨?_,by simp,λj a=>?_,rfl,rfl,rfl⟩
  .refine(yc d _).trans ?_;simp[bE,hl]
  .refine(zw _ _ _ _ a).trans ?_;exact e j a
def ug(V:World):World:=((V.alloc (.map #[] 0)).alloc (.cells #[.int .i64 0,.int .i64 0,.map (some V.heap.size)] 283)).drew
structure NewAt(V f:World)(g n:Nat)(D:DataW Value)(k:Int):Prop where
 own:f.ownsMap prog 3 gR g (n+1) (D.put (gi k) (.held (tp (V.heap.size+1))))
 size:f.heap.size=V.heap.size+2
 block:∀j,j<V.heap.size->j≠g->f.heap[j]?=V.heap[j]?
 rb:f.heap[V.heap.size]?=some (.map #[] 0)
 tb:f.heap[V.heap.size+1]?=some (.cells #[.int .i64 0,.int .i64 0,.map (some V.heap.size)] 283)
 os:f.os=V.os
 tape:f.tape=V.tape
 output:f.output=V.output
theorem OJ(h:fe V b g i m G n D){k:Int}(w:(gi k).wf=true)(hm:m<100000000):
  ∃f,(Instr.mapUpdate 104 (.map (some g)) (.int .i64 k) (tp (V.heap.size+1))).run prog (ug V)=.ok () f/\NewAt V f g n D k:=by
 have s:=h.own.lt
 have t:(ug V).heap.size=V.heap.size+2:=by unfold ug;simp
 have v:∀j,j<V.heap.size->(ug V).heap[j]?=V.heap[j]? :=λj r=>by
  unfold ug;refine(zk _ _ j (by simp;omega)).trans (zk _ _ j r)
 have o:(ug V).ownsMap prog 3 gR g n D:=ownsMap_at h.own (v g s)
 have x:(ug V).heap[V.heap.size]?=some (.map #[] 0):=by
  unfold ug;refine(zk _ _ _ (by simp)).trans ?_;exact(MapKept.heap_alloc V _).1
 have y:(ug V).heap[V.heap.size+1]?=some (.cells #[.int .i64 0,.int .i64 0,.map (some V.heap.size)] 283):=by
  have:=(MapKept.heap_alloc (V.alloc (.map #[] 0)) (.cells #[.int .i64 0,.int .i64 0,.map (some V.heap.size)] 283)).1
  have e:(V.alloc (.map #[] 0)).heap.size=V.heap.size+1:=by simp
  rw[e]at this;exact this
 obtain⟨f,l,a,p⟩:=o.store fJ underlying104 (by have:=h.le;unfold maxLen;omega) (yt w) (val:=tp (V.heap.size+1)) (d:= .held (tp (V.heap.size+1))) (ps:=[]) rfl;have c:=p.grown
 have q:f.heap.size=V.heap.size+2:=by
  obtain⟨_,_,_,_,_,rfl⟩:=p;simp[ChangeMaps.setBlock,t]
 refine⟨f,l,a,q,λj r u=>?_,?_,?_,c.os,c.tape,c.output⟩
 .rw[c.block j (by omega) (λe=>u (by injection e))];exact v j r
 .rw[c.block _ (by omega) (λe=>by injection e;omega)];exact x
 .rw[c.block _ (by omega) (λe=>by injection e;omega)];exact y
def Ends(V W':World)(b g m n:Nat)(i:Int->Nat×Nat)(G:Int->Option Tl)(D:DataW Value)(x:O):Prop:=
 fe W' b g (ic i x.k (V.heap.size+1,V.heap.size)) (m+1) (lQ G x.k (some (bE τ0 x))) (n+1) (D.put (gi x.k) (.held (tp (V.heap.size+1))))/\
 (∀j,j<V.heap.size->j≠g->W'.heap[j]?=V.heap[j]?)/\V.heap.size<=W'.heap.size/\W'.os=V.os/\W'.tape=V.tape/\W'.output=V.output
theorem Uk(h:fe V b g i m G n D)(t:b<V.heap.size)(x:O)(s:x.wf)(u:G x.k=none)(a:NewAt V f g n D x.k)(l:x.hr=false):
  Ends V (jk f x (V.heap.size+1)) b g m n i G D x:=by
 obtain⟨v,p2,d,q,r,o⟩:=JZ x a.tb;have Eu:=h.own.lt;have hs:=a.size;refine⟨h.new s.k u t (by omega) (by omega) (ownsMap_at a.own (d _ (by omega))) ?_ (λj e _ c=>(d j (by omega)).trans (a.block j e c)),λj e c=>(d j (by omega)).trans (a.block j e c),by omega,q.trans a.os,r.trans a.tape,o.trans a.output⟩;refine⟨v,⟨0,.map [],by omega,?_,?_⟩,by simp[bE],by simp[bE],by simp[bE,l]⟩
 .have p:=World.ownsMap_made (H:=Unit) V prog 3 (plainElem prog 3);refine ownsMap_at p ?_;rw[(MapKept.heap_alloc V _).1,d _ (by omega),a.rb]
 .have:(bE τ0 x).R=[]:=by simp[bE,l]
  rw[this];exact yu
theorem Ul(h:fe V b g i m G n D)(B:b<V.heap.size)(x:O)(t:x.wf)(F:G x.k=none)(d:NewAt V f g n D x.k)(y:x.hr=true):
  ∃o,(Instr.lookup 281 (.map (some V.heap.size)) (.int .i64 x.rv) false).run prog (jk f x (V.heap.size+1)).drew=.ok (.int .i64 0) (jk f x (V.heap.size+1)).drew/\
   (Instr.mapUpdate 281 (.map (some V.heap.size)) (.int .i64 x.rv) (.int .i64 1)).run prog (jk f x (V.heap.size+1)).drew=.ok () o/\Ends V o b g m n i G D x:=by
 obtain⟨I,p2,s,A,C,z⟩:=JZ x d.tb;have Eu:=h.own.lt;have hs:=d.size
 have w:(jk f x (V.heap.size+1)).drew.ownsMap prog 3 (plainElem (H:=Unit) prog 3) V.heap.size 0 (.map []):=by
  refine ownsMap_at (World.ownsMap_made (H:=Unit) V prog 3 (plainElem prog 3)) ?_;rw[(MapKept.heap_alloc V _).1];exact(s _ (by omega)).trans d.rb
 have E:=AO w yu x.rv t.rv;obtain⟨o,p,l,v⟩:=w.store fJ underlying281 (by unfold maxLen;omega) (yt t.rv) (plainElem_int (H:=Unit) (a:=1) underlying3 (by decide));have r:=v.grown
 have q:∀j,j<f.heap.size->j≠V.heap.size->o.heap[j]?=(jk f x (V.heap.size+1)).heap[j]? :=λj u c=>r.block j (by show j<(jk f x (V.heap.size+1)).heap.size;omega) (λe=>c (by injection e))
 have hs3:(jk f x (V.heap.size+1)).heap.size<=o.heap.size:=r.size;refine⟨o,E,p,h.new t.k F B (by omega) (by omega) (ownsMap_at d.own ((q _ (by omega) (by omega)).trans (s _ (by omega)))) ?_ (λj u _ c=>(q j (by omega) (by omega)).trans ((s j (by omega)).trans (d.block j u c))),λj u c=>(q j (by omega) (by omega)).trans ((s j (by omega)).trans (d.block j u c)),by omega,r.os.trans (A.trans d.os),r.tape.trans (C.trans d.tape),r.output.trans (z.trans d.output)⟩;refine⟨(q _ (by omega) (by omega)).trans I,⟨0+1,_,by omega,l,?_⟩,by simp[bE],by simp[bE],by simp[bE,y]⟩
 have:(bE τ0 x).R=[x.rv]:=by simp[bE,y]
 rw[this];exact yu.put x.rv t.rv
end
section
open Go.Proofs.Tryz Go.Joins
theorem AP{W:World}{a:Nat}{x:O}(h:W.heap[a]?=some (.cells (ah x).toArray 89)):
  W.cell? ⟨a,0,none⟩=some (.int .i64 x.k)/\W.cell? ⟨a,3,none⟩=some (.int .i64 x.lv)/\W.cell? ⟨a,6,none⟩=some (.int .i64 x.rv)/\W.cell? ⟨a,7,none⟩=some (.bool x.hl)/\W.cell? ⟨a,8,none⟩=some (.bool x.hr):=by
 refine⟨?_,?_,?_,?_,?_⟩ <;>(rw[vE h];rfl)
theorem AQ{V a:World}{b n:Nat}{D:DataW Value}{k:Int}(h:NewAt V a b n D k):
  a.cell? ⟨V.heap.size+1,0,none⟩=some (.int .i64 0)/\a.cell? ⟨V.heap.size+1,1,none⟩=some (.int .i64 0)/\a.cell? ⟨V.heap.size+1,2,none⟩=some (.map (some V.heap.size))/\a.frozen? ⟨V.heap.size+1,0,none⟩=false/\a.frozen? ⟨V.heap.size+1,1,none⟩=false:=by
 refine⟨?_,?_,?_,x9 h.tb 0,x9 h.tb 1⟩ <;>(rw[vE h.tb];rfl)
def lookW(w:World)(x:O):World:=(w.alloc (.cells (ah x).toArray 89)).drew
theorem Sz(b o c m n:Nat)(z:Int->Nat×Nat)(G:Int->Option Tl)(D:DataW Value)(w:World)(r:w.cell? ⟨b,o,none⟩=some (.map (some c)))(B:b<w.heap.size)(h:fe w b c z m G n D)(x:O)(H:x.wf)(F:G x.k=none)(T:m<100000000):
  Calls prog 182 #[.pointer (some ⟨b,o,none⟩),vO x] w λe U=>e=.returned (.tuple #[])/\Ends (lookW w x) U b c m n z G D x:=by
 have v:fe (lookW w x) b c z m G n D:=h.kept λj Q M=>zk w _ j (h.lt Q M)
 have l:(lookW w x).heap.size=w.heap.size+1:=by simp[lookW]
 have XO:=h.own.lt;have u:=v.look_none rfl H.k F;obtain⟨y,P,i⟩:=OJ v H.k T
 have g:(Instr.mapUpdate 104 (.map (some c)) (.int .i64 x.k) (tp (w.heap.size+1+1))).run prog ((((w.alloc (.cells (ah x).toArray 89)).alloc (.map #[] 0)).alloc (.cells #[.int .i64 0,.int .i64 0,.map (some (w.heap.size+1))] 283)).drew.drew)=.ok () y:=by
  have e:ug (lookW w x)=((((w.alloc (.cells (ah x).toArray 89)).alloc (.map #[] 0)).alloc (.cells #[.int .i64 0,.int .i64 0,.map (some (w.heap.size+1))] 283)).drew.drew):=by
   unfold ug;rw[l];rfl
  rw[<-e,<-P,l]
 have f:(((w.alloc (.cells (ah x).toArray 89)).alloc (.map #[] 0)).alloc (.cells #[.int .i64 0,.int .i64 0,.map (some (w.heap.size+1))] 283)).cell? ⟨b,o,none⟩=some (.map (some c)):=by
  rw[World.cell?_alloc_past _ _ _ (by simp;omega),World.cell?_alloc_past _ _ _ (by simp;omega),World.cell?_alloc_past _ _ _ B,r]
 clear P;have K:y.heap[w.heap.size]?=some (.cells (ah x).toArray 89):=(i.block _ (by omega) (by omega)).trans (MapKept.heap_alloc w _).1;have d:=AP K;have C:=AQ i;have hq:=Ev c;have hmm:= @run_makeMap prog
 have I:b<(lookW w x).heap.size:=by omega
 cases hrr:x.hr
 .have a:Hid (Ends (lookW w x) (jk y x ((lookW w x).heap.size+1)) b c m n z G D x):=Uk v I x H F i hrr;rw[l]at a
  have q:Hid (∀p,p=jk y x (w.heap.size+1+1)->Ends (lookW w x) p b c m n z G D x):=λp e=>by rw[e];exact a
  clear a
  have A:w.heap.size+1+1<y.heap.size:=by have:=i.size;omega
  clear v h i K F;rw[l]at C;generalize yx:Ends (lookW w x)=E at *;clear yx;simp only[lookW]at u;clear l I;obtain⟨k,lk,lt,lv,rk,rt,rv,L,R⟩:=x;simp only at hrr;subst hrr;cases L
  .simp only[vO,ah,jk,Bool.false_eq_true,if_false]at u g f d q⊢;go_enter func182,ntmps182;go_wp2
   go_region
   all_goals (try go_wp2)
   all_goals go_region
   all_goals (try go_wp2)
   all_goals go_end0
   all_goals exact⟨rfl,q.out _ rfl⟩
  .simp only[vO,ah,jk,if_true]at u g f d q⊢;go_enter func182,ntmps182;go_wp2
   go_region
   all_goals (try go_wp2)
   all_goals go_region
   all_goals (try go_wp2)
   all_goals go_region
   all_goals (try go_wp2)
   all_goals go_end0
   all_goals exact⟨rfl,q.out _ rfl⟩
 .obtain⟨S,s,t,N⟩:=Ul v I x H F i hrr;rw[l]at s t;have a:=hid N
  have q:Hid (∀p,p=S->Ends (lookW w x) p b c m n z G D x):=λp e=>by rw[e];exact a
  clear a N
  have A:w.heap.size+1+1<y.heap.size:=by have:=i.size;omega
  clear v h i K F;rw[l]at C;generalize yx:Ends (lookW w x)=E at *;clear yx;simp only[lookW]at u;clear l I;obtain⟨k,lk,lt,lv,rk,rt,rv,L,R⟩:=x;simp only at hrr;subst hrr;cases L
  .simp only[vO,ah,jk,Bool.false_eq_true,if_false]at u g f d s t⊢;go_enter func182,ntmps182;go_wp2
   go_region
   all_goals (try go_wp2)
   all_goals go_region
   all_goals (try go_wp2)
   all_goals go_region
   all_goals (try go_wp2)
   all_goals go_end0
   all_goals exact⟨rfl,q.out _ rfl⟩
  .simp only[vO,ah,jk,if_true]at u g f d s t⊢;go_enter func182,ntmps182;go_wp2
   go_region
   all_goals (try go_wp2)
   all_goals go_region
   all_goals (try go_wp2)
   all_goals go_region
   all_goals (try go_wp2)
   all_goals go_region
   all_goals (try go_wp2)
   all_goals go_end0
   all_goals exact⟨rfl,q.out _ rfl⟩
end
section
open Go.Proofs.Tryz
variable{w:World}{b:Nat}
def iX(w:World)(b o:Nat)(x:O):World:=(((w.setCell ⟨b,o,none⟩ (.map (some (w.heap.size+1)))).alloc (.cells (ah x).toArray 89)).alloc (.map #[] 0)).drew
theorem OM{m:Nat}(c:Int->Nat×Nat)(x:O)(o:Nat)(hblt:b<w.heap.size):fe (iX w b o x) b (w.heap.size+1) c m (λ_=>none) 0 (.map []):=by
 refine⟨gy _,?_,OE c,(λ_ _ h=>by cases h),by omega,(λ_ _ h=>by cases h),(λ_ _ _ _ h=>by cases h)⟩;have a:=World.ownsMap_made (H:=Value) ((w.setCell ⟨b,o,none⟩ (.map (some (w.heap.size+1)))).alloc (.cells (ah x).toArray 89)) prog 3 gR
 have e:((w.setCell ⟨b,o,none⟩ (.map (some (w.heap.size+1)))).alloc (.cells (ah x).toArray 89)).heap.size=w.heap.size+1:=by simp
 rw[e]at a;exact a.drew
theorem OO(x:O)(b o:Nat):(iX w b o x).heap[w.heap.size]?=some (.cells (ah x).toArray 89):=by
 have e:(w.setCell ⟨b,o,none⟩ (.map (some (w.heap.size+1)))).heap.size=w.heap.size:=by simp
 refine(zk _ _ _ (by simp)).trans ?_;have:=(MapKept.heap_alloc (w.setCell ⟨b,o,none⟩ (.map (some (w.heap.size+1)))) (.cells (ah x).toArray 89)).1;rw[e]at this;exact this
theorem zM{o:Nat}{v:Value}(h:w.cell? ⟨b,o,none⟩=some v)(u:Value):(w.setCell ⟨b,o,none⟩ u).cell? ⟨b,o,none⟩=some u:=World.cell?_setCell_same _ _ _ h
theorem SA(b o m:Nat)(y:Int->Nat×Nat)(w:World)(q:w.cell? ⟨b,o,none⟩=some (.map none))(hfr:w.frozen? ⟨b,o,none⟩=false)(j:b<w.heap.size)(x:O)(C:x.wf)(P:m<100000000):
  Calls prog 182 #[.pointer (some ⟨b,o,none⟩),vO x] w λe Q=>e=.returned (.tuple #[])/\Ends (iX w b o x) Q b (w.heap.size+1) m 0 y (λ_=>none) (.map []) x:=by
 have u:=OM (m:=m) y x o j;have B:(λ_=>none:Int->Option Tl) x.k=none:=rfl
 have l:(iX w b o x).heap.size=w.heap.size+2:=by simp[iX]
 have t:=u.look_none rfl C.k B;obtain⟨v,M,i⟩:=OJ u C.k P
 have h:(Instr.mapUpdate 104 (.map (some (w.heap.size+1))) (.int .i64 x.k) (tp (w.heap.size+2+1))).run prog (((((w.setCell ⟨b,o,none⟩ (.map (some (w.heap.size+1)))).alloc (.cells (ah x).toArray 89)).alloc (.map #[] 0)).alloc (.map #[] 0)).alloc (.cells #[.int .i64 0,.int .i64 0,.map (some (w.heap.size+2))] 283)).drew.drew=.ok () v:=by
  have e:ug (iX w b o x)=(((((w.setCell ⟨b,o,none⟩ (.map (some (w.heap.size+1)))).alloc (.cells (ah x).toArray 89)).alloc (.map #[] 0)).alloc (.map #[] 0)).alloc (.cells #[.int .i64 0,.int .i64 0,.map (some (w.heap.size+2))] 283)).drew.drew:=by
   unfold ug;rw[l];rfl
  rw[<-e,<-M,l]
 have I:(w.setCell ⟨b,o,none⟩ (.map (some (w.heap.size+1)))).cell? ⟨b,o,none⟩=some (.map (some (w.heap.size+1))):=zM q _
 have c:(((w.setCell ⟨b,o,none⟩ (.map (some (w.heap.size+1)))).alloc (.cells (ah x).toArray 89)).alloc (.map #[] 0)).cell? ⟨b,o,none⟩=some (.map (some (w.heap.size+1))):=by
  rw[World.cell?_alloc_past _ _ _ (by simp;omega),World.cell?_alloc_past _ _ _ (by simpa using j),I]
 have d:((((w.setCell ⟨b,o,none⟩ (.map (some (w.heap.size+1)))).alloc (.cells (ah x).toArray 89)).alloc (.map #[] 0)).alloc (.map #[] 0)).cell? ⟨b,o,none⟩=some (.map (some (w.heap.size+1))):=by
  rw[World.cell?_alloc_past _ _ _ (by simp;omega),c]
 have g:(((((w.setCell ⟨b,o,none⟩ (.map (some (w.heap.size+1)))).alloc (.cells (ah x).toArray 89)).alloc (.map #[] 0)).alloc (.map #[] 0)).alloc (.cells #[.int .i64 0,.int .i64 0,.map (some (w.heap.size+2))] 283)).cell? ⟨b,o,none⟩=some (.map (some (w.heap.size+1))):=by
  rw[World.cell?_alloc_past _ _ _ (by simp;omega),d]
 clear M;have G:v.heap[w.heap.size]?=some (.cells (ah x).toArray 89):=(i.block _ (by omega) (by omega)).trans (OO x b o);have f:=AP G;have A:=AQ i;have hq:=OG;have hmm:= @run_makeMap prog
 have F:b<(iX w b o x).heap.size:=by omega
 cases hrr:x.hr
 .have a:Hid (Ends (iX w b o x) (jk v x ((iX w b o x).heap.size+1)) b (w.heap.size+1) m 0 y (λ_=>none) (.map []) x):=Uk u F x C B i hrr;rw[l]at a
  have p:Hid (∀n,n=jk v x (w.heap.size+2+1)->Ends (iX w b o x) n b (w.heap.size+1) m 0 y (λ_=>none) (.map []) x):=λn e=>by rw[e];exact a
  clear a
  have z:w.heap.size+2+1<v.heap.size:=by have:=i.size;omega
  clear u i G B;rw[l]at A;generalize yx:Ends (iX w b o x)=E at *;clear yx;simp only[iX]at t;clear l F;obtain⟨k,lk,lt,lv,rk,rt,rv,H,N⟩:=x;simp only at hrr;subst hrr;cases H
  .simp only[vO,ah,jk,Bool.false_eq_true,if_false]at t h c g d f p⊢;go_enter func182,ntmps182;go_wp2
   go_region
   all_goals (try go_wp2)
   all_goals go_region
   all_goals (try go_wp2)
   all_goals go_end0
   all_goals exact⟨rfl,p.out _ rfl⟩
  .simp only[vO,ah,jk,if_true]at t h c g d f p⊢;go_enter func182,ntmps182;go_wp2
   go_region
   all_goals (try go_wp2)
   all_goals go_region
   all_goals (try go_wp2)
   all_goals go_region
   all_goals (try go_wp2)
   all_goals go_end0
   all_goals exact⟨rfl,p.out _ rfl⟩
 .obtain⟨K,r,s,L⟩:=Ul u F x C B i hrr;rw[l]at r s;have a:Hid (Ends (iX w b o x) K b (w.heap.size+1) m 0 y (λ_=>none) (.map []) x):=L
  have p:Hid (∀n,n=K->Ends (iX w b o x) n b (w.heap.size+1) m 0 y (λ_=>none) (.map []) x):=λn e=>by rw[e];exact a
  clear a L
  have z:w.heap.size+2+1<v.heap.size:=by have:=i.size;omega
  clear u i G B;rw[l]at A;generalize yx:Ends (iX w b o x)=E at *;clear yx;simp only[iX]at t;clear l F;obtain⟨k,lk,lt,lv,rk,rt,rv,H,N⟩:=x;simp only at hrr;subst hrr;cases H
  .simp only[vO,ah,jk,Bool.false_eq_true,if_false]at t h c g d f r s⊢;go_enter func182,ntmps182;go_wp2
   go_region
   all_goals (try go_wp2)
   all_goals go_region
   all_goals (try go_wp2)
   all_goals go_region
   all_goals (try go_wp2)
   all_goals go_end0
   all_goals exact⟨rfl,p.out _ rfl⟩
  .simp only[vO,ah,jk,if_true]at t h c g d f r s⊢;go_enter func182,ntmps182;go_wp2
   go_region
   all_goals (try go_wp2)
   all_goals go_region
   all_goals (try go_wp2)
   all_goals go_region
   all_goals (try go_wp2)
   all_goals go_region
   all_goals (try go_wp2)
   all_goals go_end0
   all_goals exact⟨rfl,p.out _ rfl⟩
end
section
open Go.Joins
variable{S:Nat->Prop}{w a:World}{b o d m n:Nat}{f:Int->Nat×Nat}{G:Int->Option Tl}{D:DataW Value}
def yz(G:Int->Option Tl)(x:O):Int->Option Tl:=lQ G x.k (some (bE ((G x.k).getD τ0) x))
def More(S:Nat->Prop)(w a:World)(j:Nat):Prop:=S j∨(w.heap.size<=j/\j<a.heap.size)
theorem More.new{j:Nat}(h:More S w a j):S j∨w.heap.size<=j:=h.imp id λh=>h.1
theorem wU{t:Nat}(x:CB w b o (some d) f m G)(h:fe w b d f m G n D)(s:∀j,foot b (some d) f G j->S j)(q:∀j,S j->j<w.heap.size)
  {k:Int} {τ τ':Tl} (l:G k=some τ) (z:m<=t) (y:fD a (f k).1 (f k).2 t τ') (r:∀j,j<w.heap.size->j≠(f k).1->j≠(f k).2->a.heap[j]?=w.heap[j]?)
  (u:w.heap.size<=a.heap.size) (A:a.os=w.os) (B:a.tape=w.tape) (C:a.output=w.output):
  lu a b o t (More S w a) (lQ G k (some τ'))/\kF S b o w a:=by
 have g:=h.nb k τ l;have p:a.heap[b]?=w.heap[b]? :=r b x.blt g.1.symm g.2.1.symm;refine⟨⟨some d,f,⟨?_,.inr ⟨d,n,D,rfl,h.set l z y λj c _=>r j c⟩⟩,λj c=>.inl (s j ?_),λj c=>?_⟩,⟨A,B,C,u,λj c v=>r j c (λe=>v (s j (.inr (.inr ⟨k,τ,l,.inl e⟩)))) (λe=>v (s j (.inr (.inr ⟨k,τ,l,.inr e⟩)))),λcs T H=>⟨cs,p.trans H,rfl,λ_ _=>rfl⟩⟩⟩
 .obtain⟨cs,T,E,F⟩:=x.blk;exact⟨cs,T,p.trans E,F⟩
 .rcases c with e|e|⟨i,τi,hi,e⟩
  .exact .inl e
  .exact .inr (.inl e)
  .by_cases ei:i=k
   .rw[ei]at e;exact .inr (.inr ⟨k,τ,l,e⟩)
   .rw[aJ _ _ ei]at hi;exact .inr (.inr ⟨i,τi,hi,e⟩)
 .rcases c with c|c
  .exact fO (q j c) u
  .exact c.2
theorem J3{V:World}{B:Option Nat}{x:O}(t:∀j,foot b B f G j->S j)(q:∀j,S j->j<w.heap.size)
  (I:Ends V a b d m n f G D x) (hV:w.heap.size<=V.heap.size) (C:B=some d∨(w.heap.size<=d/\d<V.heap.size)) (z:∃cs T,w.heap[b]?=some (.cells cs T)/\o<cs.size/\V.heap[b]?=some (.cells (cs.setIfInBounds o (.map (some d))) T))
  (A:∀j,j<w.heap.size->j≠b->V.heap[j]?=w.heap[j]?) (N:V.os=w.os) (P:V.tape=w.tape) (H:V.output=w.output) (U:G x.k=none):
  lu a b o (m+1) (More S w a) (yz G x)/\kF S b o w a:=by
 obtain⟨u,h,hsz,L,M,R⟩:=I;obtain⟨cs,T,c1,Q,c3⟩:=z;have l:S b:=t b (.inl rfl);have hblt:=q b l
 have p:yz G x=lQ G x.k (some (bE τ0 x)):=by unfold yz;rw[U];rfl
 have K:d≠b:=u.bmb;have s:a.heap[b]?=some (.cells (cs.setIfInBounds o (.map (some d))) T):=(h b (by omega) K.symm).trans c3;rw[p]
 have r:∀j,foot b (some d) (ic f x.k (V.heap.size+1,V.heap.size)) (lQ G x.k (some (bE τ0 x))) j->j≠b->j<a.heap.size:=λj c y=>u.lt c y
 refine⟨⟨some d,_,⟨⟨_,T,s,by simp[Q]⟩,.inr ⟨d,_,_,rfl,u⟩⟩,λj c=>?_,λj c=>?_⟩,⟨L.trans N,M.trans P,R.trans H,by omega,λj c E=>?_,λcs' T' g=>?_⟩⟩
 .have v:=c
  rcases c with e|e|⟨i,τi,hi,e⟩
  .exact .inl (by rw[e];exact l)
  .injection e with e
   rcases C with hb|hb
   .exact .inl (t j (.inr (.inl (by rw[hb,e]))))
   .exact .inr ⟨by omega,by omega⟩
  .by_cases ei:i=x.k
   .rw[ei]at e;simp only[ic,if_true]at e;refine .inr ⟨by omega,r j v (λe'=>?_)⟩;omega
   .rw[aJ _ _ ei]at hi;simp only[ic,ei,if_false]at e;exact .inl (t j (.inr (.inr ⟨i,τi,hi,e⟩)))
 .rcases c with c|c
  .have:=q j c;omega
  .exact c.2
 .have F:j≠b:=λe=>E (by rw[e];exact l)
  have W:j≠d:=λe=>by
   rcases C with hb|hb
   .exact E (t j (.inr (.inl (by rw[hb,e]))))
   .omega
  exact(h j (by omega) W).trans (A j c F)
 .rw[c1]at g
  injection g with g
  injection g with k1 k2
  subst k1;subst k2;exact⟨_,s,by simp,λi hi=>by simp[Ne.symm hi]⟩
theorem OP(b o m:Nat)(S:Nat->Prop)(G:Int->Option Tl)(w:World)(h:lu w b o m S G)(x:O)(V:x.wf)(U:m<100000000):
  Calls Tryz.prog 182 #[.pointer (some ⟨b,o,none⟩),vO x] w λe a=>e=.returned (.tuple #[])/\lu a b o (m+1) (More S w a) (yz G x)/\kF S b o w a:=by
 obtain⟨om,f,B,L,u⟩:=h;have g:=B.cell;have l:=B.blt;obtain⟨cs,T,v,C⟩:=B.blk;have R:o<cs.size:=(aD.1 C).1
 rcases B.map with⟨rfl,rfl⟩|⟨d,n,D,rfl,K⟩
 .refine(SA b o m f w g.1 g.2 l x V U).mono λe a ⟨F,H⟩=>⟨F,?_⟩
  have X:(iX w b o x).heap.size=w.heap.size+2:=by simp[iX]
  refine J3 L u H (by omega) (.inr ⟨by omega,by omega⟩) ⟨cs,T,v,R,?_⟩ (λj t r=>?_) rfl rfl rfl rfl
  .refine(zk _ _ _ (by simp;omega)).trans ((zk _ _ _ (by simpa using l)).trans ?_);exact yc v _
  .refine(zk _ _ _ (by simp;omega)).trans ((zk _ _ _ (by simpa using t)).trans ?_);exact zw _ _ _ _ r
 .cases hk:G x.k with
  |none=>
   refine(Sz b o d m n f G D w g.1 l K x V hk U).mono λe a ⟨F,H⟩=>⟨F,?_⟩
   have X:(lookW w x).heap.size=w.heap.size+1:=by simp[lookW]
   refine J3 L u H (by omega) (.inl rfl) ⟨cs,T,v,R,?_⟩ (λj t _=>zk w _ j t) rfl rfl rfl hk;refine(zk w _ b l).trans (v.trans ?_)
   have:cs.setIfInBounds o (.map (some d))=cs:=by
    apply Array.ext_getElem?;intro i
    by_cases ei:i=o
    .subst ei;rw[C];simp[R]
    .simp[Ne.symm ei]
   rw[this]
  |some τ=>
   refine(Lc b o d m n f G D w g.1 l K x V τ hk U).mono λe a ⟨F,H⟩=>⟨F,?_⟩
   have E:yz G x=lQ G x.k (some (bE τ x)):=by unfold yz;rw[hk];rfl
   rw[E];have z:=K.tals x.k τ hk;have r:=z.ne;have y:=z.lt;obtain⟨p1,p2,N,p4,p5,Z⟩:=JY τ x z.blk;obtain⟨nr,Dr,hnr,l7,W⟩:=z.own;have hlo:=z.lo;have hhi:=z.hi;have hlen:=z.len
   rcases H with⟨I,rfl⟩|⟨I,n',D',P,A,Q,p⟩
   .refine wU B K L u hk (Nat.le_succ m) ⟨p1,⟨nr,Dr,by omega,ownsMap_at l7 (N _ y.2 r.symm),?_⟩,by simp[bE],by simp[bE];omega,?_⟩ (λj t M _=>N j t M) (by omega) p4 p5 Z
    .simpa[bE,I]using W
    .simp[bE,I];omega
   .have q:∀j,j<w.heap.size->j≠(f x.k).2->a.heap[j]?=(l6 w x (f x.k).1 τ.c τ.s).heap[j]? :=λj t Y=>p.block j (by show j<(l6 w x (f x.k).1 τ.c τ.s).heap.size;omega) (λe=>Y (by injection e))
    have hs':(l6 w x (f x.k).1 τ.c τ.s).heap.size<=a.heap.size:=p.size;refine wU B K L u hk (Nat.le_succ m) ⟨(q _ y.1 r).trans p1,⟨n',D',P,A,?_⟩,by simp[bE],by simp[bE];omega,?_⟩ (λj t M Y=>(q j t Y).trans (N j t M)) (by omega) (p.os.trans p4) (p.tape.trans p5) (p.output.trans Z)
    .simpa[bE,I]using Q
    .simp[bE,I];omega
end
end Go.Proofs.YthfpipieboophaaGreatDoor
