import Derived.Maps.OwnOps
import Derived.Test.YthfpipieboophaaGreatDoorZaa
namespace Go.Proofs.YthfpipieboophaaGreatDoor
set_option maxRecDepth 100000
set_option maxHeartbeats 40000000
open Go.RowKit Go.Sort
section
open Go.Proofs.Tryz
variable {x:Int} {D:DataW Unit} {R:List Int}
abbrev gi (n:Int):Lit:= .int .i64 n
abbrev gd (n:Int):DataW Unit:= .lit (.int .i64 n)
theorem fJ:Maps.Keyed prog 3:=Maps.int_keyed underlying3
theorem yt (h:(gi x).wf=true):keyOf prog 3 (.int .i64 x)=some (gi x):=Maps.keyOf_int_mk underlying3 h
theorem qF (h:(gi x).wf=true):WideAt.IsKeyLit (gi x):=fJ.key (yt h)
theorem oG {y:Int} (h:x≠y):gi x≠gi y:=fun e=>h (by injection e)
theorem Vh (w:World):(zeroValue 3).run prog w= .ok (.int .i64 0) w:=by kernel_rfl
theorem Cz (w:World):(zeroValue 221).run prog w= .ok (.pointer none) w:=by kernel_rfl
structure jU (D:DataW Unit) (R:List Int):Prop where
 isMap:Maps.IsMap D
 wf:∀x∈R,(gi x).wf=true
 at_:∀x,(gi x).wf=true->D.atKey (gi x) (gd 0)=gd (R.count x)
 has:∀x,(gi x).wf=true->Maps.has D (gi x)=decide (x∈R)
 keys:∀l,Maps.has D l=true->∃x∈R,l=gi x
theorem yu:jU (.map []) []:=
 ⟨Maps.isMap_empty,by simp,fun x _=>rfl,fun x _=>rfl,fun l h=>by cases h⟩
theorem jU.perm {R':List Int} (h:jU D R) (p:R.Perm R'):jU D R':=
 ⟨h.isMap,fun x hx=>h.wf x (p.mem_iff.2 hx),fun x hx=>by rw[h.at_ x hx,p.count_eq],fun x hx=>by rw[h.has x hx];simp[p.mem_iff],
  fun l hl=>by obtain⟨x,hx,e⟩:=h.keys l hl;exact⟨x,p.mem_iff.1 hx,e⟩⟩
theorem jU.put (h:jU D R) (x:Int) (hx:(gi x).wf=true):jU (D.put (gi x) (gd (R.count x+1))) (x::R):=by
 refine⟨h.isMap.put _ _,fun y hy=> ?_,fun y hy=> ?_,fun y hy=> ?_,fun l hl=> ?_⟩
 ·rcases List.mem_cons.1 hy with rfl | hy
  ·exact hx
  ·exact h.wf y hy
 ·by_cases e:y=x
  ·subst e;rw[Maps.atKey_put_same h.isMap (qF hy)];simp
  ·rw[Maps.atKey_put_other (oG e),h.at_ y hy,List.count_cons_of_ne (Ne.symm e)]
 ·by_cases e:y=x
  ·subst e;rw[Maps.has_put_same h.isMap (qF hy)];simp
  ·rw[Maps.has_put_other (oG e),h.has y hy];simp[e]
 ·by_cases e:l=gi x
  ·exact⟨x,by simp,e⟩
  ·rw[Maps.has_put_other e] at hl;obtain⟨y,hy,rfl⟩:=h.keys l hl;exact⟨y,by simp[hy],rfl⟩
theorem jU.less (h:jU D R) (x:Int) (hx:(gi x).wf=true) (h2:2<=R.count x):jU (D.put (gi x) (gd (R.count x -1))) (R.erase x):=by
 have hmem:x∈R.erase x:=by rw[<-List.count_pos_iff,List.count_erase_self];omega
 refine⟨h.isMap.put _ _,fun y hy=>h.wf y (List.mem_of_mem_erase hy),fun y hy=> ?_,fun y hy=> ?_,fun l hl=> ?_⟩
 ·by_cases e:y=x
  ·subst e;rw[Maps.atKey_put_same h.isMap (qF hy),List.count_erase_self];congr 2;omega
  ·rw[Maps.atKey_put_other (oG e),h.at_ y hy,List.count_erase_of_ne e]
 ·by_cases e:y=x
  ·subst e;rw[Maps.has_put_same h.isMap (qF hy)];simp[hmem]
  ·rw[Maps.has_put_other (oG e),h.has y hy];simp[List.mem_erase_of_ne e]
 ·by_cases e:l=gi x
  ·exact⟨x,hmem,e⟩
  ·rw[Maps.has_put_other e] at hl;obtain⟨y,hy,rfl⟩:=h.keys l hl;exact⟨y,(List.mem_erase_of_ne (fun e'=>e (by rw[e']))).2 hy,rfl⟩
theorem jU.del (h:jU D R) (x:Int) (h1:R.count x=1):jU (D.del (gi x)) (R.erase x):=by
 have hno:x∉R.erase x:=by rw[<-List.count_eq_zero,List.count_erase_self];omega
 refine⟨h.isMap.del _,fun y hy=>h.wf y (List.mem_of_mem_erase hy),fun y hy=> ?_,fun y hy=> ?_,fun l hl=> ?_⟩
 ·by_cases e:y=x
  ·subst e;rw[Maps.atKey_del_same,List.count_erase_self,h1];rfl
  ·rw[Maps.atKey_del_other (oG e),h.at_ y hy,List.count_erase_of_ne e]
 ·by_cases e:y=x
  ·subst e;rw[Maps.has_del_same];simp[hno]
  ·rw[Maps.has_del_other (oG e),h.has y hy];simp[List.mem_erase_of_ne e]
 ·by_cases e:l=gi x
  ·subst e;rw[Maps.has_del_same] at hl;cases hl
  ·rw[Maps.has_del_other e] at hl;obtain⟨y,hy,rfl⟩:=h.keys l hl;exact⟨y,(List.mem_erase_of_ne (fun e'=>e (by rw[e']))).2 hy,rfl⟩
theorem AO {W:World} {r n:Nat} (hown:W.ownsMap prog 3 (plainElem (H:=Unit) prog 3) r n D) (hc:jU D R) (x:Int) (hx:(gi x).wf=true):
  (Instr.lookup 281 (.map (some r)) (.int .i64 x) false).run prog W= .ok (.int .i64 (R.count x)) W:=by
 obtain⟨c,hrun,hat,_⟩:=hown.lookup_int fJ underlying281 underlying3 (Vh _) (yt hx);rw[hc.at_ x hx] at hat
 injection hat with h1;injection h1 with _ h2
 rw[hrun,h2]
end
section
open Go.Proofs.Tryz Go.Joins
variable {k:Int} {j t r m m' b bm n o:Nat} {w w' W:World} {D:DataW Value} {aO:Int->Nat×Nat} {om:Option Nat} {S:Nat->Prop}
structure Tl where
 c:Nat
 s:Int
 R:List Int
def bE (τ:Tl) (x:O):Tl:=⟨τ.c+1,if x.hl then wrap64 (τ.s+x.lv) else τ.s,if x.hr then x.rv::τ.R else τ.R⟩
def gP (τ:Tl) (x:O):Tl:=⟨τ.c -1,if x.hl then wrap64 (τ.s -x.lv) else τ.s,if x.hr then τ.R.erase x.rv else τ.R⟩
def lQ (G:Int->Option Tl) (k:Int) (v:Option Tl):Int->Option Tl:=fun j=>if j=k then v else G j
theorem dL (G:Int->Option Tl) (k:Int) (v:Option Tl):lQ G k v k=v:=by simp[lQ]
theorem aJ (G:Int->Option Tl) {j:Int} (v:Option Tl) (h:j≠k):lQ G k v j=G j:=by simp[lQ,h]
abbrev gR:Value->Option (DataW Value×List MemPlace):=fun v=>some (.held v,[])
abbrev tp (t:Nat):Value:= .pointer (some ⟨t,0,none⟩)
structure fD (w:World) (t r m:Nat) (τ:Tl):Prop where
 blk:w.heap[t]? =some (.cells #[.int .i64 τ.c,.int .i64 τ.s,.map (some r)] 283)
 own:∃n D,n<=m∧w.ownsMap prog 3 (plainElem (H:=Unit) prog 3) r n D∧jU D τ.R
 lo:1<=τ.c
 hi:τ.c<=m
 len:τ.R.length<=m
theorem fD.mono {τ:Tl} (h:fD w t r m τ) (hm:m<=m'):fD w t r m' τ:=by
 obtain⟨n,D,h1,h2,h3⟩:=h.own;exact⟨h.blk,⟨n,D,Nat.le_trans h1 hm,h2,h3⟩,h.lo,Nat.le_trans h.hi hm,Nat.le_trans h.len hm⟩
theorem fD.kept {τ:Tl} (h:fD w t r m τ) (h1:w'.heap[t]? =w.heap[t]?) (h2:w'.heap[r]? =w.heap[r]?):fD w' t r m τ:=by
 obtain⟨n,D,k1,⟨es,c,hb,hr⟩,k3⟩:=h.own;exact⟨h1.trans h.blk,⟨n,D,k1,⟨es,c,h2.trans hb,hr⟩,k3⟩,h.lo,h.hi,h.len⟩
theorem fD.lt {τ:Tl} (h:fD w t r m τ):t < w.heap.size∧r < w.heap.size:=by
 obtain⟨n,D,_,h2,_⟩:=h.own;exact⟨(Array.getElem?_eq_some_iff.1 h.blk).1,h2.lt⟩
theorem fD.ne {τ:Tl} (h:fD w t r m τ):t≠r:=by
 obtain⟨n,D,_,⟨es,c,hb,_⟩,_⟩:=h.own;intro e;have :=h.blk;rw[e,hb] at this;cases this
structure wB (D:DataW Value) (aO:Int->Nat×Nat) (G:Int->Option Tl):Prop where
 isMap:Maps.IsMap D
 has:∀k,(gi k).wf=true->Maps.has D (gi k)=(G k).isSome
 at_:∀k τ,G k=some τ->∀zd,D.atKey (gi k) zd= .held (tp (aO k).1)
 keys:∀l,Maps.has D l=true->∃k τ,l=gi k∧G k=some τ
 wf:∀k τ,G k=some τ->(gi k).wf=true
def ic (aO:Int->Nat×Nat) (k:Int) (v:Nat×Nat):Int->Nat×Nat:=fun j=>if j=k then v else aO j
theorem OE (aO:Int->Nat×Nat):wB (.map []) aO (fun _=>none):=
 ⟨Maps.isMap_empty,fun k _=>rfl,(fun _ _ h=>by cases h),(fun l h=>by cases h),(fun _ _ h=>by cases h)⟩
theorem wB.set {G:Int->Option Tl} (h:wB D aO G) {τ:Tl} (hk:G k=some τ) (τ':Tl):wB D aO (lQ G k (some τ')):=by
 refine⟨h.isMap,fun j hj=> ?_,fun j τj hj=> ?_,fun l hl=> ?_,fun j τj hj=> ?_⟩
 ·by_cases e:j=k
  ·subst e;rw[h.has j hj,hk,dL];rfl
  ·rw[h.has j hj,aJ _ _ e]
 ·by_cases e:j=k
  ·subst e;exact h.at_ j τ hk
  ·rw[aJ _ _ e] at hj;exact h.at_ j τj hj
 ·obtain⟨j,τj,rfl,hj⟩:=h.keys l hl
  by_cases e:j=k
  ·exact⟨j,τ',rfl,by rw[e,dL]⟩
  ·exact⟨j,τj,rfl,by rw[aJ _ _ e];exact hj⟩
 ·by_cases e:j=k
  ·subst e;exact h.wf j τ hk
  ·rw[aJ _ _ e] at hj;exact h.wf j τj hj
theorem wB.new {G:Int->Option Tl} (h:wB D aO G) (hw:(gi k).wf=true) (t r:Nat) (τ':Tl):
  wB (D.put (gi k) (.held (tp t))) (ic aO k (t,r)) (lQ G k (some τ')):=by
 refine⟨h.isMap.put _ _,fun j hj=> ?_,fun j τj hj zd=> ?_,fun l hl=> ?_,fun j τj hj=> ?_⟩
 ·by_cases e:j=k
  ·subst e;rw[Maps.has_put_same h.isMap (qF hj),dL];rfl
  ·rw[Maps.has_put_other (oG e),h.has j hj,aJ _ _ e]
 ·by_cases e:j=k
  ·subst e;rw[Maps.atKey_put_same h.isMap (qF hw)];simp[ic]
  ·rw[aJ _ _ e] at hj;rw[Maps.atKey_put_other (oG e),h.at_ j τj hj zd];simp[ic,e]
 ·by_cases e:l=gi k
  ·exact⟨k,τ',e,dL _ _ _⟩
  ·rw[Maps.has_put_other e] at hl;obtain⟨j,τj,rfl,hj⟩:=h.keys l hl;exact⟨j,τj,rfl,by rw[aJ _ _ (fun e'=>e (by rw[e']))];exact hj⟩
 ·by_cases e:j=k
  ·subst e;exact hw
  ·rw[aJ _ _ e] at hj;exact h.wf j τj hj
theorem wB.del {G:Int->Option Tl} (h:wB D aO G) (k:Int):wB (D.del (gi k)) aO (lQ G k none):=by
 refine⟨h.isMap.del _,fun j hj=> ?_,fun j τj hj zd=> ?_,fun l hl=> ?_,fun j τj hj=> ?_⟩
 ·by_cases e:j=k
  ·subst e;rw[Maps.has_del_same,dL];rfl
  ·rw[Maps.has_del_other (oG e),h.has j hj,aJ _ _ e]
 ·by_cases e:j=k
  ·subst e;rw[dL] at hj;cases hj
  ·rw[aJ _ _ e] at hj;rw[Maps.atKey_del_other (oG e),h.at_ j τj hj zd]
 ·by_cases e:l=gi k
  ·subst e;rw[Maps.has_del_same] at hl;cases hl
  ·rw[Maps.has_del_other e] at hl;obtain⟨j,τj,rfl,hj⟩:=h.keys l hl;exact⟨j,τj,rfl,by rw[aJ _ _ (fun e'=>e (by rw[e']))];exact hj⟩
 ·by_cases e:j=k
  ·subst e;rw[dL] at hj;cases hj
  ·rw[aJ _ _ e] at hj;exact h.wf j τj hj
structure fe (w:World) (b bm:Nat) (aO:Int->Nat×Nat) (m:Nat) (G:Int->Option Tl) (n:Nat) (D:DataW Value):Prop where
 le:n<=m
 own:w.ownsMap prog 3 gR bm n D
 dat:wB D aO G
 tals:∀k τ,G k=some τ->fD w (aO k).1 (aO k).2 m τ
 bmb:bm≠b
 nb:∀k τ,G k=some τ->(aO k).1≠b∧(aO k).2≠b∧(aO k).1≠bm∧(aO k).2≠bm
 inj:∀k k' τ τ',G k=some τ->G k'=some τ'->k≠k'->(aO k).1≠(aO k').1∧(aO k).2≠(aO k').2
def foot (b:Nat) (om:Option Nat) (aO:Int->Nat×Nat) (G:Int->Option Tl) (j:Nat):Prop:=j=b∨om=some j∨∃k τ,G k=some τ∧(j=(aO k).1∨j=(aO k).2)
theorem fe.mono {G:Int->Option Tl} (h:fe w b bm aO m G n D) (hm:m<=m'):fe w b bm aO m' G n D:=
 ⟨Nat.le_trans h.le hm,h.own,h.dat,fun k τ hk=>(h.tals k τ hk).mono hm,h.bmb,h.nb,h.inj⟩
theorem ownsMap_at {H:Type} {P:Program} {k:TypeId} {R:Value->Option (DataW H×List MemPlace)} {D:DataW H} (h:w.ownsMap P k R b n D) (e:w'.heap[b]? =w.heap[b]?):w'.ownsMap P k R b n D:=by
 obtain⟨es,c,hb,hr⟩:=h;exact⟨es,c,e.trans hb,hr⟩
theorem fe.kept {G:Int->Option Tl} (h:fe w b bm aO m G n D) (hk:∀j,foot b (some bm) aO G j->j≠b->w'.heap[j]? =w.heap[j]?):fe w' b bm aO m G n D:=
 ⟨h.le,ownsMap_at h.own (hk bm (.inr (.inl rfl)) h.bmb),h.dat,fun k τ hG=>(h.tals k τ hG).kept (hk _ (.inr (.inr ⟨k,τ,hG,.inl rfl⟩)) (h.nb k τ hG).1) (hk _ (.inr (.inr ⟨k,τ,hG,.inr rfl⟩)) (h.nb k τ hG).2.1),h.bmb,h.nb,h.inj⟩
theorem fe.lt {G:Int->Option Tl} (h:fe w b bm aO m G n D) (hj:foot b (some bm) aO G j) (hb:j≠b):j < w.heap.size:=by
 rcases hj with rfl | e | ⟨k,τ,hG,rfl | rfl⟩
 ·exact absurd rfl hb
 ·cases e;exact h.own.lt
 ·exact(h.tals k τ hG).lt.1
 ·exact(h.tals k τ hG).lt.2
theorem fe.set {G:Int->Option Tl} (h:fe w b bm aO m G n D) {τ τ':Tl} (hk:G k=some τ) (hm:m<=m')
  (hT:fD w' (aO k).1 (aO k).2 m' τ') (hb:∀j,j < w.heap.size->j≠b->j≠(aO k).1->j≠(aO k).2->w'.heap[j]? =w.heap[j]?):fe w' b bm aO m' (lQ G k (some τ')) n D:=by
 have hnb:=h.nb k τ hk
 have hg:∀j τj,lQ G k (some τ') j=some τj->∃τ0,G j=some τ0:=fun j τj hj=>by
  by_cases e:j=k
  ·exact⟨τ,by rw[e];exact hk⟩
  ·rw[aJ _ _ e] at hj;exact⟨τj,hj⟩
 refine⟨Nat.le_trans h.le hm,ownsMap_at h.own (hb bm h.own.lt h.bmb hnb.2.2.1.symm hnb.2.2.2.symm),h.dat.set hk τ',fun j τj hj=> ?_,h.bmb,fun j τj hj=> ?_,fun j j' τj Vi hj hj' hne=> ?_⟩
 ·by_cases e:j=k
  ·subst e;rw[dL] at hj;cases hj;exact hT
  ·rw[aJ _ _ e] at hj;have h1:=h.tals j τj hj;have h2:=h.nb j τj hj;have h3:=h.inj j k τj τ hj hk e;have h4:=h.tals k τ hk
   have n1:(aO j).1≠(aO k).2:=fun e1=>by
    obtain⟨n',D',_,⟨es,c,hb',_⟩,_⟩:=h4.own;have :=h1.blk;rw[e1,hb'] at this;cases this
   have n2:(aO j).2≠(aO k).1:=fun e1=>by
    obtain⟨n',D',_,⟨es,c,hb',_⟩,_⟩:=h1.own;have :=h4.blk;rw[<-e1,hb'] at this;cases this
   exact(h1.kept (hb _ h1.lt.1 h2.1 h3.1 n1) (hb _ h1.lt.2 h2.2.1 n2 h3.2)).mono hm
 ·obtain⟨τ0,h0⟩:=hg j τj hj;exact h.nb j τ0 h0
 ·obtain⟨τ0,h0⟩:=hg j τj hj;obtain⟨τ1,h1⟩:=hg j' Vi hj';exact h.inj j j' τ0 τ1 h0 h1 hne
theorem fe.new {G:Int->Option Tl} (h:fe w b bm aO m G n D) (hw:(gi k).wf=true) (hk:G k=none) {τ':Tl} (hlt:b < w.heap.size)
  (ht:w.heap.size<=t) (hr:w.heap.size<=r) (hown:w'.ownsMap prog 3 gR bm (n+1) (D.put (gi k) (.held (tp t)))) (hT:fD w' t r (m+1) τ') (hb:∀j,j < w.heap.size->j≠b->j≠bm->w'.heap[j]? =w.heap[j]?):
  fe w' b bm (ic aO k (t,r)) (m+1) (lQ G k (some τ')) (n+1) (D.put (gi k) (.held (tp t))):=by
 have Eu:=h.own.lt;refine⟨Nat.succ_le_succ h.le,hown,h.dat.new hw t r τ',fun j τj hj=> ?_,h.bmb,fun j τj hj=> ?_,fun j j' τj Vi hj hj' hne=> ?_⟩
 ·by_cases e:j=k
  ·subst e;rw[dL] at hj;cases hj;simpa[ic] using hT
  ·rw[aJ _ _ e] at hj;have h1:=h.tals j τj hj;have h2:=h.nb j τj hj;simp only[ic,e,if_false];exact(h1.kept (hb _ h1.lt.1 h2.1 h2.2.2.1) (hb _ h1.lt.2 h2.2.1 h2.2.2.2)).mono (Nat.le_succ _)
 ·by_cases e:j=k
  ·subst e;simp only[ic,if_true];omega
  ·rw[aJ _ _ e] at hj;simp only[ic,e,if_false];exact h.nb j τj hj
 ·by_cases e:j=k
  ·subst e
   have e':j'≠j:=fun e=>hne e.symm
   rw[aJ _ _ e'] at hj';have h1:=h.tals j' Vi hj';simp only[ic,if_true,e',if_false];have :=h1.lt;omega
  ·rw[aJ _ _ e] at hj
   by_cases e':j'=k
   ·subst e';have h1:=h.tals j τj hj;simp only[ic,if_true,e,if_false];have :=h1.lt;omega
   ·rw[aJ _ _ e'] at hj';simp only[ic,e,e',if_false];exact h.inj j j' τj Vi hj hj' hne
theorem fe.del {G:Int->Option Tl} (h:fe w b bm aO m G n D) (k:Int)
  (hown:w'.ownsMap prog 3 gR bm n (D.del (gi k))) (hb:∀j,j < w.heap.size->j≠b->j≠bm->w'.heap[j]? =w.heap[j]?):fe w' b bm aO m (lQ G k none) n (D.del (gi k)):=by
 have hg:∀j τj,lQ G k none j=some τj->G j=some τj:=fun j τj hj=>by
  by_cases e:j=k
  ·subst e;rw[dL] at hj;cases hj
  ·rw[aJ _ _ e] at hj;exact hj
 refine⟨h.le,hown,h.dat.del k,fun j τj hj=> ?_,h.bmb,fun j τj hj=>h.nb j τj (hg j τj hj),fun j j' τj Vi hj hj' hne=>h.inj j j' τj Vi (hg j τj hj) (hg j' Vi hj') hne⟩;have h1:=h.tals j τj (hg j τj hj);have h2:=h.nb j τj (hg j τj hj);exact h1.kept (hb _ h1.lt.1 h2.1 h2.2.2.1) (hb _ h1.lt.2 h2.2.1 h2.2.2.2)
theorem fe.look {G:Int->Option Tl} (h:fe w b bm aO m G n D) (hW:W.heap[bm]? =w.heap[bm]?) (hw:(gi k).wf=true) {τ:Tl} (hk:G k=some τ):
  (Instr.lookup 104 (.map (some bm)) (.int .i64 k) true).run prog W= .ok (.tuple #[tp (aO k).1,.bool true]) W:=by
 obtain⟨v,ps,hrun,hv⟩:=(ownsMap_at h.own hW).look_ok fJ underlying104 (Cz W) (zd:= .held (.pointer none)) (zp:=[]) rfl (yt hw);rw[h.dat.at_ k τ hk] at hv;simp only[gR,Option.some.injEq,Prod.mk.injEq,DataW.held.injEq] at hv;rw[hrun,hv.1,h.dat.has k hw,hk];rfl
theorem fe.look1 {G:Int->Option Tl} (h:fe w b bm aO m G n D) (hW:W.heap[bm]? =w.heap[bm]?) (hw:(gi k).wf=true) {τ:Tl} (hk:G k=some τ):
  (Instr.lookup 104 (.map (some bm)) (.int .i64 k) false).run prog W= .ok (tp (aO k).1) W:=by
 obtain⟨v,ps,hrun,hv⟩:=(ownsMap_at h.own hW).lookup fJ underlying104 (Cz W) (zd:= .held (.pointer none)) (zp:=[]) rfl (yt hw);rw[h.dat.at_ k τ hk] at hv;simp only[gR,Option.some.injEq,Prod.mk.injEq,DataW.held.injEq] at hv;rw[hrun,hv.1]
theorem fe.look_none {G:Int->Option Tl} (h:fe w b bm aO m G n D) (hW:W.heap[bm]? =w.heap[bm]?) (hw:(gi k).wf=true) (hk:G k=none):
  (Instr.lookup 104 (.map (some bm)) (.int .i64 k) true).run prog W= .ok (.tuple #[.pointer none,.bool false]) W:=by
 obtain⟨es,clock,hb,F,_,rfl⟩:=ownsMap_at h.own hW
 rcases Maps.fit_look true fJ underlying104 (Cz W) hb F (yt hw) with⟨hrun,_,hat⟩ | ⟨e0,y,_,_,hrun,hRv,hat,_⟩
 ·exact hrun
 ·have h1:=h.dat.has k hw;rw[Maps.has_true_of_atKey hat,hk] at h1;cases h1
structure CB (w:World) (b o:Nat) (om:Option Nat) (aO:Int->Nat×Nat) (m:Nat) (G:Int->Option Tl):Prop where
 blk:∃cs T,w.heap[b]? =some (.cells cs T)∧cs[o]? =some (.map om)
 map:(om=none∧G=fun _=>none)∨∃bm n D,om=some bm∧fe w b bm aO m G n D
theorem CB.blt {G:Int->Option Tl} (h:CB w b o om aO m G):b < w.heap.size:=by
 obtain⟨cs,T,h1,_⟩:=h.blk;exact(Array.getElem?_eq_some_iff.1 h1).1
theorem CB.lt {G:Int->Option Tl} (h:CB w b o om aO m G) (hj:foot b om aO G j):j < w.heap.size:=by
 by_cases e:j=b
 ·rw[e];exact h.blt
 ·rcases h.map with⟨rfl,rfl⟩ | ⟨bm,n,D,rfl,hm⟩
  ·rcases hj with h1 | h1 | ⟨k,τ,h1,_⟩
   ·exact absurd h1 e
   ·cases h1
   ·cases h1
  ·exact hm.lt hj e
theorem CB.kept {G:Int->Option Tl} (h:CB w b o om aO m G) (hk:∀j,foot b om aO G j->w'.heap[j]? =w.heap[j]?):CB w' b o om aO m G:=by
 refine⟨?_,?_⟩
 ·obtain⟨cs,T,h1,h2⟩:=h.blk;exact⟨cs,T,(hk b (.inl rfl)).trans h1,h2⟩
 ·rcases h.map with h1 | ⟨bm,n,D,rfl,hm⟩
  ·exact .inl h1
  ·exact .inr ⟨bm,n,D,rfl,hm.kept fun j hj _=>hk j hj⟩
theorem CB.below {G:Int->Option Tl} (h:CB w b o om aO m G) (hb:Below w.heap.size w w'):CB w' b o om aO m G:=h.kept fun _ hj=>hb.block _ (h.lt hj)
theorem CB.mono {G:Int->Option Tl} (h:CB w b o om aO m G) (hm:m<=m'):CB w b o om aO m' G:=
 ⟨h.blk,h.map.imp id fun⟨bm,n,D,e,h1⟩=>⟨bm,n,D,e,h1.mono hm⟩⟩
theorem CB.cell {G:Int->Option Tl} (h:CB w b o om aO m G):w.cell? ⟨b,o,none⟩=some (.map om)∧w.frozen? ⟨b,o,none⟩=false:=by
 obtain⟨cs,T,h1,h2⟩:=h.blk;exact⟨by rw[cell_of_block h1];exact h2,unfrozen_of_block h1 o⟩
theorem fD.cells {τ:Tl} (h:fD w t r m τ):w.cell? ⟨t,0,none⟩=some (.int .i64 τ.c)∧w.cell? ⟨t,1,none⟩=some (.int .i64 τ.s)∧w.cell? ⟨t,2,none⟩=some (.map (some r))∧
  w.frozen? ⟨t,0,none⟩=false∧w.frozen? ⟨t,1,none⟩=false∧w.frozen? ⟨t,2,none⟩=false:=by
 refine⟨?_,?_,?_,unfrozen_of_block h.blk 0,unfrozen_of_block h.blk 1,unfrozen_of_block h.blk 2⟩ <;>(rw[cell_of_block h.blk];rfl)
structure kF (S:Nat->Prop) (b o:Nat) (w w':World):Prop where
 os:w'.os=w.os
 tape:w'.tape=w.tape
 output:w'.output=w.output
 size:w.heap.size<=w'.heap.size
 block:∀k,k < w.heap.size->¬S k->w'.heap[k]? =w.heap[k]?
 this:∀cs T,w.heap[b]? =some (.cells cs T)->∃cs':Array Value,w'.heap[b]? =some (.cells cs' T)∧cs'.size=cs.size∧∀i,i≠o->cs'[i]? =cs[i]?
theorem kF.of_below (h:Below w.heap.size w w'):kF S b o w w':=
 ⟨h.os,h.tape,h.output,h.size,fun k hk _=>h.block k hk,fun cs _ hc=>⟨cs,(h.block b (Array.getElem?_eq_some_iff.1 hc).1).trans hc,rfl,fun _ _=>rfl⟩⟩
theorem kF.trans {S':Nat->Prop} {u v:World} (h:kF S b o u v) (k:kF S' b o v w) (hS:∀j,j < u.heap.size->S' j->S j):kF S b o u w:=
 ⟨k.os.trans h.os,k.tape.trans h.tape,k.output.trans h.output,Nat.le_trans h.size k.size,fun j hj hn=>(k.block j (Nat.lt_of_lt_of_le hj h.size) (fun e=>hn (hS j hj e))).trans (h.block j hj hn),fun cs T hc=>by
  obtain⟨cs1,h1,h2,h3⟩:=h.this cs T hc;obtain⟨cs2,k1,k2,k3⟩:=k.this cs1 T h1
  exact⟨cs2,k1,k2.trans h2,fun i hi=>(k3 i hi).trans (h3 i hi)⟩⟩
theorem kF.below {B:Nat} (h:kF S b o w w') (hB:B<=w.heap.size) (hS:∀k,S k->B<=k):Below B w w':=
 ⟨h.os,h.tape,h.output,h.size,fun k hk=>h.block k (by omega) (fun e=>by have :=hS k e;omega)⟩
def lu (w:World) (b o m:Nat) (S:Nat->Prop) (G:Int->Option Tl):Prop:=∃om aO,CB w b o om aO m G∧(∀j,foot b om aO G j->S j)∧∀j,S j->j < w.heap.size
theorem lu.kept {G:Int->Option Tl} (h:lu w b o m S G) (hs:w.heap.size<=w'.heap.size) (hk:∀j,S j->w'.heap[j]? =w.heap[j]?):lu w' b o m S G:=by
 obtain⟨om,aO,h1,h2,h3⟩:=h;exact⟨om,aO,h1.kept fun j hj=>hk j (h2 j hj),h2,fun j hj=>Nat.lt_of_lt_of_le (h3 j hj) hs⟩
theorem lu.below {G:Int->Option Tl} (h:lu w b o m S G) (hb:Below w.heap.size w w'):lu w' b o m S G:=
 h.kept hb.size fun j hj=>hb.block j (by obtain⟨_,_,_,_,h3⟩:=h;exact h3 j hj)
theorem lu.mono {G:Int->Option Tl} (h:lu w b o m S G) (hm:m<=m'):lu w b o m' S G:=by
 obtain⟨om,aO,h1,h2,h3⟩:=h;exact⟨om,aO,h1.mono hm,h2,h3⟩
theorem lu.in {G:Int->Option Tl} (h:lu w b o m S G):S b∧b < w.heap.size:=by
 obtain⟨om,aO,h1,h2,h3⟩:=h;exact⟨h2 b (.inl rfl),h1.blt⟩
end
section
open Go.Proofs.Tryz Go.Joins
theorem Ev (bm:Nat) (w:World):(binOp .eql 104 (.map (some bm)) (.map none)).run prog w= .ok (.bool false) w:=by kernel_rfl
theorem OG (w:World):(binOp .eql 104 (.map none) (.map none)).run prog w= .ok (.bool true) w:=by kernel_rfl
theorem zJ (t r m:Nat) (τ:Tl) (w:World) (h:fD w t r m τ) (x:Int) (hx:(gi x).wf=true) (h1:τ.R.count x=1):
  Calls prog 250 #[tp t,.int .i64 x] w fun e w'=>e= .returned (.tuple #[])∧w'.heap.size=w.heap.size∧w.grownBy w' (some r)∧∃n D,n<=m+1∧w'.ownsMap prog 3 (plainElem (H:=Unit) prog 3) r n D∧jU D (τ.R.erase x):=by
 have hc:=h.cells;obtain⟨n,D,hn,hown,hcn⟩:=h.own;have hrun:=AO hown hcn x hx;rw[h1] at hrun;obtain⟨W2,hd,hown2,ht⟩:=hown.drop fJ underlying281 (yt hx) 0
 have hsz:W2.heap.size=w.heap.size:=by
  obtain⟨_,_,_,_,_,rfl⟩:=ht;simp[ChangeMaps.setBlock]
 have hpost:Hid (W2.heap.size=w.heap.size∧w.grownBy W2 (some r)∧∃n D,n<=m+1∧W2.ownsMap prog 3 (plainElem (H:=Unit) prog 3) r n D∧jU D (τ.R.erase x)):=
  ⟨hsz,ht.grown,n,_,by omega,hown2,hcn.del x h1⟩
 clear h hsz ht hown2 hown hcn;go_enter func250,ntmps250;go_wp2
 (try simp only[Exit.inBlock,Exit.then])
 refine bodyPost_ret (results_none rfl _ _ _) rfl ?_;exact⟨rfl,hpost.out⟩
theorem yw (t r m:Nat) (τ:Tl) (w:World) (h:fD w t r m τ) (x:Int) (hx:(gi x).wf=true) (h2:2<=τ.R.count x) (hm:m < 100000000):
  Calls prog 250 #[tp t,.int .i64 x] w fun e w'=>e= .returned (.tuple #[])∧w'.heap.size=w.heap.size∧w.grownBy w' (some r)∧∃n D,n<=m+1∧w'.ownsMap prog 3 (plainElem (H:=Unit) prog 3) r n D∧jU D (τ.R.erase x):=by
 have hc:=h.cells;have hlen:=h.len;obtain⟨n,D,hn,hown,hcn⟩:=h.own;have hle:τ.R.count x<=τ.R.length:=List.count_le_length;have hrun:=AO hown hcn x hx;obtain⟨W2,hd,hown2,ht⟩:=hown.store fJ underlying281 (by unfold maxLen;omega) (yt hx) (plainElem_int (H:=Unit) (a:=(τ.R.count x:Int) -1) underlying3 (WalkArith.wf_i64 (by omega)))
 have hsz:W2.heap.size=w.heap.size:=by
  obtain⟨_,_,_,_,_,rfl⟩:=ht;simp[ChangeMaps.setBlock]
 have hpost:Hid (W2.heap.size=w.heap.size∧w.grownBy W2 (some r)∧∃n D,n<=m+1∧W2.ownsMap prog 3 (plainElem (H:=Unit) prog 3) r n D∧jU D (τ.R.erase x)):=
  ⟨hsz,ht.grown,n+1,_,by omega,hown2,hcn.less x hx h2⟩
 have hlo:2<=(τ.R.count x:Int):=by omega
 have hhi:(τ.R.count x:Int) < 100000000:=by omega
 clear h hsz ht hown2 hown hcn hle h2;generalize (τ.R.count x:Int)=c at *;go_enter func250,ntmps250;go_wp2
 go_end0
 exact⟨rfl,hpost.out⟩
theorem zK (t r m:Nat) (τ:Tl) (w:World) (h:fD w t r m τ) (x:Int) (hx:x∈τ.R) (hm:m < 100000000):
  Calls prog 250 #[tp t,.int .i64 x] w fun e w'=>e= .returned (.tuple #[])∧w'.heap.size=w.heap.size∧w.grownBy w' (some r)∧∃n D,n<=m+1∧w'.ownsMap prog 3 (plainElem (H:=Unit) prog 3) r n D∧jU D (τ.R.erase x):=by
 have hwf:(gi x).wf=true:=by obtain⟨n,D,hn,hown,hcn⟩:=h.own;exact hcn.wf x hx
 have hpos:0 < τ.R.count x:=List.count_pos_iff.2 hx
 by_cases h1:τ.R.count x=1
 ·exact zJ t r m τ w h x hwf h1
 ·exact yw t r m τ w h x hwf (by omega) hm
def l6 (w:World) (x:O) (t:Nat) (c s:Int):World:=
 if x.hl then(((w.setCell ⟨t,0,none⟩ (.int .i64 (c+1))).setCell ⟨t,1,none⟩ (.int .i64 (wrap64 (s+x.lv)))).alloc (.cells (ah x).toArray 89)).drew.drew
 else((w.setCell ⟨t,0,none⟩ (.int .i64 (c+1))).alloc (.cells (ah x).toArray 89)).drew
theorem JY {w:World} {t r:Nat} (τ:Tl) (x:O) (h:w.heap[t]? =some (.cells #[.int .i64 τ.c,.int .i64 τ.s,.map (some r)] 283)):
  (l6 w x t τ.c τ.s).heap[t]? =some (.cells #[.int .i64 (bE τ x).c,.int .i64 (bE τ x).s,.map (some r)] 283)∧(l6 w x t τ.c τ.s).heap.size=w.heap.size+1∧
  (∀j,j < w.heap.size->j≠t->(l6 w x t τ.c τ.s).heap[j]? =w.heap[j]?)∧(l6 w x t τ.c τ.s).os=w.os∧(l6 w x t τ.c τ.s).tape=w.tape∧(l6 w x t τ.c τ.s).output=w.output:=by
 have hlt:t < w.heap.size:=(Array.getElem?_eq_some_iff.1 h).1
 have hb1:(w.setCell ⟨t,0,none⟩ (.int .i64 ((τ.c:Int)+1))).heap[t]? =some (.cells #[.int .i64 ((τ.c:Int)+1),.int .i64 τ.s,.map (some r)] 283):=by
  rw[block_setCell h];rfl
 have ho:∀j,j≠t->(w.setCell ⟨t,0,none⟩ (.int .i64 ((τ.c:Int)+1))).heap[j]? =w.heap[j]? :=fun j hne=>Below.heap_setCell _ _ _ _ hne
 have hput:(bE τ x).c=τ.c+1:=rfl
 have e1:(((τ.c+1:Nat):Int))=(τ.c:Int)+1:=by omega
 rw[hput,e1];unfold l6;cases hl:x.hl
 ·simp only[Bool.false_eq_true,if_false];refine⟨?_,by simp,fun j hj hne=> ?_,rfl,rfl,rfl⟩
  ·refine(Below.heap_alloc _ _ t (by simpa using hlt)).trans ?_;rw[hb1];simp[bE,hl]
  ·exact(Below.heap_alloc _ _ j (by simpa using hj)).trans (ho j hne)
 ·simp only[if_true];refine⟨?_,by simp,fun j hj hne=> ?_,rfl,rfl,rfl⟩
  ·refine(Below.heap_alloc _ _ t (by simpa using hlt)).trans ?_;rw[block_setCell hb1];simp[bE,hl]
  ·refine(Below.heap_alloc _ _ j (by simpa using hj)).trans ?_;rw[Below.heap_setCell _ _ _ _ hne];exact ho j hne
theorem Lc (b o bm m n:Nat) (aO:Int->Nat×Nat) (G:Int->Option Tl) (D:DataW Value) (w:World) (hcell:w.cell? ⟨b,o,none⟩=some (.map (some bm))) (hblt:b < w.heap.size) (h:fe w b bm aO m G n D) (x:O) (hx:x.wf) (τ:Tl) (hk:G x.k=some τ) (hm:m < 100000000):
  Calls prog 182 #[.pointer (some ⟨b,o,none⟩),vO x] w fun e w'=>e= .returned (.tuple #[])∧
   ((x.hr=false∧w'=l6 w x (aO x.k).1 τ.c τ.s)∨(x.hr=true∧∃n D,n<=m+1∧w'.ownsMap prog 3 (plainElem (H:=Unit) prog 3) (aO x.k).2 n D∧jU D (x.rv::τ.R)∧(l6 w x (aO x.k).1 τ.c τ.s).drew.grownBy w' (some (aO x.k).2))):=by
 have hT:=h.tals x.k τ hk;have eD:=h.look (W:=(w.alloc (.cells (ah x).toArray 89)).drew) (Below.heap_alloc w _ bm h.own.lt) hx.k hk;have hc:=hT.cells;have htlt:=hT.lt;have hnb:=h.nb x.k τ hk
 have hlo:(1:Int)<=τ.c:=by have :=hT.lo;omega
 have hhi:(τ.c:Int) < 100000000:=by have :=hT.hi;omega
 have hne:=hT.ne;obtain⟨p1,p2,p3,p4,p5,p6⟩:=JY τ x hT.blk;obtain⟨nr,Dr,hnr,l7,hcr⟩:=hT.own;have OH:((l6 w x (aO x.k).1 τ.c τ.s).drew).ownsMap prog 3 (plainElem (H:=Unit) prog 3) (aO x.k).2 nr Dr:=ownsMap_at l7 (p3 _ htlt.2 hne.symm);have OI:τ.R.count x.rv<=τ.R.length:=List.count_le_length;have hlen:=hT.len;have hrl:=AO OH hcr x.rv hx.rv;obtain⟨W2,hst,hown2,htn⟩:=OH.store fJ underlying281 (by unfold maxLen;omega) (yt hx.rv) (plainElem_int (H:=Unit) (a:=(τ.R.count x.rv:Int)+1) underlying3 (WalkArith.wf_i64 (by omega)))
 have hend:Hid (∃n D,n<=m+1∧W2.ownsMap prog 3 (plainElem (H:=Unit) prog 3) (aO x.k).2 n D∧jU D (x.rv::τ.R)∧(l6 w x (aO x.k).1 τ.c τ.s).drew.grownBy W2 (some (aO x.k).2)):=
  ⟨nr+1,_,by omega,hown2,hcr.put x.rv hx.rv,htn.grown⟩
 have hcnt:(τ.R.count x.rv:Int) < 100000000:=by omega
 have aa5:0<=(τ.R.count x.rv:Int):=by omega
 clear p1 p2 p3 p4 p5 p6 OH hown2 htn hcr l7 hnr h hT hk OI hlen;generalize (τ.R.count x.rv:Int)=cn at *;generalize (aO x.k).1=t at *;generalize (aO x.k).2=r at *;generalize (τ.c:Int)=c at *;generalize τ.s=s at *;have hq:=Ev bm;obtain⟨k,lk,lt,lv,rk,rt,rv,hl,hr⟩:=x
 cases hl <;>cases hr
 ·clear hend hrl hst;simp only[vO,ah,l6,Bool.false_eq_true,if_false] at eD⊢;go_enter func182,ntmps182;go_wp2
  go_region
  all_goals (try go_wp2)
  all_goals go_end0
  all_goals exact⟨rfl,.inl ⟨trivial,rfl⟩⟩
 ·have hend':=hend;clear hend;simp only[vO,ah,l6,Bool.false_eq_true,if_false] at eD hrl hst⊢;simp only[ah,l6,Bool.false_eq_true,if_false] at hend';have hend:Hid _:=hend';clear hend';go_enter func182,ntmps182;go_wp2
  go_region
  all_goals (try go_wp2)
  all_goals go_region
  all_goals (try go_wp2)
  all_goals go_end0
  all_goals exact⟨rfl,.inr ⟨trivial,hend⟩⟩
 ·clear hend hrl hst;simp only[vO,ah,l6,Bool.false_eq_true,if_true] at eD⊢;go_enter func182,ntmps182;go_wp2
  go_region
  all_goals (try go_wp2)
  all_goals go_region
  all_goals (try go_wp2)
  all_goals go_end0
  all_goals exact⟨rfl,.inl ⟨trivial,rfl⟩⟩
 ·have hend':=hend;clear hend;simp only[vO,ah,l6,if_true] at eD hrl hst⊢;simp only[ah,l6,if_true] at hend';have hend:Hid _:=hend';clear hend';go_enter func182,ntmps182;go_wp2
  go_region
  all_goals (try go_wp2)
  all_goals go_region
  all_goals (try go_wp2)
  all_goals go_region
  all_goals (try go_wp2)
  all_goals go_end0
  all_goals exact⟨rfl,.inr ⟨trivial,hend⟩⟩
end
section
open Go.Proofs.Tryz Go.Joins
variable {V W2:World} {b bm m n:Nat} {aO:Int->Nat×Nat} {G:Int->Option Tl} {D:DataW Value}
def jk (W:World) (x:O) (t:Nat):World:=
 if x.hl then((W.setCell ⟨t,0,none⟩ (.int .i64 1)).setCell ⟨t,1,none⟩ (.int .i64 (wrap64 x.lv))).drew
 else W.setCell ⟨t,0,none⟩ (.int .i64 1)
abbrev τ0:Tl:=⟨0,0,[]⟩
theorem JZ {W:World} {t r:Nat} (x:O) (h:W.heap[t]? =some (.cells #[.int .i64 0,.int .i64 0,.map (some r)] 283)):
  (jk W x t).heap[t]? =some (.cells #[.int .i64 (bE τ0 x).c,.int .i64 (bE τ0 x).s,.map (some r)] 283)∧(jk W x t).heap.size=W.heap.size∧
  (∀j,j≠t->(jk W x t).heap[j]? =W.heap[j]?)∧(jk W x t).os=W.os∧(jk W x t).tape=W.tape∧(jk W x t).output=W.output:=by
 have hb1:(W.setCell ⟨t,0,none⟩ (.int .i64 1)).heap[t]? =some (.cells #[.int .i64 1,.int .i64 0,.map (some r)] 283):=by
  rw[block_setCell h];rfl
 have ho:∀j,j≠t->(W.setCell ⟨t,0,none⟩ (.int .i64 1)).heap[j]? =W.heap[j]? :=fun j hne=>Below.heap_setCell _ _ _ _ hne
 unfold jk;cases hl:x.hl
 ·simp only[Bool.false_eq_true,if_false];refine⟨?_,by simp,ho,rfl,rfl,rfl⟩;rw[hb1];simp[bE,hl]
 ·simp only[if_true];refine⟨?_,by simp,fun j hne=> ?_,rfl,rfl,rfl⟩
  ·refine(block_setCell hb1 _).trans ?_;simp[bE,hl]
  ·refine(Below.heap_setCell _ _ _ _ hne).trans ?_;exact ho j hne
def ug (V:World):World:=((V.alloc (.map #[] 0)).alloc (.cells #[.int .i64 0,.int .i64 0,.map (some V.heap.size)] 283)).drew
structure NewAt (V W2:World) (bm n:Nat) (D:DataW Value) (k:Int):Prop where
 own:W2.ownsMap prog 3 gR bm (n+1) (D.put (gi k) (.held (tp (V.heap.size+1))))
 size:W2.heap.size=V.heap.size+2
 block:∀j,j < V.heap.size->j≠bm->W2.heap[j]? =V.heap[j]?
 rb:W2.heap[V.heap.size]? =some (.map #[] 0)
 tb:W2.heap[V.heap.size+1]? =some (.cells #[.int .i64 0,.int .i64 0,.map (some V.heap.size)] 283)
 os:W2.os=V.os
 tape:W2.tape=V.tape
 output:W2.output=V.output
theorem OJ (h:fe V b bm aO m G n D) {k:Int} (hw:(gi k).wf=true) (hm:m < 100000000):
  ∃W2,(Instr.mapUpdate 104 (.map (some bm)) (.int .i64 k) (tp (V.heap.size+1))).run prog (ug V)= .ok () W2∧NewAt V W2 bm n D k:=by
 have hlt:=h.own.lt
 have hsz:(ug V).heap.size=V.heap.size+2:=by unfold ug;simp
 have hb:∀j,j < V.heap.size->(ug V).heap[j]? =V.heap[j]? :=fun j hj=>by
  unfold ug;refine(Below.heap_alloc _ _ j (by simp;omega)).trans (Below.heap_alloc _ _ j hj)
 have hown:(ug V).ownsMap prog 3 gR bm n D:=ownsMap_at h.own (hb bm hlt)
 have hr:(ug V).heap[V.heap.size]? =some (.map #[] 0):=by
  unfold ug;refine(Below.heap_alloc _ _ _ (by simp)).trans ?_;exact(MapKept.heap_alloc V _).1
 have ht:(ug V).heap[V.heap.size+1]? =some (.cells #[.int .i64 0,.int .i64 0,.map (some V.heap.size)] 283):=by
  have :=(MapKept.heap_alloc (V.alloc (.map #[] 0)) (.cells #[.int .i64 0,.int .i64 0,.map (some V.heap.size)] 283)).1
  have e:(V.alloc (.map #[] 0)).heap.size=V.heap.size+1:=by simp
  rw[e] at this;exact this
 obtain⟨W2,hrun,hown2,htn⟩:=hown.store fJ underlying104 (by have :=h.le;unfold maxLen;omega) (yt hw) (val:=tp (V.heap.size+1)) (d:= .held (tp (V.heap.size+1))) (ps:=[]) rfl;have hg:=htn.grown
 have hs2:W2.heap.size=V.heap.size+2:=by
  obtain⟨_,_,_,_,_,rfl⟩:=htn;simp[ChangeMaps.setBlock,hsz]
 refine⟨W2,hrun,hown2,hs2,fun j hj hne=> ?_,?_,?_,hg.os,hg.tape,hg.output⟩
 ·rw[hg.block j (by omega) (fun e=>hne (by injection e))];exact hb j hj
 ·rw[hg.block _ (by omega) (fun e=>by injection e;omega)];exact hr
 ·rw[hg.block _ (by omega) (fun e=>by injection e;omega)];exact ht
def Ends (V W':World) (b bm m n:Nat) (aO:Int->Nat×Nat) (G:Int->Option Tl) (D:DataW Value) (x:O):Prop:=
 fe W' b bm (ic aO x.k (V.heap.size+1,V.heap.size)) (m+1) (lQ G x.k (some (bE τ0 x))) (n+1) (D.put (gi x.k) (.held (tp (V.heap.size+1))))∧
 (∀j,j < V.heap.size->j≠bm->W'.heap[j]? =V.heap[j]?)∧V.heap.size<=W'.heap.size∧W'.os=V.os∧W'.tape=V.tape∧W'.output=V.output
theorem Uk (h:fe V b bm aO m G n D) (hb:b < V.heap.size) (x:O) (hx:x.wf) (hk:G x.k=none) (hN:NewAt V W2 bm n D x.k) (hr:x.hr=false):
  Ends V (jk W2 x (V.heap.size+1)) b bm m n aO G D x:=by
 obtain⟨p1,p2,p3,p4,p5,p6⟩:=JZ x hN.tb;have Eu:=h.own.lt;have hs:=hN.size;refine⟨h.new hx.k hk hb (by omega) (by omega) (ownsMap_at hN.own (p3 _ (by omega))) ?_ (fun j hj _ hne=>(p3 j (by omega)).trans (hN.block j hj hne)),fun j hj hne=>(p3 j (by omega)).trans (hN.block j hj hne),by omega,p4.trans hN.os,p5.trans hN.tape,p6.trans hN.output⟩;refine⟨p1,⟨0,.map [],by omega,?_,?_⟩,by simp[bE],by simp[bE],by simp[bE,hr]⟩
 ·have h0:=World.ownsMap_made (H:=Unit) V prog 3 (plainElem prog 3);refine ownsMap_at h0 ?_;rw[(MapKept.heap_alloc V _).1,p3 _ (by omega),hN.rb]
 ·have :(bE τ0 x).R=[]:=by simp[bE,hr]
  rw[this];exact yu
theorem Ul (h:fe V b bm aO m G n D) (hb:b < V.heap.size) (x:O) (hx:x.wf) (hk:G x.k=none) (hN:NewAt V W2 bm n D x.k) (hr:x.hr=true):
  ∃W3,(Instr.lookup 281 (.map (some V.heap.size)) (.int .i64 x.rv) false).run prog (jk W2 x (V.heap.size+1)).drew= .ok (.int .i64 0) (jk W2 x (V.heap.size+1)).drew∧
   (Instr.mapUpdate 281 (.map (some V.heap.size)) (.int .i64 x.rv) (.int .i64 1)).run prog (jk W2 x (V.heap.size+1)).drew= .ok () W3∧Ends V W3 b bm m n aO G D x:=by
 obtain⟨p1,p2,p3,p4,p5,p6⟩:=JZ x hN.tb;have Eu:=h.own.lt;have hs:=hN.size
 have h0:(jk W2 x (V.heap.size+1)).drew.ownsMap prog 3 (plainElem (H:=Unit) prog 3) V.heap.size 0 (.map []):=by
  refine ownsMap_at (World.ownsMap_made (H:=Unit) V prog 3 (plainElem prog 3)) ?_;rw[(MapKept.heap_alloc V _).1];exact(p3 _ (by omega)).trans hN.rb
 have hl:=AO h0 yu x.rv hx.rv;obtain⟨W3,hrun,hown3,htn⟩:=h0.store fJ underlying281 (by unfold maxLen;omega) (yt hx.rv) (plainElem_int (H:=Unit) (a:=1) underlying3 (by decide));have hg:=htn.grown
 have q:∀j,j < W2.heap.size->j≠V.heap.size->W3.heap[j]? =(jk W2 x (V.heap.size+1)).heap[j]? :=fun j hj hne=>hg.block j (by show j < (jk W2 x (V.heap.size+1)).heap.size;omega) (fun e=>hne (by injection e))
 have hs3:(jk W2 x (V.heap.size+1)).heap.size<=W3.heap.size:=hg.size;refine⟨W3,hl,hrun,h.new hx.k hk hb (by omega) (by omega) (ownsMap_at hN.own ((q _ (by omega) (by omega)).trans (p3 _ (by omega)))) ?_ (fun j hj _ hne=>(q j (by omega) (by omega)).trans ((p3 j (by omega)).trans (hN.block j hj hne))),fun j hj hne=>(q j (by omega) (by omega)).trans ((p3 j (by omega)).trans (hN.block j hj hne)),by omega,hg.os.trans (p4.trans hN.os),hg.tape.trans (p5.trans hN.tape),hg.output.trans (p6.trans hN.output)⟩;refine⟨(q _ (by omega) (by omega)).trans p1,⟨0+1,_,by omega,hown3,?_⟩,by simp[bE],by simp[bE],by simp[bE,hr]⟩
 have :(bE τ0 x).R=[x.rv]:=by simp[bE,hr]
 rw[this];exact yu.put x.rv hx.rv
end
section
open Go.Proofs.Tryz Go.Joins
theorem AP {W:World} {a:Nat} {x:O} (h:W.heap[a]? =some (.cells (ah x).toArray 89)):
  W.cell? ⟨a,0,none⟩=some (.int .i64 x.k)∧W.cell? ⟨a,3,none⟩=some (.int .i64 x.lv)∧W.cell? ⟨a,6,none⟩=some (.int .i64 x.rv)∧W.cell? ⟨a,7,none⟩=some (.bool x.hl)∧W.cell? ⟨a,8,none⟩=some (.bool x.hr):=by
 refine⟨?_,?_,?_,?_,?_⟩ <;>(rw[cell_of_block h];rfl)
theorem AQ {V W2:World} {bm n:Nat} {D:DataW Value} {k:Int} (h:NewAt V W2 bm n D k):
  W2.cell? ⟨V.heap.size+1,0,none⟩=some (.int .i64 0)∧W2.cell? ⟨V.heap.size+1,1,none⟩=some (.int .i64 0)∧W2.cell? ⟨V.heap.size+1,2,none⟩=some (.map (some V.heap.size))∧W2.frozen? ⟨V.heap.size+1,0,none⟩=false∧W2.frozen? ⟨V.heap.size+1,1,none⟩=false:=by
 refine⟨?_,?_,?_,unfrozen_of_block h.tb 0,unfrozen_of_block h.tb 1⟩ <;>(rw[cell_of_block h.tb];rfl)
def lookW (w:World) (x:O):World:=(w.alloc (.cells (ah x).toArray 89)).drew
theorem Sz (b o bm m n:Nat) (aO:Int->Nat×Nat) (G:Int->Option Tl) (D:DataW Value) (w:World) (hcell:w.cell? ⟨b,o,none⟩=some (.map (some bm))) (hblt:b < w.heap.size) (h:fe w b bm aO m G n D) (x:O) (hx:x.wf) (hk:G x.k=none) (hm:m < 100000000):
  Calls prog 182 #[.pointer (some ⟨b,o,none⟩),vO x] w fun e w'=>e= .returned (.tuple #[])∧Ends (lookW w x) w' b bm m n aO G D x:=by
 have hV:fe (lookW w x) b bm aO m G n D:=h.kept fun j hj hne=>Below.heap_alloc w _ j (h.lt hj hne)
 have Ew:(lookW w x).heap.size=w.heap.size+1:=by simp[lookW]
 have XO:=h.own.lt;have eD:=hV.look_none rfl hx.k hk;obtain⟨W2,OL,hN⟩:=OJ hV hx.k hm
 have hst:(Instr.mapUpdate 104 (.map (some bm)) (.int .i64 x.k) (tp (w.heap.size+1+1))).run prog ((((w.alloc (.cells (ah x).toArray 89)).alloc (.map #[] 0)).alloc (.cells #[.int .i64 0,.int .i64 0,.map (some (w.heap.size+1))] 283)).drew.drew)= .ok () W2:=by
  have e:ug (lookW w x)=((((w.alloc (.cells (ah x).toArray 89)).alloc (.map #[] 0)).alloc (.cells #[.int .i64 0,.int .i64 0,.map (some (w.heap.size+1))] 283)).drew.drew):=by
   unfold ug;rw[Ew];rfl
  rw[<-e,<-OL,Ew]
 have hc3:(((w.alloc (.cells (ah x).toArray 89)).alloc (.map #[] 0)).alloc (.cells #[.int .i64 0,.int .i64 0,.map (some (w.heap.size+1))] 283)).cell? ⟨b,o,none⟩=some (.map (some bm)):=by
  rw[World.cell?_alloc_past _ _ _ (by simp;omega),World.cell?_alloc_past _ _ _ (by simp;omega),World.cell?_alloc_past _ _ _ hblt,hcell]
 clear OL;have fO:W2.heap[w.heap.size]? =some (.cells (ah x).toArray 89):=(hN.block _ (by omega) (by omega)).trans (MapKept.heap_alloc w _).1;have hcx:=AP fO;have hcn:=AQ hN;have hq:=Ev bm;have hmm:= @run_makeMap prog
 have Ld:b < (lookW w x).heap.size:=by omega
 cases hrr:x.hr
 ·have hend:Hid (Ends (lookW w x) (jk W2 x ((lookW w x).heap.size+1)) b bm m n aO G D x):=Uk hV Ld x hx hk hN hrr;rw[Ew] at hend
  have HE:Hid (∀W',W'=jk W2 x (w.heap.size+1+1)->Ends (lookW w x) W' b bm m n aO G D x):=fun W' e=>by rw[e];exact hend
  clear hend
  have hlt2:w.heap.size+1+1 < W2.heap.size:=by have :=hN.size;omega
  clear hV h hN fO hk;rw[Ew] at hcn;generalize yx:Ends (lookW w x)=E at *;clear yx;simp only[lookW] at eD;clear Ew Ld;obtain⟨k,lk,lt,lv,rk,rt,rv,hl,hr⟩:=x;simp only at hrr;subst hrr;cases hl
  ·simp only[vO,ah,jk,Bool.false_eq_true,if_false] at eD hst hc3 hcx HE⊢;go_enter func182,ntmps182;go_wp2
   go_region
   all_goals (try go_wp2)
   all_goals go_region
   all_goals (try go_wp2)
   all_goals go_end0
   all_goals exact⟨rfl,HE.out _ rfl⟩
  ·simp only[vO,ah,jk,if_true] at eD hst hc3 hcx HE⊢;go_enter func182,ntmps182;go_wp2
   go_region
   all_goals (try go_wp2)
   all_goals go_region
   all_goals (try go_wp2)
   all_goals go_region
   all_goals (try go_wp2)
   all_goals go_end0
   all_goals exact⟨rfl,HE.out _ rfl⟩
 ·obtain⟨W3,hl3,hs3,Ex⟩:=Ul hV Ld x hx hk hN hrr;rw[Ew] at hl3 hs3;have hend:=hid Ex
  have HE:Hid (∀W',W'=W3->Ends (lookW w x) W' b bm m n aO G D x):=fun W' e=>by rw[e];exact hend
  clear hend Ex
  have hlt2:w.heap.size+1+1 < W2.heap.size:=by have :=hN.size;omega
  clear hV h hN fO hk;rw[Ew] at hcn;generalize yx:Ends (lookW w x)=E at *;clear yx;simp only[lookW] at eD;clear Ew Ld;obtain⟨k,lk,lt,lv,rk,rt,rv,hl,hr⟩:=x;simp only at hrr;subst hrr;cases hl
  ·simp only[vO,ah,jk,Bool.false_eq_true,if_false] at eD hst hc3 hcx hl3 hs3⊢;go_enter func182,ntmps182;go_wp2
   go_region
   all_goals (try go_wp2)
   all_goals go_region
   all_goals (try go_wp2)
   all_goals go_region
   all_goals (try go_wp2)
   all_goals go_end0
   all_goals exact⟨rfl,HE.out _ rfl⟩
  ·simp only[vO,ah,jk,if_true] at eD hst hc3 hcx hl3 hs3⊢;go_enter func182,ntmps182;go_wp2
   go_region
   all_goals (try go_wp2)
   all_goals go_region
   all_goals (try go_wp2)
   all_goals go_region
   all_goals (try go_wp2)
   all_goals go_region
   all_goals (try go_wp2)
   all_goals go_end0
   all_goals exact⟨rfl,HE.out _ rfl⟩
end
section
open Go.Proofs.Tryz
variable {w:World} {b:Nat}
def iX (w:World) (b o:Nat) (x:O):World:=(((w.setCell ⟨b,o,none⟩ (.map (some (w.heap.size+1)))).alloc (.cells (ah x).toArray 89)).alloc (.map #[] 0)).drew
theorem OM {m:Nat} (aO:Int->Nat×Nat) (x:O) (o:Nat) (hblt:b < w.heap.size):fe (iX w b o x) b (w.heap.size+1) aO m (fun _=>none) 0 (.map []):=by
 refine⟨Nat.zero_le _,?_,OE aO,(fun _ _ h=>by cases h),by omega,(fun _ _ h=>by cases h),(fun _ _ _ _ h=>by cases h)⟩;have h0:=World.ownsMap_made (H:=Value) ((w.setCell ⟨b,o,none⟩ (.map (some (w.heap.size+1)))).alloc (.cells (ah x).toArray 89)) prog 3 gR
 have e:((w.setCell ⟨b,o,none⟩ (.map (some (w.heap.size+1)))).alloc (.cells (ah x).toArray 89)).heap.size=w.heap.size+1:=by simp
 rw[e] at h0;exact h0.drew
theorem OO (x:O) (b o:Nat):(iX w b o x).heap[w.heap.size]? =some (.cells (ah x).toArray 89):=by
 have e:(w.setCell ⟨b,o,none⟩ (.map (some (w.heap.size+1)))).heap.size=w.heap.size:=by simp
 refine(Below.heap_alloc _ _ _ (by simp)).trans ?_;have :=(MapKept.heap_alloc (w.setCell ⟨b,o,none⟩ (.map (some (w.heap.size+1)))) (.cells (ah x).toArray 89)).1;rw[e] at this;exact this
theorem zM {o:Nat} {v:Value} (h:w.cell? ⟨b,o,none⟩=some v) (u:Value):(w.setCell ⟨b,o,none⟩ u).cell? ⟨b,o,none⟩=some u:=World.cell?_setCell_same _ _ _ h
theorem SA (b o m:Nat) (aO:Int->Nat×Nat) (w:World) (hcell:w.cell? ⟨b,o,none⟩=some (.map none)) (hfr:w.frozen? ⟨b,o,none⟩=false) (hblt:b < w.heap.size) (x:O) (hx:x.wf) (hm:m < 100000000):
  Calls prog 182 #[.pointer (some ⟨b,o,none⟩),vO x] w fun e w'=>e= .returned (.tuple #[])∧Ends (iX w b o x) w' b (w.heap.size+1) m 0 aO (fun _=>none) (.map []) x:=by
 have hV:=OM (m:=m) aO x o hblt;have hk:(fun _=>none:Int->Option Tl) x.k=none:=rfl
 have Ew:(iX w b o x).heap.size=w.heap.size+2:=by simp[iX]
 have eD:=hV.look_none rfl hx.k hk;obtain⟨W2,OL,hN⟩:=OJ hV hx.k hm
 have hst:(Instr.mapUpdate 104 (.map (some (w.heap.size+1))) (.int .i64 x.k) (tp (w.heap.size+2+1))).run prog (((((w.setCell ⟨b,o,none⟩ (.map (some (w.heap.size+1)))).alloc (.cells (ah x).toArray 89)).alloc (.map #[] 0)).alloc (.map #[] 0)).alloc (.cells #[.int .i64 0,.int .i64 0,.map (some (w.heap.size+2))] 283)).drew.drew= .ok () W2:=by
  have e:ug (iX w b o x)=(((((w.setCell ⟨b,o,none⟩ (.map (some (w.heap.size+1)))).alloc (.cells (ah x).toArray 89)).alloc (.map #[] 0)).alloc (.map #[] 0)).alloc (.cells #[.int .i64 0,.int .i64 0,.map (some (w.heap.size+2))] 283)).drew.drew:=by
   unfold ug;rw[Ew];rfl
  rw[<-e,<-OL,Ew]
 have hbw:(w.setCell ⟨b,o,none⟩ (.map (some (w.heap.size+1)))).cell? ⟨b,o,none⟩=some (.map (some (w.heap.size+1))):=zM hcell _
 have hc2:(((w.setCell ⟨b,o,none⟩ (.map (some (w.heap.size+1)))).alloc (.cells (ah x).toArray 89)).alloc (.map #[] 0)).cell? ⟨b,o,none⟩=some (.map (some (w.heap.size+1))):=by
  rw[World.cell?_alloc_past _ _ _ (by simp;omega),World.cell?_alloc_past _ _ _ (by simpa using hblt),hbw]
 have hc4:((((w.setCell ⟨b,o,none⟩ (.map (some (w.heap.size+1)))).alloc (.cells (ah x).toArray 89)).alloc (.map #[] 0)).alloc (.map #[] 0)).cell? ⟨b,o,none⟩=some (.map (some (w.heap.size+1))):=by
  rw[World.cell?_alloc_past _ _ _ (by simp;omega),hc2]
 have hc3:(((((w.setCell ⟨b,o,none⟩ (.map (some (w.heap.size+1)))).alloc (.cells (ah x).toArray 89)).alloc (.map #[] 0)).alloc (.map #[] 0)).alloc (.cells #[.int .i64 0,.int .i64 0,.map (some (w.heap.size+2))] 283)).cell? ⟨b,o,none⟩=some (.map (some (w.heap.size+1))):=by
  rw[World.cell?_alloc_past _ _ _ (by simp;omega),hc4]
 clear OL;have fO:W2.heap[w.heap.size]? =some (.cells (ah x).toArray 89):=(hN.block _ (by omega) (by omega)).trans (OO x b o);have hcx:=AP fO;have hcn:=AQ hN;have hq:=OG;have hmm:= @run_makeMap prog
 have Ld:b < (iX w b o x).heap.size:=by omega
 cases hrr:x.hr
 ·have hend:Hid (Ends (iX w b o x) (jk W2 x ((iX w b o x).heap.size+1)) b (w.heap.size+1) m 0 aO (fun _=>none) (.map []) x):=Uk hV Ld x hx hk hN hrr;rw[Ew] at hend
  have HE:Hid (∀W',W'=jk W2 x (w.heap.size+2+1)->Ends (iX w b o x) W' b (w.heap.size+1) m 0 aO (fun _=>none) (.map []) x):=fun W' e=>by rw[e];exact hend
  clear hend
  have hlt2:w.heap.size+2+1 < W2.heap.size:=by have :=hN.size;omega
  clear hV hN fO hk;rw[Ew] at hcn;generalize yx:Ends (iX w b o x)=E at *;clear yx;simp only[iX] at eD;clear Ew Ld;obtain⟨k,lk,lt,lv,rk,rt,rv,hl,hr⟩:=x;simp only at hrr;subst hrr;cases hl
  ·simp only[vO,ah,jk,Bool.false_eq_true,if_false] at eD hst hc2 hc3 hc4 hcx HE⊢;go_enter func182,ntmps182;go_wp2
   go_region
   all_goals (try go_wp2)
   all_goals go_region
   all_goals (try go_wp2)
   all_goals go_end0
   all_goals exact⟨rfl,HE.out _ rfl⟩
  ·simp only[vO,ah,jk,if_true] at eD hst hc2 hc3 hc4 hcx HE⊢;go_enter func182,ntmps182;go_wp2
   go_region
   all_goals (try go_wp2)
   all_goals go_region
   all_goals (try go_wp2)
   all_goals go_region
   all_goals (try go_wp2)
   all_goals go_end0
   all_goals exact⟨rfl,HE.out _ rfl⟩
 ·obtain⟨W3,hl3,hs3,Ex⟩:=Ul hV Ld x hx hk hN hrr;rw[Ew] at hl3 hs3;have hend:Hid (Ends (iX w b o x) W3 b (w.heap.size+1) m 0 aO (fun _=>none) (.map []) x):=Ex
  have HE:Hid (∀W',W'=W3->Ends (iX w b o x) W' b (w.heap.size+1) m 0 aO (fun _=>none) (.map []) x):=fun W' e=>by rw[e];exact hend
  clear hend Ex
  have hlt2:w.heap.size+2+1 < W2.heap.size:=by have :=hN.size;omega
  clear hV hN fO hk;rw[Ew] at hcn;generalize yx:Ends (iX w b o x)=E at *;clear yx;simp only[iX] at eD;clear Ew Ld;obtain⟨k,lk,lt,lv,rk,rt,rv,hl,hr⟩:=x;simp only at hrr;subst hrr;cases hl
  ·simp only[vO,ah,jk,Bool.false_eq_true,if_false] at eD hst hc2 hc3 hc4 hcx hl3 hs3⊢;go_enter func182,ntmps182;go_wp2
   go_region
   all_goals (try go_wp2)
   all_goals go_region
   all_goals (try go_wp2)
   all_goals go_region
   all_goals (try go_wp2)
   all_goals go_end0
   all_goals exact⟨rfl,HE.out _ rfl⟩
  ·simp only[vO,ah,jk,if_true] at eD hst hc2 hc3 hc4 hcx hl3 hs3⊢;go_enter func182,ntmps182;go_wp2
   go_region
   all_goals (try go_wp2)
   all_goals go_region
   all_goals (try go_wp2)
   all_goals go_region
   all_goals (try go_wp2)
   all_goals go_region
   all_goals (try go_wp2)
   all_goals go_end0
   all_goals exact⟨rfl,HE.out _ rfl⟩
end
section
open Go.Joins
variable {S:Nat->Prop} {w w':World} {b o bm m n:Nat} {aO:Int->Nat×Nat} {G:Int->Option Tl} {D:DataW Value}
def yz (G:Int->Option Tl) (x:O):Int->Option Tl:=lQ G x.k (some (bE ((G x.k).getD τ0) x))
def More (S:Nat->Prop) (w w':World) (j:Nat):Prop:=S j∨(w.heap.size<=j∧j < w'.heap.size)
theorem More.new {j:Nat} (h:More S w w' j):S j∨w.heap.size<=j:=h.imp id fun h=>h.1
theorem wU {m':Nat} (hg:CB w b o (some bm) aO m G) (h:fe w b bm aO m G n D) (hS:∀j,foot b (some bm) aO G j->S j) (hlt:∀j,S j->j < w.heap.size)
  {k:Int} {τ τ':Tl} (hk:G k=some τ) (hm:m<=m') (hT:fD w' (aO k).1 (aO k).2 m' τ') (hb:∀j,j < w.heap.size->j≠(aO k).1->j≠(aO k).2->w'.heap[j]? =w.heap[j]?)
  (hs:w.heap.size<=w'.heap.size) (h1:w'.os=w.os) (h2:w'.tape=w.tape) (h3:w'.output=w.output):
  lu w' b o m' (More S w w') (lQ G k (some τ'))∧kF S b o w w':=by
 have hnb:=h.nb k τ hk;have hbb:w'.heap[b]? =w.heap[b]? :=hb b hg.blt hnb.1.symm hnb.2.1.symm;refine⟨⟨some bm,aO,⟨?_,.inr ⟨bm,n,D,rfl,h.set hk hm hT fun j hj _=>hb j hj⟩⟩,fun j hj=> .inl (hS j ?_),fun j hj=> ?_⟩,⟨h1,h2,h3,hs,fun j hj hn=>hb j hj (fun e=>hn (hS j (.inr (.inr ⟨k,τ,hk,.inl e⟩)))) (fun e=>hn (hS j (.inr (.inr ⟨k,τ,hk,.inr e⟩)))),fun cs T hc=>⟨cs,hbb.trans hc,rfl,fun _ _=>rfl⟩⟩⟩
 ·obtain⟨cs,T,k1,k2⟩:=hg.blk;exact⟨cs,T,hbb.trans k1,k2⟩
 ·rcases hj with e | e | ⟨i,τi,hi,e⟩
  ·exact .inl e
  ·exact .inr (.inl e)
  ·by_cases ei:i=k
   ·rw[ei] at e;exact .inr (.inr ⟨k,τ,hk,e⟩)
   ·rw[aJ _ _ ei] at hi;exact .inr (.inr ⟨i,τi,hi,e⟩)
 ·rcases hj with hj | hj
  ·exact Nat.lt_of_lt_of_le (hlt j hj) hs
  ·exact hj.2
theorem J3 {V:World} {om:Option Nat} {x:O} (hS:∀j,foot b om aO G j->S j) (hlt:∀j,S j->j < w.heap.size)
  (hE:Ends V w' b bm m n aO G D x) (hV:w.heap.size<=V.heap.size) (Eu:om=some bm∨(w.heap.size<=bm∧bm < V.heap.size)) (hbb:∃cs T,w.heap[b]? =some (.cells cs T)∧o < cs.size∧V.heap[b]? =some (.cells (cs.setIfInBounds o (.map (some bm))) T))
  (hvb:∀j,j < w.heap.size->j≠b->V.heap[j]? =w.heap[j]?) (h1:V.os=w.os) (h2:V.tape=w.tape) (h3:V.output=w.output) (hk:G x.k=none):
  lu w' b o (m+1) (More S w w') (yz G x)∧kF S b o w w':=by
 obtain⟨hM,hblk,hsz,e1,e2,e3⟩:=hE;obtain⟨cs,T,c1,c2,c3⟩:=hbb;have hbS:S b:=hS b (.inl rfl);have hblt:=hlt b hbS
 have hput:yz G x=lQ G x.k (some (bE τ0 x)):=by unfold yz;rw[hk];rfl
 have ZG:bm≠b:=hM.bmb;have hb':w'.heap[b]? =some (.cells (cs.setIfInBounds o (.map (some bm))) T):=(hblk b (by omega) ZG.symm).trans c3;rw[hput]
 have hlt':∀j,foot b (some bm) (ic aO x.k (V.heap.size+1,V.heap.size)) (lQ G x.k (some (bE τ0 x))) j->j≠b->j < w'.heap.size:=fun j hj hne=>hM.lt hj hne
 refine⟨⟨some bm,_,⟨⟨_,T,hb',by simp[c2]⟩,.inr ⟨bm,_,_,rfl,hM⟩⟩,fun j hj=> ?_,fun j hj=> ?_⟩,⟨e1.trans h1,e2.trans h2,e3.trans h3,by omega,fun j hj hn=> ?_,fun cs' T' hc'=> ?_⟩⟩
 ·have hj':=hj
  rcases hj with e | e | ⟨i,τi,hi,e⟩
  ·exact .inl (by rw[e];exact hbS)
  ·injection e with e
   rcases Eu with hb | hb
   ·exact .inl (hS j (.inr (.inl (by rw[hb,e]))))
   ·exact .inr ⟨by omega,by omega⟩
  ·by_cases ei:i=x.k
   ·rw[ei] at e;simp only[ic,if_true] at e;refine .inr ⟨by omega,hlt' j hj' (fun e'=> ?_)⟩;omega
   ·rw[aJ _ _ ei] at hi;simp only[ic,ei,if_false] at e;exact .inl (hS j (.inr (.inr ⟨i,τi,hi,e⟩)))
 ·rcases hj with hj | hj
  ·have :=hlt j hj;omega
  ·exact hj.2
 ·have n1:j≠b:=fun e=>hn (by rw[e];exact hbS)
  have n2:j≠bm:=fun e=>by
   rcases Eu with hb | hb
   ·exact hn (hS j (.inr (.inl (by rw[hb,e]))))
   ·omega
  exact(hblk j (by omega) n2).trans (hvb j hj n1)
 ·rw[c1] at hc'
  injection hc' with hc'
  injection hc' with k1 k2
  subst k1;subst k2;exact⟨_,hb',by simp,fun i hi=>by simp[Ne.symm hi]⟩
theorem OP (b o m:Nat) (S:Nat->Prop) (G:Int->Option Tl) (w:World) (h:lu w b o m S G) (x:O) (hx:x.wf) (hm:m < 100000000):
  Calls Tryz.prog 182 #[.pointer (some ⟨b,o,none⟩),vO x] w fun e w'=>e= .returned (.tuple #[])∧lu w' b o (m+1) (More S w w') (yz G x)∧kF S b o w w':=by
 obtain⟨om,aO,hg,hS,hlt⟩:=h;have hcell:=hg.cell;have hblt:=hg.blt;obtain⟨cs,T,hb1,hb2⟩:=hg.blk;have Vj:o < cs.size:=(Array.getElem?_eq_some_iff.1 hb2).1
 rcases hg.map with⟨rfl,rfl⟩ | ⟨bm,n,D,rfl,hM⟩
 ·refine(SA b o m aO w hcell.1 hcell.2 hblt x hx hm).mono fun e w' ⟨h1,hE⟩=>⟨h1,?_⟩
  have hsz:(iX w b o x).heap.size=w.heap.size+2:=by simp[iX]
  refine J3 hS hlt hE (by omega) (.inr ⟨by omega,by omega⟩) ⟨cs,T,hb1,Vj,?_⟩ (fun j hj hne=> ?_) rfl rfl rfl rfl
  ·refine(Below.heap_alloc _ _ _ (by simp;omega)).trans ((Below.heap_alloc _ _ _ (by simpa using hblt)).trans ?_);exact block_setCell hb1 _
  ·refine(Below.heap_alloc _ _ _ (by simp;omega)).trans ((Below.heap_alloc _ _ _ (by simpa using hj)).trans ?_);exact Below.heap_setCell _ _ _ _ hne
 ·cases hk:G x.k with
  | none=>
   refine(Sz b o bm m n aO G D w hcell.1 hblt hM x hx hk hm).mono fun e w' ⟨h1,hE⟩=>⟨h1,?_⟩
   have hsz:(lookW w x).heap.size=w.heap.size+1:=by simp[lookW]
   refine J3 hS hlt hE (by omega) (.inl rfl) ⟨cs,T,hb1,Vj,?_⟩ (fun j hj _=>Below.heap_alloc w _ j hj) rfl rfl rfl hk;refine(Below.heap_alloc w _ b hblt).trans (hb1.trans ?_)
   have :cs.setIfInBounds o (.map (some bm))=cs:=by
    apply Array.ext_getElem?;intro i
    by_cases ei:i=o
    ·subst ei;rw[hb2];simp[Vj]
    ·simp[Ne.symm ei]
   rw[this]
  | some τ=>
   refine(Lc b o bm m n aO G D w hcell.1 hblt hM x hx τ hk hm).mono fun e w' ⟨h1,hE⟩=>⟨h1,?_⟩
   have hput:yz G x=lQ G x.k (some (bE τ x)):=by unfold yz;rw[hk];rfl
   rw[hput];have hT:=hM.tals x.k τ hk;have hne:=hT.ne;have htlt:=hT.lt;obtain⟨p1,p2,p3,p4,p5,p6⟩:=JY τ x hT.blk;obtain⟨nr,Dr,hnr,l7,hcr⟩:=hT.own;have hlo:=hT.lo;have hhi:=hT.hi;have hlen:=hT.len
   rcases hE with⟨hr,rfl⟩ | ⟨hr,n',D',hn',hown',hc',hg'⟩
   ·refine wU hg hM hS hlt hk (Nat.le_succ m) ⟨p1,⟨nr,Dr,by omega,ownsMap_at l7 (p3 _ htlt.2 hne.symm),?_⟩,by simp[bE],by simp[bE];omega,?_⟩ (fun j hj n1 _=>p3 j hj n1) (by omega) p4 p5 p6
    ·simpa[bE,hr] using hcr
    ·simp[bE,hr];omega
   ·have q:∀j,j < w.heap.size->j≠(aO x.k).2->w'.heap[j]? =(l6 w x (aO x.k).1 τ.c τ.s).heap[j]? :=fun j hj n2=>hg'.block j (by show j < (l6 w x (aO x.k).1 τ.c τ.s).heap.size;omega) (fun e=>n2 (by injection e))
    have hs':(l6 w x (aO x.k).1 τ.c τ.s).heap.size<=w'.heap.size:=hg'.size;refine wU hg hM hS hlt hk (Nat.le_succ m) ⟨(q _ htlt.1 hne).trans p1,⟨n',D',hn',hown',?_⟩,by simp[bE],by simp[bE];omega,?_⟩ (fun j hj n1 n2=>(q j hj n2).trans (p3 j hj n1)) (by omega) (hg'.os.trans p4) (hg'.tape.trans p5) (hg'.output.trans p6)
    ·simpa[bE,hr] using hc'
    ·simp[bE,hr];omega
end
end Go.Proofs.YthfpipieboophaaGreatDoor
