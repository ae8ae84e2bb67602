import Derived.Lib.LaidTab
import Derived.Lib.ItoaNum
import Derived.Deep.Onto
import Derived.Test.YthfpipieboophaaGreatDoorZai
import Derived.Test.YthfpipieboophaaGreatDoorZGrx
namespace Go.Proofs.YthfpipieboophaaGreatDoor
set_option maxRecDepth 100000
set_option maxHeartbeats 40000000
section
open List
variable {γ δ:Type}
section
variable {α β:Type} (q:α->β->Bool) (P:α->β->O) (la:α->O) (lb:β->O) (ta tb:Bool)
def lq (A:List α) (B:List β):List O:=
 (A.flatMap fun a=>(B.filter (q a)).map (P a))++((if ta=true then(A.filter fun a=> !B.any (q a)).map la else[])++(if tb=true then(B.filter fun b=> !A.any fun a=>q a b).map lb else[]))
theorem De (f:γ->List δ) (l:List γ) (h:∀x∈l,f x=[]):l.flatMap f=[]:=by
 induction l with
 | nil=>rfl
 | cons a r ih=>rw[flatMap_cons,h a (by simp),ih (fun x hx=>h x (by simp[hx]))];rfl
theorem jO (f g:γ->List δ) (l:List γ):(l.flatMap fun x=>f x++g x) ~ l.flatMap f++l.flatMap g:=by
 induction l with
 | nil=>simp
 | cons a r ih=>
  simp only[flatMap_cons,append_assoc];refine Perm.append_left _ ?_;refine(Perm.append_left (g a) ih).trans ?_;rw[<-append_assoc,<-append_assoc];exact Perm.append_right _ perm_append_comm
theorem Jo (A:List α) (B:List β):(A.flatMap fun a=>(B.filter (q a)).map (P a)) ~ (B.flatMap fun b=>(A.filter fun a=>q a b).map fun a=>P a b):=by
 induction A with
 | nil=>rw[De (fun b=>(([]:List α).filter fun a=>q a b).map fun a=>P a b) B (fun _ _=>rfl)];simp
 | cons a r ih=>
  rw[flatMap_cons]
  have h1:(B.flatMap fun b=>((a::r).filter fun a=>q a b).map fun a=>P a b)=B.flatMap fun b=>(if q a b=true then[P a b] else[])++(r.filter fun a=>q a b).map fun a=>P a b:=by
   congr 1
   funext b
   rw[filter_cons]
   split <;>simp
  rw[h1];refine(Perm.append_left _ ih).trans (Perm.trans ?_ (jO _ _ B).symm);refine Perm.append_right _ ?_;clear ih h1
  have h2:(B.flatMap fun b=>if q a b=true then[P a b] else[])=(B.filter (q a)).map (P a):=by
   induction B with
   | nil=>rfl
   | cons b s ihb=>rw[flatMap_cons,filter_cons,ihb];split <;>simp
  rw[h2]
theorem zl (A:List α) (B:List β):lq q P la lb ta tb A B ~ lq (fun b a=>q a b) (fun b a=>P a b) lb la tb ta B A:=by
 unfold lq;exact(Jo q P A B).append perm_append_comm
def goes (A:List α) (B:List β) (a:α):List O:=if tb=true then(B.filter fun b=>q a b && !A.any fun a=>q a b).map lb else[]
def stays (A:List α) (B:List β) (a:α):List O:=
 (A.flatMap fun a=>(B.filter (q a)).map (P a))++((if ta=true then(A.filter fun a=> !B.any (q a)).map la else[])++(if tb=true then(B.filter fun b=> !(A++[a]).any fun a=>q a b).map lb else[]))
theorem Gg (A:List α) (B:List β) (a:α):lq q P la lb ta tb A B ~ goes q lb tb A B a++stays q P la lb ta tb A B a:=by
 unfold lq goes stays;cases tb
 ·simp
 ·simp only[if_true]
  have h1:(B.filter fun b=> !A.any fun a=>q a b).map lb ~ ((B.filter fun b=>q a b && !A.any fun a=>q a b).map lb)++((B.filter fun b=> !(A++[a]).any fun a=>q a b).map lb):=by
   rw[<-map_append];refine Perm.map _ ?_;refine(filter_append_perm (fun b=>q a b) (B.filter fun b=> !A.any fun a=>q a b)).symm.trans ?_;rw[filter_filter,filter_filter];refine Perm.of_eq ?_;congr 1;apply filter_congr;intro b _;simp only[any_append,any_cons,any_nil,Bool.or_false,Bool.not_or];exact Bool.and_comm _ _
  refine(Perm.append_left _ (Perm.append_left _ h1)).trans ?_;rw[<-append_assoc,<-append_assoc];refine Perm.trans (Perm.append_right _ perm_append_comm) ?_;rw[append_assoc,append_assoc]
theorem Jp (A:List α) (B:List β) (a:α):lq q P la lb ta tb (A++[a]) B ~ stays q P la lb ta tb A B a++((B.filter (q a)).map (P a)++(if ta=true∧B.any (q a)=false then[la a] else[])):=by
 unfold lq stays;rw[flatMap_append,filter_append];simp only[flatMap_cons,flatMap_nil,append_nil]
 have h1:(if ta=true then(A.filter (fun a=> !B.any (q a))++[a].filter (fun a=> !B.any (q a))).map la else[])=(if ta=true then(A.filter fun a=> !B.any (q a)).map la else[])++(if ta=true∧B.any (q a)=false then[la a] else[]):=by
  cases ta
  ·simp
  ·cases hb:B.any (q a)
   ·simp[hb]
   ·simp[hb]
 rw[h1];generalize (A.flatMap fun a=>(B.filter (q a)).map (P a))=X1;generalize (B.filter (q a)).map (P a)=X2;generalize (if ta=true then(A.filter fun a=> !B.any (q a)).map la else[])=X3;generalize (if ta=true∧B.any (q a)=false then[la a] else[])=X4;generalize (if tb=true then(B.filter fun b=> !(A++[a]).any fun a=>q a b).map lb else[])=X5;rw[perm_iff_count];intro o;simp only[count_append];omega
end
def iE (L:List O) (C:List Ch):List O:=C.foldl (fun L c=>if c.g=true then L.erase c.x else c.x::L) L
def G7:List O->List Ch->Prop
 | _,[]=>True
 | L,c::C=>(c.g=true->c.x∈L∧(c.x.hl && c.x.hr)=false)∧G7 (if c.g=true then L.erase c.x else c.x::L) C
theorem BH (L:List O) (c:Ch) (C:List Ch):iE L (c::C)=iE (if c.g=true then L.erase c.x else c.x::L) C:=rfl
theorem Gb (L:List O) (C C':List Ch):iE L (C++C')=iE (iE L C) C':=by unfold iE;rw[foldl_append]
theorem TW {β:Type} (lb:β->O) (Pa:β->O) (n:β->Bool) (tb:Bool) (kR:∀b,((lb b).hl && (lb b).hr)=false) (M:List β):∀(L rest:List O),L ~ (if tb=true then(M.filter n).map lb else[])++rest->
  G7 L (M.flatMap fun m=>(if n m=true∧tb=true then[⟨lb m,true⟩] else[])++[⟨Pa m,false⟩])∧iE L (M.flatMap fun m=>(if n m=true∧tb=true then[⟨lb m,true⟩] else[])++[⟨Pa m,false⟩]) ~ rest++M.map Pa:=by
 induction M with
 | nil=>
  intro L rest h;refine⟨trivial,?_⟩;show L ~ rest++[]
  cases tb <;>simpa using h
 | cons m M ih=>
  intro L rest h;rw[flatMap_cons]
  by_cases hc:n m=true∧tb=true
  ·obtain⟨h1,h2⟩:=hc;subst h2;simp only[if_true,filter_cons,h1,map_cons,cons_append] at h;have hmem:lb m∈L:=h.symm.subset (by simp)
   have he:L.erase (lb m) ~ (M.filter n).map lb++rest:=by
    have :=h.erase (lb m)
    rwa [erase_cons_head] at this
   have hn:(Pa m::L.erase (lb m)) ~ (if true=true then(M.filter n).map lb else[])++(Pa m::rest):=by
    rw[if_pos rfl];exact(Perm.cons _ he).trans perm_middle.symm
   obtain⟨i1,i2⟩:=ih _ _ hn;rw[if_pos ⟨h1,rfl⟩];refine⟨⟨fun _=>⟨hmem,kR m⟩,⟨fun e=>(by cases e),?_⟩⟩,?_⟩
   ·simpa using i1
   ·show iE _ _ ~ _;refine Perm.trans ?_ (i2.trans ?_)
    ·exact Perm.of_eq rfl
    ·rw[map_cons];exact(perm_middle (l₁:=rest) (a:=Pa m) (l₂:=M.map Pa)).symm
  ·rw[if_neg hc]
   have hg:(if tb=true then((m::M).filter n).map lb else[])=(if tb=true then(M.filter n).map lb else[]):=by
    cases htb:tb
    ·rfl
    ·have hnm:n m=false:=by
      cases hnm:n m
      ·rfl
      ·exact absurd ⟨hnm,htb⟩ hc
     simp[hnm]
   rw[hg] at h;have hn:(Pa m::L) ~ (if tb=true then(M.filter n).map lb else[])++(Pa m::rest):=(Perm.cons _ h).trans perm_middle.symm;obtain⟨i1,i2⟩:=ih _ _ hn;refine⟨⟨fun e=>(by cases e),?_⟩,?_⟩
   ·simpa using i1
   ·refine Perm.trans ?_ (i2.trans ?_)
    ·exact Perm.of_eq rfl
    ·rw[map_cons];exact(perm_middle (l₁:=rest) (a:=Pa m) (l₂:=M.map Pa)).symm
end
section
open List
def iB (key fH av:Int) (x:D):Bool:=decide (x.k=key∧fH<=x.t∧x.t<=av)
theorem jH {a:D} {R:List D} (h:ay (a::R)):ay R:=(pairwise_cons.1 h).2
theorem fU {a:D} {R:List D} (h:ay (a::R)):∀b∈R,a.k < b.k∨(a.k=b.k∧a.t<=b.t):=(pairwise_cons.1 h).1
theorem gU {key time:Int} {a:D} {R:List D} (ha:aX key time a=true):aV key time (a::R)=aV key time R+1:=by
 unfold aV;rw[countP_cons,if_pos ha]
theorem iQ {key time:Int} {a:D} {R:List D} (h:ay (a::R)) (ha:aX key time a=false):aV key time (a::R)=0:=by
 unfold aV;rw[countP_eq_zero];intro b hb
 rcases mem_cons.1 hb with rfl | hb
 ·rw[ha];simp
 ·have h1:=fU h b hb;rw[bI] at ha;have h2:aX key time b=false:=bI.2 (by omega);rw[h2];simp
theorem nL {key fH av:Int}:∀{R:List D},ay R->(∀x∈R,aX key fH x=false)->R.takeWhile (meets key av)=R.filter (iB key fH av)
 | [],_,_=>rfl
 | a::R,h,h2=>by
  have ha:=bI.1 (h2 a (by simp))
  by_cases hm:meets key av a=true
  ·have hw:iB key fH av a=true:=by simp[meets,iB] at hm⊢;omega
   rw[takeWhile_cons,if_pos hm,filter_cons,if_pos hw,nL (jH h) (fun x hx=>h2 x (by simp[hx]))]
  ·have hm2:¬(a.k=key∧a.t<=av):=by simpa[meets] using hm
   rw[takeWhile_cons,if_neg hm]
   symm
   rw[filter_eq_nil_iff];intro x hx
   have h3:iB key fH av x=false:=by
    simp only[iB,decide_eq_false_iff_not]
    rcases mem_cons.1 hx with rfl | hx
    ·omega
    ·have :=fU h x hx;omega
   rw[h3];simp
theorem gM {key fH av:Int}:∀{R:List D},ay R->bF key fH av R=R.filter (iB key fH av)
 | [],_=>rfl
 | a::R,h=>by
  cases ha:aX key fH a
  ·unfold bF;rw[iQ h ha,drop_zero];refine nL h (fun x hx=> ?_)
   rcases mem_cons.1 hx with rfl | hx
   ·exact ha
   ·have h1:=fU h x hx;rw[bI] at ha⊢;omega
  ·have h1:bF key fH av (a::R)=bF key fH av R:=by
    unfold bF;rw[gU ha,drop_succ_cons]
   have h2:iB key fH av a=false:=by
    simp only[aX,decide_eq_true_eq] at ha;simp only[iB,decide_eq_false_iff_not];omega
   rw[h1,filter_cons,if_neg (by rw[h2];simp),gM (jH h)]
theorem Re {f:D->D} {R:List D} (h:∀x∈R,f x=x):R.map f=R:=by
 rw[map_congr_left (g:=id) h];simp
theorem BK {key fH av:Int}:∀{R:List D},ay R->(∀x∈R,aX key fH x=false)->fo R 0 (R.takeWhile (meets key av)).length=R.map fun x=>if iB key fH av x=true then sH x else x
 | [],_,_=>rfl
 | a::R,h,h2=>by
  have ha:=bI.1 (h2 a (by simp))
  by_cases hm:meets key av a=true
  ·have hw:iB key fH av a=true:=by simp[meets,iB] at hm⊢;omega
   have ih:=BK (av:=av) (jH h) (fun x hx=>h2 x (by simp[hx]));rw[takeWhile_cons,if_pos hm,map_cons,if_pos hw,<-ih];simp[fo]
  ·have hm2:¬(a.k=key∧a.t<=av):=by simpa[meets] using hm
   rw[takeWhile_cons,if_neg hm,length_nil,uS]
   symm
   refine Re ?_;intro x hx
   have h3:iB key fH av x=false:=by
    simp only[iB,decide_eq_false_iff_not]
    rcases mem_cons.1 hx with rfl | hx
    ·omega
    ·have :=fU h x hx;omega
   rw[h3];simp
theorem gZ {key fH av:Int}:∀{R:List D},ay R->fo R (aV key fH R) (bF key fH av R).length=R.map fun x=>if iB key fH av x=true then sH x else x
 | [],_=>rfl
 | a::R,h=>by
  cases ha:aX key fH a
  ·unfold bF;rw[iQ h ha,drop_zero];refine BK h (fun x hx=> ?_)
   rcases mem_cons.1 hx with rfl | hx
   ·exact ha
   ·have h1:=fU h x hx;rw[bI] at ha⊢;omega
  ·have h1:bF key fH av (a::R)=bF key fH av R:=by
    unfold bF;rw[gU ha,drop_succ_cons]
   have h2:iB key fH av a=false:=by
    simp only[aX,decide_eq_true_eq] at ha;simp only[iB,decide_eq_false_iff_not];omega
   rw[h1,map_cons,if_neg (by rw[h2];simp),gU ha,<-gZ (jH h)];simp[fo,show aV key fH R+1+(bF key fH av R).length=aV key fH R+(bF key fH av R).length+1 by omega]
theorem Jq {f:D->D} (hf:∀x,(f x).k=x.k∧(f x).t=x.t) {R:List D} (h:ay R):ay (R.map f):=by
 unfold ay at *;rw[pairwise_map];refine h.imp ?_;intro a b hab;rw[(hf a).1,(hf b).1,(hf a).2,(hf b).2];exact hab
theorem vZ {p:D->Bool} {R:List D} (h:ay R):ay (keepR p R):=h.filter _
theorem zm {key fH av:Int} {R:List D} (h:ay R):ay (fo R (aV key fH R) (bF key fH av R).length):=by
 rw[gZ h];exact Jq (fun x=>by split <;>exact⟨rfl,rfl⟩) h
theorem qX (k t v n:Int):∀{R:List D},ay R->ay (bT R (aV k (t+1) R) ⟨k,t,v,n⟩)
 | [],_=>by simp[bT,ay]
 | a::R,h=>by
  cases ha:aX k (t+1) a
  ·rw[iQ h ha];simp only[bT,take_zero,drop_zero,nil_append];refine pairwise_cons.2 ⟨fun b hb=> ?_,h⟩;rw[bI] at ha
   rcases mem_cons.1 hb with rfl | hb
   ·show k < _∨(k=_∧t<=_);omega
   ·have :=fU h b hb;show k < _∨(k=_∧t<=_);omega
  ·rw[gU ha];have ih:=qX k t v n (jH h)
   have e1:bT (a::R) (aV k (t+1) R+1) ⟨k,t,v,n⟩=a::bT R (aV k (t+1) R) ⟨k,t,v,n⟩:=by simp[bT]
   rw[e1];refine pairwise_cons.2 ⟨fun b hb=> ?_,ih⟩;simp only[aX,decide_eq_true_eq] at ha
   have hb2:b=⟨k,t,v,n⟩∨b∈R:=by
    simp only[bT,mem_append,mem_cons] at hb
    rcases hb with hb | hb | hb
    ·exact Or.inr (mem_of_mem_take hb)
    ·exact Or.inl hb
    ·exact Or.inr (mem_of_mem_drop hb)
   rcases hb2 with rfl | hb
   ·show _ < k∨(_=k∧_<=t);omega
   ·exact fU h b hb
theorem Gh (R:List D) (i:Nat) (x:D):bT R i x ~ x::R:=by
 unfold bT;refine perm_middle.trans ?_;rw[take_append_drop]
end
section
open List
variable {x:J} {L:List O}
structure Rw where
 k:Int
 t:Int
 v:Int
 deriving DecidableEq,Inhabited
def D.rw (x:D):Rw:=⟨x.k,x.t,x.v⟩
def Ad (r:Rw) (n:Nat):D:=⟨r.k,r.t,r.v,n⟩
theorem Rf (p:Rw->Bool) (A:List Rw) (b:Rw):decide ((Ad b (A.countP p)).n=0)= !A.any p:=by
 have h:(Ad b (A.countP p)).n=((A.countP p:Nat):Int):=rfl;cases hA:A.any p
 ·have h0:A.countP p=0:=countP_eq_zero.2 (fun x hx e=>by rw[any_eq_false] at hA;exact hA x hx e);rw[decide_eq_true (by rw[h,h0];rfl)];rfl
 ·obtain⟨x,hx,hxq⟩:=any_eq_true.1 hA;have h0:0 < A.countP p:=countP_pos_iff.2 ⟨x,hx,hxq⟩;rw[decide_eq_false (by rw[h];omega)];rfl
theorem Rh (r:Rw) (c:Nat) (hc:c < 9223372036854775807):sH (Ad r c)=Ad r (c+1):=by
 have h:bR (c:Int)=((c+1:Nat):Int):=by unfold bR;rw[if_neg (by omega)];omega
 show(⟨r.k,r.t,r.v,bR (c:Int)⟩:D)=⟨r.k,r.t,r.v,((c+1:Nat):Int)⟩;rw[h]
theorem BL (q:Rw->Rw->Bool) (P:Rw->Rw->O) (la lb:Rw->O) (ta tb:Bool) (kR:∀b,((lb b).hl && (lb b).hr)=false) (A B:List Rw) (a:Rw) (M:List D) (L:List O)
  (hM:M ~ (B.filter (q a)).map fun r=>Ad r (A.countP fun a=>q a r)) (hL:L ~ lq q P la lb ta tb A B):
  G7 L (if M=[] then(if ta=true then[⟨la a,false⟩] else[]) else M.flatMap fun m=>(if m.n=0∧tb=true then[⟨lb m.rw,true⟩] else[])++[⟨P a m.rw,false⟩])∧
  iE L (if M=[] then(if ta=true then[⟨la a,false⟩] else[]) else M.flatMap fun m=>(if m.n=0∧tb=true then[⟨lb m.rw,true⟩] else[])++[⟨P a m.rw,false⟩]) ~ lq q P la lb ta tb (A++[a]) B:=by
 have Zf:=hL.trans (Gg q P la lb ta tb A B a);have hmore:=Jp q P la lb ta tb A B a
 by_cases h0:M=[]
 ·have hB:B.filter (q a)=[]:=by
   rw[h0] at hM;exact map_eq_nil_iff.1 (nil_perm.1 hM)
  have hany:B.any (q a)=false:=by
   rw[any_eq_false];intro b hb hq;have :b∈B.filter (q a):=mem_filter.2 ⟨hb,hq⟩;rw[hB] at this;cases this
  have hg:goes q lb tb A B a=[]:=by
   unfold goes
   have :(B.filter fun b=>q a b && !A.any fun a=>q a b)=[]:=by
    rw[filter_eq_nil_iff];intro b hb;have :=(any_eq_false.1 hany) b hb;simp[this]
   rw[this];simp
  rw[hg,nil_append] at Zf;rw[hB,hany] at hmore;rw[if_pos h0];cases ta
  ·refine⟨trivial,?_⟩;show L ~ _;exact Zf.trans (by simpa using hmore.symm)
  ·refine⟨⟨fun e=>(by cases e),trivial⟩,?_⟩;show(la a::L) ~ _;refine(Perm.cons _ Zf).trans (Perm.trans ?_ hmore.symm);simpa using(perm_append_comm (l₁:=[la a]) (l₂:=stays q P la lb true tb A B a))
 ·have hany:B.any (q a)=true:=by
   have hB:B.filter (q a)≠[]:=fun e=>h0 (by rw[e] at hM;exact perm_nil.1 hM)
   obtain⟨b,hb⟩:=exists_mem_of_ne_nil _ hB;rw[mem_filter] at hb;exact any_eq_true.2 ⟨b,hb.1,hb.2⟩
  rw[if_neg h0]
  have hgo:(if tb=true then(M.filter fun m=>decide (m.n=0)).map fun m=>lb m.rw else[]) ~ goes q lb tb A B a:=by
   unfold goes;cases tb
   ·simp
   ·simp only[if_true];refine((hM.filter _).map _).trans ?_;rw[filter_map,map_map,filter_filter];refine Perm.of_eq ?_
    have e1:(fun m=>lb (D.rw m))∘(fun r=>Ad r (A.countP fun a=>q a r))=lb:=by funext r;rfl
    rw[e1];congr 1;apply filter_congr;intro b hb;simp only[Function.comp,Rf];exact Bool.and_comm _ _
  have hst:L ~ (if tb=true then(M.filter fun m=>decide (m.n=0)).map fun m=>lb m.rw else[])++stays q P la lb ta tb A B a:=Zf.trans (Perm.append_right _ hgo.symm);have key:=TW (fun m:D=>lb m.rw) (fun m:D=>P a m.rw) (fun m=>decide (m.n=0)) tb (fun m=>kR m.rw) M L _ hst
  have e2:(fun m:D=>(if m.n=0∧tb=true then[(⟨lb m.rw,true⟩:Ch)] else[])++[⟨P a m.rw,false⟩])=fun m:D=>(if(decide (m.n=0))=true∧tb=true then[(⟨lb m.rw,true⟩:Ch)] else[])++[⟨P a m.rw,false⟩]:=by
   funext m
   simp only[decide_eq_true_eq]
  rw[e2];refine⟨key.1,key.2.trans (Perm.trans ?_ hmore.symm)⟩;refine Perm.append_left _ ?_;rw[hany,if_neg (by simp),append_nil];refine(hM.map _).trans (Perm.of_eq ?_);rw[map_map];rfl
theorem BM (q:Rw->Rw->Bool) (h:Rw->Bool) (A B:List Rw) (a:Rw) (R:List D) (win:D->Bool) (hw:∀r n,win (Ad r n)=q a r) (hlen:A.length < 9223372036854775807)
  (hR:R ~ (B.filter h).map fun r=>Ad r (A.countP fun a=>q a r)):(R.map fun x=>if win x=true then sH x else x) ~ (B.filter h).map fun r=>Ad r ((A++[a]).countP fun a=>q a r):=by
 refine(hR.map _).trans (Perm.of_eq ?_);rw[map_map];apply map_congr_left;intro r _;simp only[Function.comp,hw];rw[countP_append];cases hq:q a r
 ·simp[hq]
 ·have hc:A.countP (fun a=>q a r)<=A.length:=countP_le_length;rw[if_pos rfl,Rh _ _ (by omega)];simp[hq]
def mB (lo hi:Int) (l r:Rw):Bool:=decide (l.k=r.k∧lo<=r.t -l.t∧r.t -l.t<=hi)
def qE (l r:Rw):O:=⟨l.k,l.k,l.t,l.v,r.k,r.t,r.v,true,true⟩
def tX (l:Rw):O:=bn 0 l.k l.t l.v
def mP (r:Rw):O:=bn 1 r.k r.t r.v
def kv (lo hi mode:Int) (A B:List Rw):List O:=lq (mB lo hi) qE tX mP (bf mode 0) (bf mode 1) A B
structure Holds (x:J) (A B:List Rw):Prop where
 r0:x.R0 ~ (A.filter fun l=>decide (x.m1 < l.t+x.hi)).map fun l=>Ad l (B.countP fun r=>mB x.lo x.hi l r)
 r1:x.R1 ~ (B.filter fun r=>decide (x.m0 < r.t+ -x.lo)).map fun r=>Ad r (A.countP fun l=>mB x.lo x.hi l r)
 s0:ay x.R0
 s1:ay x.R1
theorem Holds.met0 {A B:List Rw} (h:Holds x A B) (a:Rw) (hl:x.m0 < a.t):bF a.k (a.t+x.lo) (a.t+x.hi) x.R1 ~ (B.filter (mB x.lo x.hi a)).map fun r=>Ad r (A.countP fun l=>mB x.lo x.hi l r):=by
 rw[gM h.s1];refine(h.r1.filter _).trans (Perm.of_eq ?_);rw[filter_map,filter_filter];congr 1;apply filter_congr;intro r _;show(decide (r.k=a.k∧a.t+x.lo<=r.t∧r.t<=a.t+x.hi) && decide (x.m0 < r.t+ -x.lo))=decide (a.k=r.k∧x.lo<=r.t -a.t∧r.t -a.t<=x.hi);rw[Bool.eq_iff_iff];simp only[Bool.and_eq_true,decide_eq_true_eq];omega
theorem Holds.met1 {A B:List Rw} (h:Holds x A B) (b:Rw) (hl:x.m1 < b.t):bF b.k (b.t+ -x.hi) (b.t+ -x.lo) x.R0 ~ (A.filter fun l=>mB x.lo x.hi l b).map fun l=>Ad l (B.countP fun r=>mB x.lo x.hi l r):=by
 rw[gM h.s0];refine(h.r0.filter _).trans (Perm.of_eq ?_);rw[filter_map,filter_filter];congr 1;apply filter_congr;intro r _;show(decide (r.k=b.k∧b.t+ -x.hi<=r.t∧r.t<=b.t+ -x.lo) && decide (x.m1 < r.t+x.hi))=decide (r.k=b.k∧x.lo<=b.t -r.t∧b.t -r.t<=x.hi);rw[Bool.eq_iff_iff];simp only[Bool.and_eq_true,decide_eq_true_eq];omega
theorem Holds.fed0 {A B:List Rw} (h:Holds x A B) (a:Rw) (hl:x.m0 < a.t) (hA:A.length < 9223372036854775807):Holds (x.fed0 a.k a.t a.v) (A++[a]) B:=by
 have hm:=h.met0 a hl;refine⟨?_,?_,?_,zm h.s1⟩
 ·show(if x.m1 < a.t+x.hi then _ else _) ~ (((A++[a]).filter fun l=>decide (x.m1 < l.t+x.hi)).map fun l=>Ad l (B.countP fun r=>mB x.lo x.hi l r));rw[filter_append,map_append]
  by_cases hh:x.m1 < a.t+x.hi
  ·rw[if_pos hh];refine(Gh _ _ _).trans ((Perm.cons _ h.r0).trans ?_)
   have e1:(bF a.k (a.t+x.lo) (a.t+x.hi) x.R1).length=B.countP fun r=>mB x.lo x.hi a r:=by
    rw[hm.length_eq,length_map,countP_eq_length_filter]
   have e2:([a].filter fun l=>decide (x.m1 < l.t+x.hi))=[a]:=by simp[hh]
   rw[e1,e2];exact(perm_append_comm (l₁:=[Ad a (B.countP fun r=>mB x.lo x.hi a r)]))
  ·rw[if_neg hh]
   have e2:([a].filter fun l=>decide (x.m1 < l.t+x.hi))=[]:=by simp;omega
   rw[e2,map_nil,append_nil];exact h.r0
 ·show fo x.R1 _ _ ~ ((B.filter fun r=>decide (x.m0 < r.t+ -x.lo)).map fun r=>Ad r ((A++[a]).countP fun l=>mB x.lo x.hi l r));rw[gZ h.s1];refine BM (fun l r=>mB x.lo x.hi l r) _ A B a x.R1 _ ?_ hA h.r1;intro r n;show decide (r.k=a.k∧a.t+x.lo<=r.t∧r.t<=a.t+x.hi)=decide (a.k=r.k∧x.lo<=r.t -a.t∧r.t -a.t<=x.hi);rw[Bool.eq_iff_iff];simp only[decide_eq_true_eq];omega
 ·show ay (if x.m1 < a.t+x.hi then _ else _)
  split
  ·exact qX _ _ _ _ h.s0
  ·exact h.s0
theorem Holds.fed1 {A B:List Rw} (h:Holds x A B) (b:Rw) (hl:x.m1 < b.t) (hB:B.length < 9223372036854775807):Holds (x.fed1 b.k b.t b.v) A (B++[b]):=by
 have hm:=h.met1 b hl;refine⟨?_,?_,zm h.s0,?_⟩
 ·show fo x.R0 _ _ ~ ((A.filter fun l=>decide (x.m1 < l.t+x.hi)).map fun l=>Ad l ((B++[b]).countP fun r=>mB x.lo x.hi l r));rw[gZ h.s0];refine BM (fun r l=>mB x.lo x.hi l r) _ B A b x.R0 _ ?_ hB h.r0;intro r n;show decide (r.k=b.k∧b.t+ -x.hi<=r.t∧r.t<=b.t+ -x.lo)=decide (r.k=b.k∧x.lo<=b.t -r.t∧b.t -r.t<=x.hi);rw[Bool.eq_iff_iff];simp only[decide_eq_true_eq];omega
 ·show(if x.m0 < b.t+ -x.lo then _ else _) ~ (((B++[b]).filter fun r=>decide (x.m0 < r.t+ -x.lo)).map fun r=>Ad r (A.countP fun l=>mB x.lo x.hi l r));rw[filter_append,map_append]
  by_cases hh:x.m0 < b.t+ -x.lo
  ·rw[if_pos hh];refine(Gh _ _ _).trans ((Perm.cons _ h.r1).trans ?_)
   have e1:(bF b.k (b.t+ -x.hi) (b.t+ -x.lo) x.R0).length=A.countP fun l=>mB x.lo x.hi l b:=by
    rw[hm.length_eq,length_map,countP_eq_length_filter]
   have e2:([b].filter fun r=>decide (x.m0 < r.t+ -x.lo))=[b]:=by simp;omega
   rw[e1,e2];exact(perm_append_comm (l₁:=[Ad b (A.countP fun l=>mB x.lo x.hi l b)]))
  ·rw[if_neg hh]
   have e2:([b].filter fun r=>decide (x.m0 < r.t+ -x.lo))=[]:=by simp;omega
   rw[e2,map_nil,append_nil];exact h.r1
 ·show ay (if x.m0 < b.t+ -x.lo then _ else _)
  split
  ·exact qX _ _ _ _ h.s1
  ·exact h.s1
theorem Holds.moved0 {A B:List Rw} (h:Holds x A B) (t:Int) (ht:x.m0<=t):Holds { x with m0:=t,R1:=keepR (fun y=>decide (y.t<=t+x.lo)) x.R1} A B:=by
 refine⟨h.r0,?_,h.s0,vZ h.s1⟩;show keepR _ x.R1 ~ ((B.filter fun r=>decide (t < r.t+ -x.lo)).map fun r=>Ad r (A.countP fun l=>mB x.lo x.hi l r));unfold keepR;refine(h.r1.filter _).trans (Perm.of_eq ?_);rw[filter_map,filter_filter];congr 1;apply filter_congr;intro r _;show((!decide (r.t<=t+x.lo)) && decide (x.m0 < r.t+ -x.lo))=decide (t < r.t+ -x.lo);rw[Bool.eq_iff_iff];simp only[Bool.and_eq_true,Bool.not_eq_true',decide_eq_true_eq,decide_eq_false_iff_not];omega
theorem Holds.moved1 {A B:List Rw} (h:Holds x A B) (t:Int) (ht:x.m1<=t):Holds { x with m1:=t,R0:=keepR (fun y=>decide (y.t<=t -x.hi)) x.R0} A B:=by
 refine⟨?_,h.r1,vZ h.s0,h.s1⟩;show keepR _ x.R0 ~ ((A.filter fun l=>decide (t < l.t+x.hi)).map fun l=>Ad l (B.countP fun r=>mB x.lo x.hi l r));unfold keepR;refine(h.r0.filter _).trans (Perm.of_eq ?_);rw[filter_map,filter_filter];congr 1;apply filter_congr;intro r _;show((!decide (r.t<=t -x.hi)) && decide (x.m1 < r.t+x.hi))=decide (t < r.t+x.hi);rw[Bool.eq_iff_iff];simp only[Bool.and_eq_true,Bool.not_eq_true',decide_eq_true_eq,decide_eq_false_iff_not];omega
theorem Holds.view0 {A B:List Rw} (h:Holds x A B) (a:Rw) (hl:x.m0 < a.t) (hL:L ~ kv x.lo x.hi x.mode A B):
  G7 L (bU x.mode 0 a.k a.t a.v (bF a.k (a.t+x.lo) (a.t+x.hi) x.R1))∧iE L (bU x.mode 0 a.k a.t a.v (bF a.k (a.t+x.lo) (a.t+x.hi) x.R1)) ~ kv x.lo x.hi x.mode (A++[a]) B:=
 BL (mB x.lo x.hi) qE tX mP (bf x.mode 0) (bf x.mode 1) (fun _=>rfl) A B a _ L (h.met0 a hl) hL
theorem Holds.view1 {A B:List Rw} (h:Holds x A B) (b:Rw) (hl:x.m1 < b.t) (hL:L ~ kv x.lo x.hi x.mode A B):
  G7 L (bU x.mode 1 b.k b.t b.v (bF b.k (b.t+ -x.hi) (b.t+ -x.lo) x.R0))∧iE L (bU x.mode 1 b.k b.t b.v (bF b.k (b.t+ -x.hi) (b.t+ -x.lo) x.R0)) ~ kv x.lo x.hi x.mode A (B++[b]):=by
 have key:=BL (fun r l=>mB x.lo x.hi l r) (fun r l=>qE l r) mP tX (bf x.mode 1) (bf x.mode 0) (fun _=>rfl) B A b _ L (h.met1 b hl) (hL.trans (zl _ _ _ _ _ _ A B));exact⟨key.1,key.2.trans (zl (mB x.lo x.hi) qE tX mP (bf x.mode 0) (bf x.mode 1) A (B++[b])).symm⟩
end
section
open List
variable {x:J} {A B:List Rw}
section
variable {α β:Type} (q:α->β->Bool) (P:α->β->O) (la:α->O) (lb:β->O) (ta tb:Bool)
def Rj (A:List α) (B:List β):List O:=
 (A.flatMap fun a=>(B.filter (q a)).map (P a)++(if B.any (q a)=false∧ta=true then[la a] else[]))++(if tb=true then(B.filter fun b=> !A.any fun a=>q a b).map lb else[])
theorem La (A:List α) (B:List β):Rj q P la lb ta tb A B ~ lq q P la lb ta tb A B:=by
 unfold Rj lq;rw[<-append_assoc];refine Perm.append_right _ ((jO _ _ A).trans (Perm.append_left _ (Perm.of_eq ?_)))
 induction A with
 | nil=>cases ta <;>rfl
 | cons a r ih=>
  rw[flatMap_cons,ih];cases ta
  ·simp
  ·cases hb:B.any (q a)
   ·simp[hb]
   ·simp[hb]
end
theorem Holds.yet0 (h:Holds x A B) (y:D) (hy:y∈x.R0):x.m1 < y.t+x.hi∧0<=y.n∧y.n<=B.length∧y.rw∈A:=by
 obtain⟨l,hl,rfl⟩:=mem_map.1 (h.r0.subset hy);rw[mem_filter] at hl;have hc:B.countP (fun r=>mB x.lo x.hi l r)<=B.length:=countP_le_length;refine⟨of_decide_eq_true hl.2,?_,?_,hl.1⟩
 ·show(0:Int)<=((B.countP (fun r=>mB x.lo x.hi l r):Nat):Int);omega
 ·show((B.countP (fun r=>mB x.lo x.hi l r):Nat):Int)<=_;omega
theorem Holds.yet1 (h:Holds x A B) (y:D) (hy:y∈x.R1):x.m0 < y.t+ -x.lo∧0<=y.n∧y.n<=A.length∧y.rw∈B:=by
 obtain⟨l,hl,rfl⟩:=mem_map.1 (h.r1.subset hy);rw[mem_filter] at hl;have hc:A.countP (fun r=>mB x.lo x.hi r l)<=A.length:=countP_le_length;refine⟨of_decide_eq_true hl.2,?_,?_,hl.1⟩
 ·show(0:Int)<=((A.countP (fun r=>mB x.lo x.hi r l):Nat):Int);omega
 ·show((A.countP (fun r=>mB x.lo x.hi r l):Nat):Int)<=_;omega
theorem Holds.new (lo hi mode m0 m1 late:Int):Holds ⟨lo,hi,mode,m0,m1,late,[],[]⟩ [] []:=⟨Perm.refl _,Perm.refl _,Pairwise.nil,Pairwise.nil⟩
end
section
open Go.RowKit Go.Sort
def abE (r:Rw):List Value:=[.int .i64 r.k,.int .i64 r.t,.int .i64 r.v]
def zRw:Value:= .agg #[.int .i64 0,.int .i64 0,.int .i64 0]
theorem MQ (xs:List Ch) (k j:Nat) (x:Ch) (hx:xs[k]? =some x) (hj:j < 10):(xs.flatMap aQ)[k * 10+j]? =(aQ x)[j]? :=by
 induction xs generalizing k with
 | nil=>simp at hx
 | cons a r ih=>
  rw[List.flatMap_cons]
  cases k with
  | zero=>
   simp at hx;subst hx;rw[List.getElem?_append_left (by rw[kC];omega)];congr 1;omega
  | succ k=>
   rw[List.getElem?_append_right (by rw[kC];omega),kC,show(k+1) * 10+j -10=k * 10+j by omega];exact ih k (by simpa using hx)
theorem Eb {W:World} {base gs n ck:Nat} {xs:List Ch} (h:W.ownsRow base 95 10 (.slice (some ⟨gs,0,none⟩) n ck) n (xs.flatMap aQ)) (k:Nat) (c:Ch) (hx:xs[k]? =some c):
  W.cell? ⟨gs,k * 10,none⟩=some (.int .i64 c.x.k)∧W.cell? ⟨gs,k * 10+1,none⟩=some (.int .i64 c.x.lk)∧W.cell? ⟨gs,k * 10+2,none⟩=some (.int .i64 c.x.lt)∧W.cell? ⟨gs,k * 10+3,none⟩=some (.int .i64 c.x.lv)∧W.cell? ⟨gs,k * 10+4,none⟩=some (.int .i64 c.x.rk)∧W.cell? ⟨gs,k * 10+5,none⟩=some (.int .i64 c.x.rt)∧W.cell? ⟨gs,k * 10+6,none⟩=some (.int .i64 c.x.rv)∧W.cell? ⟨gs,k * 10+7,none⟩=some (.bool c.x.hl)∧W.cell? ⟨gs,k * 10+8,none⟩=some (.bool c.x.hr)∧W.cell? ⟨gs,k * 10+9,none⟩=some (.bool c.g):=by
 have key:=fun(j:Nat) (v:Value) (hj:j < 10) (hv:(aQ c)[j]? =some v)=>h.cells (g:=gs) rfl (k * 10+j) v ((MQ xs k j c hx hj).trans hv)
 simp only[bZ] at key;exact⟨key 0 _ (by omega) rfl,key 1 _ (by omega) rfl,key 2 _ (by omega) rfl,key 3 _ (by omega) rfl,key 4 _ (by omega) rfl,key 5 _ (by omega) rfl,key 6 _ (by omega) rfl,key 7 _ (by omega) rfl,key 8 _ (by omega) rfl,key 9 _ (by omega) rfl⟩
theorem Oi:∀(C:List Ch) (F:List O) (i:Nat) (c:Ch),G7 F C->C[i]? =some c->c.g=true->c.x∈iE F (C.take i)∧(c.x.hl && c.x.hr)=false
 | [],_,i,c,_,h,_=>by simp at h
 | a::C,F,0,c,ho,h,hg=>by
  simp at h;subst h;exact ho.1 hg
 | a::C,F,i+1,c,ho,h,hg=>by
  rw[List.take_succ_cons,BH];exact Oi C _ i c ho.2 (by simpa using h) hg
theorem KX (C:List Ch) (F:List O) (i:Nat) (c:Ch) (h:C[i]? =some c):iE F (C.take (i+1))=if c.g=true then(iE F (C.take i)).erase c.x else c.x::iE F (C.take i):=by
 rw[List.take_add_one,h,Gb];rfl
theorem D9:∀(C:List Ch) (F:List O),(iE F C).length<=F.length+C.length
 | [],F=>Nat.le_refl _
 | c::C,F=>by
  rw[BH];refine Nat.le_trans (D9 C _) ?_
  split
  ·have :=List.length_erase_le (a:=c.x) (l:=F);simp;omega
  ·simp;omega
def tV (Ui:(Nat->Prop)->World->Prop):Prop:=∀S W W',Ui S W->W.heap.size<=W'.heap.size->(∀k,S k->W'.heap[k]? =W.heap[k]?)->Ui S W'
end
section
open Go.RowKit Go.Sort
theorem ow (k:Int) (w:World):(binOp .neq 29 (.iface 24 (.int .i64 k)) .nilIface).run Tryz.prog w= .ok (.bool true) w:=by kernel_rfl
end
section
open Go.Proofs.Tryz Go.RowKit Go.Sort
structure DF (x:J):Prop where
 lo1: -1048576<=x.lo
 lo2:x.lo<=1048576
 hi1: -1048576<=x.hi
 hi2:x.hi<=1048576
 s0:ay x.R0
 s1:ay x.R1
 l0:x.R0.length<=300
 l1:x.R1.length<=300
 n0:∀y∈x.R0,0<=y.n∧y.n<=1000000
 n1:∀y∈x.R1,0<=y.n∧y.n<=1000000
 late:0<=x.late∧x.late<=1000000
abbrev qc (x:J) (r:Rw):List Ch:=bU x.mode 0 r.k r.t r.v (bF r.k (r.t+x.lo) (r.t+x.hi) x.R1)
abbrev qd (x:J) (r:Rw):List Ch:=bU x.mode 1 r.k r.t r.v (bF r.k (r.t+ -x.hi) (r.t+ -x.lo) x.R0)
abbrev eO (S S':Nat->Prop) (W w':World):Prop:=(∀k,S' k->(S k∨W.heap.size<=k)∧k < w'.heap.size)∧Turned S W w'
def iD:Value:= .iface 278 (.agg #[.pointer (some ⟨12,29,none⟩)])
structure OB (fK:Nat->J->List O->(Nat->Prop)->World->Prop):Prop where
 steady:∀be x L,tV (fK be x L)
 foot:∀be x L S W,fK be x L S W->∀k,S k->k < W.heap.size
 new:∀lo hi mode W,dn lo hi mode->Calls prog 13 #[.agg #[.int .i64 lo,.int .i64 hi,.int .i64 mode]] W fun e w'=>∃be S,e= .returned (.tuple #[.pointer (some ⟨be,0,none⟩),.nilIface])∧fK be ⟨lo,hi,mode,-1099511627777,-1099511627777,0,[],[]⟩ [] S w'∧(∀k,S k->W.heap.size<=k∧k < w'.heap.size)∧Below W.heap.size W w'
 feed0:∀be x L S W (r:Rw),fK be x L S W->DF x->au r.k r.t r.v=true->x.m0 < r.t->(x.m1 < r.t+x.hi->x.R0.length < 300)->G7 L (qc x r)->(∀c∈qc x r,c.x.wf)->L.length<=1000000->
  Calls prog 11 #[.pointer (some ⟨be,0,none⟩),.int .i64 0,.agg #[.int .i64 r.k,.int .i64 r.t,.int .i64 r.v]] W fun e w'=>∃v9 S',e= .returned (.tuple #[v9,.nilIface])∧w'.ownsRow W.heap.size 95 10 v9 (qc x r).length ((qc x r).flatMap aQ)∧fK be (x.fed0 r.k r.t r.v) (iE L (qc x r)) S' w'∧eO S S' W w'
 feed1:∀be x L S W (r:Rw),fK be x L S W->DF x->au r.k r.t r.v=true->x.m1 < r.t->(x.m0 < r.t+ -x.lo->x.R1.length < 300)->G7 L (qd x r)->(∀c∈qd x r,c.x.wf)->L.length<=1000000->
  Calls prog 11 #[.pointer (some ⟨be,0,none⟩),.int .i64 1,.agg #[.int .i64 r.k,.int .i64 r.t,.int .i64 r.v]] W fun e w'=>∃v9 S',e= .returned (.tuple #[v9,.nilIface])∧w'.ownsRow W.heap.size 95 10 v9 (qd x r).length ((qd x r).flatMap aQ)∧fK be (x.fed1 r.k r.t r.v) (iE L (qd x r)) S' w'∧eO S S' W w'
 view:∀be x L S W,fK be x L S W->L.length<=1000000->Calls prog 27 #[.pointer (some ⟨be,0,none⟩)] W fun e w'=>∃(v:Value) (Z:List O),e= .returned v∧Z.Perm L∧w'.ownsRow W.heap.size 89 9 v Z.length (Z.flatMap ah)∧Below W.heap.size W w'
structure YM (fK:Nat->J->List O->(Nat->Prop)->World->Prop):Prop extends OB fK where
 late:∀be x L S W (r:Rw) (s:Int),W.cell? ⟨2,0,none⟩=some iD->fK be x L S W->DF x->au r.k r.t r.v=true->(s=0∧r.t<=x.m0∨s=1∧r.t<=x.m1)->
  Calls prog 11 #[.pointer (some ⟨be,0,none⟩),.int .i64 s,.agg #[.int .i64 r.k,.int .i64 r.t,.int .i64 r.v]] W fun e w'=>∃S',e= .returned (.tuple #[.slice none 0 0,.iface 24 (.int .i64 10)])∧fK be { x with late:=bR x.late} L S' w'∧eO S S' W w'
 full:∀be x L S W (r:Rw) (s:Int),W.cell? ⟨2,0,none⟩=some iD->fK be x L S W->DF x->au r.k r.t r.v=true->(s=0∧x.m0 < r.t∧x.m1 < r.t+x.hi∧300<=x.R0.length∨s=1∧x.m1 < r.t∧x.m0 < r.t+ -x.lo∧300<=x.R1.length)->
  Calls prog 11 #[.pointer (some ⟨be,0,none⟩),.int .i64 s,.agg #[.int .i64 r.k,.int .i64 r.t,.int .i64 r.v]] W fun e w'=>∃S',e= .returned (.tuple #[.slice none 0 0,.iface 24 (.int .i64 12)])∧fK be x L S' w'∧eO S S' W w'
 move0:∀be x L S W (t:Int),fK be x L S W->DF x->x.m0<=t->(-1099511627776<=t∧t<=1099511627776)->
  Calls prog 15 #[.pointer (some ⟨be,0,none⟩),.int .i64 0,.int .i64 t] W fun e w'=>∃S',e= .returned .nilIface∧fK be { x with m0:=t,R1:=keepR (fun y=>decide (y.t<=t+x.lo)) x.R1} L S' w'∧eO S S' W w'
 move1:∀be x L S W (t:Int),fK be x L S W->DF x->x.m1<=t->(-1099511627776<=t∧t<=1099511627776)->
  Calls prog 15 #[.pointer (some ⟨be,0,none⟩),.int .i64 1,.int .i64 t] W fun e w'=>∃S',e= .returned .nilIface∧fK be { x with m1:=t,R0:=keepR (fun y=>decide (y.t<=t -x.hi)) x.R0} L S' w'∧eO S S' W w'
 tell:∀c W,W.cell? ⟨2,0,none⟩=some iD->c=4∨c=10∨c=12->Calls prog 46 #[.iface 24 (.int .i64 c)] W fun e w'=>e= .returned (.int .i64 c)∧Below W.heap.size W w'
structure xO (W:World):Prop where
 err:W.cell? ⟨2,0,none⟩=some iD
 tab:Lib.TabIs prog W "internal/strconv.uint64pow10" .u64 Lib.pow10Tab
 max:∃m,W.cell? ⟨3,0,none⟩=some (.int .i64 m)
theorem aG {w w':World} (h:Lib.TabIs prog w "internal/strconv.uint64pow10" .u64 Lib.pow10Tab) (hb:Below w.heap.size w w'):Lib.TabIs prog w' "internal/strconv.uint64pow10" .u64 Lib.pow10Tab:=by
 have hg:prog.globalNamed "internal/strconv.uint64pow10" =some 6:=by kernel_rfl
 unfold Lib.TabIs World.var? at h⊢;rw[hg] at h⊢;simp only[Option.bind_some] at h⊢
 have hlt:6 < w.heap.size:=by
  rcases Nat.lt_or_ge 6 w.heap.size with h' | h'
  ·exact h'
  ·rw[Array.getElem?_eq_none h'] at h;cases h
 rw[hb.block 6 hlt];exact h
theorem xO.below {W W':World} (h:xO W) (hb:Below W.heap.size W W'):xO W':=by
 obtain⟨m,hm⟩:=h.max;exact⟨(hb.cell (p:=⟨2,0,none⟩) (World.block_lt_of_cell? _ _ h.err)).trans h.err,aG h.tab hb,m,(hb.cell (p:=⟨3,0,none⟩) (World.block_lt_of_cell? _ _ hm)).trans hm⟩
inductive iK:O->Prop
 | left (k t v:Int):au k t v=true->iK (bn 0 k t v)
 | right (k t v:Int):au k t v=true->iK (bn 1 k t v)
 | pair (k t v t2 v2:Int):au k t v=true->au k t2 v2=true->iK ⟨k,k,t,v,k,t2,v2,true,true⟩
structure XJ (fK:Nat->J->List O->(Nat->Prop)->World->Prop):Prop where
 saved:∀be x L S0 W0,fK be x L S0 W0->DF x->dn x.lo x.hi x.mode->(-1099511627777<=x.m0∧x.m0<=1099511627776)->(-1099511627777<=x.m1∧x.m1<=1099511627776)->(∀y∈x.R0,au y.k y.t y.v=true)->(∀y∈x.R1,au y.k y.t y.v=true)->(∀o∈L,iK o)->L.length<=1000000->
  ∃(Ui:(Nat->Prop)->World->Prop) (txt:ByteArray),tV Ui∧Ui S0 W0∧(∀S W,Ui S W->fK be x L S W)∧((∀S W,Ui S W->xO W->Calls prog 18 #[.pointer (some ⟨be,0,none⟩)] W fun e w'=>e= .returned (.tuple #[.string txt,.iface 24 (.int .i64 4)])∧Below W.heap.size W w')∨
  ((∀S W,Ui S W->xO W->Calls prog 18 #[.pointer (some ⟨be,0,none⟩)] W fun e w'=>e= .returned (.tuple #[.string txt,.nilIface])∧Below W.heap.size W w')∧
   ∀W,xO W->Calls prog 8 #[.string txt] W fun e w'=>∃iF S',e= .returned (.tuple #[.pointer (some ⟨iF,0,none⟩),.nilIface])∧(∃L':List O,L'.Perm L∧fK iF x L' S' w')∧(∀k,S' k->W.heap.size<=k∧k < w'.heap.size)∧Below W.heap.size W w'))
end
section
open Go.RowKit Go.Sort
structure aU (W:World):Prop where
 g:xO W
 e5:∃ev,W.cell? ⟨4,0,none⟩=some ev∧(ev= .nilIface∨∃te pe,ev= .iface te pe)
 e6:∃ev,W.cell? ⟨5,0,none⟩=some ev∧(ev= .nilIface∨∃te pe,ev= .iface te pe)
theorem aU.below {W W':World} (h:aU W) (hb:Below W.heap.size W W'):aU W':=by
 obtain⟨v5,a5,b5⟩:=h.e5;obtain⟨v6,a6,b6⟩:=h.e6;exact⟨h.g.below hb,⟨v5,(hb.cell (p:=⟨4,0,none⟩) (World.block_lt_of_cell? _ _ a5)).trans a5,b5⟩,⟨v6,(hb.cell (p:=⟨5,0,none⟩) (World.block_lt_of_cell? _ _ a6)).trans a6,b6⟩⟩
end
section
open Go.RowKit Go.Sort
variable {r:Rw} {A B:List Rw} {x:J}
def Rw.small (r:Rw):Prop:=(-1099511627776<=r.k∧r.k<=1099511627776)∧(-1099511627776<=r.t∧r.t<=1099511627776)∧(-1099511627776<=r.v∧r.v<=1099511627776)
theorem iW {n:Int} (h: -1099511627776<=n∧n<=1099511627776):(Lit.int .i64 n).wf=true:=WalkArith.wf_i64 (by omega)
def Cs (lo hi mode:Int) (B:List Rw) (a:Rw):List O:=(B.filter (mB lo hi a)).map (qE a)++(if B.any (mB lo hi a)=false∧bf mode 0=true then[tX a] else[])
theorem Hu (lo hi mode:Int) (B:List Rw) (a:Rw):(Cs lo hi mode B a).length<=B.length+1:=by
 unfold Cs;rw[List.length_append,List.length_map];have :=List.length_filter_le (mB lo hi a) B
 split <;>simp <;>omega
theorem Hw (lo hi mode:Int) (B:List Rw) (A:List Rw):(A.flatMap (Cs lo hi mode B)).length<=A.length * (B.length+1):=by
 induction A with
 | nil=>simp
 | cons a r ih=>
  have :=Hu lo hi mode B a;rw[List.flatMap_cons,List.length_append,List.length_cons,Nat.add_mul];omega
theorem OC (lo hi mode:Int) (A B:List Rw):(kv lo hi mode A B).length<=A.length * (B.length+1)+B.length:=by
 have h:=(La (mB lo hi) qE tX mP (bf mode 0) (bf mode 1) A B).length_eq;have h1:=Hw lo hi mode B A
 have h2:(kv lo hi mode A B).length=(A.flatMap (Cs lo hi mode B)).length+(if bf mode 1=true then(B.filter fun b=> !A.any fun a=>mB lo hi a b).map mP else[]).length:=by
  rw[<-List.length_append];exact h.symm
 have h3:(if bf mode 1=true then(B.filter fun b=> !A.any fun a=>mB lo hi a b).map mP else[]).length<=B.length:=by
  split
  ·rw[List.length_map];exact List.length_filter_le _ _
  ·simp
 omega
theorem o8 (lo hi mode:Int) (A B:List Rw) (n:Nat) (hn:n<=1600) (h:A.length+B.length<=n):(kv lo hi mode A B).length<=700000:=by
 have h1:=OC lo hi mode A B
 have h2:A.length * (B.length+1)<=641601:=by
  have h3:4 * (A.length * (B.length+1))<=(A.length+(B.length+1)) * (A.length+(B.length+1)):=by
   rcases Nat.le_total A.length (B.length+1) with g | g
   ·obtain⟨d,hd⟩:=Nat.exists_eq_add_of_le g;rw[hd]
    have :(A.length+(A.length+d)) * (A.length+(A.length+d))=4 * (A.length * (A.length+d))+d * d:=by
     simp only[Nat.mul_add,Nat.add_mul];have :=Nat.mul_comm d A.length;omega
    omega
   ·obtain⟨d,hd⟩:=Nat.exists_eq_add_of_le g;rw[hd]
    have :(B.length+1+d+(B.length+1)) * (B.length+1+d+(B.length+1))=4 * ((B.length+1+d) * (B.length+1))+d * d:=by
     generalize B.length+1=m;simp only[Nat.mul_add,Nat.add_mul];have :=Nat.mul_comm d m;omega
    omega
  have h4:(A.length+(B.length+1)) * (A.length+(B.length+1))<=1601 * 1601:=Nat.mul_le_mul (by omega) (by omega);omega
 omega
theorem wO {key fH av:Int} {R:List D} {y:D} (h:y∈bF key fH av R):y∈R:=List.mem_of_mem_drop ((List.takeWhile_sublist _).subset h)
theorem wN (mode s:Int) (r:Rw) (M:List D) (hr:r.small) (hM:∀y∈M,y.rw.small):∀c∈bU mode s r.k r.t r.v M,c.x.wf:=by
 have hl:∀(u:Int) (q:Rw),q.small->(bn u q.k q.t q.v).wf:=fun u q hq=>by
  unfold bn
  split
  ·exact⟨iW hq.1,iW hq.1,iW hq.2.1,iW hq.2.2,iW (n:=0) (by omega),iW (n:=0) (by omega),iW (n:=0) (by omega)⟩
  ·exact⟨iW hq.1,iW (n:=0) (by omega),iW (n:=0) (by omega),iW (n:=0) (by omega),iW hq.1,iW hq.2.1,iW hq.2.2⟩
 have hp:∀(u:Int) (q m:Rw),q.small->m.small->(bY u q.k q.t q.v m.k m.t m.v).wf:=fun u q m hq hm=>by
  unfold bY
  split
  ·exact⟨iW hq.1,iW hq.1,iW hq.2.1,iW hq.2.2,iW hm.1,iW hm.2.1,iW hm.2.2⟩
  ·exact⟨iW hm.1,iW hm.1,iW hm.2.1,iW hm.2.2,iW hq.1,iW hq.2.1,iW hq.2.2⟩
 intro c hc;unfold bU at hc
 split at hc
 ·split at hc
  ·simp at hc;subst hc;exact hl s r hr
  ·simp at hc
 ·rw[List.mem_flatMap] at hc;obtain⟨m,hm,hc⟩:=hc;have hms:=hM m hm;unfold dU at hc;rw[List.mem_append] at hc
  rcases hc with hc | hc
  ·split at hc
   ·simp at hc;subst hc;exact hl (1 -s) m.rw hms
   ·simp at hc
  ·simp at hc;subst hc;exact hp s r m.rw hr hms
theorem pg (mode s k t v:Int) (M:List D):(bU mode s k t v M).length<=2 * M.length+1:=by
 unfold bU
 split
 ·split <;>simp
 ·have :=rP (bf mode (1 -s)) s (1 -s) k t v M;omega
theorem ji (h:r.small):au r.k r.t r.v=true:=by
 unfold Rw.small at h;unfold au iG;simp;omega
theorem dI (h:au r.k r.t r.v=true):r.small:=by
 unfold au iG at h;unfold Rw.small;simp at h;omega
theorem Gy {lo hi mode:Int} (hA:∀r∈A,r.small) (hB:∀r∈B,r.small):∀o∈kv lo hi mode A B,iK o:=by
 intro o ho;unfold kv lq at ho;rw[List.mem_append,List.mem_append] at ho
 rcases ho with ho | ho | ho
 ·rw[List.mem_flatMap] at ho;obtain⟨a,ha,ho⟩:=ho;rw[List.mem_map] at ho;obtain⟨b,hb,rfl⟩:=ho;obtain⟨hb1,hb2⟩:=List.mem_filter.1 hb
  have hk:a.k=b.k:=by
   unfold mB at hb2;simp at hb2;omega
  have :=iK.pair a.k a.t a.v b.t b.v (ji (hA a ha)) (by rw[hk];exact ji (hB b hb1));unfold qE;rw[<-hk];exact this
 ·split at ho
  ·rw[List.mem_map] at ho;obtain⟨a,ha,rfl⟩:=ho;exact iK.left _ _ _ (ji (hA a (List.mem_filter.1 ha).1))
  ·cases ho
 ·split at ho
  ·rw[List.mem_map] at ho;obtain⟨a,ha,rfl⟩:=ho;exact iK.right _ _ _ (ji (hB a (List.mem_filter.1 ha).1))
  ·cases ho
theorem Holds.good0 (h:Holds x A B) (hA:∀r∈A,r.small):∀y∈x.R0,au y.k y.t y.v=true:=by
 intro y hy;have :=h.r0.subset hy;rw[List.mem_map] at this;obtain⟨l,hl,rfl⟩:=this;exact ji (hA l (List.mem_filter.1 hl).1)
theorem Holds.good1 (h:Holds x A B) (hB:∀r∈B,r.small):∀y∈x.R1,au y.k y.t y.v=true:=by
 intro y hy;have :=h.r1.subset hy;rw[List.mem_map] at this;obtain⟨l,hl,rfl⟩:=this;exact ji (hB l (List.mem_filter.1 hl).1)
theorem UF (h:Holds x A B) (p:dn x.lo x.hi x.mode) (hl0:x.R0.length<=300) (hl1:x.R1.length<=300) (hA:A.length<=1000000) (hB:B.length<=1000000) (gN:0<=x.late∧x.late<=1000000):DF x:=by
 unfold dn at p;exact⟨by omega,by omega,by omega,by omega,h.s0,h.s1,hl0,hl1,fun y hy=>by have :=h.yet0 y hy;omega,fun y hy=>by have :=h.yet1 y hy;omega,gN⟩
end
section
open Go.Joins Go.RowKit Go.Sort
open Go.WideElems (Fit rd rg)
variable {w w':World} {k b o m base bm m':Nat} {om:Option Nat} {L:List O} {S:Nat->Prop} {G:Int->Option Tl} {v0 v1:Value} {x:J}
theorem Ay {α:Type}:∀(xs L:List α),xs.Nodup->(∀x∈xs,x∈L)->xs.length<=L.length
 | [],_,_,_=>Nat.zero_le _
 | a::r,L,hn,hs=>by
  obtain⟨s,t,rfl⟩:=List.append_of_mem (hs a (by simp))
  have h1:∀x∈r,x∈s++t:=fun x hx=>by
   have h2:=hs x (by simp[hx])
   have h3:x≠a:=fun e=>(List.nodup_cons.1 hn).1 (by rw[<-e];exact hx)
   simp at h2⊢
   rcases h2 with h | h | h
   ·exact .inl h
   ·exact absurd h h3
   ·exact .inr h
  have :=Ay r (s++t) (List.nodup_cons.1 hn).2 h1;simp at this⊢;omega
theorem tQ {H:Type} {P:Program} {k:TypeId} {R:Value->Option (DataW H×List MemPlace)} {n:Nat} {D:DataW H} (h:w.ownsMap P k R b n D) (K:Maps.Keyed P k) (Ks:List Lit) (hK:∀l,Maps.has D l=true->l∈Ks):w.ownsMap P k R b Ks.length D:=by
 have ht:=h.tidy K;obtain⟨es,clock,hb,F,hs,rfl⟩:=h;refine⟨es,clock,hb,F,?_,rfl⟩;obtain⟨l,e,hp⟩:=ht
 have hl:((es.toList.map (rg P k R)).foldr DataW.insert []).length=es.size:=by simp[length_sorted]
 have hm:∀p∈(es.toList.map (rg P k R)).foldr DataW.insert [],WideAt.IsKeyLit p.1:=by
  intro p hp;rw[(WideShapes.sorted_perm _).mem_iff] at hp;obtain⟨x,hx,rfl⟩:=List.mem_map.1 hp;obtain⟨y,hy⟩:=F.reads x hx
  have :rg P k R x=y:=by simp[rg,hy]
  rw[this];exact K.key (WideElems.rd_key hy)
 have e2:(es.toList.map (rg P k R)).foldr DataW.insert []=l:=by injection e
 rw[e2] at hl hm hK;rw[<-hl,<-List.length_map (f:=fun p:Lit×DataW H=>p.1)];refine Ay _ _ (List.pairwise_map.2 hp) ?_;intro x hx;obtain⟨p,hp1,rfl⟩:=List.mem_map.1 hx;refine hK _ ?_;rw[Maps.has_eq];exact List.any_eq_true.2 ⟨p,hp1,WideAt.sameKey_self (hm p hp1)⟩
theorem aP.tight (h:aP w b o om m L):aP w b o om L.length L:=by
 refine⟨h.blk,?_⟩
 rcases h.map with hx | ⟨bm,n,D,h1,hn,hown,hc⟩
 ·exact .inl hx
 ·refine .inr ⟨bm,L.length,D,h1,Nat.le_refl _,?_,hc⟩;have :=tQ hown keyed (L.map kL) (fun l hl=>by obtain⟨x,hx,rfl⟩:=hc.keys l hl;exact List.mem_map_of_mem hx);simpa using this
theorem Oe (M:List O):(bD M).R.length<=M.length:=by
 induction M with
 | nil=>simp[bD]
 | cons x M ih=>
  show(if x.hr=true then x.rv::(bD M).R else(bD M).R).length<=_
  split
  all_goals (simp only[List.length_cons];omega)
theorem lu.tight (h:lu w b o m S (bK L)):lu w b o L.length S (bK L):=by
 obtain⟨om,aO,hg,h2,h3⟩:=h;refine⟨om,aO,⟨hg.blk,?_⟩,h2,h3⟩
 rcases hg.map with hx | ⟨bm,n,D,e,hM⟩
 ·exact .inl hx
 ·have ht:∀k τ,bK L k=some τ->τ=bD (gK L k)∧gK L k≠[]:=by
   intro k τ hk;unfold bK at hk
   split at hk
   ·cases hk
   ·rename_i hne
    exact⟨by injection hk with hk;exact hk.symm,hne⟩
  refine .inr ⟨bm,L.length,D,e,Nat.le_refl _,?_,hM.dat,?_,hM.bmb,hM.nb,hM.inj⟩
  ·have :=tQ hM.own fJ (L.map fun o=>gi o.k) (fun l hl=>by
    obtain⟨k,τ,rfl,hk⟩:=hM.dat.keys l hl;obtain⟨_,h1⟩:=ht k τ hk;obtain⟨y,hy⟩:=List.exists_mem_of_ne_nil _ h1;obtain⟨hy1,hy2⟩:=List.mem_filter.1 hy;rw[List.mem_map]
    exact⟨y,hy1,by simp at hy2;rw[hy2]⟩)
   simpa using this
  ·intro k τ hk;obtain⟨e1,h1⟩:=ht k τ hk;have hT:=hM.tals k τ hk;obtain⟨n',D',_,ho,hc⟩:=hT.own;have hl:(gK L k).length<=L.length:=List.length_filter_le _ _
   have hR:τ.R.length<=L.length:=by rw[e1];exact Nat.le_trans (Oe _) hl
   refine⟨hT.blk,⟨τ.R.length,D',hR,?_,hc⟩,hT.lo,by rw[e1,jZ];exact hl,hR⟩;have :=tQ ho fJ (τ.R.map gi) (fun l hl=>by obtain⟨x,hx,rfl⟩:=hc.keys l hl;exact List.mem_map_of_mem hx);simpa using this
theorem lu.other (h:lu w b o m S G) (hs:w.heap.size<=w'.heap.size) (hb:∀cs T,w.heap[b]? =some (.cells cs T)->∃cs':Array Value,w'.heap[b]? =some (.cells cs' T)∧cs'[o]? =cs[o]?) (hk:∀j,S j->j≠b->w'.heap[j]? =w.heap[j]?):lu w' b o m S G:=by
 obtain⟨om,aO,hg,h2,h3⟩:=h;refine⟨om,aO,⟨?_,?_⟩,h2,fun j hj=>Nat.lt_of_lt_of_le (h3 j hj) hs⟩
 ·obtain⟨cs,T,g1,g2⟩:=hg.blk;obtain⟨cs',e1,e2⟩:=hb cs T g1;exact⟨cs',T,e1,e2.trans g2⟩
 ·rcases hg.map with h1 | ⟨bm,n,D,rfl,hm⟩
  ·exact .inl h1
  ·exact .inr ⟨bm,n,D,rfl,hm.kept fun j hj hne=>hk j (h2 j hj) hne⟩
theorem lu.lt (h:lu w b o m S G) (hk:S k):k < w.heap.size:=by
 obtain⟨_,_,_,_,h3⟩:=h;exact h3 k hk
theorem aP.other (h:aP w b o om m L) (hb:∀cs T,w.heap[b]? =some (.cells cs T)->∃cs':Array Value,w'.heap[b]? =some (.cells cs' T)∧cs'[o]? =cs[o]? ∧cs'[o+1]? =cs[o+1]?) (h2:∀bm,om=some bm->w'.heap[bm]? =w.heap[bm]?):aP w' b o om m L:=by
 refine⟨?_,?_⟩
 ·obtain⟨cs,T,g1,g2,g3⟩:=h.blk;obtain⟨cs',e1,e2,e3⟩:=hb cs T g1;exact⟨cs',T,e1,e2.trans g2,e3.trans g3⟩
 rcases h.map with hm | ⟨bm,n,D,h1,hn,hown,hc⟩
 ·exact .inl hm
 ·right
  obtain⟨es,c,hb,hr⟩:=hown;exact⟨bm,n,D,h1,hn,⟨es,c,(h2 bm h1).trans hb,hr⟩,hc⟩
def eP (bj bm:Nat) (v0 v1:Value) (k:Nat):Prop:=k=bj∨k=bm∨v0.ownBlock=some k∨v1.ownBlock=some k
def aT (bj bm:Nat) (v0 v1:Value) (om:Option Nat) (Sg:Nat->Prop) (k:Nat):Prop:=eP bj bm v0 v1 k∨om=some k∨Sg k
theorem ai.foot_lt (h:ai w base b bm v0 v1 x) (hk:eP b bm v0 v1 k):k < w.heap.size:=by
 rcases hk with rfl | rfl | hk | hk
 ·exact h.lt
 ·exact h.ltm
 ·exact(h.r0.lt k hk).2
 ·exact(h.r1.lt k hk).2
theorem ai.still (h:ai w base b bm v0 v1 x) (hk:∀k,eP b bm v0 v1 k->w'.heap[k]? =w.heap[k]?):ai w' base b bm v0 v1 x:=
 ⟨(hk b (.inl rfl)).trans h.blk,(hk bm (.inr (.inl rfl))).trans h.mks,ag h.r0 (fun g e=>hk g (.inr (.inr (.inl e)))),ag h.r1 (fun g e=>hk g (.inr (.inr (.inr e)))),h.apart⟩
def Head (cs:Array Value) (bj:Nat) (x:J) (f0 f1:Int):Prop:=
 cs[0]? =some (.int .i64 x.lo)∧cs[1]? =some (.int .i64 x.hi)∧cs[2]? =some (.int .i64 x.mode)∧cs[3]? =some (.pointer (some ⟨bj,0,none⟩))∧cs[4]? =some (.int .i64 f0)∧cs[5]? =some (.int .i64 f1)
theorem Head.same {cs cs':Array Value} {bj:Nat} {f0 f1:Int} (h:Head cs bj x f0 f1) (he:∀i,i < 6->cs'[i]? =cs[i]?):Head cs' bj x f0 f1:=
 ⟨(he 0 (by omega)).trans h.1,(he 1 (by omega)).trans h.2.1,(he 2 (by omega)).trans h.2.2.1,(he 3 (by omega)).trans h.2.2.2.1,(he 4 (by omega)).trans h.2.2.2.2.1,(he 5 (by omega)).trans h.2.2.2.2.2⟩
structure az (w:World) (be bj bm:Nat) (v0 v1:Value) (f0 f1:Int) (om:Option Nat) (Sg:Nat->Prop) (x:J) (Lb Lg:List O):Prop where
 head:∃cs T,w.heap[be]? =some (.cells cs T)∧Head cs bj x f0 f1
 join:ai w 0 bj bm v0 v1 x
 bag:aP w be 6 om Lb.length Lb
 grp:lu w be 8 Lg.length Sg (bK Lg)
 jb:∀k,eP bj bm v0 v1 k->k≠be∧om≠some k∧¬Sg k
 bg:∀k,om=some k->¬Sg k
 r0:0<=f0∧f0<=9223372036854775807
 r1:0<=f1∧f1<=9223372036854775807
section
variable {w w':World} {be bj bm:Nat} {v0 v1:Value} {f0 f1:Int} {om:Option Nat} {Sg:Nat->Prop} {x:J} {Lb Lg:List O}
theorem az.lt (h:az w be bj bm v0 v1 f0 f1 om Sg x Lb Lg) (hk:aT bj bm v0 v1 om Sg k):k < w.heap.size:=by
 rcases hk with hk | hk | hk
 ·exact h.join.foot_lt hk
 ·exact(h.bag.ne hk).2
 ·exact h.grp.lt hk
theorem az.blt (h:az w be bj bm v0 v1 f0 f1 om Sg x Lb Lg):be < w.heap.size:=h.bag.lt
theorem az.inS (h:az w be bj bm v0 v1 f0 f1 om Sg x Lb Lg):Sg be:=h.grp.in.1
theorem az.still (h:az w be bj bm v0 v1 f0 f1 om Sg x Lb Lg) (hs:w.heap.size<=w'.heap.size) (hk:∀k,aT bj bm v0 v1 om Sg k->w'.heap[k]? =w.heap[k]?):az w' be bj bm v0 v1 f0 f1 om Sg x Lb Lg:=by
 have hb:w'.heap[be]? =w.heap[be]? :=hk be (.inr (.inr h.inS));obtain⟨cs,T,h1,h2⟩:=h.head;exact⟨⟨cs,T,hb.trans h1,h2⟩,h.join.still (fun k e=>hk k (.inl e)),h.bag.kept hb (fun k e=>hk k (.inr (.inl e))),h.grp.kept hs (fun k e=>hk k (.inr (.inr e))),h.jb,h.bg,h.r0,h.r1⟩
theorem az.below (h:az w be bj bm v0 v1 f0 f1 om Sg x Lb Lg) (hb:Below w.heap.size w w'):az w' be bj bm v0 v1 f0 f1 om Sg x Lb Lg:=h.still hb.size (fun _ e=>hb.block _ (h.lt e))
theorem az.bagged (h:az w be bj bm v0 v1 f0 f1 om Sg x Lb Lg) {fG:Option Nat} {DC:List O} (hB:aP w' be 6 fG m' DC) (hk:gX be 6 om w w') (hm:Moves w om fG):az w' be bj bm v0 v1 f0 f1 fG Sg x DC Lg:=by
 obtain⟨cs,T,h1,h2⟩:=h.head;refine⟨?_,h.join.still (fun k e=>hk.block k (h.join.foot_lt e) (h.jb k e).1 (h.jb k e).2.1),hB.tight,h.grp.other hk.size (fun cs T hc=> ?_) (fun j hj hne=>hk.block j (h.grp.lt hj) hne (fun e=>h.bg j e hj)),fun k e=>⟨(h.jb k e).1,?_,(h.jb k e).2.2⟩,fun k e=> ?_,h.r0,h.r1⟩
 ·obtain⟨cs',e1,_,e3⟩:=hk.this cs T h1;exact⟨cs',T,e1,h2.same (fun i hi=>e3 i (by omega) (by omega))⟩
 ·obtain⟨cs',e1,_,e3⟩:=hk.this cs T hc;exact⟨cs',e1,e3 8 (by omega) (by omega)⟩
 ·rcases hm with rfl | ⟨j,rfl,hj⟩
  ·exact(h.jb k e).2.1
  ·intro e2;cases e2;have :=h.join.foot_lt e;omega
 ·rcases hm with rfl | ⟨j,rfl,hj⟩
  ·exact h.bg k e
  ·cases e;intro e2;have :=h.grp.lt e2;omega
theorem az.grouped (h:az w be bj bm v0 v1 f0 f1 om Sg x Lb Lg) {Hq:List O} (hG:lu w' be 8 m' (More Sg w w') (bK Hq)) (ht:kF Sg be 8 w w'):az w' be bj bm v0 v1 f0 f1 om (More Sg w w') x Lb Hq:=by
 obtain⟨cs,T,h1,h2⟩:=h.head;refine⟨?_,h.join.still (fun k e=>ht.block k (h.join.foot_lt e) (h.jb k e).2.2),h.bag.other (fun cs T hc=> ?_) (fun k e=>ht.block k (h.bag.ne e).2 (h.bg k e)),hG.tight,fun k e=>⟨(h.jb k e).1,(h.jb k e).2.1,?_⟩,fun k e=> ?_,h.r0,h.r1⟩
 ·obtain⟨cs',e1,_,e3⟩:=ht.this cs T h1;exact⟨cs',T,e1,h2.same (fun i hi=>e3 i (by omega))⟩
 ·obtain⟨cs',e1,_,e3⟩:=ht.this cs T hc;exact⟨cs',e1,e3 6 (by omega),e3 7 (by omega)⟩
 ·rintro(e2 | e2)
  ·exact(h.jb k e).2.2 e2
  ·have :=h.join.foot_lt e;omega
 ·rintro(e2 | e2)
  ·exact h.bg k e e2
  ·have :=(h.bag.ne e).2;omega
theorem az.joined (h:az w be bj bm v0 v1 f0 f1 om Sg x Lb Lg) {bA v1':Value} {x':J} (hj:ai w' 0 bj bm bA v1' x') (hx:x'.lo=x.lo∧x'.hi=x.hi∧x'.mode=x.mode) (ht:Turned (eP bj bm v0 v1) w w') (hf:∀k,eP bj bm bA v1' k->eP bj bm v0 v1 k∨w.heap.size<=k):az w' be bj bm bA v1' f0 f1 om Sg x' Lb Lg:=by
 have hb:w'.heap[be]? =w.heap[be]? :=ht.block be h.blt (fun e=>(h.jb be e).1 rfl);obtain⟨cs,T,h1,h2⟩:=h.head;refine⟨⟨cs,T,hb.trans h1,?_⟩,hj,h.bag.kept hb (fun k e=>ht.block k (h.bag.ne e).2 (fun e2=>(h.jb k e2).2.1 e)),h.grp.kept ht.size (fun k e=>ht.block k (h.grp.lt e) (fun e2=>(h.jb k e2).2.2 e)),fun k e=> ?_,h.bg,h.r0,h.r1⟩
 ·unfold Head at h2⊢;rw[hx.1,hx.2.1,hx.2.2];exact h2
 ·rcases hf k e with e2 | e2
  ·exact h.jb k e2
  ·have a1:=h.blt;exact⟨by omega,fun e3=>by have :=(h.bag.ne e3).2;omega,fun e3=>by have :=h.grp.lt e3;omega⟩
theorem az.setf (h:az w be bj bm v0 v1 f0 f1 om Sg x Lb Lg) (i:Nat) (n g0 g1:Int) (hi:i=4∧g0=n∧g1=f1∨i=5∧g0=f0∧g1=n) (hr:0<=n∧n<=9223372036854775807):az (w.setCell ⟨be,i,none⟩ (.int .i64 n)) be bj bm v0 v1 g0 g1 om Sg x Lb Lg:=by
 have hs:∀k,k≠be->(w.setCell ⟨be,i,none⟩ (.int .i64 n)).heap[k]? =w.heap[k]? :=fun k e=>Below.heap_setCell _ _ _ _ e
 have hc:∀cs T,w.heap[be]? =some (.cells cs T)->(w.setCell ⟨be,i,none⟩ (.int .i64 n)).heap[be]? =some (.cells (cs.setIfInBounds i (.int .i64 n)) T):=fun cs T e=>block_setCell e _
 have hn:∀(cs:Array Value) j,j≠i->(cs.setIfInBounds i (.int .i64 n))[j]? =cs[j]? :=fun cs j e=>by rw[Array.getElem?_setIfInBounds];simp[Ne.symm e]
 obtain⟨cs,T,h1,h2⟩:=h.head
 have hi6:i < 6:=by omega
 refine⟨⟨_,T,hc cs T h1,?_⟩,h.join.still (fun k e=>hs k (h.jb k e).1),h.bag.other (fun cs T e=>⟨_,hc cs T e,hn cs 6 (by omega),hn cs 7 (by omega)⟩) (fun k e=>hs k (h.bag.ne e).1),h.grp.other (by simp) (fun cs T e=>⟨_,hc cs T e,hn cs 8 (by omega)⟩) (fun j _ hne=>hs j hne),h.jb,h.bg,?_,?_⟩
 ·obtain⟨a0,a1,a2,a3,a4,a5⟩:=h2
  rcases hi with⟨rfl,rfl,rfl⟩ | ⟨rfl,rfl,rfl⟩
  ·refine⟨(hn cs 0 (by omega)).trans a0,(hn cs 1 (by omega)).trans a1,(hn cs 2 (by omega)).trans a2,(hn cs 3 (by omega)).trans a3,?_,(hn cs 5 (by omega)).trans a5⟩;have :4 < cs.size:=(Array.getElem?_eq_some_iff.1 a4).1;simp[this]
  ·refine⟨(hn cs 0 (by omega)).trans a0,(hn cs 1 (by omega)).trans a1,(hn cs 2 (by omega)).trans a2,(hn cs 3 (by omega)).trans a3,(hn cs 4 (by omega)).trans a4,?_⟩;have :5 < cs.size:=(Array.getElem?_eq_some_iff.1 a5).1;simp[this]
 ·rcases hi with⟨_,rfl,_⟩ | ⟨_,rfl,_⟩
  ·exact hr
  ·exact h.r0
 ·rcases hi with⟨_,_,rfl⟩ | ⟨_,_,rfl⟩
  ·exact h.r1
  ·exact hr
theorem az.cells (h:az w be bj bm v0 v1 f0 f1 om Sg x Lb Lg):
  w.cell? ⟨be,0,none⟩=some (.int .i64 x.lo)∧w.cell? ⟨be,1,none⟩=some (.int .i64 x.hi)∧w.cell? ⟨be,2,none⟩=some (.int .i64 x.mode)∧w.cell? ⟨be,3,none⟩=some (.pointer (some ⟨bj,0,none⟩))∧w.cell? ⟨be,4,none⟩=some (.int .i64 f0)∧w.cell? ⟨be,5,none⟩=some (.int .i64 f1)∧w.frozen? ⟨be,4,none⟩=false∧w.frozen? ⟨be,5,none⟩=false:=by
 obtain⟨cs,T,h1,a0,a1,a2,a3,a4,a5⟩:=h.head;refine⟨?_,?_,?_,?_,?_,?_,unfrozen_of_block h1 4,unfrozen_of_block h1 5⟩
 all_goals (rw[cell_of_block h1];assumption)
end
end
section
open Go.Proofs.Tryz Go.Joins Go.RowKit Go.Sort
abbrev wy (o:O) (g:Bool):Obj:= .cells #[.int .i64 o.k,.int .i64 o.lk,.int .i64 o.lt,.int .i64 o.lv,.int .i64 o.rk,.int .i64 o.rt,.int .i64 o.rv,.bool o.hl,.bool o.hr,.bool g] 95
theorem mO {W:World} {b:Nat} {o:O} {g:Bool} (h:W.heap[b]? =some (wy o g)):W.cell? ⟨b,0,none⟩=some (.int .i64 o.k)∧W.cell? ⟨b,1,none⟩=some (.int .i64 o.lk)∧W.cell? ⟨b,2,none⟩=some (.int .i64 o.lt)∧W.cell? ⟨b,3,none⟩=some (.int .i64 o.lv)∧W.cell? ⟨b,4,none⟩=some (.int .i64 o.rk)∧W.cell? ⟨b,5,none⟩=some (.int .i64 o.rt)∧W.cell? ⟨b,6,none⟩=some (.int .i64 o.rv)∧W.cell? ⟨b,7,none⟩=some (.bool o.hl)∧W.cell? ⟨b,8,none⟩=some (.bool o.hr)∧W.cell? ⟨b,9,none⟩=some (.bool g):=by
 refine⟨?_,?_,?_,?_,?_,?_,?_,?_,?_,?_⟩ <;>(rw[cell_of_block h];rfl)
theorem x8 (be bj bm:Nat) (v0 v1:Value) (f0 f1:Int) (om:Option Nat) (Sg:Nat->Prop) (x:J) (L L':List O) (o:O) (g:Bool) (w:World) (h:az w be bj bm v0 v1 f0 f1 om Sg x L L)
  (hB:∀W,az W be bj bm v0 v1 f0 f1 om Sg x L L->Calls prog 107 #[.pointer (some ⟨be,6,none⟩),vC o g] W fun e w'=>(∃r,e= .returned r)∧∃fG m',aP w' be 6 fG m' L'∧gX be 6 om W w'∧Moves W om fG)
  (hG:∀W fG,az W be bj bm v0 v1 f0 f1 fG Sg x L' L->Calls prog 108 #[.pointer (some ⟨be,8,none⟩),vC o g] W fun e w'=>(∃r,e= .returned r)∧∃m',lu w' be 8 m' (More Sg W w') (bK L')∧kF Sg be 8 W w'):
  Calls prog 47 #[.pointer (some ⟨be,0,none⟩),vC o g] w fun e w'=>e= .returned (.tuple #[])∧∃fG qY,az w' be bj bm v0 v1 f0 f1 fG qY x L' L'∧(∀k,fG=some k->om=some k∨w.heap.size<=k)∧(∀k,qY k->Sg k∨w.heap.size<=k)∧Turned (fun k=>k=be∨om=some k∨Sg k) w w':=by
 have H1:Hid (∀W,Below w.heap.size w W->W.heap[w.heap.size]? =some (wy o g)->Calls prog 107 #[.pointer (some ⟨be,6,none⟩),vC o g] W fun e w'=>(∃r,e= .returned r)∧w'.heap[w.heap.size]? =some (wy o g)∧Hid (∃fG,az w' be bj bm v0 v1 f0 f1 fG Sg x L' L∧(∀k,fG=some k->om=some k∨w.heap.size<=k)∧Turned (fun k=>k=be∨om=some k) w w')):=by
  intro W hW hbx;have hE:=h.below hW;have hlt:=h.blt;refine(hB W hE).mono ?_;rintro e w' ⟨hr,fG,m',h1,h2,h3⟩;refine⟨hr,(h2.block _ (Array.getElem?_eq_some_iff.1 hbx).1 (by omega) (fun e=>by have :=(h.bag.ne e).2;omega)).trans hbx,fG,hE.bagged h1 h2 h3,fun k e=> ?_,(Turned.of_below (S:=fun k=>k=be∨om=some k) hW).trans (S':=fun k=>k=be∨om=some k) ⟨h2.os,h2.tape,h2.output,h2.size,fun k hk hn=>h2.block k hk (fun e=>hn (.inl e)) (fun e=>hn (.inr e))⟩ (fun _ _ e=>e)⟩
  rcases h3 with rfl | ⟨j,rfl,hj⟩
  ·exact .inl e
  ·cases e;exact .inr (Nat.le_trans hW.size hj)
 have H2:Hid (∀w1 W,Hid (∃fG,az w1 be bj bm v0 v1 f0 f1 fG Sg x L' L∧(∀k,fG=some k->om=some k∨w.heap.size<=k)∧Turned (fun k=>k=be∨om=some k) w w1)->w1.heap[w.heap.size]? =some (wy o g)->Below w1.heap.size w1 W->Calls prog 108 #[.pointer (some ⟨be,8,none⟩),vC o g] W fun e w'=>(∃r,e= .returned r)∧w'.heap[w.heap.size]? =some (wy o g)∧Hid (∃fG qY,az w' be bj bm v0 v1 f0 f1 fG qY x L' L'∧(∀k,fG=some k->om=some k∨w.heap.size<=k)∧(∀k,qY k->Sg k∨w.heap.size<=k)∧Turned (fun k=>k=be∨om=some k∨Sg k) w w')):=by
  rintro w1 W ⟨fG,h1,h2,h3⟩ hbx hW;have Xr:=(hW.block _ (Array.getElem?_eq_some_iff.1 hbx).1).trans hbx;have hE:=h1.below hW;refine(hG W fG hE).mono ?_;rintro e w' ⟨hr,m',g1,g2⟩;refine⟨hr,(g2.block _ (Array.getElem?_eq_some_iff.1 Xr).1 (fun e=>by have :=h.grp.lt e;omega)).trans Xr,fG,_,hE.grouped g1 g2,h2,fun k e=> ?_,?_⟩
  ·rcases e with e | e
   ·exact .inl e
   ·exact .inr (Nat.le_trans h3.size (Nat.le_trans hW.size e.1))
  ·refine((h3.mono (S':=fun k=>k=be∨om=some k∨Sg k) (fun k e=>e.elim .inl (fun e=> .inr (.inl e)))).trans (Turned.of_below (S:=fun _=>False) hW) (fun _ _ e=>e.elim)).trans (S':=Sg) ⟨g2.os,g2.tape,g2.output,g2.size,fun k hk hn=>g2.block k hk hn⟩ (fun k _ e=> .inr (.inr e))
 have hlt:=h.blt;clear h hB hG;simp only[vC] at H1 H2⊢;go_enter func47,ntmps47;go_wp2;have B1:Hid (Below w.heap.size w (w.alloc (wy o g)).drew∧(w.alloc (wy o g)).drew.heap[w.heap.size]? =some (wy o g)):=⟨(below_alloc1 _ _).drew,heap_alloc_new w (wy o g)⟩;have hc1:=mO (heap_alloc_new w (wy o g))
 go_region_held3 (fun W=>W.cell? ⟨w.heap.size,0,none⟩=some (.int .i64 o.k)∧W.cell? ⟨w.heap.size,1,none⟩=some (.int .i64 o.lk)∧W.cell? ⟨w.heap.size,2,none⟩=some (.int .i64 o.lt)∧W.cell? ⟨w.heap.size,3,none⟩=some (.int .i64 o.lv)∧W.cell? ⟨w.heap.size,4,none⟩=some (.int .i64 o.rk)∧W.cell? ⟨w.heap.size,5,none⟩=some (.int .i64 o.rt)∧W.cell? ⟨w.heap.size,6,none⟩=some (.int .i64 o.rv)∧W.cell? ⟨w.heap.size,7,none⟩=some (.bool o.hl)∧W.cell? ⟨w.heap.size,8,none⟩=some (.bool o.hr)∧W.cell? ⟨w.heap.size,9,none⟩=some (.bool g)) (first | exact hc1 | exact mO hb1 | fail) (first
  | (go_at_call 107;refine(H1.out _ B1.out.1 B1.out.2).mono ?_;rintro e w1 ⟨⟨r1,rfl⟩,hb1,h1⟩)
  | fail)
 clear hc1;have hc1:=mO hb1;go_wp2;have B2:Hid (Below w1.heap.size w1 w1.drew):=(Below.refl _ _).drew
 go_region_held3 (fun W=>W.cell? ⟨w.heap.size,0,none⟩=some (.int .i64 o.k)∧W.cell? ⟨w.heap.size,1,none⟩=some (.int .i64 o.lk)∧W.cell? ⟨w.heap.size,2,none⟩=some (.int .i64 o.lt)∧W.cell? ⟨w.heap.size,3,none⟩=some (.int .i64 o.lv)∧W.cell? ⟨w.heap.size,4,none⟩=some (.int .i64 o.rk)∧W.cell? ⟨w.heap.size,5,none⟩=some (.int .i64 o.rt)∧W.cell? ⟨w.heap.size,6,none⟩=some (.int .i64 o.rv)∧W.cell? ⟨w.heap.size,7,none⟩=some (.bool o.hl)∧W.cell? ⟨w.heap.size,8,none⟩=some (.bool o.hr)∧W.cell? ⟨w.heap.size,9,none⟩=some (.bool g)) (first | exact hc1 | exact hc2 | fail) (first
  | (go_at_call 108;refine(H2.out w1 _ h1 hb1 B2.out).mono ?_;rintro e w2 ⟨⟨r2,rfl⟩,hb2,h2⟩;have hc2:=mO hb2)
  | fail)
 go_wp2
 go_end0
 exact⟨rfl,h2.out⟩
end
section
open Go.Proofs.Tryz Go.Joins Go.RowKit Go.Sort
variable {w:World} {b bm:Nat} {lo hi mode:Int}
theorem ai.base0 {base:Nat} {v0 v1:Value} {x:J} (h:ai w base b bm v0 v1 x):ai w 0 b bm v0 v1 x:=⟨h.blk,h.mks,h.r0.mono (Nat.zero_le _),h.r1.mono (Nat.zero_le _),h.apart⟩
theorem Sl {bj:Nat} {cs:Array Value} {T:TypeId} (hj:ai w 0 bj bm (.slice none 0 0) (.slice none 0 0) ⟨lo,hi,mode,-1099511627777,-1099511627777,0,[],[]⟩)
  (hc:cs= #[.int .i64 lo,.int .i64 hi,.int .i64 mode,.pointer (some ⟨bj,0,none⟩),.int .i64 0,.int .i64 0,.map none,.int .i64 0,.map none]):
  az (w.alloc (.cells cs T)) w.heap.size bj bm (.slice none 0 0) (.slice none 0 0) 0 0 none (fun k=>k=w.heap.size) ⟨lo,hi,mode,-1099511627777,-1099511627777,0,[],[]⟩ [] []:=by
 have hb:=World.alloc_heap_new w (.cells cs T);subst hc;refine⟨⟨_,T,hb,rfl,rfl,rfl,rfl,rfl,rfl⟩,hj.below (below_alloc1 _ _),⟨⟨_,T,hb,rfl,rfl⟩,.inl ⟨rfl,rfl⟩⟩,⟨none,fun _=>(0,0),⟨⟨_,T,hb,rfl⟩,.inl ⟨rfl,Co⟩⟩,fun j hj=> ?_,(fun j hj=>by simp;omega)⟩,fun k e=> ?_,(fun k e=>by cases e),(by omega),(by omega)⟩
 ·rcases hj with h | h | ⟨k,τ,h,_⟩
  ·exact h
  ·cases h
  ·rw[Co] at h;cases h
 ·have :=hj.foot_lt e;exact⟨by omega,by simp,by omega⟩
abbrev uY (lo hi mode:Int):Obj:= .cells #[.int .i64 lo,.int .i64 hi,.int .i64 mode] 45
theorem D7 {W:World} (h:W.heap[b]? =some (uY lo hi mode)):W.cell? ⟨b,0,none⟩=some (.int .i64 lo)∧W.cell? ⟨b,1,none⟩=some (.int .i64 hi)∧W.cell? ⟨b,2,none⟩=some (.int .i64 mode):=by
 refine⟨?_,?_,?_⟩ <;>(rw[cell_of_block h];rfl)
theorem JM (lo hi mode:Int) (w:World) (h:dn lo hi mode):Calls prog 13 #[.agg #[.int .i64 lo,.int .i64 hi,.int .i64 mode]] w fun e w'=>∃be bj bm,e= .returned (.tuple #[.pointer (some ⟨be,0,none⟩),.nilIface])∧az w' be bj bm (.slice none 0 0) (.slice none 0 0) 0 0 none (fun k=>k=be) ⟨lo,hi,mode,-1099511627777,-1099511627777,0,[],[]⟩ [] []∧w.heap.size<=be∧w.heap.size<=bj∧w.heap.size<=bm∧Below w.heap.size w w':=by
 have HN:Hid (∀W,Below w.heap.size w W->W.heap[w.heap.size]? =some (uY lo hi mode)->Calls prog 48 #[.agg #[.int .i64 lo,.int .i64 hi,.int .i64 mode]] W fun e w'=>∃b,e= .returned (.tuple #[.pointer (some ⟨b,0,none⟩),.nilIface])∧w'.heap[w.heap.size]? =some (uY lo hi mode)∧Hid (∃bm,w.heap.size<=b∧w.heap.size<=bm∧Below w.heap.size w w'∧ai w' 0 b bm (.slice none 0 0) (.slice none 0 0) ⟨lo,hi,mode,-1099511627777,-1099511627777,0,[],[]⟩)):=by
  intro W hW hbx;have hs:=hW.size;refine(Sm lo hi mode W h).mono ?_;rintro e w' ⟨b,bm,rfl,h1,h2,h3,h4⟩;exact⟨b,rfl,(h3.block _ (Array.getElem?_eq_some_iff.1 hbx).1).trans hbx,bm,by omega,by omega,hW.trans (h3.mono hs),h4.base0⟩
 clear h;go_enter func13,ntmps13;have B1:Hid (Below w.heap.size w (w.alloc (uY lo hi mode))∧(w.alloc (uY lo hi mode)).heap[w.heap.size]? =some (uY lo hi mode)):=⟨below_alloc1 _ _,heap_alloc_new w (uY lo hi mode)⟩
 go_wp2_with (first
  | (go_at_call 48;refine(HN.out _ B1.out.1 B1.out.2).mono ?_;rintro e w1 ⟨bj,rfl,hb1,h1⟩;have hc1:=D7 hb1)
  | fail)
 obtain⟨bm,g1,g2,g3,g4⟩:=h1.out;have hE:=Sl (T:=108) g4 rfl;refine bodyPost_ret (v:= .tuple #[.pointer (some ⟨w1.heap.size,0,none⟩),.nilIface]) (by simp[results,Tryz.results13,go_sem]) rfl ⟨w1.heap.size,bj,bm,rfl,hE,g3.size,g1,g2,g3.alloc g3.size _⟩
theorem tJ (HS:ql) (be bj bm:Nat) (v0 v1:Value) (f0 f1:Int) (om:Option Nat) (Sg:Nat->Prop) (x:J) (L Lg:List O) (w:World) (h:az w be bj bm v0 v1 f0 f1 om Sg x L Lg) (hL:L.length<=1000000):
  Calls prog 27 #[.pointer (some ⟨be,0,none⟩)] w fun e w'=>∃v Z,e= .returned v∧Z.Perm L∧bJ Z∧w'.ownsRow w.heap.size 89 9 v Z.length (Z.flatMap ah)∧Below w.heap.size w w':=by
 have H:Hid (Calls prog 68 #[.pointer (some ⟨be,6,none⟩)] w fun e w'=>∃v Z,e= .returned v∧Z.Perm L∧bJ Z∧w'.ownsRow w.heap.size 89 9 v Z.length (Z.flatMap ah)∧Below w.heap.size w w'):=RG HS be 6 L.length om L w h.bag (by omega) hL;have hlt:=h.blt;clear h;go_enter func27,ntmps27
 go_wp2_with (first
  | (go_at_call 68;refine H.out.mono ?_;rintro e w1 ⟨v,Z,rfl,h1⟩)
  | fail)
 go_ret;exact⟨v,Z,rfl,h1⟩
theorem uZ (be bj bm:Nat) (v0 v1:Value) (f0 f1:Int) (om:Option Nat) (Sg:Nat->Prop) (x:J) (L Lg:List O) (w:World) (h:az w be bj bm v0 v1 f0 f1 om Sg x L Lg) (hL:Lg.length<=1000000):
  Calls prog 30 #[.pointer (some ⟨be,0,none⟩)] w fun e w'=>∃(v:Value) (ks:List Int),e= .returned v∧ks.Pairwise (fun x y=>x < y)∧(∀k,k∈ks↔(bK Lg k).isSome=true)∧ks.length<=Lg.length∧w'.ownsRow w.heap.size 140 6 v ks.length (ks.flatMap (gE (bK Lg)))∧Below w.heap.size w w':=by
 have H:Hid (Calls prog 72 #[.pointer (some ⟨be,8,none⟩)] w fun e w'=>∃(v:Value) (ks:List Int),e= .returned v∧ks.Pairwise (fun x y=>x < y)∧(∀k,k∈ks↔(bK Lg k).isSome=true)∧ks.length<=Lg.length∧w'.ownsRow w.heap.size 140 6 v ks.length (ks.flatMap (gE (bK Lg)))∧Below w.heap.size w w'):=Og be 8 Lg.length Sg (bK Lg) w h.grp hL;have hlt:=h.blt;clear h;go_enter func30,ntmps30
 go_wp2_with (first
  | (go_at_call 72;refine H.out.mono ?_;rintro e w1 ⟨v,Z,rfl,h1⟩)
  | fail)
 go_ret;exact⟨v,Z,rfl,h1⟩
end
end Go.Proofs.YthfpipieboophaaGreatDoor
