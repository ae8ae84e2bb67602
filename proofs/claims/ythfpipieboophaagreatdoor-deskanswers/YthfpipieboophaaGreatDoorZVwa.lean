import Derived.Lib.ItoaNum
import Derived.Deep.Onto
import Derived.Test.YthfpipieboophaaGreatDoorZJng
import Derived.Test.YthfpipieboophaaGreatDoorZGrx
namespace Go.Proofs.YthfpipieboophaaGreatDoor
set_option maxRecDepth 100000
set_option maxHeartbeats 40000000
section
open List
variable{γ δ:Type}
section
variable{α β:Type}(q:α->β->Bool)(P:α->β->O)(i:α->O)(lb:β->O)(d tb:Bool)
def lq(A:List α)(B:List β):List O:=
 (A.flatMap λa=>(B.filter (q a)).map (P a))++((if d=true then(A.filter λa=>!B.any (q a)).map i else[])++(if tb=true then(B.filter λb=>!A.any λa=>q a b).map lb else[]))
theorem De(f:γ->List δ)(l:List γ)(h:∀x∈l,f x=[]):l.flatMap f=[]:=by
 induction l with
 |nil=>rfl
 |cons a r ih=>rw[flatMap_cons,h a (by simp),ih (λx b=>h x (by simp[b]))];rfl
theorem jO(f g:γ->List δ)(l:List γ):(l.flatMap λx=>f x++g x) ~ l.flatMap f++l.flatMap g:=by
 induction l with
 |nil=>simp
 |cons a r ih=>
  simp only[flatMap_cons,append_assoc];refine Perm.append_left _ ?_;refine(Perm.append_left (g a) ih).trans ?_;rw[<-append_assoc,<-append_assoc];exact Perm.append_right _ perm_append_comm
theorem Jo(A:List α)(B:List β):(A.flatMap λa=>(B.filter (q a)).map (P a)) ~ (B.flatMap λb=>(A.filter λa=>q a b).map λa=>P a b):=by
 induction A with
 |nil=>rw[De (λb=>(([]:List α).filter λa=>q a b).map λa=>P a b) B (λ_ _=>rfl)];simp
 |cons a r ih=>
  rw[flatMap_cons]
  have c:(B.flatMap λb=>((a::r).filter λa=>q a b).map λa=>P a b)=B.flatMap λb=>(if q a b=true then[P a b]else[])++(r.filter λa=>q a b).map λa=>P a b:=by
   congr 1
   funext b
   rw[filter_cons]
   split <;>simp
  rw[c];refine(Perm.append_left _ ih).trans (Perm.trans ?_ (jO _ _ B).symm);refine Perm.append_right _ ?_;clear ih c
  have e:(B.flatMap λb=>if q a b=true then[P a b]else[])=(B.filter (q a)).map (P a):=by
   induction B with
   |nil=>rfl
   |cons b s ihb=>rw[flatMap_cons,filter_cons,ihb];split <;>simp
  rw[e]
theorem zl(A:List α)(B:List β):lq q P i lb d tb A B ~ lq (λb a=>q a b) (λb a=>P a b) lb i tb d B A:=by
 unfold lq;exact(Jo q P A B).append perm_append_comm
def goes(A:List α)(B:List β)(a:α):List O:=if tb=true then(B.filter λb=>q a b && !A.any λa=>q a b).map lb else[]
def stays(A:List α)(B:List β)(a:α):List O:=
 (A.flatMap λa=>(B.filter (q a)).map (P a))++((if d=true then(A.filter λa=>!B.any (q a)).map i else[])++(if tb=true then(B.filter λb=>!(A++[a]).any λa=>q a b).map lb else[]))
theorem Gg(A:List α)(B:List β)(a:α):lq q P i lb d tb A B ~ goes q lb tb A B a++stays q P i lb d tb A B a:=by
 unfold lq goes stays;cases tb
 .simp
 .simp only[if_true]
  have c:(B.filter λb=>!A.any λa=>q a b).map lb ~ ((B.filter λb=>q a b && !A.any λa=>q a b).map lb)++((B.filter λb=>!(A++[a]).any λa=>q a b).map lb):=by
   rw[<-map_append];refine Perm.map _ ?_;refine(filter_append_perm (λb=>q a b) (B.filter λb=>!A.any λa=>q a b)).symm.trans ?_;rw[filter_filter,filter_filter];refine Perm.of_eq ?_;congr 1;apply filter_congr;intro b _;simp only[any_append,any_cons,any_nil,Bool.or_false,Bool.not_or];exact Bool.and_comm _ _
  refine(Perm.append_left _ (Perm.append_left _ c)).trans ?_;rw[<-append_assoc,<-append_assoc];refine Perm.trans (Perm.append_right _ perm_append_comm) ?_;rw[append_assoc,append_assoc]
theorem Jp(A:List α)(B:List β)(a:α):lq q P i lb d tb (A++[a]) B ~ stays q P i lb d tb A B a++((B.filter (q a)).map (P a)++(if d=true/\B.any (q a)=false then[i a]else[])):=by
 unfold lq stays;rw[flatMap_append,filter_append];simp only[flatMap_cons,flatMap_nil,append_nil]
 have c:(if d=true then(A.filter (λa=>!B.any (q a))++[a].filter (λa=>!B.any (q a))).map i else[])=(if d=true then(A.filter λa=>!B.any (q a)).map i else[])++(if d=true/\B.any (q a)=false then[i a]else[]):=by
  cases d
  .simp
  .cases hb:B.any (q a)
   .simp[hb]
   .simp[hb]
 rw[c];generalize(A.flatMap λa=>(B.filter (q a)).map (P a))=X1;generalize(B.filter (q a)).map (P a)=X2;generalize(if d=true then(A.filter λa=>!B.any (q a)).map i else[])=X3;generalize(if d=true/\B.any (q a)=false then[i a]else[])=X4;generalize(if tb=true then(B.filter λb=>!(A++[a]).any λa=>q a b).map lb else[])=X5;rw[perm_iff_count];intro o;simp only[count_append];omega
end
def iE(L:List O)(C:List Ch):List O:=C.foldl (λL c=>if c.g=true then L.erase c.x else c.x::L) L
def G7:List O->List Ch->Prop
 |_,[]=>True
 |L,c::C=>(c.g=true->c.x∈L/\(c.x.hl&&c.x.hr)=false)/\G7 (if c.g=true then L.erase c.x else c.x::L) C
theorem BH(L:List O)(c:Ch)(C:List Ch):iE L (c::C)=iE (if c.g=true then L.erase c.x else c.x::L) C:=rfl
theorem Gb(L:List O)(C a:List Ch):iE L (C++a)=iE (iE L C) a:=by unfold iE;rw[foldl_append]
theorem TW{β:Type}(lb:β->O)(Pa:β->O)(n:β->Bool)(tb:Bool)(o:∀b,((lb b).hl&&(lb b).hr)=false)(M:List β):∀(L rest:List O),L ~ (if tb=true then(M.filter n).map lb else[])++rest->
  G7 L (M.flatMap λm=>(if n m=true/\tb=true then[⟨lb m,true⟩]else[])++[⟨Pa m,false⟩])/\iE L (M.flatMap λm=>(if n m=true/\tb=true then[⟨lb m,true⟩]else[])++[⟨Pa m,false⟩]) ~ rest++M.map Pa:=by
 induction M with
 |nil=>
  intro L rest h;refine⟨trivial,?_⟩;show L ~ rest++[]
  cases tb <;>simpa using h
 |cons m M ih=>
  intro L rest h;rw[flatMap_cons]
  by_cases hc:n m=true/\tb=true
  .obtain⟨l,r⟩:=hc;subst r;simp only[if_true,filter_cons,l,map_cons,cons_append]at h;have f:lb m∈L:=h.symm.subset (by simp)
   have p:L.erase (lb m) ~ (M.filter n).map lb++rest:=by
    have:=h.erase (lb m)
    rwa [erase_cons_head]at this
   have j:(Pa m::L.erase (lb m)) ~ (if true=true then(M.filter n).map lb else[])++(Pa m::rest):=by
    rw[if_pos rfl];exact(Perm.cons _ p).trans perm_middle.symm
   obtain⟨g,k⟩:=ih _ _ j;rw[if_pos ⟨l,rfl⟩];refine⟨⟨λ_=>⟨f,o m⟩,⟨λe=>(by cases e),?_⟩⟩,?_⟩
   .simpa using g
   .show iE _ _ ~ _;refine Perm.trans ?_ (k.trans ?_)
    .exact Perm.of_eq rfl
    .rw[map_cons];exact(perm_middle (l₁:=rest) (a:=Pa m) (l₂:=M.map Pa)).symm
  .rw[if_neg hc]
   have s:(if tb=true then((m::M).filter n).map lb else[])=(if tb=true then(M.filter n).map lb else[]):=by
    cases htb:tb
    .rfl
    .have c:n m=false:=by
      cases c:n m
      .rfl
      .exact absurd ⟨c,htb⟩ hc
     simp[c]
   rw[s]at h;have j:(Pa m::L) ~ (if tb=true then(M.filter n).map lb else[])++(Pa m::rest):=(Perm.cons _ h).trans perm_middle.symm;obtain⟨g,k⟩:=ih _ _ j;refine⟨⟨λe=>(by cases e),?_⟩,?_⟩
   .simpa using g
   .refine Perm.trans ?_ (k.trans ?_)
    .exact Perm.of_eq rfl
    .rw[map_cons];exact(perm_middle (l₁:=rest) (a:=Pa m) (l₂:=M.map Pa)).symm
end
section
open List
def iB(key fH av:Int)(x:D):Bool:=decide (x.k=key/\fH<=x.t/\x.t<=av)
theorem jH{a:D}{R:List D}(h:ay (a::R)):ay R:=(pairwise_cons.1 h).2
theorem fU{a:D}{R:List D}(h:ay (a::R)):∀b∈R,a.k<b.k∨(a.k=b.k/\a.t<=b.t):=(pairwise_cons.1 h).1
theorem gU{key time:Int}{a:D}{R:List D}(b:aX key time a=true):aV key time (a::R)=aV key time R+1:=by
 unfold aV;rw[countP_cons,if_pos b]
theorem iQ{key time:Int}{a:D}{R:List D}(h:ay (a::R))(d:aX key time a=false):aV key time (a::R)=0:=by
 unfold aV;rw[countP_eq_zero];intro b c
 rcases mem_cons.1 c with rfl|c
 .rw[d];simp
 .have h1:=fU h b c;rw[bI]at d;have e:aX key time b=false:=bI.2 (by omega);rw[e];simp
theorem nL{key fH av:Int}:∀{R:List D},ay R->(∀x∈R,aX key fH x=false)->R.takeWhile (meets key av)=R.filter (iB key fH av)
 |[],_,_=>rfl
 |a::R,h,h2=>by
  have ha:=bI.1 (h2 a (by simp))
  by_cases hm:meets key av a=true
  .have c:iB key fH av a=true:=by simp[meets,iB]at hm⊢;omega
   rw[takeWhile_cons,if_pos hm,filter_cons,if_pos c,nL (jH h) (λx b=>h2 x (by simp[b]))]
  .have hm2:¬(a.k=key/\a.t<=av):=by simpa[meets]using hm
   rw[takeWhile_cons,if_neg hm]
   symm
   rw[filter_eq_nil_iff];intro x b
   have d:iB key fH av x=false:=by
    simp only[iB,decide_eq_false_iff_not]
    rcases mem_cons.1 b with rfl|b
    .omega
    .have:=fU h x b;omega
   rw[d];simp
theorem gM{key fH av:Int}:∀{R:List D},ay R->bF key fH av R=R.filter (iB key fH av)
 |[],_=>rfl
 |a::R,h=>by
  cases ha:aX key fH a
  .unfold bF;rw[iQ h ha,drop_zero];refine nL h (λx b=>?_)
   rcases mem_cons.1 b with rfl|b
   .exact ha
   .have c:=fU h x b;rw[bI]at ha⊢;omega
  .have c:bF key fH av (a::R)=bF key fH av R:=by
    unfold bF;rw[gU ha,drop_succ_cons]
   have d:iB key fH av a=false:=by
    simp only[aX,decide_eq_true_eq]at ha;simp only[iB,decide_eq_false_iff_not];omega
   rw[c,filter_cons,if_neg (by rw[d];simp),gM (jH h)]
theorem Re{f:D->D}{R:List D}(h:∀x∈R,f x=x):R.map f=R:=by
 rw[map_congr_left (g:=id) h];simp
theorem BK{key fH av:Int}:∀{R:List D},ay R->(∀x∈R,aX key fH x=false)->fo R 0 (R.takeWhile (meets key av)).length=R.map λx=>if iB key fH av x=true then sH x else x
 |[],_,_=>rfl
 |a::R,h,h2=>by
  have ha:=bI.1 (h2 a (by simp))
  by_cases hm:meets key av a=true
  .have c:iB key fH av a=true:=by simp[meets,iB]at hm⊢;omega
   have ih:=BK (av:=av) (jH h) (λx b=>h2 x (by simp[b]));rw[takeWhile_cons,if_pos hm,map_cons,if_pos c,<-ih];simp[fo]
  .have hm2:¬(a.k=key/\a.t<=av):=by simpa[meets]using hm
   rw[takeWhile_cons,if_neg hm,length_nil,uS]
   symm
   refine Re ?_;intro x b
   have d:iB key fH av x=false:=by
    simp only[iB,decide_eq_false_iff_not]
    rcases mem_cons.1 b with rfl|b
    .omega
    .have:=fU h x b;omega
   rw[d];simp
theorem gZ{key fH av:Int}:∀{R:List D},ay R->fo R (aV key fH R) (bF key fH av R).length=R.map λx=>if iB key fH av x=true then sH x else x
 |[],_=>rfl
 |a::R,h=>by
  cases ha:aX key fH a
  .unfold bF;rw[iQ h ha,drop_zero];refine BK h (λx b=>?_)
   rcases mem_cons.1 b with rfl|b
   .exact ha
   .have c:=fU h x b;rw[bI]at ha⊢;omega
  .have c:bF key fH av (a::R)=bF key fH av R:=by
    unfold bF;rw[gU ha,drop_succ_cons]
   have d:iB key fH av a=false:=by
    simp only[aX,decide_eq_true_eq]at ha;simp only[iB,decide_eq_false_iff_not];omega
   rw[c,map_cons,if_neg (by rw[d];simp),gU ha,<-gZ (jH h)];simp[fo,show aV key fH R+1+(bF key fH av R).length=aV key fH R+(bF key fH av R).length+1 by omega]
theorem Jq{f:D->D}(c:∀x,(f x).k=x.k/\(f x).t=x.t){R:List D}(h:ay R):ay (R.map f):=by
 unfold ay at *;rw[pairwise_map];refine h.imp ?_;intro a b d;rw[(c a).1,(c b).1,(c a).2,(c b).2];exact d
theorem vZ{p:D->Bool}{R:List D}(h:ay R):ay (keepR p R):=h.filter _
theorem zm{key fH av:Int}{R:List D}(h:ay R):ay (fo R (aV key fH R) (bF key fH av R).length):=by
 rw[gZ h];exact Jq (λx=>by split <;>exact⟨rfl,rfl⟩) h
theorem qX(k t v n:Int):∀{R:List D},ay R->ay (bT R (aV k (t+1) R) ⟨k,t,v,n⟩)
 |[],_=>by simp[bT,ay]
 |a::R,h=>by
  cases ha:aX k (t+1) a
  .rw[iQ h ha];simp only[bT,take_zero,drop_zero,nil_append];refine pairwise_cons.2 ⟨λb c=>?_,h⟩;rw[bI]at ha
   rcases mem_cons.1 c with rfl|c
   .show k<_∨(k=_/\t<=_);omega
   .have:=fU h b c;show k<_∨(k=_/\t<=_);omega
  .rw[gU ha];have ih:=qX k t v n (jH h)
   have e:bT (a::R) (aV k (t+1) R+1) ⟨k,t,v,n⟩=a::bT R (aV k (t+1) R) ⟨k,t,v,n⟩:=by simp[bT]
   rw[e];refine pairwise_cons.2 ⟨λb c=>?_,ih⟩;simp only[aX,decide_eq_true_eq]at ha
   have d:b=⟨k,t,v,n⟩∨b∈R:=by
    simp only[bT,mem_append,mem_cons]at c
    rcases c with c|c|c
    .exact Or.inr (mem_of_mem_take c)
    .exact Or.inl c
    .exact Or.inr (mem_of_mem_drop c)
   rcases d with rfl|c
   .show _<k∨(_=k/\_<=t);omega
   .exact fU h b c
theorem Gh(R:List D)(i:Nat)(x:D):bT R i x ~ x::R:=by
 unfold bT;refine perm_middle.trans ?_;rw[take_append_drop]
end
section
open List
variable{x:J}{L:List O}
structure Rw where
 k:Int
 t:Int
 v:Int
 deriving DecidableEq,Inhabited
def D.rw(x:D):Rw:=⟨x.k,x.t,x.v⟩
def Ad(r:Rw)(n:Nat):D:=⟨r.k,r.t,r.v,n⟩
theorem Rf(p:Rw->Bool)(A:List Rw)(b:Rw):decide ((Ad b (A.countP p)).n=0)= !A.any p:=by
 have h:(Ad b (A.countP p)).n=((A.countP p:Nat):Int):=rfl;cases hA:A.any p
 .have d:A.countP p=0:=countP_eq_zero.2 (λx a e=>by rw[any_eq_false]at hA;exact hA x a e);rw[sS (by rw[h,d];rfl)];rfl
 .obtain⟨x,a,c⟩:=any_eq_true.1 hA;have d:0<A.countP p:=countP_pos_iff.2 ⟨x,a,c⟩;rw[o9 (by rw[h];omega)];rfl
theorem Rh(r:Rw)(c:Nat)(hc:c<9223372036854775807):sH (Ad r c)=Ad r (c+1):=by
 have h:bR (c:Int)=((c+1:Nat):Int):=by unfold bR;rw[if_neg (by omega)];omega
 show(⟨r.k,r.t,r.v,bR (c:Int)⟩:D)=⟨r.k,r.t,r.v,((c+1:Nat):Int)⟩;rw[h]
theorem BL(q:Rw->Rw->Bool)(P:Rw->Rw->O)(la lb:Rw->O)(f tb:Bool)(p:∀b,((lb b).hl&&(lb b).hr)=false)(A B:List Rw)(a:Rw)(M:List D)(L:List O)
  (h:M ~ (B.filter (q a)).map λr=>Ad r (A.countP λa=>q a r)) (s:L ~ lq q P la lb f tb A B):
  G7 L (if M=[]then(if f=true then[⟨la a,false⟩]else[])else M.flatMap λm=>(if m.n=0/\tb=true then[⟨lb m.rw,true⟩]else[])++[⟨P a m.rw,false⟩])/\
  iE L (if M=[]then(if f=true then[⟨la a,false⟩]else[])else M.flatMap λm=>(if m.n=0/\tb=true then[⟨lb m.rw,true⟩]else[])++[⟨P a m.rw,false⟩]) ~ lq q P la lb f tb (A++[a]) B:=by
 have i:=s.trans (Gg q P la lb f tb A B a);have c:=Jp q P la lb f tb A B a
 by_cases h0:M=[]
 .have j:B.filter (q a)=[]:=by
   rw[h0]at h;exact map_eq_nil_iff.1 (nil_perm.1 h)
  have d:B.any (q a)=false:=by
   rw[any_eq_false];intro b g o;have:b∈B.filter (q a):=mem_filter.2 ⟨g,o⟩;rw[j]at this;cases this
  have t:goes q lb tb A B a=[]:=by
   unfold goes
   have:(B.filter λb=>q a b && !A.any λa=>q a b)=[]:=by
    rw[filter_eq_nil_iff];intro b g;have:=(any_eq_false.1 d) b g;simp[this]
   rw[this];simp
  rw[t,nil_append]at i;rw[j,d]at c;rw[if_pos h0];cases f
  .refine⟨trivial,?_⟩;show L ~ _;exact i.trans (by simpa using c.symm)
  .refine⟨⟨λe=>(by cases e),trivial⟩,?_⟩;show(la a::L) ~ _;refine(Perm.cons _ i).trans (Perm.trans ?_ c.symm);simpa using(perm_append_comm (l₁:=[la a]) (l₂:=stays q P la lb true tb A B a))
 .have d:B.any (q a)=true:=by
   have j:B.filter (q a)≠[]:=λe=>h0 (by rw[e]at h;exact perm_nil.1 h)
   obtain⟨b,g⟩:=exists_mem_of_ne_nil _ j;rw[mem_filter]at g;exact any_eq_true.2 ⟨b,g.1,g.2⟩
  rw[if_neg h0]
  have k:(if tb=true then(M.filter λm=>decide (m.n=0)).map λm=>lb m.rw else[]) ~ goes q lb tb A B a:=by
   unfold goes;cases tb
   .simp
   .simp only[if_true];refine((h.filter _).map _).trans ?_;rw[filter_map,map_map,filter_filter];refine Perm.of_eq ?_
    have u:(λm=>lb (D.rw m))∘(λr=>Ad r (A.countP λa=>q a r))=lb:=by funext r;rfl
    rw[u];congr 1;apply filter_congr;intro b g;simp only[Function.comp,Rf];exact Bool.and_comm _ _
  have l:L ~ (if tb=true then(M.filter λm=>decide (m.n=0)).map λm=>lb m.rw else[])++stays q P la lb f tb A B a:=i.trans (Perm.append_right _ k.symm);have key:=TW (λm:D=>lb m.rw) (λm:D=>P a m.rw) (λm=>decide (m.n=0)) tb (λm=>p m.rw) M L _ l
  have v:(λm:D=>(if m.n=0/\tb=true then[(⟨lb m.rw,true⟩:Ch)]else[])++[⟨P a m.rw,false⟩])=λm:D=>(if(decide (m.n=0))=true/\tb=true then[(⟨lb m.rw,true⟩:Ch)]else[])++[⟨P a m.rw,false⟩]:=by
   funext m
   simp only[decide_eq_true_eq]
  rw[v];refine⟨key.1,key.2.trans (Perm.trans ?_ c.symm)⟩;refine Perm.append_left _ ?_;rw[d,if_neg (by simp),append_nil];refine(h.map _).trans (Perm.of_eq ?_);rw[map_map];rfl
theorem BM(q:Rw->Rw->Bool)(h:Rw->Bool)(A B:List Rw)(a:Rw)(R:List D)(win:D->Bool)(b:∀r n,win (Ad r n)=q a r)(hlen:A.length<9223372036854775807)
  (c:R ~ (B.filter h).map λr=>Ad r (A.countP λa=>q a r)):(R.map λx=>if win x=true then sH x else x) ~ (B.filter h).map λr=>Ad r ((A++[a]).countP λa=>q a r):=by
 refine(c.map _).trans (Perm.of_eq ?_);rw[map_map];apply map_congr_left;intro r _;simp only[Function.comp,b];rw[countP_append];cases hq:q a r
 .simp[hq]
 .have hc:A.countP (λa=>q a r)<=A.length:=countP_le_length;rw[if_pos rfl,Rh _ _ (by omega)];simp[hq]
def mB(lo hi:Int)(l r:Rw):Bool:=decide (l.k=r.k/\lo<=r.t -l.t/\r.t -l.t<=hi)
def qE(l r:Rw):O:=⟨l.k,l.k,l.t,l.v,r.k,r.t,r.v,true,true⟩
def tX(l:Rw):O:=bn 0 l.k l.t l.v
def mP(r:Rw):O:=bn 1 r.k r.t r.v
def kv(lo hi mode:Int)(A B:List Rw):List O:=lq (mB lo hi) qE tX mP (bf mode 0) (bf mode 1) A B
structure Holds(x:J)(A B:List Rw):Prop where
 r0:x.R0 ~ (A.filter λl=>decide (x.m1<l.t+x.hi)).map λl=>Ad l (B.countP λr=>mB x.lo x.hi l r)
 r1:x.R1 ~ (B.filter λr=>decide (x.m0<r.t+ -x.lo)).map λr=>Ad r (A.countP λl=>mB x.lo x.hi l r)
 s0:ay x.R0
 s1:ay x.R1
theorem Holds.met0{A B:List Rw}(h:Holds x A B)(a:Rw)(hl:x.m0<a.t):bF a.k (a.t+x.lo) (a.t+x.hi) x.R1 ~ (B.filter (mB x.lo x.hi a)).map λr=>Ad r (A.countP λl=>mB x.lo x.hi l r):=by
 rw[gM h.s1];refine(h.r1.filter _).trans (Perm.of_eq ?_);rw[filter_map,filter_filter];congr 1;apply filter_congr;intro r _;show(decide (r.k=a.k/\a.t+x.lo<=r.t/\r.t<=a.t+x.hi)&&decide (x.m0<r.t+ -x.lo))=decide (a.k=r.k/\x.lo<=r.t -a.t/\r.t -a.t<=x.hi);rw[Bool.eq_iff_iff];simp only[Bool.and_eq_true,decide_eq_true_eq];omega
theorem Holds.met1{A B:List Rw}(h:Holds x A B)(b:Rw)(hl:x.m1<b.t):bF b.k (b.t+ -x.hi) (b.t+ -x.lo) x.R0 ~ (A.filter λl=>mB x.lo x.hi l b).map λl=>Ad l (B.countP λr=>mB x.lo x.hi l r):=by
 rw[gM h.s0];refine(h.r0.filter _).trans (Perm.of_eq ?_);rw[filter_map,filter_filter];congr 1;apply filter_congr;intro r _;show(decide (r.k=b.k/\b.t+ -x.hi<=r.t/\r.t<=b.t+ -x.lo)&&decide (x.m1<r.t+x.hi))=decide (r.k=b.k/\x.lo<=b.t -r.t/\b.t -r.t<=x.hi);rw[Bool.eq_iff_iff];simp only[Bool.and_eq_true,decide_eq_true_eq];omega
theorem Holds.fed0{A B:List Rw}(h:Holds x A B)(a:Rw)(d:x.m0<a.t)(f:A.length<9223372036854775807):Holds (x.fed0 a.k a.t a.v) (A++[a]) B:=by
 have c:=h.met0 a d;refine⟨?_,?_,?_,zm h.s1⟩
 .show(if x.m1<a.t+x.hi then _ else _) ~ (((A++[a]).filter λl=>decide (x.m1<l.t+x.hi)).map λl=>Ad l (B.countP λr=>mB x.lo x.hi l r));rw[filter_append,map_append]
  by_cases hh:x.m1<a.t+x.hi
  .rw[if_pos hh];refine(Gh _ _ _).trans ((Perm.cons _ h.r0).trans ?_)
   have e:(bF a.k (a.t+x.lo) (a.t+x.hi) x.R1).length=B.countP λr=>mB x.lo x.hi a r:=by
    rw[c.length_eq,length_map,countP_eq_length_filter]
   have b:([a].filter λl=>decide (x.m1<l.t+x.hi))=[a]:=by simp[hh]
   rw[e,b];exact(perm_append_comm (l₁:=[Ad a (B.countP λr=>mB x.lo x.hi a r)]))
  .rw[if_neg hh]
   have b:([a].filter λl=>decide (x.m1<l.t+x.hi))=[]:=by simp;omega
   rw[b,map_nil,append_nil];exact h.r0
 .show fo x.R1 _ _ ~ ((B.filter λr=>decide (x.m0<r.t+ -x.lo)).map λr=>Ad r ((A++[a]).countP λl=>mB x.lo x.hi l r));rw[gZ h.s1];refine BM (λl r=>mB x.lo x.hi l r) _ A B a x.R1 _ ?_ f h.r1;intro r n;show decide (r.k=a.k/\a.t+x.lo<=r.t/\r.t<=a.t+x.hi)=decide (a.k=r.k/\x.lo<=r.t -a.t/\r.t -a.t<=x.hi);rw[Bool.eq_iff_iff];simp only[decide_eq_true_eq];omega
 .show ay (if x.m1<a.t+x.hi then _ else _)
  split
  .exact qX _ _ _ _ h.s0
  .exact h.s0
theorem Holds.fed1{A B:List Rw}(h:Holds x A B)(b:Rw)(d:x.m1<b.t)(f:B.length<9223372036854775807):Holds (x.fed1 b.k b.t b.v) A (B++[b]):=by
 have c:=h.met1 b d;refine⟨?_,?_,zm h.s0,?_⟩
 .show fo x.R0 _ _ ~ ((A.filter λl=>decide (x.m1<l.t+x.hi)).map λl=>Ad l ((B++[b]).countP λr=>mB x.lo x.hi l r));rw[gZ h.s0];refine BM (λr l=>mB x.lo x.hi l r) _ B A b x.R0 _ ?_ f h.r0;intro r n;show decide (r.k=b.k/\b.t+ -x.hi<=r.t/\r.t<=b.t+ -x.lo)=decide (r.k=b.k/\x.lo<=b.t -r.t/\b.t -r.t<=x.hi);rw[Bool.eq_iff_iff];simp only[decide_eq_true_eq];omega
 .show(if x.m0<b.t+ -x.lo then _ else _) ~ (((B++[b]).filter λr=>decide (x.m0<r.t+ -x.lo)).map λr=>Ad r (A.countP λl=>mB x.lo x.hi l r));rw[filter_append,map_append]
  by_cases hh:x.m0<b.t+ -x.lo
  .rw[if_pos hh];refine(Gh _ _ _).trans ((Perm.cons _ h.r1).trans ?_)
   have e:(bF b.k (b.t+ -x.hi) (b.t+ -x.lo) x.R0).length=A.countP λl=>mB x.lo x.hi l b:=by
    rw[c.length_eq,length_map,countP_eq_length_filter]
   have a:([b].filter λr=>decide (x.m0<r.t+ -x.lo))=[b]:=by simp;omega
   rw[e,a];exact(perm_append_comm (l₁:=[Ad b (A.countP λl=>mB x.lo x.hi l b)]))
  .rw[if_neg hh]
   have a:([b].filter λr=>decide (x.m0<r.t+ -x.lo))=[]:=by simp;omega
   rw[a,map_nil,append_nil];exact h.r1
 .show ay (if x.m0<b.t+ -x.lo then _ else _)
  split
  .exact qX _ _ _ _ h.s1
  .exact h.s1
theorem Holds.moved0{A B:List Rw}(h:Holds x A B)(t:Int)(ht:x.m0<=t):Holds { x with m0:=t,R1:=keepR (λy=>decide (y.t<=t+x.lo)) x.R1} A B:=by
 refine⟨h.r0,?_,h.s0,vZ h.s1⟩;show keepR _ x.R1 ~ ((B.filter λr=>decide (t<r.t+ -x.lo)).map λr=>Ad r (A.countP λl=>mB x.lo x.hi l r));unfold keepR;refine(h.r1.filter _).trans (Perm.of_eq ?_);rw[filter_map,filter_filter];congr 1;apply filter_congr;intro r _;show((!decide (r.t<=t+x.lo))&&decide (x.m0<r.t+ -x.lo))=decide (t<r.t+ -x.lo);rw[Bool.eq_iff_iff];simp only[Bool.and_eq_true,Bool.not_eq_true',decide_eq_true_eq,decide_eq_false_iff_not];omega
theorem Holds.moved1{A B:List Rw}(h:Holds x A B)(t:Int)(ht:x.m1<=t):Holds { x with m1:=t,R0:=keepR (λy=>decide (y.t<=t -x.hi)) x.R0} A B:=by
 refine⟨?_,h.r1,vZ h.s0,h.s1⟩;show keepR _ x.R0 ~ ((A.filter λl=>decide (t<l.t+x.hi)).map λl=>Ad l (B.countP λr=>mB x.lo x.hi l r));unfold keepR;refine(h.r0.filter _).trans (Perm.of_eq ?_);rw[filter_map,filter_filter];congr 1;apply filter_congr;intro r _;show((!decide (r.t<=t -x.hi))&&decide (x.m1<r.t+x.hi))=decide (t<r.t+x.hi);rw[Bool.eq_iff_iff];simp only[Bool.and_eq_true,Bool.not_eq_true',decide_eq_true_eq,decide_eq_false_iff_not];omega
theorem Holds.view0{A B:List Rw}(h:Holds x A B)(a:Rw)(c:x.m0<a.t)(b:L ~ kv x.lo x.hi x.mode A B):
  G7 L (bU x.mode 0 a.k a.t a.v (bF a.k (a.t+x.lo) (a.t+x.hi) x.R1))/\iE L (bU x.mode 0 a.k a.t a.v (bF a.k (a.t+x.lo) (a.t+x.hi) x.R1)) ~ kv x.lo x.hi x.mode (A++[a]) B:=
 BL (mB x.lo x.hi) qE tX mP (bf x.mode 0) (bf x.mode 1) (λ_=>rfl) A B a _ L (h.met0 a c) b
theorem Holds.view1{A B:List Rw}(h:Holds x A B)(b:Rw)(c:x.m1<b.t)(a:L ~ kv x.lo x.hi x.mode A B):
  G7 L (bU x.mode 1 b.k b.t b.v (bF b.k (b.t+ -x.hi) (b.t+ -x.lo) x.R0))/\iE L (bU x.mode 1 b.k b.t b.v (bF b.k (b.t+ -x.hi) (b.t+ -x.lo) x.R0)) ~ kv x.lo x.hi x.mode A (B++[b]):=by
 have key:=BL (λr l=>mB x.lo x.hi l r) (λr l=>qE l r) mP tX (bf x.mode 1) (bf x.mode 0) (λ_=>rfl) B A b _ L (h.met1 b c) (a.trans (zl _ _ _ _ _ _ A B));exact⟨key.1,key.2.trans (zl (mB x.lo x.hi) qE tX mP (bf x.mode 0) (bf x.mode 1) A (B++[b])).symm⟩
end
section
open List
variable{x:J}{A B:List Rw}
section
variable{α β:Type}(q:α->β->Bool)(P:α->β->O)(d:α->O)(lb:β->O)(c tb:Bool)
def Rj(A:List α)(B:List β):List O:=
 (A.flatMap λa=>(B.filter (q a)).map (P a)++(if B.any (q a)=false/\c=true then[d a]else[]))++(if tb=true then(B.filter λb=>!A.any λa=>q a b).map lb else[])
theorem La(A:List α)(B:List β):Rj q P d lb c tb A B ~ lq q P d lb c tb A B:=by
 unfold Rj lq;rw[<-append_assoc];refine Perm.append_right _ ((jO _ _ A).trans (Perm.append_left _ (Perm.of_eq ?_)))
 induction A with
 |nil=>cases c <;>rfl
 |cons a r ih=>
  rw[flatMap_cons,ih];cases c
  .simp
  .cases hb:B.any (q a)
   .simp[hb]
   .simp[hb]
end
theorem Holds.yet0(h:Holds x A B)(y:D)(b:y∈x.R0):x.m1<y.t+x.hi/\0<=y.n/\y.n<=B.length/\y.rw∈A:=by
 obtain⟨l,a,rfl⟩:=mem_map.1 (h.r0.subset b);rw[mem_filter]at a;have hc:B.countP (λr=>mB x.lo x.hi l r)<=B.length:=countP_le_length;refine⟨of_decide_eq_true a.2,?_,?_,a.1⟩
 .show(0:Int)<=((B.countP (λr=>mB x.lo x.hi l r):Nat):Int);omega
 .show((B.countP (λr=>mB x.lo x.hi l r):Nat):Int)<=_;omega
theorem Holds.yet1(h:Holds x A B)(y:D)(b:y∈x.R1):x.m0<y.t+ -x.lo/\0<=y.n/\y.n<=A.length/\y.rw∈B:=by
 obtain⟨l,a,rfl⟩:=mem_map.1 (h.r1.subset b);rw[mem_filter]at a;have hc:A.countP (λr=>mB x.lo x.hi r l)<=A.length:=countP_le_length;refine⟨of_decide_eq_true a.2,?_,?_,a.1⟩
 .show(0:Int)<=((A.countP (λr=>mB x.lo x.hi r l):Nat):Int);omega
 .show((A.countP (λr=>mB x.lo x.hi r l):Nat):Int)<=_;omega
theorem Holds.new(lo hi mode a m1 late:Int):Holds ⟨lo,hi,mode,a,m1,late,[],[]⟩ [] []:=⟨Perm.refl _,Perm.refl _,Pairwise.nil,Pairwise.nil⟩
end
section
open Go.RowKit Go.Sort
def abE(r:Rw):List Value:=[.int .i64 r.k,.int .i64 r.t,.int .i64 r.v]
def zRw:Value:= .agg #[.int .i64 0,.int .i64 0,.int .i64 0]
theorem MQ(xs:List Ch)(k j:Nat)(x:Ch)(b:xs[k]?=some x)(hj:j<10):(xs.flatMap aQ)[k*10+j]?=(aQ x)[j]? :=by
 induction xs generalizing k with
 |nil=>simp at b
 |cons a r ih=>
  rw[List.flatMap_cons]
  cases k with
  |zero=>
   simp at b;subst b;rw[sZ (by rw[kC];omega)];congr 1;omega
  |succ k=>
   rw[pY (by rw[kC];omega),kC,show(k+1)*10+j -10=k*10+j by omega];exact ih k (by simpa using b)
theorem Eb{W:World}{base gs n a:Nat}{xs:List Ch}(h:W.ownsRow base 95 10 (.slice (some ⟨gs,0,none⟩) n a) n (xs.flatMap aQ))(k:Nat)(c:Ch)(e:xs[k]?=some c):
  W.cell? ⟨gs,k*10,none⟩=some (.int .i64 c.x.k)/\W.cell? ⟨gs,k*10+1,none⟩=some (.int .i64 c.x.lk)/\W.cell? ⟨gs,k*10+2,none⟩=some (.int .i64 c.x.lt)/\W.cell? ⟨gs,k*10+3,none⟩=some (.int .i64 c.x.lv)/\W.cell? ⟨gs,k*10+4,none⟩=some (.int .i64 c.x.rk)/\W.cell? ⟨gs,k*10+5,none⟩=some (.int .i64 c.x.rt)/\W.cell? ⟨gs,k*10+6,none⟩=some (.int .i64 c.x.rv)/\W.cell? ⟨gs,k*10+7,none⟩=some (.bool c.x.hl)/\W.cell? ⟨gs,k*10+8,none⟩=some (.bool c.x.hr)/\W.cell? ⟨gs,k*10+9,none⟩=some (.bool c.g):=by
 have key:=λ(j:Nat) (v:Value) (b:j<10) (d:(aQ c)[j]?=some v)=>h.cells (g:=gs) rfl (k*10+j) v ((MQ xs k j c e b).trans d)
 simp only[bZ]at key;exact⟨key 0 _ (by omega) rfl,key 1 _ (by omega) rfl,key 2 _ (by omega) rfl,key 3 _ (by omega) rfl,key 4 _ (by omega) rfl,key 5 _ (by omega) rfl,key 6 _ (by omega) rfl,key 7 _ (by omega) rfl,key 8 _ (by omega) rfl,key 9 _ (by omega) rfl⟩
theorem Oi:∀(C:List Ch) (F:List O) (i:Nat) (c:Ch),G7 F C->C[i]?=some c->c.g=true->c.x∈iE F (C.take i)/\(c.x.hl&&c.x.hr)=false
 |[],_,i,c,_,h,_=>by simp at h
 |a::C,F,0,c,ho,h,hg=>by
  simp at h;subst h;exact ho.1 hg
 |a::C,F,i+1,c,ho,h,hg=>by
  rw[List.take_succ_cons,BH];exact Oi C _ i c ho.2 (by simpa using h) hg
theorem KX(C:List Ch)(F:List O)(i:Nat)(c:Ch)(h:C[i]?=some c):iE F (C.take (i+1))=if c.g=true then(iE F (C.take i)).erase c.x else c.x::iE F (C.take i):=by
 rw[List.take_add_one,h,Gb];rfl
theorem D9:∀(C:List Ch) (F:List O),(iE F C).length<=F.length+C.length
 |[],F=>aO _
 |c::C,F=>by
  rw[BH];refine di (D9 C _) ?_
  split
  .have:=List.length_erase_le (a:=c.x) (l:=F);simp;omega
  .simp;omega
def tV(Ui:(Nat->Prop)->World->Prop):Prop:=∀S W W',Ui S W->W.heap.size<=W'.heap.size->(∀k,S k->W'.heap[k]?=W.heap[k]?)->Ui S W'
end
section
open Go.RowKit Go.Sort
theorem ow(k:Int)(w:World):(binOp .neq 29 (.iface 24 (.int .i64 k)) .nilIface).run Tryz.prog w=.ok (.bool true) w:=by kernel_rfl
end
section
open Go.Proofs.Tryz Go.RowKit Go.Sort
structure DF(x:J):Prop where
 lo1: -1048576<=x.lo
 lo2:x.lo<=1048576
 hi1: -1048576<=x.hi
 hi2:x.hi<=1048576
 s0:ay x.R0
 s1:ay x.R1
 l0:x.R0.length<=300
 l1:x.R1.length<=300
 n0:∀y∈x.R0,0<=y.n/\y.n<=1000000
 n1:∀y∈x.R1,0<=y.n/\y.n<=1000000
 late:0<=x.late/\x.late<=1000000
abbrev qc(x:J)(r:Rw):List Ch:=bU x.mode 0 r.k r.t r.v (bF r.k (r.t+x.lo) (r.t+x.hi) x.R1)
abbrev qd(x:J)(r:Rw):List Ch:=bU x.mode 1 r.k r.t r.v (bF r.k (r.t+ -x.hi) (r.t+ -x.lo) x.R0)
abbrev eO(S S':Nat->Prop)(W w':World):Prop:=(∀k,S' k->(S k∨W.heap.size<=k)/\k<w'.heap.size)/\Turned S W w'
def iD:Value:= .iface 278 (.agg #[.pointer (some ⟨12,29,none⟩)])
structure OB(fK:Nat->J->List O->(Nat->Prop)->World->Prop):Prop where
 steady:∀be x L,tV (fK be x L)
 foot:∀be x L S W,fK be x L S W->∀k,S k->k<W.heap.size
 new:∀lo hi mode W,dn lo hi mode->Calls prog 13 #[.agg #[.int .i64 lo,.int .i64 hi,.int .i64 mode]] W λe w'=>∃be S,e=.returned (.tuple #[.pointer (some ⟨be,0,none⟩),.nilIface])/\fK be ⟨lo,hi,mode,-1099511627777,-1099511627777,0,[],[]⟩ [] S w'/\(∀k,S k->W.heap.size<=k/\k<w'.heap.size)/\Below W.heap.size W w'
 feed0:∀be x L S W (r:Rw),fK be x L S W->DF x->au r.k r.t r.v=true->x.m0<r.t->(x.m1<r.t+x.hi->x.R0.length<300)->G7 L (qc x r)->(∀c∈qc x r,c.x.wf)->L.length<=1000000->
  Calls prog 11 #[.pointer (some ⟨be,0,none⟩),.int .i64 0,.agg #[.int .i64 r.k,.int .i64 r.t,.int .i64 r.v]] W λe w'=>∃v9 S',e=.returned (.tuple #[v9,.nilIface])/\w'.ownsRow W.heap.size 95 10 v9 (qc x r).length ((qc x r).flatMap aQ)/\fK be (x.fed0 r.k r.t r.v) (iE L (qc x r)) S' w'/\eO S S' W w'
 feed1:∀be x L S W (r:Rw),fK be x L S W->DF x->au r.k r.t r.v=true->x.m1<r.t->(x.m0<r.t+ -x.lo->x.R1.length<300)->G7 L (qd x r)->(∀c∈qd x r,c.x.wf)->L.length<=1000000->
  Calls prog 11 #[.pointer (some ⟨be,0,none⟩),.int .i64 1,.agg #[.int .i64 r.k,.int .i64 r.t,.int .i64 r.v]] W λe w'=>∃v9 S',e=.returned (.tuple #[v9,.nilIface])/\w'.ownsRow W.heap.size 95 10 v9 (qd x r).length ((qd x r).flatMap aQ)/\fK be (x.fed1 r.k r.t r.v) (iE L (qd x r)) S' w'/\eO S S' W w'
 view:∀be x L S W,fK be x L S W->L.length<=1000000->Calls prog 27 #[.pointer (some ⟨be,0,none⟩)] W λe w'=>∃(v:Value) (Z:List O),e=.returned v/\Z.Perm L/\w'.ownsRow W.heap.size 89 9 v Z.length (Z.flatMap ah)/\Below W.heap.size W w'
structure YM(fK:Nat->J->List O->(Nat->Prop)->World->Prop):Prop extends OB fK where
 late:∀be x L S W (r:Rw) (s:Int),W.cell? ⟨2,0,none⟩=some iD->fK be x L S W->DF x->au r.k r.t r.v=true->(s=0/\r.t<=x.m0∨s=1/\r.t<=x.m1)->
  Calls prog 11 #[.pointer (some ⟨be,0,none⟩),.int .i64 s,.agg #[.int .i64 r.k,.int .i64 r.t,.int .i64 r.v]] W λe w'=>∃S',e=.returned (.tuple #[.slice none 0 0,.iface 24 (.int .i64 10)])/\fK be { x with late:=bR x.late} L S' w'/\eO S S' W w'
 full:∀be x L S W (r:Rw) (s:Int),W.cell? ⟨2,0,none⟩=some iD->fK be x L S W->DF x->au r.k r.t r.v=true->(s=0/\x.m0<r.t/\x.m1<r.t+x.hi/\300<=x.R0.length∨s=1/\x.m1<r.t/\x.m0<r.t+ -x.lo/\300<=x.R1.length)->
  Calls prog 11 #[.pointer (some ⟨be,0,none⟩),.int .i64 s,.agg #[.int .i64 r.k,.int .i64 r.t,.int .i64 r.v]] W λe w'=>∃S',e=.returned (.tuple #[.slice none 0 0,.iface 24 (.int .i64 12)])/\fK be x L S' w'/\eO S S' W w'
 move0:∀be x L S W (t:Int),fK be x L S W->DF x->x.m0<=t->(-1099511627776<=t/\t<=1099511627776)->
  Calls prog 15 #[.pointer (some ⟨be,0,none⟩),.int .i64 0,.int .i64 t] W λe w'=>∃S',e=.returned .nilIface/\fK be { x with m0:=t,R1:=keepR (λy=>decide (y.t<=t+x.lo)) x.R1} L S' w'/\eO S S' W w'
 move1:∀be x L S W (t:Int),fK be x L S W->DF x->x.m1<=t->(-1099511627776<=t/\t<=1099511627776)->
  Calls prog 15 #[.pointer (some ⟨be,0,none⟩),.int .i64 1,.int .i64 t] W λe w'=>∃S',e=.returned .nilIface/\fK be { x with m1:=t,R0:=keepR (λy=>decide (y.t<=t -x.hi)) x.R0} L S' w'/\eO S S' W w'
 tell:∀c W,W.cell? ⟨2,0,none⟩=some iD->c=4∨c=10∨c=12->Calls prog 46 #[.iface 24 (.int .i64 c)] W λe w'=>e=.returned (.int .i64 c)/\Below W.heap.size W w'
structure xO(W:World):Prop where
 err:W.cell? ⟨2,0,none⟩=some iD
 tab:Lib.TabIs prog W "internal/strconv.uint64pow10" .u64 Lib.pow10Tab
 max:∃m,W.cell? ⟨3,0,none⟩=some (.int .i64 m)
theorem aG{w w':World}(h:Lib.TabIs prog w "internal/strconv.uint64pow10" .u64 Lib.pow10Tab)(hb:Below w.heap.size w w'):Lib.TabIs prog w' "internal/strconv.uint64pow10" .u64 Lib.pow10Tab:=by
 have hg:prog.globalNamed "internal/strconv.uint64pow10" =some 6:=by kernel_rfl
 unfold Lib.TabIs World.var? at h⊢;rw[hg]at h⊢;simp only[Option.bind_some]at h⊢
 have hlt:6<w.heap.size:=by
  rcases Nat.lt_or_ge 6 w.heap.size with h'|h'
  .exact h'
  .rw[Array.getElem?_eq_none h']at h;cases h
 rw[hb.block 6 hlt];exact h
theorem xO.below{W b:World}(h:xO W)(a:Below W.heap.size W b):xO b:=by
 obtain⟨m,c⟩:=h.max;exact⟨(a.cell (p:=⟨2,0,none⟩) (World.block_lt_of_cell? _ _ h.err)).trans h.err,aG h.tab a,m,(a.cell (p:=⟨3,0,none⟩) (World.block_lt_of_cell? _ _ c)).trans c⟩
inductive iK:O->Prop
 |left (k t v:Int):au k t v=true->iK (bn 0 k t v)
 |right (k t v:Int):au k t v=true->iK (bn 1 k t v)
 |pair (k t v t2 v2:Int):au k t v=true->au k t2 v2=true->iK ⟨k,k,t,v,k,t2,v2,true,true⟩
structure XJ(fK:Nat->J->List O->(Nat->Prop)->World->Prop):Prop where
 saved:∀be x L S0 W0,fK be x L S0 W0->DF x->dn x.lo x.hi x.mode->(-1099511627777<=x.m0/\x.m0<=1099511627776)->(-1099511627777<=x.m1/\x.m1<=1099511627776)->(∀y∈x.R0,au y.k y.t y.v=true)->(∀y∈x.R1,au y.k y.t y.v=true)->(∀o∈L,iK o)->L.length<=1000000->
  ∃(Ui:(Nat->Prop)->World->Prop) (txt:ByteArray),tV Ui/\Ui S0 W0/\(∀S W,Ui S W->fK be x L S W)/\((∀S W,Ui S W->xO W->Calls prog 18 #[.pointer (some ⟨be,0,none⟩)] W λe w'=>e=.returned (.tuple #[.string txt,.iface 24 (.int .i64 4)])/\Below W.heap.size W w')∨
  ((∀S W,Ui S W->xO W->Calls prog 18 #[.pointer (some ⟨be,0,none⟩)] W λe w'=>e=.returned (.tuple #[.string txt,.nilIface])/\Below W.heap.size W w')/\
   ∀W,xO W->Calls prog 8 #[.string txt] W λe w'=>∃iF S',e=.returned (.tuple #[.pointer (some ⟨iF,0,none⟩),.nilIface])/\(∃L':List O,L'.Perm L/\fK iF x L' S' w')/\(∀k,S' k->W.heap.size<=k/\k<w'.heap.size)/\Below W.heap.size W w'))
end
section
open Go.RowKit Go.Sort
structure aU(W:World):Prop where
 g:xO W
 e5:∃ev,W.cell? ⟨4,0,none⟩=some ev/\(ev=.nilIface∨∃te pe,ev=.iface te pe)
 e6:∃ev,W.cell? ⟨5,0,none⟩=some ev/\(ev=.nilIface∨∃te pe,ev=.iface te pe)
theorem aU.below{W b:World}(h:aU W)(a:Below W.heap.size W b):aU b:=by
 obtain⟨j,d,i⟩:=h.e5;obtain⟨f,c,e⟩:=h.e6;exact⟨h.g.below a,⟨j,(a.cell (p:=⟨4,0,none⟩) (World.block_lt_of_cell? _ _ d)).trans d,i⟩,⟨f,(a.cell (p:=⟨5,0,none⟩) (World.block_lt_of_cell? _ _ c)).trans c,e⟩⟩
end
section
open Go.RowKit Go.Sort
variable{r:Rw}{A B:List Rw}{x:J}
def Rw.small(r:Rw):Prop:=(-1099511627776<=r.k/\r.k<=1099511627776)/\(-1099511627776<=r.t/\r.t<=1099511627776)/\(-1099511627776<=r.v/\r.v<=1099511627776)
theorem iW{n:Int}(h: -1099511627776<=n/\n<=1099511627776):(Lit.int .i64 n).wf=true:=WalkArith.wf_i64 (by omega)
def Cs(lo hi mode:Int)(B:List Rw)(a:Rw):List O:=(B.filter (mB lo hi a)).map (qE a)++(if B.any (mB lo hi a)=false/\bf mode 0=true then[tX a]else[])
theorem Hu(lo hi mode:Int)(B:List Rw)(a:Rw):(Cs lo hi mode B a).length<=B.length+1:=by
 unfold Cs;rw[List.length_append,List.length_map];have:=oo (mB lo hi a) B
 split <;>simp <;>omega
theorem Hw(lo hi mode:Int)(B:List Rw)(A:List Rw):(A.flatMap (Cs lo hi mode B)).length<=A.length*(B.length+1):=by
 induction A with
 |nil=>simp
 |cons a r ih=>
  have:=Hu lo hi mode B a;rw[List.flatMap_cons,List.length_append,List.length_cons,Nat.add_mul];omega
theorem OC(lo hi mode:Int)(A B:List Rw):(kv lo hi mode A B).length<=A.length*(B.length+1)+B.length:=by
 have h:=(La (mB lo hi) qE tX mP (bf mode 0) (bf mode 1) A B).length_eq;have h1:=Hw lo hi mode B A
 have h2:(kv lo hi mode A B).length=(A.flatMap (Cs lo hi mode B)).length+(if bf mode 1=true then(B.filter λb=>!A.any λa=>mB lo hi a b).map mP else[]).length:=by
  rw[<-List.length_append];exact h.symm
 have h3:(if bf mode 1=true then(B.filter λb=>!A.any λa=>mB lo hi a b).map mP else[]).length<=B.length:=by
  split
  .rw[List.length_map];exact oo _ _
  .simp
 omega
theorem o8(lo hi mode:Int)(A B:List Rw)(n:Nat)(hn:n<=1600)(h:A.length+B.length<=n):(kv lo hi mode A B).length<=700000:=by
 have h1:=OC lo hi mode A B
 have h2:A.length*(B.length+1)<=641601:=by
  have h3:4*(A.length*(B.length+1))<=(A.length+(B.length+1))*(A.length+(B.length+1)):=by
   rcases Nat.le_total A.length (B.length+1)with g|g
   .obtain⟨d,hd⟩:=Nat.exists_eq_add_of_le g;rw[hd]
    have:(A.length+(A.length+d))*(A.length+(A.length+d))=4*(A.length*(A.length+d))+d*d:=by
     simp only[Nat.mul_add,Nat.add_mul];have:=Nat.mul_comm d A.length;omega
    omega
   .obtain⟨d,hd⟩:=Nat.exists_eq_add_of_le g;rw[hd]
    have:(B.length+1+d+(B.length+1))*(B.length+1+d+(B.length+1))=4*((B.length+1+d)*(B.length+1))+d*d:=by
     generalize B.length+1=m;simp only[Nat.mul_add,Nat.add_mul];have:=Nat.mul_comm d m;omega
    omega
  have h4:(A.length+(B.length+1))*(A.length+(B.length+1))<=1601*1601:=Nat.mul_le_mul (by omega) (by omega);omega
 omega
theorem wO{key fH av:Int}{R:List D}{y:D}(h:y∈bF key fH av R):y∈R:=List.mem_of_mem_drop ((List.takeWhile_sublist _).subset h)
theorem wN(mode s:Int)(r:Rw)(M:List D)(f:r.small)(i:∀y∈M,y.rw.small):∀c∈bU mode s r.k r.t r.v M,c.x.wf:=by
 have g:∀(u:Int) (q:Rw),q.small->(bn u q.k q.t q.v).wf:=λu q b=>by
  unfold bn
  split
  .exact⟨iW b.1,iW b.1,iW b.2.1,iW b.2.2,iW (n:=0) (by omega),iW (n:=0) (by omega),iW (n:=0) (by omega)⟩
  .exact⟨iW b.1,iW (n:=0) (by omega),iW (n:=0) (by omega),iW (n:=0) (by omega),iW b.1,iW b.2.1,iW b.2.2⟩
 have h:∀(u:Int) (q m:Rw),q.small->m.small->(bY u q.k q.t q.v m.k m.t m.v).wf:=λu q m b d=>by
  unfold bY
  split
  .exact⟨iW b.1,iW b.1,iW b.2.1,iW b.2.2,iW d.1,iW d.2.1,iW d.2.2⟩
  .exact⟨iW d.1,iW d.1,iW d.2.1,iW d.2.2,iW b.1,iW b.2.1,iW b.2.2⟩
 intro c a;unfold bU at a
 split at a
 .split at a
  .simp at a;subst a;exact g s r f
  .simp at a
 .rw[List.mem_flatMap]at a;obtain⟨m,d,a⟩:=a;have e:=i m d;unfold dU at a;rw[List.mem_append]at a
  rcases a with a|a
  .split at a
   .simp at a;subst a;exact g (1 -s) m.rw e
   .simp at a
  .simp at a;subst a;exact h s r m.rw f e
theorem pg(mode s k t v:Int)(M:List D):(bU mode s k t v M).length<=2*M.length+1:=by
 unfold bU
 split
 .split <;>simp
 .have:=rP (bf mode (1 -s)) s (1 -s) k t v M;omega
theorem ji(h:r.small):au r.k r.t r.v=true:=by
 unfold Rw.small at h;unfold au iG;simp;omega
theorem dI(h:au r.k r.t r.v=true):r.small:=by
 unfold au iG at h;unfold Rw.small;simp at h;omega
theorem Gy{lo hi mode:Int}(g:∀r∈A,r.small)(i:∀r∈B,r.small):∀o∈kv lo hi mode A B,iK o:=by
 intro o c;unfold kv lq at c;rw[List.mem_append,List.mem_append]at c
 rcases c with c|c|c
 .rw[List.mem_flatMap]at c;obtain⟨a,e,c⟩:=c;rw[List.mem_map]at c;obtain⟨b,j,rfl⟩:=c;obtain⟨f,d⟩:=List.mem_filter.1 j
  have h:a.k=b.k:=by
   unfold mB at d;simp at d;omega
  have:=iK.pair a.k a.t a.v b.t b.v (ji (g a e)) (by rw[h];exact ji (i b f));unfold qE;rw[<-h];exact this
 .split at c
  .rw[List.mem_map]at c;obtain⟨a,e,rfl⟩:=c;exact iK.left _ _ _ (ji (g a (List.mem_filter.1 e).1))
  .cases c
 .split at c
  .rw[List.mem_map]at c;obtain⟨a,e,rfl⟩:=c;exact iK.right _ _ _ (ji (i a (List.mem_filter.1 e).1))
  .cases c
theorem Holds.good0(h:Holds x A B)(c:∀r∈A,r.small):∀y∈x.R0,au y.k y.t y.v=true:=by
 intro y a;have:=h.r0.subset a;rw[List.mem_map]at this;obtain⟨l,b,rfl⟩:=this;exact ji (c l (List.mem_filter.1 b).1)
theorem Holds.good1(h:Holds x A B)(c:∀r∈B,r.small):∀y∈x.R1,au y.k y.t y.v=true:=by
 intro y a;have:=h.r1.subset a;rw[List.mem_map]at this;obtain⟨l,b,rfl⟩:=this;exact ji (c l (List.mem_filter.1 b).1)
theorem UF(h:Holds x A B)(p:dn x.lo x.hi x.mode)(c:x.R0.length<=300)(a:x.R1.length<=300)(hA:A.length<=1000000)(hB:B.length<=1000000)(d:0<=x.late/\x.late<=1000000):DF x:=by
 unfold dn at p;exact⟨by omega,by omega,by omega,by omega,h.s0,h.s1,c,a,λy b=>by have:=h.yet0 y b;omega,λy b=>by have:=h.yet1 y b;omega,d⟩
end
section
open Go.Joins Go.RowKit Go.Sort
open Go.WideElems (Fit rd rg)
variable{w A:World}{k b o m base d m':Nat}{u:Option Nat}{L:List O}{S:Nat->Prop}{G:Int->Option Tl}{z v:Value}{x:J}
theorem Ay{α:Type}:∀(xs L:List α),xs.Nodup->(∀x∈xs,x∈L)->xs.length<=L.length
 |[],_,_,_=>gy _
 |a::r,L,hn,hs=>by
  obtain⟨s,t,rfl⟩:=List.append_of_mem (hs a (by simp))
  have g:∀x∈r,x∈s++t:=λx c=>by
   have f:=hs x (by simp[c])
   have i:x≠a:=λe=>(List.nodup_cons.1 hn).1 (by rw[<-e];exact c)
   simp at f⊢
   rcases f with h|h|h
   .exact .inl h
   .exact absurd h i
   .exact .inr h
  have:=Ay r (s++t) (List.nodup_cons.1 hn).2 g;simp at this⊢;omega
theorem tQ{H:Type}{P:Program}{k:TypeId}{R:Value->Option (DataW H×List MemPlace)}{n:Nat}{D:DataW H}(h:w.ownsMap P k R b n D)(K:Maps.Keyed P k)(r:List Lit)(B:∀l,Maps.has D l=true->l∈r):w.ownsMap P k R b r.length D:=by
 have C:=h.tidy K;obtain⟨c,clock,E,F,hs,rfl⟩:=h;refine⟨c,clock,E,F,?_,rfl⟩;obtain⟨l,e,g⟩:=C
 have t:((c.toList.map (rg P k R)).foldr DataW.insert []).length=c.size:=by simp[length_sorted]
 have j:∀p∈(c.toList.map (rg P k R)).foldr DataW.insert [],WideAt.IsKeyLit p.1:=by
  intro p g;rw[(WideShapes.sorted_perm _).mem_iff]at g;obtain⟨x,i,rfl⟩:=oz.1 g;obtain⟨y,s⟩:=F.reads x i
  have:rg P k R x=y:=by simp[rg,s]
  rw[this];exact K.key (WideElems.rd_key s)
 have I:(c.toList.map (rg P k R)).foldr DataW.insert []=l:=by injection e
 rw[I]at t j B;rw[<-t,<-List.length_map (f:=λp:Lit×DataW H=>p.1)];refine Ay _ _ (List.pairwise_map.2 g) ?_;intro x i;obtain⟨p,a,rfl⟩:=oz.1 i;refine B _ ?_;rw[Maps.has_eq];exact List.any_eq_true.2 ⟨p,a,WideAt.sameKey_self (j p a)⟩
theorem aP.tight(h:aP w b o u m L):aP w b o u L.length L:=by
 refine⟨h.blk,?_⟩
 rcases h.map with a|⟨d,n,D,h1,hn,hown,hc⟩
 .exact .inl a
 .refine .inr ⟨d,L.length,D,h1,aO _,?_,hc⟩;have:=tQ hown keyed (L.map kL) (λl c=>by obtain⟨x,a,rfl⟩:=hc.keys l c;exact List.mem_map_of_mem a);simpa using this
theorem Oe(M:List O):(bD M).R.length<=M.length:=by
 induction M with
 |nil=>simp[bD]
 |cons x M ih=>
  show(if x.hr=true then x.rv::(bD M).R else(bD M).R).length<=_
  split
  all_goals (simp only[List.length_cons];omega)
theorem lu.tight(h:lu w b o m S (bK L)):lu w b o L.length S (bK L):=by
 obtain⟨u,E,B,F,H⟩:=h;refine⟨u,E,⟨B.blk,?_⟩,F,H⟩
 rcases B.map with i|⟨d,n,D,e,hM⟩
 .exact .inl i
 .have s:∀k τ,bK L k=some τ->τ=bD (gK L k)/\gK L k≠[]:=by
   intro k τ a;unfold bK at a
   split at a
   .cases a
   .rename_i hne
    exact⟨by injection a with a;exact a.symm,hne⟩
  refine .inr ⟨d,L.length,D,e,aO _,?_,hM.dat,?_,hM.bmb,hM.nb,hM.inj⟩
  .have:=tQ hM.own fJ (L.map λo=>gi o.k) (λl c=>by
    obtain⟨k,τ,rfl,a⟩:=hM.dat.keys l c;obtain⟨_,p⟩:=s k τ a;obtain⟨y,I⟩:=List.exists_mem_of_ne_nil _ p;obtain⟨j,f⟩:=List.mem_filter.1 I;rw[List.mem_map]
    exact⟨y,j,by simp at f;rw[f]⟩)
   simpa using this
  .intro k τ a;obtain⟨t,p⟩:=s k τ a;have g:=hM.tals k τ a;obtain⟨n',M,_,K,C⟩:=g.own;have c:(gK L k).length<=L.length:=oo _ _
   have r:τ.R.length<=L.length:=by rw[t];exact di (Oe _) c
   refine⟨g.blk,⟨τ.R.length,M,r,?_,C⟩,g.lo,by rw[t,jZ];exact c,r⟩;have:=tQ K fJ (τ.R.map gi) (λl c=>by obtain⟨x,i,rfl⟩:=C.keys l c;exact List.mem_map_of_mem i);simpa using this
theorem lu.other(h:lu w b o m S G)(g:w.heap.size<=A.heap.size)(s:∀cs T,w.heap[b]?=some (.cells cs T)->∃cs':Array Value,A.heap[b]?=some (.cells cs' T)/\cs'[o]?=cs[o]?)(B:∀j,S j->j≠b->A.heap[j]?=w.heap[j]?):lu A b o m S G:=by
 obtain⟨u,l,f,e,p⟩:=h;refine⟨u,l,⟨?_,?_⟩,e,λj c=>fO (p j c) g⟩
 .obtain⟨cs,T,i,r⟩:=f.blk;obtain⟨cs',t,y⟩:=s cs T i;exact⟨cs',T,t,y.trans r⟩
 .rcases f.map with h1|⟨d,n,D,rfl,hm⟩
  .exact .inl h1
  .exact .inr ⟨d,n,D,rfl,hm.kept λj c a=>B j (e j c) a⟩
theorem lu.lt(h:lu w b o m S G)(a:S k):k<w.heap.size:=by
 obtain⟨_,_,_,_,c⟩:=h;exact c k a
theorem aP.other(h:aP w b o u m L)(a:∀cs T,w.heap[b]?=some (.cells cs T)->∃cs':Array Value,A.heap[b]?=some (.cells cs' T)/\cs'[o]?=cs[o]? /\cs'[o+1]?=cs[o+1]?)(f:∀d,u=some d->A.heap[d]?=w.heap[d]?):aP A b o u m L:=by
 refine⟨?_,?_⟩
 .obtain⟨cs,T,p,g,e⟩:=h.blk;obtain⟨cs',j,l,r⟩:=a cs T p;exact⟨cs',T,j,l.trans g,r.trans e⟩
 rcases h.map with hm|⟨d,n,D,h1,hn,hown,hc⟩
 .exact .inl hm
 .right
  obtain⟨s,c,a,i⟩:=hown;exact⟨d,n,D,h1,hn,⟨s,c,(f d h1).trans a,i⟩,hc⟩
def eP(bj d:Nat)(z v:Value)(k:Nat):Prop:=k=bj∨k=d∨z.ownBlock=some k∨v.ownBlock=some k
def aT(bj d:Nat)(z v:Value)(u:Option Nat)(Sg:Nat->Prop)(k:Nat):Prop:=eP bj d z v k∨u=some k∨Sg k
theorem ai.foot_lt(h:ai w base b d z v x)(a:eP b d z v k):k<w.heap.size:=by
 rcases a with rfl|rfl|a|a
 .exact h.lt
 .exact h.ltm
 .exact(h.r0.lt k a).2
 .exact(h.r1.lt k a).2
theorem ai.still(h:ai w base b d z v x)(a:∀k,eP b d z v k->A.heap[k]?=w.heap[k]?):ai A base b d z v x:=
 ⟨(a b (.inl rfl)).trans h.blk,(a d (.inr (.inl rfl))).trans h.mks,ag h.r0 (λg e=>a g (.inr (.inr (.inl e)))),ag h.r1 (λg e=>a g (.inr (.inr (.inr e)))),h.apart⟩
def Head(cs:Array Value)(bj:Nat)(x:J)(f0 f1:Int):Prop:=
 cs[0]?=some (.int .i64 x.lo)/\cs[1]?=some (.int .i64 x.hi)/\cs[2]?=some (.int .i64 x.mode)/\cs[3]?=some (.pointer (some ⟨bj,0,none⟩))/\cs[4]?=some (.int .i64 f0)/\cs[5]?=some (.int .i64 f1)
theorem Head.same{cs cs':Array Value}{bj:Nat}{f0 f1:Int}(h:Head cs bj x f0 f1)(a:∀i,i<6->cs'[i]?=cs[i]?):Head cs' bj x f0 f1:=
 ⟨(a 0 (by omega)).trans h.1,(a 1 (by omega)).trans h.2.1,(a 2 (by omega)).trans h.2.2.1,(a 3 (by omega)).trans h.2.2.2.1,(a 4 (by omega)).trans h.2.2.2.2.1,(a 5 (by omega)).trans h.2.2.2.2.2⟩
structure az(w:World)(q bj d:Nat)(z v:Value)(f0 f1:Int)(u:Option Nat)(Sg:Nat->Prop)(x:J)(Lb Lg:List O):Prop where
 head:∃cs T,w.heap[q]?=some (.cells cs T)/\Head cs bj x f0 f1
 join:ai w 0 bj d z v x
 bag:aP w q 6 u Lb.length Lb
 grp:lu w q 8 Lg.length Sg (bK Lg)
 jb:∀k,eP bj d z v k->k≠q/\u≠some k/\¬Sg k
 bg:∀k,u=some k->¬Sg k
 r0:0<=f0/\f0<=9223372036854775807
 r1:0<=f1/\f1<=9223372036854775807
section
variable{w A:World}{q bj d:Nat}{z v:Value}{f0 f1:Int}{u:Option Nat}{Sg:Nat->Prop}{x:J}{Lb Lg:List O}
theorem az.lt(h:az w q bj d z v f0 f1 u Sg x Lb Lg)(a:aT bj d z v u Sg k):k<w.heap.size:=by
 rcases a with a|a|a
 .exact h.join.foot_lt a
 .exact(h.bag.ne a).2
 .exact h.grp.lt a
theorem az.blt(h:az w q bj d z v f0 f1 u Sg x Lb Lg):q<w.heap.size:=h.bag.lt
theorem az.inS(h:az w q bj d z v f0 f1 u Sg x Lb Lg):Sg q:=h.grp.in.1
theorem az.still(h:az w q bj d z v f0 f1 u Sg x Lb Lg)(i:w.heap.size<=A.heap.size)(a:∀k,aT bj d z v u Sg k->A.heap[k]?=w.heap[k]?):az A q bj d z v f0 f1 u Sg x Lb Lg:=by
 have c:A.heap[q]?=w.heap[q]? :=a q (.inr (.inr h.inS));obtain⟨cs,T,g,f⟩:=h.head;exact⟨⟨cs,T,c.trans g,f⟩,h.join.still (λk e=>a k (.inl e)),h.bag.kept c (λk e=>a k (.inr (.inl e))),h.grp.kept i (λk e=>a k (.inr (.inr e))),h.jb,h.bg,h.r0,h.r1⟩
theorem az.below(h:az w q bj d z v f0 f1 u Sg x Lb Lg)(a:Below w.heap.size w A):az A q bj d z v f0 f1 u Sg x Lb Lg:=h.still a.size (λ_ e=>a.block _ (h.lt e))
theorem az.bagged(h:az w q bj d z v f0 f1 u Sg x Lb Lg){g:Option Nat}{DC:List O}(y:aP A q 6 g m' DC)(a:gX q 6 u w A)(r:Moves w u g):az A q bj d z v f0 f1 g Sg x DC Lg:=by
 obtain⟨cs,T,s,t⟩:=h.head;refine⟨?_,h.join.still (λk e=>a.block k (h.join.foot_lt e) (h.jb k e).1 (h.jb k e).2.1),y.tight,h.grp.other a.size (λcs T B=>?_) (λj c p=>a.block j (h.grp.lt c) p (λe=>h.bg j e c)),λk e=>⟨(h.jb k e).1,?_,(h.jb k e).2.2⟩,λk e=>?_,h.r0,h.r1⟩
 .obtain⟨cs',l,_,f⟩:=a.this cs T s;exact⟨cs',T,l,t.same (λi hi=>f i (by omega) (by omega))⟩
 .obtain⟨cs',l,_,f⟩:=a.this cs T B;exact⟨cs',l,f 8 (by omega) (by omega)⟩
 .rcases r with rfl|⟨j,rfl,c⟩
  .exact(h.jb k e).2.1
  .intro n;cases n;have:=h.join.foot_lt e;omega
 .rcases r with rfl|⟨j,rfl,c⟩
  .exact h.bg k e
  .cases e;intro n;have:=h.grp.lt n;omega
theorem az.grouped(h:az w q bj d z v f0 f1 u Sg x Lb Lg){j:List O}(p:lu A q 8 m' (More Sg w A) (bK j))(f:kF Sg q 8 w A):az A q bj d z v f0 f1 u (More Sg w A) x Lb j:=by
 obtain⟨cs,T,l,n⟩:=h.head;refine⟨?_,h.join.still (λk e=>f.block k (h.join.foot_lt e) (h.jb k e).2.2),h.bag.other (λcs T r=>?_) (λk e=>f.block k (h.bag.ne e).2 (h.bg k e)),p.tight,λk e=>⟨(h.jb k e).1,(h.jb k e).2.1,?_⟩,λk e=>?_,h.r0,h.r1⟩
 .obtain⟨cs',g,_,c⟩:=f.this cs T l;exact⟨cs',T,g,n.same (λi hi=>c i (by omega))⟩
 .obtain⟨cs',g,_,c⟩:=f.this cs T r;exact⟨cs',g,c 6 (by omega),c 7 (by omega)⟩
 .rintro(a|a)
  .exact(h.jb k e).2.2 a
  .have:=h.join.foot_lt e;omega
 .rintro(a|a)
  .exact h.bg k e a
  .have:=(h.bag.ne e).2;omega
theorem az.joined(h:az w q bj d z v f0 f1 u Sg x Lb Lg){l a:Value}{f:J}(t:ai A 0 bj d l a f)(j:f.lo=x.lo/\f.hi=x.hi/\f.mode=x.mode)(g:Turned (eP bj d z v) w A)(s:∀k,eP bj d l a k->eP bj d z v k∨w.heap.size<=k):az A q bj d l a f0 f1 u Sg f Lb Lg:=by
 have p:A.heap[q]?=w.heap[q]? :=g.block q h.blt (λe=>(h.jb q e).1 rfl);obtain⟨cs,T,r,n⟩:=h.head;refine⟨⟨cs,T,p.trans r,?_⟩,t,h.bag.kept p (λk e=>g.block k (h.bag.ne e).2 (λc=>(h.jb k c).2.1 e)),h.grp.kept g.size (λk e=>g.block k (h.grp.lt e) (λc=>(h.jb k c).2.2 e)),λk e=>?_,h.bg,h.r0,h.r1⟩
 .unfold Head at n⊢;rw[j.1,j.2.1,j.2.2];exact n
 .rcases s k e with c|c
  .exact h.jb k c
  .have a1:=h.blt;exact⟨by omega,λi=>by have:=(h.bag.ne i).2;omega,λi=>by have:=h.grp.lt i;omega⟩
theorem az.setf(h:az w q bj d z v f0 f1 u Sg x Lb Lg)(i:Nat)(n l g:Int)(hi:i=4/\l=n/\g=f1∨i=5/\l=f0/\g=n)(y:0<=n/\n<=9223372036854775807):az (w.setCell ⟨q,i,none⟩ (.int .i64 n)) q bj d z v l g u Sg x Lb Lg:=by
 have c:∀k,k≠q->(w.setCell ⟨q,i,none⟩ (.int .i64 n)).heap[k]?=w.heap[k]? :=λk e=>zw _ _ _ _ e
 have f:∀cs T,w.heap[q]?=some (.cells cs T)->(w.setCell ⟨q,i,none⟩ (.int .i64 n)).heap[q]?=some (.cells (cs.setIfInBounds i (.int .i64 n)) T):=λcs T e=>yc e _
 have a:∀(cs:Array Value) j,j≠i->(cs.setIfInBounds i (.int .i64 n))[j]?=cs[j]? :=λcs j e=>by rw[Array.getElem?_setIfInBounds];simp[Ne.symm e]
 obtain⟨cs,T,F,H⟩:=h.head
 have hi6:i<6:=by omega
 refine⟨⟨_,T,f cs T F,?_⟩,h.join.still (λk e=>c k (h.jb k e).1),h.bag.other (λcs T e=>⟨_,f cs T e,a cs 6 (by omega),a cs 7 (by omega)⟩) (λk e=>c k (h.bag.ne e).1),h.grp.other (by simp) (λcs T e=>⟨_,f cs T e,a cs 8 (by omega)⟩) (λj _ p=>c j p),h.jb,h.bg,?_,?_⟩
 .obtain⟨s,B,t,E,C,r⟩:=H
  rcases hi with⟨rfl,rfl,rfl⟩|⟨rfl,rfl,rfl⟩
  .refine⟨(a cs 0 (by omega)).trans s,(a cs 1 (by omega)).trans B,(a cs 2 (by omega)).trans t,(a cs 3 (by omega)).trans E,?_,(a cs 5 (by omega)).trans r⟩;have:4<cs.size:=(aD.1 C).1;simp[this]
  .refine⟨(a cs 0 (by omega)).trans s,(a cs 1 (by omega)).trans B,(a cs 2 (by omega)).trans t,(a cs 3 (by omega)).trans E,(a cs 4 (by omega)).trans C,?_⟩;have:5<cs.size:=(aD.1 r).1;simp[this]
 .rcases hi with⟨_,rfl,_⟩|⟨_,rfl,_⟩
  .exact y
  .exact h.r0
 .rcases hi with⟨_,_,rfl⟩|⟨_,_,rfl⟩
  .exact h.r1
  .exact y
theorem az.cells(h:az w q bj d z v f0 f1 u Sg x Lb Lg):
  w.cell? ⟨q,0,none⟩=some (.int .i64 x.lo)/\w.cell? ⟨q,1,none⟩=some (.int .i64 x.hi)/\w.cell? ⟨q,2,none⟩=some (.int .i64 x.mode)/\w.cell? ⟨q,3,none⟩=some (.pointer (some ⟨bj,0,none⟩))/\w.cell? ⟨q,4,none⟩=some (.int .i64 f0)/\w.cell? ⟨q,5,none⟩=some (.int .i64 f1)/\w.frozen? ⟨q,4,none⟩=false/\w.frozen? ⟨q,5,none⟩=false:=by
 obtain⟨cs,T,a,a0,a1,a2,a3,a4,a5⟩:=h.head;refine⟨?_,?_,?_,?_,?_,?_,x9 a 4,x9 a 5⟩
 all_goals (rw[vE a];assumption)
end
end
section
open Go.Proofs.Tryz Go.Joins Go.RowKit Go.Sort
abbrev wy(o:O)(g:Bool):Obj:= .cells #[.int .i64 o.k,.int .i64 o.lk,.int .i64 o.lt,.int .i64 o.lv,.int .i64 o.rk,.int .i64 o.rt,.int .i64 o.rv,.bool o.hl,.bool o.hr,.bool g] 95
theorem mO{W:World}{b:Nat}{o:O}{g:Bool}(h:W.heap[b]?=some (wy o g)):W.cell? ⟨b,0,none⟩=some (.int .i64 o.k)/\W.cell? ⟨b,1,none⟩=some (.int .i64 o.lk)/\W.cell? ⟨b,2,none⟩=some (.int .i64 o.lt)/\W.cell? ⟨b,3,none⟩=some (.int .i64 o.lv)/\W.cell? ⟨b,4,none⟩=some (.int .i64 o.rk)/\W.cell? ⟨b,5,none⟩=some (.int .i64 o.rt)/\W.cell? ⟨b,6,none⟩=some (.int .i64 o.rv)/\W.cell? ⟨b,7,none⟩=some (.bool o.hl)/\W.cell? ⟨b,8,none⟩=some (.bool o.hr)/\W.cell? ⟨b,9,none⟩=some (.bool g):=by
 refine⟨?_,?_,?_,?_,?_,?_,?_,?_,?_,?_⟩ <;>(rw[vE h];rfl)
theorem x8(be bj v:Nat)(u s:Value)(f0 f1:Int)(c:Option Nat)(d:Nat->Prop)(x:J)(L m:List O)(o:O)(g:Bool)(w:World)(h:az w be bj v u s f0 f1 c d x L L)
  (R:∀W,az W be bj v u s f0 f1 c d x L L->Calls prog 107 #[.pointer (some ⟨be,6,none⟩),vC o g] W λe b=>(∃r,e=.returned r)/\∃a C,aP b be 6 a C m/\gX be 6 c W b/\Moves W c a)
  (T:∀W a,az W be bj v u s f0 f1 a d x m L->Calls prog 108 #[.pointer (some ⟨be,8,none⟩),vC o g] W λe b=>(∃r,e=.returned r)/\∃C,lu b be 8 C (More d W b) (bK m)/\kF d be 8 W b):
  Calls prog 47 #[.pointer (some ⟨be,0,none⟩),vC o g] w λe b=>e=.returned (.tuple #[])/\∃a z,az b be bj v u s f0 f1 a z x m m/\(∀k,a=some k->c=some k∨w.heap.size<=k)/\(∀k,z k->d k∨w.heap.size<=k)/\Turned (λk=>k=be∨c=some k∨d k) w b:=by
 have Q:Hid (∀W,Below w.heap.size w W->W.heap[w.heap.size]?=some (wy o g)->Calls prog 107 #[.pointer (some ⟨be,6,none⟩),vC o g] W λe b=>(∃r,e=.returned r)/\b.heap[w.heap.size]?=some (wy o g)/\Hid (∃a,az b be bj v u s f0 f1 a d x m L/\(∀k,a=some k->c=some k∨w.heap.size<=k)/\Turned (λk=>k=be∨c=some k) w b)):=by
  intro W p f;have B:=h.below p;have G:=h.blt;refine(R W B).mono ?_;rintro e b ⟨H,a,C,y,i,A⟩;refine⟨H,(i.block _ (aD.1 f).1 (by omega) (λe=>by have:=(h.bag.ne e).2;omega)).trans f,a,B.bagged y i A,λk e=>?_,(Turned.of_below (S:=λk=>k=be∨c=some k) p).trans (S':=λk=>k=be∨c=some k) ⟨i.os,i.tape,i.output,i.size,λk K E=>i.block k K (λe=>E (.inl e)) (λe=>E (.inr e))⟩ (λ_ _ e=>e)⟩
  rcases A with rfl|⟨j,rfl,hj⟩
  .exact .inl e
  .cases e;exact .inr (di p.size hj)
 have N:Hid (∀l W,Hid (∃a,az l be bj v u s f0 f1 a d x m L/\(∀k,a=some k->c=some k∨w.heap.size<=k)/\Turned (λk=>k=be∨c=some k) w l)->l.heap[w.heap.size]?=some (wy o g)->Below l.heap.size l W->Calls prog 108 #[.pointer (some ⟨be,8,none⟩),vC o g] W λe b=>(∃r,e=.returned r)/\b.heap[w.heap.size]?=some (wy o g)/\Hid (∃a z,az b be bj v u s f0 f1 a z x m m/\(∀k,a=some k->c=some k∨w.heap.size<=k)/\(∀k,z k->d k∨w.heap.size<=k)/\Turned (λk=>k=be∨c=some k∨d k) w b)):=by
  rintro l W ⟨a,y,i,A⟩ f p;have M:=(p.block _ (aD.1 f).1).trans f;have B:=y.below p;refine(T W a B).mono ?_;rintro e b ⟨H,C,U,q⟩;refine⟨H,(q.block _ (aD.1 M).1 (λe=>by have:=h.grp.lt e;omega)).trans M,a,_,B.grouped U q,i,λk e=>?_,?_⟩
  .rcases e with e|e
   .exact .inl e
   .exact .inr (di A.size (di p.size e.1))
  .refine((A.mono (S':=λk=>k=be∨c=some k∨d k) (λk e=>e.elim .inl (λe=>.inr (.inl e)))).trans (Turned.of_below (S:=λ_=>False) p) (λ_ _ e=>e.elim)).trans (S':=d) ⟨q.os,q.tape,q.output,q.size,λk K E=>q.block k K E⟩ (λk _ e=>.inr (.inr e))
 have G:=h.blt;clear h R T;simp only[vC]at Q N⊢;go_enter func47,ntmps47;go_wp2;have P:Hid (Below w.heap.size w (w.alloc (wy o g)).drew/\(w.alloc (wy o g)).drew.heap[w.heap.size]?=some (wy o g)):=⟨(wh _ _).drew,vw w (wy o g)⟩;have n:=mO (vw w (wy o g))
 go_region_held3 (λW=>W.cell? ⟨w.heap.size,0,none⟩=some (.int .i64 o.k)/\W.cell? ⟨w.heap.size,1,none⟩=some (.int .i64 o.lk)/\W.cell? ⟨w.heap.size,2,none⟩=some (.int .i64 o.lt)/\W.cell? ⟨w.heap.size,3,none⟩=some (.int .i64 o.lv)/\W.cell? ⟨w.heap.size,4,none⟩=some (.int .i64 o.rk)/\W.cell? ⟨w.heap.size,5,none⟩=some (.int .i64 o.rt)/\W.cell? ⟨w.heap.size,6,none⟩=some (.int .i64 o.rv)/\W.cell? ⟨w.heap.size,7,none⟩=some (.bool o.hl)/\W.cell? ⟨w.heap.size,8,none⟩=some (.bool o.hr)/\W.cell? ⟨w.heap.size,9,none⟩=some (.bool g)) (first|exact n|exact mO t|fail) (first
  |(go_at_call 107;refine(Q.out _ P.out.1 P.out.2).mono ?_;rintro e l ⟨⟨r1,rfl⟩,t,y⟩)
  |fail)
 clear n;have n:=mO t;go_wp2;have V:Hid (Below l.heap.size l l.drew):=(zI _ _).drew
 go_region_held3 (λW=>W.cell? ⟨w.heap.size,0,none⟩=some (.int .i64 o.k)/\W.cell? ⟨w.heap.size,1,none⟩=some (.int .i64 o.lk)/\W.cell? ⟨w.heap.size,2,none⟩=some (.int .i64 o.lt)/\W.cell? ⟨w.heap.size,3,none⟩=some (.int .i64 o.lv)/\W.cell? ⟨w.heap.size,4,none⟩=some (.int .i64 o.rk)/\W.cell? ⟨w.heap.size,5,none⟩=some (.int .i64 o.rt)/\W.cell? ⟨w.heap.size,6,none⟩=some (.int .i64 o.rv)/\W.cell? ⟨w.heap.size,7,none⟩=some (.bool o.hl)/\W.cell? ⟨w.heap.size,8,none⟩=some (.bool o.hr)/\W.cell? ⟨w.heap.size,9,none⟩=some (.bool g)) (first|exact n|exact I|fail) (first
  |(go_at_call 108;refine(N.out l _ y t V.out).mono ?_;rintro e w2 ⟨⟨r2,rfl⟩,F,i⟩;have I:=mO F)
  |fail)
 go_wp2
 go_end0
 exact⟨rfl,i.out⟩
end
section
open Go.Proofs.Tryz Go.Joins Go.RowKit Go.Sort
variable{w:World}{b a:Nat}{lo hi mode:Int}
theorem ai.base0{base:Nat}{d c:Value}{x:J}(h:ai w base b a d c x):ai w 0 b a d c x:=⟨h.blk,h.mks,h.r0.mono (gy _),h.r1.mono (gy _),h.apart⟩
theorem Sl{bj:Nat}{cs:Array Value}{T:TypeId}(c:ai w 0 bj a (.slice none 0 0) (.slice none 0 0) ⟨lo,hi,mode,-1099511627777,-1099511627777,0,[],[]⟩)
  (f:cs=#[.int .i64 lo,.int .i64 hi,.int .i64 mode,.pointer (some ⟨bj,0,none⟩),.int .i64 0,.int .i64 0,.map none,.int .i64 0,.map none]):
  az (w.alloc (.cells cs T)) w.heap.size bj a (.slice none 0 0) (.slice none 0 0) 0 0 none (λk=>k=w.heap.size) ⟨lo,hi,mode,-1099511627777,-1099511627777,0,[],[]⟩ [] []:=by
 have d:=World.alloc_heap_new w (.cells cs T);subst f;refine⟨⟨_,T,d,rfl,rfl,rfl,rfl,rfl,rfl⟩,c.below (wh _ _),⟨⟨_,T,d,rfl,rfl⟩,.inl ⟨rfl,rfl⟩⟩,⟨none,λ_=>(0,0),⟨⟨_,T,d,rfl⟩,.inl ⟨rfl,Co⟩⟩,λj c=>?_,(λj c=>by simp;omega)⟩,λk e=>?_,(λk e=>by cases e),(by omega),(by omega)⟩
 .rcases c with h|h|⟨k,τ,h,_⟩
  .exact h
  .cases h
  .rw[Co]at h;cases h
 .have:=c.foot_lt e;exact⟨by omega,by simp,by omega⟩
abbrev uY(lo hi mode:Int):Obj:= .cells #[.int .i64 lo,.int .i64 hi,.int .i64 mode] 45
theorem D7{W:World}(h:W.heap[b]?=some (uY lo hi mode)):W.cell? ⟨b,0,none⟩=some (.int .i64 lo)/\W.cell? ⟨b,1,none⟩=some (.int .i64 hi)/\W.cell? ⟨b,2,none⟩=some (.int .i64 mode):=by
 refine⟨?_,?_,?_⟩ <;>(rw[vE h];rfl)
theorem JM(lo hi mode:Int)(w:World)(h:dn lo hi mode):Calls prog 13 #[.agg #[.int .i64 lo,.int .i64 hi,.int .i64 mode]] w λe c=>∃be bj a,e=.returned (.tuple #[.pointer (some ⟨be,0,none⟩),.nilIface])/\az c be bj a (.slice none 0 0) (.slice none 0 0) 0 0 none (λk=>k=be) ⟨lo,hi,mode,-1099511627777,-1099511627777,0,[],[]⟩ [] []/\w.heap.size<=be/\w.heap.size<=bj/\w.heap.size<=a/\Below w.heap.size w c:=by
 have s:Hid (∀W,Below w.heap.size w W->W.heap[w.heap.size]?=some (uY lo hi mode)->Calls prog 48 #[.agg #[.int .i64 lo,.int .i64 hi,.int .i64 mode]] W λe c=>∃b,e=.returned (.tuple #[.pointer (some ⟨b,0,none⟩),.nilIface])/\c.heap[w.heap.size]?=some (uY lo hi mode)/\Hid (∃a,w.heap.size<=b/\w.heap.size<=a/\Below w.heap.size w c/\ai c 0 b a (.slice none 0 0) (.slice none 0 0) ⟨lo,hi,mode,-1099511627777,-1099511627777,0,[],[]⟩)):=by
  intro W m d;have o:=m.size;refine(Sm lo hi mode W h).mono ?_;rintro e c ⟨b,a,rfl,j,h2,n,u⟩;exact⟨b,rfl,(n.block _ (aD.1 d).1).trans d,a,by omega,by omega,m.trans (n.mono o),u.base0⟩
 clear h;go_enter func13,ntmps13;have l:Hid (Below w.heap.size w (w.alloc (uY lo hi mode))/\(w.alloc (uY lo hi mode)).heap[w.heap.size]?=some (uY lo hi mode)):=⟨wh _ _,vw w (uY lo hi mode)⟩
 go_wp2_with (first
  |(go_at_call 48;refine(s.out _ l.out.1 l.out.2).mono ?_;rintro e i ⟨bj,rfl,g,j⟩;have hc1:=D7 g)
  |fail)
 obtain⟨a,p,r,f,q⟩:=j.out;have t:=Sl (T:=108) q rfl;refine CU (v:= .tuple #[.pointer (some ⟨i.heap.size,0,none⟩),.nilIface]) (by simp[results,Tryz.results13,go_sem]) rfl ⟨i.heap.size,bj,a,rfl,t,f.size,p,r,f.alloc f.size _⟩
theorem tJ(k:ql)(be bj a:Nat)(j g:Value)(f0 f1:Int)(d:Option Nat)(i:Nat->Prop)(x:J)(L m:List O)(w:World)(h:az w be bj a j g f0 f1 d i x L m)(l:L.length<=1000000):
  Calls prog 27 #[.pointer (some ⟨be,0,none⟩)] w λe c=>∃v Z,e=.returned v/\Z.Perm L/\bJ Z/\c.ownsRow w.heap.size 89 9 v Z.length (Z.flatMap ah)/\Below w.heap.size w c:=by
 have H:Hid (Calls prog 68 #[.pointer (some ⟨be,6,none⟩)] w λe c=>∃v Z,e=.returned v/\Z.Perm L/\bJ Z/\c.ownsRow w.heap.size 89 9 v Z.length (Z.flatMap ah)/\Below w.heap.size w c):=RG k be 6 L.length d L w h.bag (by omega) l;have hlt:=h.blt;clear h;go_enter func27,ntmps27
 go_wp2_with (first
  |(go_at_call 68;refine H.out.mono ?_;rintro e w1 ⟨v,Z,rfl,f⟩)
  |fail)
 go_ret;exact⟨v,Z,rfl,f⟩
theorem uZ(be bj a:Nat)(j i:Value)(f0 f1:Int)(m:Option Nat)(f:Nat->Prop)(x:J)(L c:List O)(w:World)(h:az w be bj a j i f0 f1 m f x L c)(l:c.length<=1000000):
  Calls prog 30 #[.pointer (some ⟨be,0,none⟩)] w λe d=>∃(v:Value) (ks:List Int),e=.returned v/\ks.Pairwise (λx y=>x<y)/\(∀k,k∈ks↔(bK c k).isSome=true)/\ks.length<=c.length/\d.ownsRow w.heap.size 140 6 v ks.length (ks.flatMap (gE (bK c)))/\Below w.heap.size w d:=by
 have H:Hid (Calls prog 72 #[.pointer (some ⟨be,8,none⟩)] w λe d=>∃(v:Value) (ks:List Int),e=.returned v/\ks.Pairwise (λx y=>x<y)/\(∀k,k∈ks↔(bK c k).isSome=true)/\ks.length<=c.length/\d.ownsRow w.heap.size 140 6 v ks.length (ks.flatMap (gE (bK c)))/\Below w.heap.size w d):=Og be 8 c.length f (bK c) w h.grp l;have hlt:=h.blt;clear h;go_enter func30,ntmps30
 go_wp2_with (first
  |(go_at_call 72;refine H.out.mono ?_;rintro e w1 ⟨v,Z,rfl,g⟩)
  |fail)
 go_ret;exact⟨v,Z,rfl,g⟩
end
end Go.Proofs.YthfpipieboophaaGreatDoor
