import Derived.Test.YthfpipieboophaaGreatDoorRlx
import Derived.Test.YthfpipieboophaaGreatDoorEpw
namespace Go.Proofs.YthfpipieboophaaGreatDoor
set_option maxRecDepth 100000
set_option maxHeartbeats 40000000
open Go.RowKit Go.Sort Go.Shelf
section
variable{n f0 f1:Int}{hd t:List UInt8}{ns:List Int}{o:O}{x:J}{Z:List O}{d f:List Hl}
theorem ad8(h:af n):numOf (Lib.itoa n)=some n:=by
 unfold numOf;rw[Lib.parseIntB_64,LA n h.1 h.2];simp
def abq(w:List UInt8):Prop:=w≠[]/\∀b∈w,Lib.isSp b=false/\b.toNat<128
theorem adL(n:Int):abq (Lib.itoa n):=by
 refine⟨λe=>by have:=QF n;rw[e]at this;simp at this,λb a=>?_⟩;have h:=Iq n b a;refine⟨?_,by omega⟩;unfold Lib.isSp
 have e:∀c:UInt8,c.toNat<45->(b==c)=false:=λc hc=>by
  have:b≠c:=λe=>by rw[e]at h;omega
  simpa using this
 rw[e 9 (by decide),e 10 (by decide),e 11 (by decide),e 12 (by decide),e 13 (by decide),e 32 (by decide)];rfl
theorem adl:∀(w cur rest:List UInt8),(∀b∈w,Lib.isSp b=false)->Lib.fieldsGo cur (w++rest)=Lib.fieldsGo (cur++w) rest
 |[],cur,rest,_=>by simp
 |b::w,cur,rest,h=>by
  have a:=h b (by simp);rw[List.cons_append,Lib.fieldsGo,if_neg (by rw[a];decide),adl w (cur++[b]) rest (λc e=>h c (by simp[e]))];simp
theorem acT(h:abq hd)(c:UInt8)(e:Lib.isSp c=true)(r:List UInt8):Lib.fieldsGo [] (hd++c::r)=hd::Lib.fieldsGo [] r:=by
 rw[adl hd [] _ (λb a=>(h.2 b a).1),List.nil_append,Lib.fieldsGo,if_pos e,if_neg];have:=h.1
 cases hd with
 |nil=>exact absurd rfl this
 |cons=>simp
theorem abw:∀(ws:List (List UInt8)) (hd:List UInt8),abq hd->(∀w∈ws,abq w)->Lib.fieldsGo [] (dW hd ws++[10])=hd::ws
 |[],hd,h,_=>by
  unfold dW;rw[List.flatMap_nil,List.append_nil,acT h 10 (by decide)];rfl
 |w::ws,hd,h,hw=>by
  have e:dW hd (w::ws)++[10]=hd++32::(dW w ws++[10]):=by unfold dW;simp
  rw[e,acT h 32 (by decide),abw ws w (hw w (by simp)) (λu a=>hw u (by simp[a]))]
theorem abM{ws:List (List UInt8)}(h:abq hd)(j:∀w∈ws,abq w):∀b∈dW hd ws,b.toNat<128/\b≠10:=by
 have i:∀w,abq w->∀b∈w,b.toNat<128/\b≠10:=λw h b a=>⟨(h.2 b a).2,λe=>by have:=(h.2 b a).1;rw[e]at this;revert this;decide⟩
 intro b a;unfold dW at a
 rcases List.mem_append.1 a with e|e
 .exact i hd h b e
 .obtain⟨w,c,g⟩:=List.mem_flatMap.1 e
  rcases dM.1 g with e|e
  .rw[e];decide
  .exact i w (j w c) b e
theorem ace(hd:List UInt8)(ns:List Int):dB hd ns=dW hd (ns.map Lib.itoa)++[10]:=by
 unfold dB;rw[<-List.append_assoc,J6]
theorem ad9(ns:List Int):∀w∈ns.map Lib.itoa,abq w:=by
 intro w a;obtain⟨n,_,rfl⟩:=dH.1 a;exact adL n
theorem ada(h:abq hd)(ns:List Int):Lib.fieldsD (dB hd ns)=hd::ns.map Lib.itoa:=by
 rw[ace,Lib.fieldsD_ascii]
 .exact abw _ _ h (ad9 ns)
 .intro b a
  rcases List.mem_append.1 a with e|e
  .exact(abM h (ad9 ns) b e).1
  .have:b=10:=by simpa using e
   rw[this];decide
abbrev nlQ(ns:List Int)(j:Nat):Int:=ns[j]?.getD 0
theorem aew(h:∀n∈ns,af n):nwQ (ns.map Lib.itoa)=nlQ ns:=by
 funext j
 unfold nwQ vwQ nlQ;rw[List.map_map,List.getElem?_map]
 cases hj:ns[j]? with
 |none=>rfl
 |some n=>
  show(numOf (Lib.itoa n)).getD 0=n;rw[ad8 (h n (cZ hj))];rfl
theorem aaZ{o:Option RS}(a:abq hd)(h:∀n∈ns,af n)(r:List (List UInt8)):u6 o (dB hd ns::r)=(match vv o hd (nlQ ns)with|none=>none|some o'=>u6 o' r):=by
 rw[acv (ada a ns),aew h]
 cases vv o hd (nlQ ns) <;>rfl
theorem abN:∀(l:List (List UInt8×List Int)),(∀p∈l,abq p.1)->BB (l.flatMap λp=>dB p.1 p.2)=l.map (λp=>dB p.1 p.2)++[[]]
 |[],_=>rfl
 |p::l,h=>by
  rw[List.flatMap_cons,List.map_cons,List.cons_append,<-abN l (λq a=>h q (by simp[a])),ace,List.append_assoc,List.singleton_append];exact acz _ _ (λe=>(abM (h p (by simp)) (ad9 _) _ e).2 rfl)
abbrev aeS:List UInt8:=[101,110,100]
theorem Q8(w:List UInt8)(h:w=ab8∨w=adH∨w=abp∨w=aby∨w=acy∨w=aeS):abq w:=by
 rcases h with rfl|rfl|rfl|rfl|rfl|rfl <;>exact⟨by decide,by decide⟩
def lnL(x:J)(f0 f1:Int)(Z:List O):List (List UInt8×List Int):=
 (ab8,[x.lo,x.hi,x.mode])::(adH,[f0,f1,x.late])::(abp,[x.m0,x.m1])::((x.R0.map λy=>(aby,[0,y.k,y.t,y.v,y.n]))++((x.R1.map λy=>(aby,[1,y.k,y.t,y.v,y.n]))++((Z.map λo=>(acy,Tg o::dV o))++[(aeS,[])])))
theorem aea(o:O)(h:o.hl=true∨o.hr=true):dB (fu o).data.toList (dV o)=dB acy (Tg o::dV o):=by
 rw[<-TA o h,fT];unfold kX;simp
theorem adN(x:J)(f0 f1:Int)(Z:List O)(a:∀o∈Z,o.hl=true∨o.hr=true):bN x f0 f1 Z=(lnL x f0 f1 Z).flatMap λp=>dB p.1 p.2:=by
 have e:iy Z=Z.flatMap λo=>dB acy (Tg o::dV o):=by
  unfold iy;clear f0 f1 x
  induction Z with
  |nil=>rfl
  |cons o Z ih=>
   rw[List.flatMap_cons,List.flatMap_cons,ih (λp b=>a p (by simp[b])),aea o (a o (by simp))]
 unfold bN EM lnL iw;rw[e];simp only[List.flatMap_cons,List.flatMap_append,List.flatMap_nil,List.flatMap_map,List.append_nil,List.append_assoc]
theorem adO(x:J)(f0 f1:Int)(Z:List O):∀p∈lnL x f0 f1 Z,abq p.1:=by
 intro p a;refine Q8 _ ?_;unfold lnL at a;simp only[List.mem_cons,List.mem_append,List.mem_map,List.mem_nil_iff,or_false]at a
 rcases a with rfl|rfl|rfl|⟨y,hy,rfl⟩|⟨y,hy,rfl⟩|⟨o,ho,rfl⟩|rfl
 .exact .inl rfl
 .exact .inr (.inl rfl)
 .exact .inr (.inr (.inl rfl))
 .exact .inr (.inr (.inr (.inl rfl)))
 .exact .inr (.inr (.inr (.inl rfl)))
 .exact .inr (.inr (.inr (.inr (.inl rfl))))
 .exact .inr (.inr (.inr (.inr (.inr rfl))))
def hls:List D->Int->List Hl
 |[],_=>[]
 |y::r,c=>⟨y.k,y.t,y.v,y.n,c+1⟩::hls r (c+1)
theorem acA:∀(R:List D) (c:Int),(hls R c).map fE=R
 |[],_=>rfl
 |y::r,c=>by rw[hls,List.map_cons,acA r];rfl
theorem abO:∀(R:List D) (c:Int),∀h∈hls R c,c<h.came
 |[],_,h,hh=>by cases hh
 |y::r,c,h,hh=>by
  rcases dM.1 hh with e|e
  .rw[e];show c<c+1;omega
  .have:=abO r (c+1) h e;omega
theorem acB:∀(R:List D) (c:Int),(hls R c).Pairwise (λa b=>a.came<b.came)
 |[],_=>List.Pairwise.nil
 |_::r,c=>List.pairwise_cons.2 ⟨λb e=>abO r (c+1) b e,acB r (c+1)⟩
theorem adm:∀(R:List D) (c:Int),∀h∈hls R c,∃y∈R,y.k=h.k/\y.t=h.t
 |[],_,h,hh=>by cases hh
 |y::r,c,h,hh=>by
  rcases dM.1 hh with e|e
  .exact⟨y,by simp,by rw[e],by rw[e]⟩
  .obtain⟨z,g,a,b⟩:=adm r (c+1) h e;exact⟨z,by simp[g],a,b⟩
theorem acC:∀(R:List D) (c:Int),ay R->nN (hls R c)
 |[],_,_=>List.Pairwise.nil
 |y::r,c,h=>by
  refine List.pairwise_cons.2 ⟨λb a=>?_,acC r (c+1) (jH h)⟩;obtain⟨z,e,h1,h2⟩:=adm r (c+1) b a;have h3:=fU h z e;have h4:=abO r (c+1) b a;rw[mW];show ¬(b.k<y.k∨b.k=y.k/\(b.t<y.t∨b.t=y.t/\b.came<c+1));omega
theorem abr(a: -9223372036854775808<=n)(b:n<=9223372036854775807):af n:=⟨a,b⟩
theorem row_in{s:Int}(hs:s=0∨s=1){y:D}(h:au y.k y.t y.v=true/\0<=y.n/\y.n<=9223372036854775807):∀n∈[s,y.k,y.t,y.v,y.n],af n:=by
 obtain⟨i,h1,h2⟩:=h;obtain⟨⟨c,e⟩,⟨b,g⟩,c1,a⟩:=dI (r:=⟨y.k,y.t,y.v⟩) i;simp only at c e b g c1 a;exact aB (abr (by omega) (by omega)) (aB (abr (by omega) (by omega)) (aB (abr (by omega) (by omega)) (aB (abr (by omega) (by omega)) (aB (abr (by omega) (by omega)) kS))))
theorem acU:∀(R:List D) (x:RJ) (M:List O) (f0 f1:Int) (r:List (List UInt8)),(∀y∈R,au y.k y.t y.v=true/\0<=y.n/\y.n<=9223372036854775807)->x.R0.length+R.length<=300->
  u6 (some ⟨x,M,f0,f1⟩) (R.map (λy=>dB aby [0,y.k,y.t,y.v,y.n])++r)=u6 (some ⟨{ x with R0:=x.R0++hls R x.came,came:=x.came+R.length},M,f0,f1⟩) r
 |[],x,M,f0,f1,r,_,_=>by simp[hls]
 |y::R,x,M,f0,f1,r,h,hl=>by
  have a:=h y (by simp);simp only[List.length_cons]at hl;rw[List.map_cons,List.cons_append,aaZ (Q8 _ (by simp)) (row_in (.inl rfl) a)]
  have e:vv (some ⟨x,M,f0,f1⟩) aby (nlQ [0,y.k,y.t,y.v,y.n])=some (some ⟨{ x with R0:=x.R0++[⟨y.k,y.t,y.v,y.n,x.came+1⟩],came:=x.came+1},M,f0,f1⟩):=by
   rw[Gl _ _ _ (by decide),if_neg (by decide),if_neg (by decide),if_pos rfl]
   have:ptS x 0 y.k y.t y.v y.n={ x with R0:=x.R0++[⟨y.k,y.t,y.v,y.n,x.came+1⟩],came:=x.came+1}:=by
    unfold ptS;rw[if_pos ⟨rfl,a.1,a.2.1⟩,if_pos rfl,if_pos (by omega)]
   exact congrArg (λq=>some (some (RS.mk q M f0 f1))) this
  rw[e];simp only;rw[acU R _ M f0 f1 r (λz b=>h z (by simp[b])) (by simp;omega)];simp only[hls,List.append_assoc,List.singleton_append,List.length_cons];rw[show x.came+1+(R.length:Int)=x.came+((R.length+1:Nat):Int) by omega]
theorem acV:∀(R:List D) (x:RJ) (M:List O) (f0 f1:Int) (r:List (List UInt8)),(∀y∈R,au y.k y.t y.v=true/\0<=y.n/\y.n<=9223372036854775807)->x.R1.length+R.length<=300->
  u6 (some ⟨x,M,f0,f1⟩) (R.map (λy=>dB aby [1,y.k,y.t,y.v,y.n])++r)=u6 (some ⟨{ x with R1:=x.R1++hls R x.came,came:=x.came+R.length},M,f0,f1⟩) r
 |[],x,M,f0,f1,r,_,_=>by simp[hls]
 |y::R,x,M,f0,f1,r,h,hl=>by
  have a:=h y (by simp);simp only[List.length_cons]at hl;rw[List.map_cons,List.cons_append,aaZ (Q8 _ (by simp)) (row_in (.inr rfl) a)]
  have e:vv (some ⟨x,M,f0,f1⟩) aby (nlQ [1,y.k,y.t,y.v,y.n])=some (some ⟨{ x with R1:=x.R1++[⟨y.k,y.t,y.v,y.n,x.came+1⟩],came:=x.came+1},M,f0,f1⟩):=by
   rw[Gl _ _ _ (by decide),if_neg (by decide),if_neg (by decide),if_pos rfl]
   have:ptS x 1 y.k y.t y.v y.n={ x with R1:=x.R1++[⟨y.k,y.t,y.v,y.n,x.came+1⟩],came:=x.came+1}:=by
    unfold ptS;rw[if_pos ⟨rfl,a.1,a.2.1⟩,if_neg (by decide),if_pos (by omega)]
   exact congrArg (λq=>some (some (RS.mk q M f0 f1))) this
  rw[e];simp only;rw[acV R _ M f0 f1 r (λz b=>h z (by simp[b])) (by simp;omega)];simp only[hls,List.append_assoc,List.singleton_append,List.length_cons];rw[show x.came+1+(R.length:Int)=x.came+((R.length+1:Nat):Int) by omega]
theorem aeT(h:iK o):∀n∈Tg o::dV o,af n:=aB (Ti o) (Mf o (y7 h).2).1
theorem aeU(h:iK o):zG (nlQ (Tg o::dV o))=some o:=by
 cases h with
 |left k t v hg=>
  show zG (nlQ [1,k,t,v])=_;unfold zG;rw[if_neg (show ¬nlQ [1,k,t,v] 0=3 from(by decide:¬(1:Int)=3))];show(if au k t v=true then _ else _)=_;rw[if_pos hg];rfl
 |right k t v hg=>
  show zG (nlQ [2,k,t,v])=_;unfold zG;rw[if_neg (show ¬nlQ [2,k,t,v] 0=3 from(by decide:¬(2:Int)=3))];show(if au k t v=true then _ else _)=_;rw[if_pos hg];rfl
 |pair k t v t2 v2 hg hg2=>
  show zG (nlQ [3,k,t,v,k,t2,v2])=_;unfold zG;rw[if_pos (show nlQ [3,k,t,v,k,t2,v2] 0=3 from rfl)];show(if k=k/\au k t2 v2=true/\au k t v=true then _ else _)=_;rw[if_pos ⟨rfl,hg2,hg⟩];rfl
theorem adn:∀(Z:List O) (x:RJ) (M:List O) (f0 f1:Int) (r:List (List UInt8)),(∀o∈Z,iK o)->
  u6 (some ⟨x,M,f0,f1⟩) (Z.map (λo=>dB acy (Tg o::dV o))++r)=u6 (some ⟨x,M++Z,f0,f1⟩) r
 |[],x,M,f0,f1,r,_=>by simp
 |o::Z,x,M,f0,f1,r,h=>by
  have a:=h o (by simp);rw[List.map_cons,List.cons_append,aaZ (Q8 _ (by simp)) (aeT a)]
  have e:vv (some ⟨x,M,f0,f1⟩) acy (nlQ (Tg o::dV o))=some (some ⟨x,M++[o],f0,f1⟩):=by
   rw[Gl _ _ _ (by decide),if_neg (by decide),if_neg (by decide),if_neg (by decide),if_pos rfl,aeU a]
  rw[e];simp only;rw[adn Z x (M++[o]) f0 f1 r (λp b=>h p (by simp[b]))];simp
theorem aeV{lo hi mode late b m1:Int}(h0: -1099511627777<=b/\b<=1099511627776)(h1: -1099511627777<=m1/\m1<=1099511627776):mv1 (mv0 ⟨lo,hi,mode,-1099511627777,-1099511627777,late,0,[],[]⟩ b) m1=⟨lo,hi,mode,b,m1,late,0,[],[]⟩:=by
 have a:mv0 ⟨lo,hi,mode,-1099511627777,-1099511627777,late,0,[],[]⟩ b=⟨lo,hi,mode,b,-1099511627777,late,0,[],[]⟩:=by
  unfold mv0
  by_cases e:b= -1099511627777
  .rw[if_neg (λh=>by have:=h.1;rw[e]at this;revert this;decide),e]
  .rw[if_pos ⟨by simp[iG];omega,by show ¬b < -1099511627777;omega⟩];rfl
 rw[a];unfold mv1
 by_cases e:m1= -1099511627777
 .rw[if_neg (λh=>by have:=h.1;rw[e]at this;revert this;decide),e]
 .rw[if_pos ⟨by simp[iG];omega,by show ¬m1 < -1099511627777;omega⟩];rfl
theorem aeb(h:DI x f0 f1)(a:∀o∈Z,iK o):
  u6 none (BB (bN x f0 f1 Z))=some (some ⟨⟨x.lo,x.hi,x.mode,x.m0,x.m1,x.late,x.R0.length+x.R1.length,hls x.R0 0,hls x.R1 x.R0.length⟩,Z,f0,f1⟩):=by
 have h64:=h.sv64;have a0:=h.f0;have a1:=h.f1;have a2:=h.late;have e:=h.m0;have b:=h.m1;obtain⟨⟨c1,c2⟩,⟨c3,c4⟩,_,c5,c6⟩:=h.pl;rw[adN x f0 f1 Z (λo l=>(y7 (a o l)).1),abN _ (adO x f0 f1 Z)];unfold lnL;simp only[List.map_cons,List.map_append,List.map_map,List.cons_append,List.append_assoc,List.map_nil];rw[aaZ (Q8 _ (by simp)) (aB (abr (by omega) (by omega)) (aB (abr (by omega) (by omega)) (aB (abr (by omega) (by omega)) kS)))]
 have s:vv none ab8 (nlQ [x.lo,x.hi,x.mode])=some (some ⟨yh x.lo x.hi x.mode,[],0,0⟩):=by
  unfold vv;rw[if_pos rfl];show(if aS x.lo x.hi x.mode=0 then _ else _)=_;rw[if_pos (DK h.pl)];rfl
 rw[s];simp only;rw[aaZ (Q8 _ (by simp)) (aB (abr (by omega) (by omega)) (aB (abr (by omega) (by omega)) (aB (abr (by omega) (by omega)) kS)))]
 have j:vv (some ⟨yh x.lo x.hi x.mode,[],0,0⟩) adH (nlQ [f0,f1,x.late])=some (some ⟨⟨x.lo,x.hi,x.mode,-1099511627777,-1099511627777,x.late,0,[],[]⟩,[],f0,f1⟩):=by
  rw[Gl _ _ _ (by decide),if_pos rfl];show some (some (RS.mk { yh x.lo x.hi x.mode with late:=max 0 x.late} [] (max 0 f0) (max 0 f1)))=_;rw[show max 0 x.late=x.late by omega,show max 0 f0=f0 by omega,show max 0 f1=f1 by omega];rfl
 rw[j];simp only;rw[aaZ (Q8 _ (by simp)) (aB (abr (by omega) (by omega)) (aB (abr (by omega) (by omega)) kS))]
 have u:vv (some ⟨⟨x.lo,x.hi,x.mode,-1099511627777,-1099511627777,x.late,0,[],[]⟩,[],f0,f1⟩) abp (nlQ [x.m0,x.m1])=some (some ⟨⟨x.lo,x.hi,x.mode,x.m0,x.m1,x.late,0,[],[]⟩,[],f0,f1⟩):=by
  rw[Gl _ _ _ (by decide),if_neg (by decide),if_pos rfl];exact congrArg (λq=>some (some (RS.mk q [] f0 f1))) (aeV e b)
 rw[u];simp only;have i:=acU x.R0 ⟨x.lo,x.hi,x.mode,x.m0,x.m1,x.late,0,[],[]⟩ [] f0 f1;have c:=acV x.R1 ⟨x.lo,x.hi,x.mode,x.m0,x.m1,x.late,0+x.R0.length,[]++hls x.R0 0,[]⟩ [] f0 f1;have p:=adn Z ⟨x.lo,x.hi,x.mode,x.m0,x.m1,x.late,0+x.R0.length+x.R1.length,[]++hls x.R0 0,[]++hls x.R1 (0+x.R0.length)⟩ [] f0 f1
 have g:∀r,u6 (some ⟨⟨x.lo,x.hi,x.mode,x.m0,x.m1,x.late,0,[],[]⟩,[],f0,f1⟩) (x.R0.map (λy=>dB aby [0,y.k,y.t,y.v,y.n])++r)=_:=λr=>i r h.g0 (by simp;exact h.l0)
 have m:∀r,u6 (some ⟨⟨x.lo,x.hi,x.mode,x.m0,x.m1,x.late,0+x.R0.length,[]++hls x.R0 0,[]⟩,[],f0,f1⟩) (x.R1.map (λy=>dB aby [1,y.k,y.t,y.v,y.n])++r)=_:=λr=>c r h.g1 (by simp;exact h.l1)
 refine(g _).trans ((m _).trans ((p _ a).trans ?_));rw[aaZ (Q8 _ (by simp)) kS]
 have w:∀rs,vv (some rs) aeS (nlQ [])=some (some rs):=λrs=>by
  rw[Gl _ _ _ (by decide),if_neg (by decide),if_neg (by decide),if_neg (by decide),if_neg (by decide)]
 rw[w];simp only;simp only[List.nil_append];rw[adi (by rfl)];simp
theorem abx{x:RJ}(b:∀o∈Z,iK o):FI x f0 f1 d f Z=bN ⟨x.lo,x.hi,x.mode,x.m0,x.m1,x.late,d.map fE,f.map fE⟩ f0 f1 Z:=by
 unfold FI bN;rw[Kk,Kk,Kl Z (λo a=>(y7 (b o a)).1),<-QD];rfl
theorem adR(h:ZN ⟨t.toArray⟩ x f0 f1 Z):¬afn t:=by
 obtain⟨i,l,r,h4,h5,s⟩:=h
 have c:t=bN x f0 f1 Z:=by
  injection s with e
  have:=congrArg Array.toList e;simpa using this
 have b:=aeb i l;rw[<-c]at b;rintro(e|e|⟨rs,d,f,k,e,hV,p,u,j,z,m,y,a⟩)
 .rw[b]at e;cases e
 .rw[b]at e;cases e
 .rw[b]at e;cases e;simp only at p j m;have q:d=hls x.R0 0:=qD (acB _ _) p (List.Perm.refl _) u (acC _ _ i.s0);have v:f=hls x.R1 x.R0.length:=qD (acB _ _) j (List.Perm.refl _) z (acC _ _ i.s1);have qz:k=Z:=lY m y r;subst q v qz
  have w:FI ⟨x.lo,x.hi,x.mode,x.m0,x.m1,x.late,x.R0.length+x.R1.length,hls x.R0 0,hls x.R1 x.R0.length⟩ f0 f1 (hls x.R0 0) (hls x.R1 x.R0.length) k=t:=by
   rw[abx l,acA,acA,c]
  rw[w]at a
  rcases a with g|g
  .rw[c]at g;omega
  .exact g rfl
theorem aei{rs:RS}{i:Nat}(a:RvQ i rs)(hi:i<=5000)(q:t.length<=60000)(j:d.Perm rs.x.R0)(r:nN d)(c:f.Perm rs.x.R1)(A:nN f)(e:Z.Perm rs.M)(w:bJ Z)(b:FI rs.x rs.f0 rs.f1 d f Z=t):
  ZN ⟨t.toArray⟩ ⟨rs.x.lo,rs.x.hi,rs.x.mode,rs.x.m0,rs.x.m1,rs.x.late,d.map fE,f.map fE⟩ rs.f0 rs.f1 Z:=by
 have g:∀o∈Z,iK o:=λo l=>a.tell o (e.subset l)
 rw[abx g]at b
 have row:∀{E R:List Hl},E.Perm R->(∀h∈R,au h.k h.t h.v=true/\0<=h.met/\h.met<=9223372036854775807)->∀y∈E.map fE,au y.k y.t y.v=true/\0<=y.n/\y.n<=9223372036854775807:=by
  intro E R p s y m;obtain⟨z,u,rfl⟩:=dH.1 m;exact s z (p.subset u)
 refine⟨⟨a.pl,a.m0,a.m1,a.late,a.f0,a.f1,oN r,oN A,?_,?_,row j a.g0,row c a.g1⟩,g,w,?_,by rw[b];exact q,by rw[b]⟩
 .show(d.map fE).length<=300;rw[List.length_map,j.length_eq];exact a.l0
 .show(f.map fE).length<=300;rw[List.length_map,c.length_eq];exact a.l1
 .rw[e.length_eq];exact aH a.ml hi
end
section
open Go.Proofs.Tryz
variable{W:World}{i:Nat}
structure SpL where
 sd:Int
 k:Int
 t:Int
 v:Int
abbrev ab3(W:World)(g o:Nat)(s:SpL):Prop:=W.cell? ⟨g,o+1,none⟩=some (.int .i64 s.sd)/\W.cell? ⟨g,o+3,none⟩=some (.int .i64 s.k)/\W.cell? ⟨g,o+4,none⟩=some (.int .i64 s.t)/\W.cell? ⟨g,o+5,none⟩=some (.int .i64 s.v)
theorem acI{w:World}{g o:Nat}{s:SpL}(h:ab3 w g o s)(a:g<w.heap.size)(b:Below w.heap.size w W):ab3 W g o s:=
 ⟨(b.cell (p:=⟨g,_,none⟩) a).trans h.1,(b.cell (p:=⟨g,_,none⟩) a).trans h.2.1,(b.cell (p:=⟨g,_,none⟩) a).trans h.2.2.1,(b.cell (p:=⟨g,_,none⟩) a).trans h.2.2.2⟩
theorem aeF{rs:RS}(a:RvQ i rs)(hi:i<=3001){b d:List Hl}(f:b.Perm rs.x.R0)(j:nN b)(e:d.Perm rs.x.R1)(n:nN d):Ga 0 ⟨rs.x.lo,rs.x.hi,rs.x.mode,rs.x.m0,rs.x.m1,rs.x.late,b.map fE,d.map fE⟩ rs:=by
 have row:∀{E R:List Hl},E.Perm R->(∀h∈R,au h.k h.t h.v=true/\0<=h.met/\h.met<=9223372036854775807)->E.map fE=E.map toC:=by
  intro E R p l
  refine List.map_congr_left λh g=>?_
  have:=(l h (p.subset g)).2.1;show(⟨h.k,h.t,h.v,h.met⟩:D)=⟨h.k,h.t,h.v,Nb h.met⟩;unfold Nb;rw[if_neg (by omega)]
 have m:=a.cm;have hm:=a.ml;refine⟨a.pl,rfl,rfl,rfl,rfl,rfl,a.late,⟨m.1,by omega⟩,⟨b,f,j,row f a.g0⟩,⟨d,e,n,row e a.g1⟩,?_,?_,a.c0,a.c1,λy c=>⟨(a.g0 y c).1,Or.inl (a.g0 y c).2⟩,λy c=>⟨(a.g1 y c).1,Or.inl (a.g1 y c).2⟩,by omega⟩
 .show(b.map fE).length<=300;rw[List.length_map,f.length_eq];exact a.l0
 .show(d.map fE).length<=300;rw[List.length_map,e.length_eq];exact a.l1
theorem adr(t:List UInt8)(v:t.length<=3000)(w:World)(l:aa3 w):Calls prog 7 #[.string ⟨t.toArray⟩] w λe c=>
  (e=.returned (.tuple #[.pointer none,.int .i64 3])/\Calls prog 8 #[.string ⟨t.toArray⟩] c λe d=>e=.returned (.tuple #[.pointer none,.iface 24 (.int .i64 3)])/\Below w.heap.size w d)∨
  ∃f,e=.returned (.tuple #[.pointer (some ⟨f,0,none⟩),.int .i64 0])/\Calls prog 8 #[.string ⟨t.toArray⟩] c λe d=>∃be st,e=.returned (.tuple #[.pointer (some ⟨be,0,none⟩),.nilIface])/\EwQ w be f st 0 (λ_=>False) d:=by
 refine(ads t v w l).mono ?_;rintro e c (⟨rfl,b,j⟩|⟨f,rs,P,E0,E1,Z,rfl,m,s,q,p,o,n,E,K,H,y,b⟩)
 .refine Or.inl ⟨rfl,(aeh ⟨t.toArray⟩ (by show t.toArray.size<=_;simp;omega) (λ⟨x,f0,f1,Z,h⟩=>adR h j) c (l.g.below b)).mono ?_⟩;rintro e d ⟨rfl,a⟩;exact⟨rfl,b.trans (a.mono b.size)⟩
 .obtain⟨A,u,F,z,B,G⟩:=aei s (by omega) (by omega) q p o n E K H;refine Or.inr ⟨f,rfl,?_⟩;rw[G];refine(xP _ _ _ Z A u z F B c ((l.g.below b).g)).mono ?_;rintro e d ⟨be,S,rfl,I,r,a⟩;have hz:=b.size;refine⟨be,_,rfl,S,P,rs,aej I (by show Z.reverse.length<=_;rw[List.length_reverse];omega),m.below a,aeF s (by omega) q p o n,λk e=>⟨λC=>?_,id,?_⟩,λk e=>⟨id,y k e⟩,λ_ e=>e.elim,b.trans (a.mono b.size)⟩
  .have:=m.plt k C;have:=(r k e).1;omega
  .have:=(r k e).1;omega
theorem EwQ.base{a:World}{be c:Nat}{st:Sx}{K:Nat->Prop}(h:EwQ a be c st i K W):Below a.heap.size a W:=by
 obtain⟨S,P,rs,a1,a2,a3,a4,a5,a6,b⟩:=h;exact b
theorem aa0(t:List UInt8)(oa:Option Addr)(n c:Nat)(T:Nat->SpL)(w:World)(o:aa3 w)(A:∀k,k<n->∃g off,oa=some ⟨g,off,none⟩/\g<w.heap.size/\ab3 w g (off+k*6) (T k)):
  Calls prog 3 #[.string ⟨t.toArray⟩,.slice oa n c] w λe M=>e=.returned (.bool true)/\Below w.heap.size w M:=by
 by_cases h3:3000<t.length
 .have i1:(3000:Int)<(t.length:Int):=by omega
  clear A o;go_enter func3,ntmps3;go_wp2;go_ret;exact⟨rfl,iL _ _⟩
 have i1:¬(3000:Int)<(t.length:Int):=by omega
 by_cases h20:20<n
 .have i2:(20:Int)<(n:Int):=by omega
  clear A o;go_enter func3,ntmps3;go_wp2;go_ret;exact⟨rfl,iL _ _⟩
 have i2:¬(20:Int)<(n:Int):=by omega
 have HT:=hid A;have b:=o.g.g.err;have G:=adr t (by omega) w o
 have L:Hid (∀(k:Int) (W:World),Below w.heap.size w W->Calls prog 9 #[jI k,.int .i64 k] W λe M=>e=.returned (.bool true)/\Below W.heap.size W M):=λk W m=>wT k W ((m.cell (p:=⟨2,0,none⟩) (World.block_lt_of_cell? _ _ b)).trans b)
 have e3:jI 3=.iface 24 (.int .i64 3):=rfl;have P:jI 0=.nilIface:=rfl;have f:=hid (λW m=>L.out 3 W m);have h:=hid (λW m=>L.out 0 W m);rw[e3]at f;rw[P]at h;have H:=hid b;clear A o b e3 P h3;go_enter func3,ntmps3;go_wp2_with fail;refine G.mono ?_;rintro e w1 (⟨rfl,d⟩|⟨br,rfl,d⟩)
 .have d:=hid d;clear G
  go_wp2_with (first
   |(go_at_call 8;refine d.out.mono ?_;rintro e w2 ⟨rfl,r⟩;have K:=hid r;clear r)
   |(go_at_call 9;refine(f.out _ K.out).mono ?_;rintro e w3 ⟨rfl,a⟩;have B3:=hid (K.out.trans (a.mono K.out.size));clear a)
   |fail)
  go_ret;exact⟨rfl,B3.out⟩
 .have d:=hid d;clear G
  go_wp2_with (first
   |(go_at_call 8;refine d.out.mono ?_;rintro e w2 ⟨be,st,rfl,q⟩;have E:=hid q;clear q)
   |(go_at_call 9;refine(h.out _ E.out.base).mono ?_;rintro e w3 ⟨rfl,a⟩;have U:=hid (E.out.hold a);clear a)
   |fail)
  clear d h f
  go_loopg [9] n (λgg v9 wr=>∃(i:Nat) (st:Sx),i<=n/\gg=n -i/\v9=.int .i64 i/\Hid (EwQ w be br st i (λ_=>False) wr))
  case atStart=>exact⟨0,st,aW _,rfl,rfl,U⟩
  case round=>
   obtain⟨i,st,hile,S,rfl,I⟩:=hrel;have HG:=hid S;clear S E U
   by_cases hlt:i<n
   .obtain⟨g,off,rfl,hg,hC⟩:=HT.out i hlt
    have j:Hid (∀V,Below w.heap.size w V->ab3 V g (off+i*6) (T i)):=λV hV=>acI hC hg hV
    have j1:(0:Int)<=(i:Int):=by omega
    have j2:(i:Int)<(n:Int):=by omega
    have hin:i<=20:=by omega
    have y:=j.out wr I.out.base;obtain⟨s,hs⟩:∃s,s=T i:=⟨_,rfl⟩;rw[<-hs]at y j;clear hC hs;obtain⟨l,k,t1,v⟩:=s;simp only[ab3]at y j;have X:=hid ((I.out.hold (iL _ _).drew).feeds (by omega) H.out l k t1 v);clear I;have lg:g<wr.heap.size:=World.block_lt_of_cell? _ _ y.1;go_wp2_with fail
    go_region_held3 (λV=>V.cell? ⟨g,off+i*6+1,none⟩=some (.int .i64 l)/\V.cell? ⟨g,off+i*6+3,none⟩=some (.int .i64 k)/\V.cell? ⟨g,off+i*6+4,none⟩=some (.int .i64 t1)/\V.cell? ⟨g,off+i*6+5,none⟩=some (.int .i64 v)) (first|exact y|exact B|fail) (first
     |(go_at_call 10;refine X.out.mono ?_;rintro e N ⟨vx,rfl,_,x,hle,q⟩;have B:=j.out N x;have Z:=hid q;clear q x)
     |fail)
    clear y X;have C:g<N.heap.size:=World.block_lt_of_cell? _ _ B.1;have u:=hid (Z.out N.drew (iL _ _).drew);clear Z;go_wp2_with fail
    go_region_held3 (λV=>V.cell? ⟨g,off+i*6+1,none⟩=some (.int .i64 l)/\V.cell? ⟨g,off+i*6+3,none⟩=some (.int .i64 k)/\V.cell? ⟨g,off+i*6+4,none⟩=some (.int .i64 t1)/\V.cell? ⟨g,off+i*6+5,none⟩=some (.int .i64 v)) (first|exact B|exact Y|fail) (first
     |(go_at_call 11;refine u.out.mono ?_;rintro e w6 ⟨v9,rfl,o9,R,_,F⟩;have Y:=j.out w6 F.base;have R9:=hid o9;have RX:=hid R;have Q6:=hid F;clear o9 R F)
     |fail)
    clear B Y u j C;generalize vH st l k t1 v=CL at *;generalize(Dk st l k t1 v).1=cd at *
    go_wp2_with (first
     |(go_at_call 9;refine(L.out _ _ Q6.out.base).mono ?_;rintro e w7 ⟨rfl,qh⟩;have z:=hid qh;clear qh)
     |(go_at_call 12;refine(Cr _ _ _ _ _ _ (aD R9.out z.out) (aD RX.out z.out) (by omega)).mono ?_;rintro e w8 ⟨rfl,Q⟩;have B8:=hid (z.out.trans (Q.mono z.out.size));clear Q)
     |fail)
    go_roundg (n -(i+1))
    case measure=>have:=HG.out;omega
    case rel=>exact⟨i+1,_,by omega,rfl,by go_num,Q6.out.hold B8.out⟩
   .have e1:i=n:=by omega
    subst e1
    have j2:¬((i:Nat):Int)<(i:Int):=by omega
    have B9:=hid I.out.base;clear I;go_wp2_with fail;go_ret;exact⟨rfl,B9.out⟩
end
end Go.Proofs.YthfpipieboophaaGreatDoor
