import Derived.Test.YthfpipieboophaaGreatDoorZRjl
import Derived.Test.YthfpipieboophaaGreatDoorZDkk
import Derived.Test.YthfpipieboophaaGreatDoorRjf
import Derived.Test.YthfpipieboophaaGreatDoorRjh
namespace Go.Proofs.YthfpipieboophaaGreatDoor
set_option maxRecDepth 100000
set_option maxHeartbeats 40000000
open Go.RowKit Go.Sort Go.Shelf
section
variable{R E:List Hl}{T:List D}{c:Int}{n:Nat}{st:Sx}
structure RS where
 x:RJ
 M:List O
 f0:Int
 f1:Int
abbrev nN(E:List Hl):Prop:=E.Pairwise (λa b=>rY b a=false)
structure iP(R:List Hl)(c:Int):Prop where
 inc:R.Pairwise (λa b=>a.came<b.came)
 le:∀h∈R,h.came<=c
def eY(R:List Hl)(T:List D):Prop:=∃E:List Hl,E.Perm R/\nN E/\T=E.map fE
theorem FH:∀{R:List Hl},R.Pairwise (λa b=>a.came<b.came)->∀a∈R,∀b∈R,a.came=b.came->a=b
 |[],_,a,ha,_,_,_=>by simp at ha
 |x::R,h,a,ha,b,hb,e=>by
  rw[List.pairwise_cons]at h
  rcases qh.1 ha with h1|h1
  .rcases qh.1 hb with h2|h2
   .rw[h1,h2]
   .have:=h.1 b h2;rw[h1]at e;omega
  .rcases qh.1 hb with h2|h2
   .have:=h.1 a h1;rw[h2]at e;omega
   .exact FH h.2 a h1 b h2 e
theorem qD{d:List Hl}(i:R.Pairwise (λa b=>a.came<b.came))(f:E.Perm R)(e:d.Perm R)(o1:nN E)(o2:nN d):E=d:=by
 refine List.Perm.eq_of_pairwise (le:=λa b=>rY b a=false) (λa b k h g j=>?_) o1 o2 (f.trans e.symm);rw[mW]at g j;exact FH i a (f.subset k) b (e.subset h) (by omega)
theorem eY.at(h:eY R T)(e:R.Pairwise (λa b=>a.came<b.came))(d:E.Perm R)(o1:nN E):T=E.map fE:=by
 obtain⟨E',p,o,rfl⟩:=h;rw[qD e p d o o1]
theorem eY.len(h:eY R T):R.length=T.length:=by
 obtain⟨E,p,_,rfl⟩:=h;rw[List.length_map,p.length_eq]
theorem eY.nil:eY [] []:=⟨[],List.Perm.refl _,List.Pairwise.nil,rfl⟩
theorem oN(h:nN E):ay (E.map fE):=by
 unfold ay;rw[List.pairwise_map];refine h.imp ?_;intro a b d;rw[mW]at d;show a.k<b.k∨(a.k=b.k/\a.t<=b.t);omega
theorem Qp(k fr av:Int)(h:Hl):iB k fr av (fE h)=eF k fr av h:=by
 unfold iB eF iG fE
 by_cases h1:h.k=k
 .by_cases h2:fr<=h.t
  .by_cases h3:h.t<=av <;>simp[h1,h2,h3]
  .simp[h1,h2]
 .simp[h1]
theorem Qq(k fr av:Int)(E:List Hl):(E.map fE).filter (iB k fr av)=(E.filter (eF k fr av)).map fE:=by
 rw[List.filter_map];congr 1;congr 1
 funext h
 exact Qp k fr av h
theorem wZ(e:eY R T)(f:R.Pairwise (λa b=>a.came<b.came))(d:E.Perm R)(o1:nN E)(k fr av:Int):bF k fr av T=(E.filter (eF k fr av)).map fE:=by
 rw[e.at f d o1,gM (oN o1),Qq]
def M8(k fr av:Int)(h:Hl):Hl:=if eF k fr av h=true then kN h else h
theorem oO(k fr av:Int)(h:Hl):(M8 k fr av h).k=h.k/\(M8 k fr av h).t=h.t/\(M8 k fr av h).came=h.came:=by
 unfold M8
 split
 .exact⟨rfl,rfl,rfl⟩
 .exact⟨rfl,rfl,rfl⟩
theorem V6(k fr av:Int)(a b:Hl):rY (M8 k fr av a) (M8 k fr av b)=rY a b:=by
 unfold rY;obtain⟨e,i,h⟩:=oO k fr av a;obtain⟨d,g,f⟩:=oO k fr av b;rw[e,i,h,d,g,f]
theorem eY.inc(e:eY R T)(k fr av:Int)(i:∀y∈T,0<=y.n/\y.n<=1000000):
  eY (R.map λh=>if eF k fr av h=true then kN h else h) (fo T (aV k fr T) (bF k fr av T).length):=by
 obtain⟨E,p,o,rfl⟩:=e;rw[gZ (oN o)];refine⟨E.map (M8 k fr av),p.map _,?_,?_⟩
 .show(E.map (M8 k fr av)).Pairwise _;rw[List.pairwise_map];refine o.imp ?_;intro a b d;rw[V6];exact d
 .rw[List.map_map,List.map_map]
  refine List.map_congr_left λh f=>?_
  have g:=i (fE h) (oz.2 ⟨h,f,rfl⟩);show(if iB k fr av (fE h)=true then sH (fE h)else fE h)=fE (M8 k fr av h);rw[Qp];unfold M8
  split
  .show(⟨h.k,h.t,h.v,bR h.met⟩:D)=⟨h.k,h.t,h.v,wrap64 (h.met+1)⟩;have h1:0<=h.met/\h.met<=1000000:=g
   have j:bR h.met=h.met+1:=by unfold bR;rw[if_neg (by omega)]
   have l:wrap64 (h.met+1)=h.met+1:=by unfold wrap64;omega
   rw[j,l]
  .rfl
theorem iP.inc'(h:iP R c)(k fr av:Int):iP (R.map λh=>if eF k fr av h=true then kN h else h) c:=by
 refine⟨?_,?_⟩
 .show(R.map (M8 k fr av)).Pairwise _;rw[List.pairwise_map];refine h.inc.imp ?_;intro a b d;rw[(oO k fr av a).2.2,(oO k fr av b).2.2];exact d
 .intro y e;obtain⟨z,f,rfl⟩:=oz.1 e;show(M8 k fr av z).came<=c;rw[(oO k fr av z).2.2];exact h.le z f
theorem iP.more{d:Int}(h:iP R c)(b:c<=d):iP R d:=⟨h.inc,λy a=>Int.le_trans (h.le y a) b⟩
theorem iP.put(h:iP R c)(y:Hl)(hy:y.came=c+1):iP (R++[y]) (c+1):=by
 refine⟨?_,?_⟩
 .rw[List.pairwise_append];refine⟨h.inc,List.pairwise_singleton _ _,?_⟩;intro a f b d
  have:b=y:=by simpa using d
  subst this;have:=h.le a f;omega
 .intro z e
  rcases List.mem_append.1 e with g|g
  .have:=h.le z g;omega
  .have:z=y:=by simpa using g
   subst this;omega
theorem Bu(y:Hl):∀{E:List Hl},nN E->(∀a∈E,a.came<y.came)->∃d:List Hl,d.Perm (y::E)/\nN d/\bT (E.map fE) (aV y.k (y.t+1) (E.map fE)) (fE y)=d.map fE
 |[],_,_=>⟨[y],List.Perm.refl _,List.pairwise_singleton _ _,by simp[bT,aV]⟩
 |a::E,o,hc=>by
  have i:=oN o;have h:=List.pairwise_cons.1 o;have hac:=hc a (by simp)
  cases ha:aX y.k (y.t+1) (fE a)with
  |true=>
   obtain⟨d,p,m,e⟩:=Bu y h.2 (λb f=>hc b (by simp[f]));refine⟨a::d,(p.cons a).trans (List.Perm.swap y a E),?_,?_⟩
   .refine List.pairwise_cons.2 ⟨λb f=>?_,m⟩
    rcases qh.1 (p.subset f)with g|g
    .subst g;rw[mW]
     have j:a.k<b.k∨(a.k=b.k/\a.t<b.t+1):=by
      have:=ha;unfold aX fE at this;simpa using this
     omega
    .exact h.1 b g
   .rw[List.map_cons,gU ha,List.map_cons,<-e];simp[bT]
  |false=>
   refine⟨y::a::E,List.Perm.refl _,?_,?_⟩
   .have j:¬(a.k<y.k∨(a.k=y.k/\a.t<y.t+1)):=by
     have:=ha;unfold aX fE at this;simpa using this
    refine List.pairwise_cons.2 ⟨λb f=>?_,o⟩;rw[mW]
    rcases qh.1 f with g|g
    .subst g;omega
    .have l:=h.1 b g;rw[mW]at l;omega
   .rw[List.map_cons]at i⊢;rw[iQ i ha];simp[bT]
theorem eY.put(f:eY R T)(y:Hl)(i:∀a∈R,a.came<y.came):eY (R++[y]) (bT T (aV y.k (y.t+1) T) (fE y)):=by
 obtain⟨E,p,o,rfl⟩:=f;obtain⟨b,g,d,e⟩:=Bu y o (λa h=>i a (p.subset h));exact⟨b,(g.trans (p.cons y)).trans (List.perm_append_singleton y R).symm,d,e⟩
theorem eY.filt(b:eY R T)(f:Hl->Bool)(q:D->Bool)(a:∀h,f h= !q (fE h)):eY (R.filter f) (keepR q T):=by
 obtain⟨E,p,o,rfl⟩:=b;refine⟨E.filter f,p.filter f,o.filter f,?_⟩;unfold keepR;rw[List.filter_map];congr 1;congr 1
 funext h
 exact(a h).symm
theorem iP.filt(h:iP R c)(f:Hl->Bool):iP (R.filter f) c:=⟨h.inc.filter f,λy a=>h.le y (List.mem_filter.1 a).1⟩
theorem oP:∀(C:List Ch) {M L:List O},M.Perm L->(C.foldl kK M).Perm (iE L C)
 |[],_,_,h=>h
 |c::C,M,L,h=>by
  unfold iE;rw[List.foldl_cons,List.foldl_cons];refine oP C ?_;unfold kK
  split
  .exact h.erase _
  .exact(List.perm_append_singleton c.x M).trans (h.cons c.x)
structure dN(n:Nat)(st:Sx)(rs:RS):Prop where
 lo:rs.x.lo=st.x.lo
 hi:rs.x.hi=st.x.hi
 mode:rs.x.mode=st.x.mode
 m0:rs.x.m0=st.x.m0
 m1:rs.x.m1=st.x.m1
 late:rs.x.late=st.x.late
 f0:rs.f0=st.f0
 f1:rs.f1=st.f1
 cm:0<=rs.x.came/\rs.x.came<=n
 r0:eY rs.x.R0 st.x.R0
 r1:eY rs.x.R1 st.x.R1
 c0:iP rs.x.R0 rs.x.came
 c1:iP rs.x.R1 rs.x.came
 v:rs.M.Perm st.L
theorem dN.more{m:Nat}{rs:RS}(h:dN n st rs)(hm:n<=m):dN m st rs:=
 ⟨h.lo,h.hi,h.mode,h.m0,h.m1,h.late,h.f0,h.f1,⟨h.cm.1,by have:=h.cm.2;omega⟩,h.r0,h.r1,h.c0,h.c1,h.v⟩
theorem yj(lo hi mode:Int)(n:Nat):dN n (Sx.new lo hi mode) ⟨yh lo hi mode,[],0,0⟩:=
 ⟨rfl,rfl,rfl,rfl,rfl,rfl,rfl,rfl,⟨Int.le_refl _,Int.natCast_nonneg n⟩,eY.nil,eY.nil,⟨List.Pairwise.nil,λ_ h=>by cases h⟩,⟨List.Pairwise.nil,λ_ h=>by cases h⟩,List.Perm.refl _⟩
theorem dN.again{rs:RS}(h:dN n st rs):dN n st.again rs:=
 ⟨h.lo,h.hi,h.mode,h.m0,h.m1,h.late,h.f0,h.f1,h.cm,h.r0,h.r1,h.c0,h.c1,h.v.trans ((List.reverse_perm _).trans (aR _)).symm⟩
theorem dN.hold0{rs:RS}(h:dN n st rs)(d:dH n st)(i:n<=1600)(k t u:Int)(l:st.x.m1<t+st.x.hi)(f:E.Perm rs.x.R1)(j:nN E):
  bU rs.x.mode 0 k t u ((E.filter (eF k (t+rs.x.lo) (t+rs.x.hi))).map fE)=qc st.x ⟨k,t,u⟩/\
  dN (n+1) ⟨st.x.fed0 k t u,aZ st.f0,st.f1,iE st.L (qc st.x ⟨k,t,u⟩)⟩ ⟨{ rs.x with R1:=rs.x.R1.map λh=>if eF k (t+rs.x.lo) (t+rs.x.hi) h=true then kN h else h,R0:=rs.x.R0++[⟨k,t,u,(E.filter (eF k (t+rs.x.lo) (t+rs.x.hi))).length,rs.x.came+1⟩],came:=rs.x.came+1},(qc st.x ⟨k,t,u⟩).foldl kK rs.M,rs.f0+1,rs.f1⟩:=by
 have b:=wZ h.r1 h.c1.inc f j k (t+st.x.lo) (t+st.x.hi);have e:=d.jok i;have hf:=d.f0
 have g:aZ st.f0=st.f0+1:=by unfold aZ;rw[if_neg (by omega)]
 have hc:=h.cm;rw[h.lo,h.hi,h.mode];refine⟨by rw[<-b],⟨h.lo,h.hi,h.mode,h.m0,h.m1,h.late,?_,h.f1,⟨?_,?_⟩,?_,?_,?_,?_,oP _ h.v⟩⟩
 .show rs.f0+1=aZ st.f0;rw[g,h.f0]
 .show 0<=rs.x.came+1;omega
 .show rs.x.came+1<=((n+1:Nat):Int);omega
 .show eY (rs.x.R0++[_]) (if st.x.m1<t+st.x.hi then bT st.x.R0 (aV k (t+1) st.x.R0) ⟨k,t,u,((bF k (t+st.x.lo) (t+st.x.hi) st.x.R1).length:Int)⟩else st.x.R0);rw[if_pos l,b,List.length_map];exact h.r0.put ⟨k,t,u,(E.filter (eF k (t+st.x.lo) (t+st.x.hi))).length,rs.x.came+1⟩ (λa m=>by have:=h.c0.le a m;show a.came<rs.x.came+1;omega)
 .exact h.r1.inc k (t+st.x.lo) (t+st.x.hi) e.n1
 .exact h.c0.put _ rfl
 .exact(h.c1.inc' k _ _).more (by show rs.x.came<=rs.x.came+1;omega)
theorem dN.pass0{rs:RS}(h:dN n st rs)(a:dH n st)(g:n<=1600)(k t u:Int)(j:¬st.x.m1<t+st.x.hi)(e:E.Perm rs.x.R1)(i:nN E):
  bU rs.x.mode 0 k t u ((E.filter (eF k (t+rs.x.lo) (t+rs.x.hi))).map fE)=qc st.x ⟨k,t,u⟩/\
  dN (n+1) ⟨st.x.fed0 k t u,aZ st.f0,st.f1,iE st.L (qc st.x ⟨k,t,u⟩)⟩ ⟨{ rs.x with R1:=rs.x.R1.map λh=>if eF k (t+rs.x.lo) (t+rs.x.hi) h=true then kN h else h},(qc st.x ⟨k,t,u⟩).foldl kK rs.M,rs.f0+1,rs.f1⟩:=by
 have d:=wZ h.r1 h.c1.inc e i k (t+st.x.lo) (t+st.x.hi);have b:=a.jok g;have hf:=a.f0
 have f:aZ st.f0=st.f0+1:=by unfold aZ;rw[if_neg (by omega)]
 have l:=h.cm;rw[h.lo,h.hi,h.mode];refine⟨by rw[<-d],⟨h.lo,h.hi,h.mode,h.m0,h.m1,h.late,?_,h.f1,⟨l.1,by show rs.x.came<=((n+1:Nat):Int);omega⟩,?_,?_,h.c0,?_,oP _ h.v⟩⟩
 .show rs.f0+1=aZ st.f0;rw[f,h.f0]
 .show eY rs.x.R0 (if st.x.m1<t+st.x.hi then bT st.x.R0 (aV k (t+1) st.x.R0) ⟨k,t,u,((bF k (t+st.x.lo) (t+st.x.hi) st.x.R1).length:Int)⟩else st.x.R0);rw[if_neg j];exact h.r0
 .exact h.r1.inc k (t+st.x.lo) (t+st.x.hi) b.n1
 .exact h.c1.inc' k _ _
theorem dN.late0{rs:RS}(h:dN n st rs)(a:dH n st)(hn:n<=1600):dN (n+1) ⟨{ st.x with late:=bR st.x.late},aZ st.f0,st.f1,st.L⟩ ⟨{ rs.x with late:=rs.x.late+1},rs.M,rs.f0+1,rs.f1⟩:=by
 have hf:=a.f0;have hl:=a.late
 have d:aZ st.f0=st.f0+1:=by unfold aZ;rw[if_neg (by omega)]
 have b:bR st.x.late=st.x.late+1:=by unfold bR;rw[if_neg (by omega)]
 refine⟨h.lo,h.hi,h.mode,h.m0,h.m1,?_,?_,h.f1,⟨h.cm.1,by have:=h.cm.2;show rs.x.came<=((n+1:Nat):Int);omega⟩,h.r0,h.r1,h.c0,h.c1,h.v⟩
 .show rs.x.late+1=bR st.x.late;rw[b,h.late]
 .show rs.f0+1=aZ st.f0;rw[d,h.f0]
theorem dN.hold1{rs:RS}(h:dN n st rs)(d:dH n st)(i:n<=1600)(k t u:Int)(l:st.x.m0<t+ -st.x.lo)(f:E.Perm rs.x.R0)(j:nN E):
  bU rs.x.mode 1 k t u ((E.filter (eF k (t -rs.x.hi) (t -rs.x.lo))).map fE)=qd st.x ⟨k,t,u⟩/\
  dN (n+1) ⟨st.x.fed1 k t u,st.f0,aZ st.f1,iE st.L (qd st.x ⟨k,t,u⟩)⟩ ⟨{ rs.x with R0:=rs.x.R0.map λh=>if eF k (t -rs.x.hi) (t -rs.x.lo) h=true then kN h else h,R1:=rs.x.R1++[⟨k,t,u,(E.filter (eF k (t -rs.x.hi) (t -rs.x.lo))).length,rs.x.came+1⟩],came:=rs.x.came+1},(qd st.x ⟨k,t,u⟩).foldl kK rs.M,rs.f0,rs.f1+1⟩:=by
 have b:=wZ h.r0 h.c0.inc f j k (t+ -st.x.hi) (t+ -st.x.lo);have e:=d.jok i;have hf:=d.f1
 have g:aZ st.f1=st.f1+1:=by unfold aZ;rw[if_neg (by omega)]
 have hc:=h.cm;rw[h.lo,h.hi,h.mode,Int.sub_eq_add_neg,Int.sub_eq_add_neg];refine⟨by rw[<-b],⟨h.lo,h.hi,h.mode,h.m0,h.m1,h.late,h.f0,?_,⟨?_,?_⟩,?_,?_,?_,?_,oP _ h.v⟩⟩
 .show rs.f1+1=aZ st.f1;rw[g,h.f1]
 .show 0<=rs.x.came+1;omega
 .show rs.x.came+1<=((n+1:Nat):Int);omega
 .exact h.r0.inc k (t+ -st.x.hi) (t+ -st.x.lo) e.n0
 .show eY (rs.x.R1++[_]) (if st.x.m0<t+ -st.x.lo then bT st.x.R1 (aV k (t+1) st.x.R1) ⟨k,t,u,((bF k (t+ -st.x.hi) (t+ -st.x.lo) st.x.R0).length:Int)⟩else st.x.R1);rw[if_pos l,b,List.length_map];exact h.r1.put ⟨k,t,u,(E.filter (eF k (t+ -st.x.hi) (t+ -st.x.lo))).length,rs.x.came+1⟩ (λa m=>by have:=h.c1.le a m;show a.came<rs.x.came+1;omega)
 .exact(h.c0.inc' k _ _).more (by show rs.x.came<=rs.x.came+1;omega)
 .exact h.c1.put _ rfl
theorem dN.pass1{rs:RS}(h:dN n st rs)(a:dH n st)(g:n<=1600)(k t u:Int)(j:¬st.x.m0<t+ -st.x.lo)(e:E.Perm rs.x.R0)(i:nN E):
  bU rs.x.mode 1 k t u ((E.filter (eF k (t -rs.x.hi) (t -rs.x.lo))).map fE)=qd st.x ⟨k,t,u⟩/\
  dN (n+1) ⟨st.x.fed1 k t u,st.f0,aZ st.f1,iE st.L (qd st.x ⟨k,t,u⟩)⟩ ⟨{ rs.x with R0:=rs.x.R0.map λh=>if eF k (t -rs.x.hi) (t -rs.x.lo) h=true then kN h else h},(qd st.x ⟨k,t,u⟩).foldl kK rs.M,rs.f0,rs.f1+1⟩:=by
 have d:=wZ h.r0 h.c0.inc e i k (t+ -st.x.hi) (t+ -st.x.lo);have b:=a.jok g;have hf:=a.f1
 have f:aZ st.f1=st.f1+1:=by unfold aZ;rw[if_neg (by omega)]
 have l:=h.cm;rw[h.lo,h.hi,h.mode,Int.sub_eq_add_neg,Int.sub_eq_add_neg];refine⟨by rw[<-d],⟨h.lo,h.hi,h.mode,h.m0,h.m1,h.late,h.f0,?_,⟨l.1,by show rs.x.came<=((n+1:Nat):Int);omega⟩,?_,?_,?_,h.c1,oP _ h.v⟩⟩
 .show rs.f1+1=aZ st.f1;rw[f,h.f1]
 .exact h.r0.inc k (t+ -st.x.hi) (t+ -st.x.lo) b.n0
 .show eY rs.x.R1 (if st.x.m0<t+ -st.x.lo then bT st.x.R1 (aV k (t+1) st.x.R1) ⟨k,t,u,((bF k (t+ -st.x.hi) (t+ -st.x.lo) st.x.R0).length:Int)⟩else st.x.R1);rw[if_neg j];exact h.r1
 .exact h.c0.inc' k _ _
theorem dN.late1{rs:RS}(h:dN n st rs)(a:dH n st)(hn:n<=1600):dN (n+1) ⟨{ st.x with late:=bR st.x.late},st.f0,aZ st.f1,st.L⟩ ⟨{ rs.x with late:=rs.x.late+1},rs.M,rs.f0,rs.f1+1⟩:=by
 have hf:=a.f1;have hl:=a.late
 have d:aZ st.f1=st.f1+1:=by unfold aZ;rw[if_neg (by omega)]
 have b:bR st.x.late=st.x.late+1:=by unfold bR;rw[if_neg (by omega)]
 refine⟨h.lo,h.hi,h.mode,h.m0,h.m1,?_,h.f0,?_,⟨h.cm.1,by have:=h.cm.2;show rs.x.came<=((n+1:Nat):Int);omega⟩,h.r0,h.r1,h.c0,h.c1,h.v⟩
 .show rs.x.late+1=bR st.x.late;rw[b,h.late]
 .show rs.f1+1=aZ st.f1;rw[d,h.f1]
theorem dN.move0{rs:RS}(h:dN n st rs)(tm:Int):dN n ⟨{ st.x with m0:=tm,R1:=keepR (λy=>decide (y.t<=tm+st.x.lo)) st.x.R1},st.f0,st.f1,st.L⟩ ⟨{ rs.x with m0:=tm,R1:=rs.x.R1.filter (λh:Hl=>decide (tm<h.t -rs.x.lo))},rs.M,rs.f0,rs.f1⟩:=by
 refine⟨h.lo,h.hi,h.mode,rfl,h.m1,h.late,h.f0,h.f1,h.cm,h.r0,?_,h.c0,h.c1.filt _,h.v⟩;refine h.r1.filt _ _ (λy=>?_);rw[h.lo];show decide (tm<y.t -st.x.lo)= !decide (y.t<=tm+st.x.lo);rw[<-decide_not];exact decide_eq_decide.2 ⟨λe=>by omega,λe=>by omega⟩
theorem dN.move1{rs:RS}(h:dN n st rs)(tm:Int):dN n ⟨{ st.x with m1:=tm,R0:=keepR (λy=>decide (y.t<=tm -st.x.hi)) st.x.R0},st.f0,st.f1,st.L⟩ ⟨{ rs.x with m1:=tm,R0:=rs.x.R0.filter (λh:Hl=>decide (tm<h.t+rs.x.hi))},rs.M,rs.f0,rs.f1⟩:=by
 refine⟨h.lo,h.hi,h.mode,h.m0,rfl,h.late,h.f0,h.f1,h.cm,?_,h.r1,h.c0.filt _,h.c1,h.v⟩;refine h.r0.filt _ _ (λy=>?_);rw[h.hi];show decide (tm<y.t+st.x.hi)= !decide (y.t<=tm -st.x.hi);rw[<-decide_not];exact decide_eq_decide.2 ⟨λe=>by omega,λe=>by omega⟩
end
section
open Go.Joins
variable{d n bj:Nat}{rs:RS}{P:Nat->Prop}{W j b:World}{st:Sx}{v i f v' c a:Value}{R:List Hl}{x:RJ}{M:List O}{f0 f1:Int}
def RE(d:Nat)(rs:RS)(P:Nat->Prop)(W:World):Prop:=
 ∃bj v i f,nM W d bj v i f rs.x rs.M rs.f0 rs.f1/\∀k,P k↔(k=d∨k=bj∨v.ownBlock=some k∨i.ownBlock=some k∨f.ownBlock=some k)
theorem RE.plt(h:RE d rs P W):∀k,P k->k<W.heap.size:=by
 obtain⟨bj,v,i,f,g,m⟩:=h;intro k l
 rcases(m k).1 l with e|e|e|e|e
 .rw[e];exact g.bag.lt
 .rw[e];exact g.join.lt
 .exact(g.bag.row.lt k e).2
 .exact(g.join.r0.lt k e).2
 .exact(g.join.r1.lt k e).2
theorem RE.still(h:RE d rs P W)(o:∀k,P k->j.heap[k]?=W.heap[k]?):RE d rs P j:=by
 obtain⟨bj,v,i,f,l,m⟩:=h;refine⟨bj,v,i,f,⟨⟨(o d ((m d).2 (.inl rfl))).trans l.bag.blk,?_⟩,⟨(o bj ((m bj).2 (.inr (.inl rfl)))).trans l.join.blk,?_,?_,l.join.apart⟩⟩,m⟩
 .exact ag l.bag.row (λg e=>o g ((m g).2 (.inr (.inr (.inl e)))))
 .exact ag l.join.r0 (λg e=>o g ((m g).2 (.inr (.inr (.inr (.inl e))))))
 .exact ag l.join.r1 (λg e=>o g ((m g).2 (.inr (.inr (.inr (.inr e))))))
theorem RE.below(h:RE d rs P W)(g:Below W.heap.size W j):RE d rs P j:=
 h.still (λk e=>g.block k (h.plt k e))
def Ol(d:Nat)(n:Nat)(st:Sx)(P:Nat->Prop)(W b:World):Prop:=
 ∃rs' P',RE d rs' P' b/\dN n st rs'/\Turned P W b/\∀k,P' k->P k∨W.heap.size<=k
theorem RE.same(h:RE d rs P W)(k:dN n st rs)(g:Below W.heap.size W j):Ol d n st P W j:=
 ⟨rs,P,h.below g,k,Turned.of_below g,λ_ e=>.inl e⟩
theorem Ol.below{g k:World}(h:Ol d n st P W g)(l:Below g.heap.size g k):Ol d n st P W k:=by
 obtain⟨rs',q,p,m,o,r⟩:=h;exact⟨rs',q,p.below l,m,o.trans (Turned.of_below (S:=λ_=>False) l) (λ_ _ e=>e.elim),r⟩
theorem jh{S:Nat->Prop}(h:∀k,P k↔(k=d∨k=bj∨v.ownBlock=some k∨i.ownBlock=some k∨f.ownBlock=some k))(p:∀g,S g->P g)
  (s:nM b d bj v' c a rs.x rs.M rs.f0 rs.f1) (m:dN n st rs) (l:Turned (λg=>g=d∨v.ownBlock=some g∨S g) W b) (t:Moves W v.ownBlock v'.ownBlock) (r:∀g,c.ownBlock=some g->i.ownBlock=some g∨W.heap.size<=g) (o:∀g,a.ownBlock=some g->f.ownBlock=some g∨W.heap.size<=g):Ol d n st P W b:=by
 refine⟨rs,λk=>k=d∨k=bj∨v'.ownBlock=some k∨c.ownBlock=some k∨a.ownBlock=some k,⟨bj,v',c,a,s,λk=>Iff.rfl⟩,m,l.mono ?_,?_⟩
 .intro k e
  rcases e with e|e|e
  .exact(h k).2 (.inl e)
  .exact(h k).2 (.inr (.inr (.inl e)))
  .exact p k e
 .intro k e
  rcases e with e|e|e|e|e
  .exact .inl ((h k).2 (.inl e))
  .exact .inl ((h k).2 (.inr (.inl e)))
  .rcases t with g|⟨q,g,gq⟩
   .exact .inl ((h k).2 (.inr (.inr (.inl (g ▸ e)))))
   .rw[g]at e;cases e;exact .inr gq
  .exact(r k e).imp (λg=>(h k).2 (.inr (.inr (.inr (.inl g))))) id
  .exact(o k e).imp (λg=>(h k).2 (.inr (.inr (.inr (.inr g))))) id
theorem mZ{e:World}(h:dF e v v')(hs:W.heap.size<=e.heap.size):dF W v v':=by
 rcases h with g|⟨q,g,gq⟩
 .exact .inl g
 .exact .inr ⟨q,g,by omega⟩
theorem pR(h:dF W v v'):∀g,v'.ownBlock=some g->v.ownBlock=some g∨W.heap.size<=g:=by
 intro g e
 rcases h with h|⟨q,h,hq⟩
 .exact .inl (h ▸ e)
 .rw[h]at e;cases e;exact .inr hq
theorem jV{E:List Hl}{mode s k t u fr av:Int}(e:E.Perm R)(g:R.length<=300):(bU mode s k t u ((E.filter (eF k fr av)).map fE)).length<=1000:=by
 have h1:((E.filter (eF k fr av)).map fE).length<=300:=by
  rw[List.length_map];exact di (oo _ _) (by rw[e.length_eq];exact g)
 unfold bU
 split
 .split <;>simp
 .exact di (rP _ _ _ _ _ _ _) (by omega)
def Dh(st:Sx)(k t u:Int):List Ch:=if(st.feed0 k t u).1=0 then qc st.x ⟨k,t,u⟩else[]
theorem Em(h:RE d rs P W)(l:dN n st rs)(U:dH n st)(hn:n<=1600)(k t u:Int):
  Calls Tryz.prog 10 #[.pointer (some ⟨d,0,none⟩),.int .i64 0,.agg #[.int .i64 k,.int .i64 t,.int .i64 u]] W λe b=>∃vx,e=.returned (.tuple #[vx,.int .i64 (st.feed0 k t u).1])/\b.ownsRow W.heap.size 95 10 vx (Dh st k t u).length ((Dh st k t u).flatMap aQ)/\Ol d (n+1) (st.feed0 k t u).2 P W b:=by
 obtain⟨bj,v,i,f,hA,A⟩:=h;have V:=U.jok hn
 have Z:rs.M.length<=900000:=by rw[l.v.length_eq];have:=U.len hn;omega
 have hff:=U.f0;have hlt:=U.late;have hcm:=l.cm;have e0:=l.r0.len;have e1:=l.r1.len;have q0:=V.l0;have q1:=V.l1;have p1:=V.lo1;have p2:=V.lo2;have p3:=V.hi1;have p4:=V.hi2;rw[<-l.lo]at p1 p2;rw[<-l.hi]at p3 p4;have hf:=l.f0;unfold Dh Sx.feed0
 by_cases hg:au k t u=false
 .rw[if_pos hg];refine(kG 0 1 k t u W hA (λ_=>False) (λC o c a=>C=[]/\o=rs.x/\c=i/\a=f) Z (.inr (.inr ⟨.inl rfl,rfl,rfl⟩)) (λ_ e=>e.elim) (λK p r=>(aat 0 rfl k t u K r hg).mono ?_)).mono ?_
  .rintro e b ⟨rfl,hb⟩;exact⟨_,i,f,[],rs.x,rfl,Ak _ _ _ _,by simp,r.below hb,Turned.of_below hb,rfl,rfl,rfl,rfl⟩
  .rintro e b ⟨vx,v',c,a,C,o,rfl,B,q,⟨s,I,y,z⟩,L,H⟩;subst s I;rw[y,z]at q;refine⟨vx,rfl,?_,jh (rs:=rs) A (S:=λ_=>False) (λ_ e=>e.elim) q (l.more (by omega)) L H (λ_ e=>.inl e) (λ_ e=>.inl e)⟩;simpa using B
 rw[if_neg hg]
 have F:au k t u=true:=by simpa using hg
 by_cases hl:t<=st.x.m0
 .rw[if_pos hl]
  have w:t<=rs.x.m0:=by rw[l.m0];exact hl
  refine(kG 0 10 k t u W hA (λg=>g=bj) (λC o c a=>C=[]/\o={ rs.x with late:=rs.x.late+1}/\c=i/\a=f) Z (.inl ⟨rfl,.inr rfl,rfl,rfl,by omega,by omega⟩) (λg e=>.inl e) (λK p r=>((aao 0 k t u K r F).1 (.inl ⟨rfl,w⟩) (by rw[l.late];omega) (by rw[l.late];omega)).mono ?_)).mono ?_
  .rintro e b ⟨rfl,Y,hgr⟩;exact⟨_,i,f,[],_,rfl,Ak _ _ _ _,by simp,Y,Turned.of_grown hgr (λk e=>by cases e;rfl),rfl,rfl,rfl,rfl⟩
  .rintro e b ⟨vx,v',c,a,C,o,rfl,B,q,⟨s,I,y,z⟩,L,H⟩;subst s I;rw[y,z]at q;refine⟨vx,rfl,?_,jh (rs:=⟨{ rs.x with late:=rs.x.late+1},rs.M,rs.f0+1,rs.f1⟩) A (S:=λg=>g=bj) (λg e=>(A g).2 (.inr (.inl e))) q (l.late0 U hn) L H (λ_ e=>.inl e) (λ_ e=>.inl e)⟩;simpa using B
 rw[if_neg hl]
 have w:¬t<=rs.x.m0:=by rw[l.m0];exact hl
 by_cases hr:st.x.m1<t+st.x.hi/\300<=st.x.R0.length
 .rw[if_pos hr]
  have Qr:rs.x.m1<t+rs.x.hi:=by have:=hr.1;rw[l.m1,l.hi];omega
  refine(kG 0 12 k t u W hA (λ_=>False) (λC o c a=>C=[]/\o=rs.x/\c=i/\a=f) Z (.inr (.inr ⟨.inr rfl,rfl,rfl⟩)) (λ_ e=>e.elim) (λK p r=>((aao 0 k t u K r F).2 p1 p2 p3 p4 (.inl ⟨rfl,w,Qr,by omega⟩)).mono ?_)).mono ?_
  .rintro e b ⟨rfl,hb⟩;exact⟨_,i,f,[],rs.x,rfl,Ak _ _ _ _,by simp,r.below hb,Turned.of_below hb,rfl,rfl,rfl,rfl⟩
  .rintro e b ⟨vx,v',c,a,C,o,rfl,B,q,⟨s,I,y,z⟩,L,H⟩;subst s I;rw[y,z]at q;refine⟨vx,rfl,?_,jh (rs:=rs) A (S:=λ_=>False) (λ_ e=>e.elim) q (l.more (by omega)) L H (λ_ e=>.inl e) (λ_ e=>.inl e)⟩;simpa using B
 rw[if_neg hr]
 by_cases hh:st.x.m1<t+st.x.hi
 .have Qr:rs.x.m1<t+rs.x.hi:=by rw[l.m1,l.hi];omega
  have V7:rs.x.R0.length<300:=by have:=λe=>hr ⟨hh,e⟩;omega
  refine(kG 0 0 k t u W hA (λg=>g=bj∨f.ownBlock=some g) (λC o c a=>∃E:List Hl,E.Perm rs.x.R1/\nN E/\C=bU rs.x.mode 0 k t u ((E.filter (eF k (t+rs.x.lo) (t+rs.x.hi))).map fE)/\o={ rs.x with R1:=rs.x.R1.map λh=>if eF k (t+rs.x.lo) (t+rs.x.hi) h=true then kN h else h,R0:=rs.x.R0++[⟨k,t,u,(E.filter (eF k (t+rs.x.lo) (t+rs.x.hi))).length,rs.x.came+1⟩],came:=rs.x.came+1}/\a=f/\dF W i c) Z (.inl ⟨rfl,.inl rfl,rfl,rfl,by omega,by omega⟩) (λg e=>e.elim .inl (λe=>.inr (.inr e))) (λK p r=>((Qd k t u K r F w p1 p2 p3 p4 (by omega) (by omega) (by omega)).1 Qr V7).mono ?_)).mono ?_
  .rintro e b ⟨vx,c,a,E,rfl,G,Q,T,Y,ht,N,m⟩;exact⟨vx,c,a,_,_,rfl,T,jV G (by omega),Y,ht,E,G,Q,rfl,rfl,N,mZ m p⟩
  .rintro e b ⟨vx,v',c,a,C,o,rfl,B,q,⟨E,G,Q,s,I,N,m⟩,L,H⟩;have X:=l.hold0 U hn k t u hh G Q;rw[X.1]at s;subst s I;refine⟨vx,rfl,by simpa using B,jh (rs:=⟨_,_,_,_⟩) A (S:=λg=>g=bj∨f.ownBlock=some g) (λg e=>e.elim (λe=>(A g).2 (.inr (.inl e))) (λe=>(A g).2 (.inr (.inr (.inr (.inr e)))))) q X.2 L H (pR m) (λg e=>.inl (N ▸ e))⟩
 .have Qr:¬rs.x.m1<t+rs.x.hi:=by rw[l.m1,l.hi];omega
  refine(kG 0 0 k t u W hA (λg=>g=bj∨f.ownBlock=some g) (λC o c a=>∃E:List Hl,E.Perm rs.x.R1/\nN E/\C=bU rs.x.mode 0 k t u ((E.filter (eF k (t+rs.x.lo) (t+rs.x.hi))).map fE)/\o={ rs.x with R1:=rs.x.R1.map λh=>if eF k (t+rs.x.lo) (t+rs.x.hi) h=true then kN h else h}/\a=f/\dF W i c) Z (.inl ⟨rfl,.inl rfl,rfl,rfl,by omega,by omega⟩) (λg e=>e.elim .inl (λe=>.inr (.inr e))) (λK p r=>((Qd k t u K r F w p1 p2 p3 p4 (by omega) (by omega) (by omega)).2 Qr).mono ?_)).mono ?_
  .rintro e b ⟨vx,c,a,E,rfl,G,Q,T,Y,ht,N,m⟩;exact⟨vx,c,a,_,_,rfl,T,jV G (by omega),Y,ht,E,G,Q,rfl,rfl,N,mZ m p⟩
  .rintro e b ⟨vx,v',c,a,C,o,rfl,B,q,⟨E,G,Q,s,I,N,m⟩,L,H⟩;have X:=l.pass0 U hn k t u hh G Q;rw[X.1]at s;subst s I;refine⟨vx,rfl,by simpa using B,jh (rs:=⟨_,_,_,_⟩) A (S:=λg=>g=bj∨f.ownBlock=some g) (λg e=>e.elim (λe=>(A g).2 (.inr (.inl e))) (λe=>(A g).2 (.inr (.inr (.inr (.inr e)))))) q X.2 L H (pR m) (λg e=>.inl (N ▸ e))⟩
def Di(st:Sx)(k t u:Int):List Ch:=if(st.feed1 k t u).1=0 then qd st.x ⟨k,t,u⟩else[]
theorem En(h:RE d rs P W)(l:dN n st rs)(U:dH n st)(hn:n<=1600)(k t u:Int):
  Calls Tryz.prog 10 #[.pointer (some ⟨d,0,none⟩),.int .i64 1,.agg #[.int .i64 k,.int .i64 t,.int .i64 u]] W λe b=>∃vx,e=.returned (.tuple #[vx,.int .i64 (st.feed1 k t u).1])/\b.ownsRow W.heap.size 95 10 vx (Di st k t u).length ((Di st k t u).flatMap aQ)/\Ol d (n+1) (st.feed1 k t u).2 P W b:=by
 obtain⟨bj,v,i,f,hA,A⟩:=h;have V:=U.jok hn
 have Z:rs.M.length<=900000:=by rw[l.v.length_eq];have:=U.len hn;omega
 have hff:=U.f1;have hlt:=U.late;have hcm:=l.cm;have e0:=l.r0.len;have e1:=l.r1.len;have q0:=V.l0;have q1:=V.l1;have p1:=V.lo1;have p2:=V.lo2;have p3:=V.hi1;have p4:=V.hi2;rw[<-l.lo]at p1 p2;rw[<-l.hi]at p3 p4;have hf:=l.f1;unfold Di Sx.feed1
 by_cases hg:au k t u=false
 .rw[if_pos hg];refine(kG 1 1 k t u W hA (λ_=>False) (λC o c a=>C=[]/\o=rs.x/\c=i/\a=f) Z (.inr (.inr ⟨.inl rfl,rfl,rfl⟩)) (λ_ e=>e.elim) (λK p r=>(aat 1 rfl k t u K r hg).mono ?_)).mono ?_
  .rintro e b ⟨rfl,hb⟩;exact⟨_,i,f,[],rs.x,rfl,Ak _ _ _ _,by simp,r.below hb,Turned.of_below hb,rfl,rfl,rfl,rfl⟩
  .rintro e b ⟨vx,v',c,a,C,o,rfl,B,q,⟨s,I,y,z⟩,L,H⟩;subst s I;rw[y,z]at q;refine⟨vx,rfl,?_,jh (rs:=rs) A (S:=λ_=>False) (λ_ e=>e.elim) q (l.more (by omega)) L H (λ_ e=>.inl e) (λ_ e=>.inl e)⟩;simpa using B
 rw[if_neg hg]
 have F:au k t u=true:=by simpa using hg
 by_cases hl:t<=st.x.m1
 .rw[if_pos hl]
  have w:t<=rs.x.m1:=by rw[l.m1];exact hl
  refine(kG 1 10 k t u W hA (λg=>g=bj) (λC o c a=>C=[]/\o={ rs.x with late:=rs.x.late+1}/\c=i/\a=f) Z (.inr (.inl ⟨rfl,.inr rfl,rfl,rfl,by omega,by omega⟩)) (λg e=>.inl e) (λK p r=>((aao 1 k t u K r F).1 (.inr ⟨rfl,w⟩) (by rw[l.late];omega) (by rw[l.late];omega)).mono ?_)).mono ?_
  .rintro e b ⟨rfl,Y,hgr⟩;exact⟨_,i,f,[],_,rfl,Ak _ _ _ _,by simp,Y,Turned.of_grown hgr (λk e=>by cases e;rfl),rfl,rfl,rfl,rfl⟩
  .rintro e b ⟨vx,v',c,a,C,o,rfl,B,q,⟨s,I,y,z⟩,L,H⟩;subst s I;rw[y,z]at q;refine⟨vx,rfl,?_,jh (rs:=⟨{ rs.x with late:=rs.x.late+1},rs.M,rs.f0,rs.f1+1⟩) A (S:=λg=>g=bj) (λg e=>(A g).2 (.inr (.inl e))) q (l.late1 U hn) L H (λ_ e=>.inl e) (λ_ e=>.inl e)⟩;simpa using B
 rw[if_neg hl]
 have w:¬t<=rs.x.m1:=by rw[l.m1];exact hl
 by_cases hr:st.x.m0<t+ -st.x.lo/\300<=st.x.R1.length
 .rw[if_pos hr]
  have Qr:rs.x.m0<t -rs.x.lo:=by have:=hr.1;rw[l.m0,l.lo];omega
  refine(kG 1 12 k t u W hA (λ_=>False) (λC o c a=>C=[]/\o=rs.x/\c=i/\a=f) Z (.inr (.inr ⟨.inr rfl,rfl,rfl⟩)) (λ_ e=>e.elim) (λK p r=>((aao 1 k t u K r F).2 p1 p2 p3 p4 (.inr ⟨rfl,w,Qr,by omega⟩)).mono ?_)).mono ?_
  .rintro e b ⟨rfl,hb⟩;exact⟨_,i,f,[],rs.x,rfl,Ak _ _ _ _,by simp,r.below hb,Turned.of_below hb,rfl,rfl,rfl,rfl⟩
  .rintro e b ⟨vx,v',c,a,C,o,rfl,B,q,⟨s,I,y,z⟩,L,H⟩;subst s I;rw[y,z]at q;refine⟨vx,rfl,?_,jh (rs:=rs) A (S:=λ_=>False) (λ_ e=>e.elim) q (l.more (by omega)) L H (λ_ e=>.inl e) (λ_ e=>.inl e)⟩;simpa using B
 rw[if_neg hr]
 by_cases hh:st.x.m0<t+ -st.x.lo
 .have Qr:rs.x.m0<t -rs.x.lo:=by rw[l.m0,l.lo];omega
  have V7:rs.x.R1.length<300:=by have:=λe=>hr ⟨hh,e⟩;omega
  refine(kG 1 0 k t u W hA (λg=>g=bj∨i.ownBlock=some g) (λC o c a=>∃E:List Hl,E.Perm rs.x.R0/\nN E/\C=bU rs.x.mode 1 k t u ((E.filter (eF k (t -rs.x.hi) (t -rs.x.lo))).map fE)/\o={ rs.x with R0:=rs.x.R0.map λh=>if eF k (t -rs.x.hi) (t -rs.x.lo) h=true then kN h else h,R1:=rs.x.R1++[⟨k,t,u,(E.filter (eF k (t -rs.x.hi) (t -rs.x.lo))).length,rs.x.came+1⟩],came:=rs.x.came+1}/\c=i/\dF W f a) Z (.inr (.inl ⟨rfl,.inl rfl,rfl,rfl,by omega,by omega⟩)) (λg e=>e.elim .inl (λe=>.inr (.inl e))) (λK p r=>((Qk k t u K r F w p1 p2 p3 p4 (by omega) (by omega) (by omega)).1 Qr V7).mono ?_)).mono ?_
  .rintro e b ⟨vx,c,a,E,rfl,G,Q,T,Y,ht,N,m⟩;exact⟨vx,c,a,_,_,rfl,T,jV G (by omega),Y,ht,E,G,Q,rfl,rfl,N,mZ m p⟩
  .rintro e b ⟨vx,v',c,a,C,o,rfl,B,q,⟨E,G,Q,s,I,N,m⟩,L,H⟩;have X:=l.hold1 U hn k t u hh G Q;rw[X.1]at s;subst s I;refine⟨vx,rfl,by simpa using B,jh (rs:=⟨_,_,_,_⟩) A (S:=λg=>g=bj∨i.ownBlock=some g) (λg e=>e.elim (λe=>(A g).2 (.inr (.inl e))) (λe=>(A g).2 (.inr (.inr (.inr (.inl e)))))) q X.2 L H (λg e=>.inl (N ▸ e)) (pR m)⟩
 .have Qr:¬rs.x.m0<t -rs.x.lo:=by rw[l.m0,l.lo];omega
  refine(kG 1 0 k t u W hA (λg=>g=bj∨i.ownBlock=some g) (λC o c a=>∃E:List Hl,E.Perm rs.x.R0/\nN E/\C=bU rs.x.mode 1 k t u ((E.filter (eF k (t -rs.x.hi) (t -rs.x.lo))).map fE)/\o={ rs.x with R0:=rs.x.R0.map λh=>if eF k (t -rs.x.hi) (t -rs.x.lo) h=true then kN h else h}/\c=i/\dF W f a) Z (.inr (.inl ⟨rfl,.inl rfl,rfl,rfl,by omega,by omega⟩)) (λg e=>e.elim .inl (λe=>.inr (.inl e))) (λK p r=>((Qk k t u K r F w p1 p2 p3 p4 (by omega) (by omega) (by omega)).2 Qr).mono ?_)).mono ?_
  .rintro e b ⟨vx,c,a,E,rfl,G,Q,T,Y,ht,N,m⟩;exact⟨vx,c,a,_,_,rfl,T,jV G (by omega),Y,ht,E,G,Q,rfl,rfl,N,mZ m p⟩
  .rintro e b ⟨vx,v',c,a,C,o,rfl,B,q,⟨E,G,Q,s,I,N,m⟩,L,H⟩;have X:=l.pass1 U hn k t u hh G Q;rw[X.1]at s;subst s I;refine⟨vx,rfl,by simpa using B,jh (rs:=⟨_,_,_,_⟩) A (S:=λg=>g=bj∨i.ownBlock=some g) (λg e=>e.elim (λe=>(A g).2 (.inr (.inl e))) (λe=>(A g).2 (.inr (.inr (.inr (.inl e)))))) q X.2 L H (λg e=>.inl (N ▸ e)) (pR m)⟩
theorem Qs{T:List D}(g:eY R T)(h:∀y∈T,au y.k y.t y.v=true/\0<=y.n/\y.n<=9223372036854775807):∀y∈R,-1099511627776<=y.t/\y.t<=1099511627776:=by
 obtain⟨E,p,_,rfl⟩:=g;intro y e;exact(dI (r:=⟨y.k,y.t,y.v⟩) (h (fE y) (oz.2 ⟨y,p.symm.subset e,rfl⟩)).1).2.1
theorem nM.turn{l:RJ}(h:nM W d bj v i f x M f0 f1)(q:dh b 0 bj c a l)(o:W.grownBy b (some bj)):nM b d bj v c a l M f0 f1:=by
 have k:d≠bj:=λe=>by
  have m:=h.bag.blk;rw[e,h.join.blk]at m;cases m
 refine⟨⟨(o.block d h.bag.lt (λe=>k (Option.some.inj e))).trans h.bag.blk,ag h.bag.row (λg e=>o.block g (h.bag.row.lt g e).2 (λr=>?_))⟩,q⟩;have p:=Option.some.inj r;exact dZ h.bag.row h.join.blk (by decide) (p ▸ e)
theorem oC(h:nM W d bj v i f x M f0 f1):W.cell? ⟨d,0,none⟩=some (.pointer (some ⟨bj,0,none⟩)):=by
 rw[vE h.bag.blk];rfl
theorem Kb(s:Int):iG 0 1 s=bM s:=by
 unfold iG bM
 by_cases h0:s=0
 .subst h0;rfl
 .by_cases h1:s=1
  .subst h1;rfl
  .have e:(s==0)=false:=by simpa using h0
   have g:(s==1)=false:=by simpa using h1
   rw[e,g]
   by_cases h2:0<=s
   .have h:¬s<=1:=by omega
    simp[h2,h]
   .simp[h2]
theorem JQ(o:nM W d bj v i f rs.x rs.M rs.f0 rs.f1)(w:∀k,P k↔(k=d∨k=bj∨v.ownBlock=some k∨i.ownBlock=some k∨f.ownBlock=some k))(h:dN n st rs)(H:dH n st)(I:n<=1600)(s tm:Int):
  Calls Tryz.prog 16 #[.pointer (some ⟨bj,0,none⟩),.int .i64 s,.int .i64 tm] W λe b=>e=.returned (.int .i64 (st.move s tm).1)/\b.cell? ⟨d,0,none⟩=some (.pointer (some ⟨bj,0,none⟩))/\Ol d n (st.move s tm).2 P W b:=by
 have z:RE d rs P W:=⟨bj,v,i,f,o,w⟩;have r:=H.jok I;have t:=H.sv I;have e0:=h.r0.len;have e1:=h.r1.len;have q0:=r.l0;have q1:=r.l1;have G:=r.lo1;have F:=r.lo2;have A:=r.hi1;have C:=r.hi2;rw[<-h.lo]at G F;rw[<-h.hi]at A C;unfold Sx.move
 by_cases hs:bM s=false
 .have l:moveE st.x.m0 st.x.m1 s tm=1:=by unfold moveE;rw[if_pos hs]
  rw[l,if_pos (by decide)];refine(IP bj s tm W (by rw[Kb];exact hs)).mono ?_;rintro e b ⟨rfl,p⟩;rw[p];exact⟨rfl,oC o,z.same h (zI _ _)⟩
 have q:bM s=true:=by simpa using hs
 by_cases hr:tm < -1099511627776∨1099511627776<tm
 .have l:moveE st.x.m0 st.x.m1 s tm=2:=by unfold moveE;rw[if_neg hs,if_pos hr]
  rw[l,if_pos (by decide)];refine(FC bj s tm W (by rw[Kb];exact q) ?_).mono ?_
  .unfold iG
   rcases hr with g|g
   .rw[o9 (by omega)];rfl
   .rw[o9 (by omega:¬tm<=1099511627776)];simp
  rintro e b ⟨rfl,p⟩;rw[p];exact⟨rfl,oC o,z.same h (zI _ _)⟩
 have u:iG (-1099511627776) 1099511627776 tm=true:=by
  unfold iG;rw[sS (by omega),sS (by omega)];rfl
 rcases(show s=0∨s=1 by unfold bM at q;simpa using q)with rfl|rfl
 .by_cases hb:tm<st.x.m0
  .have l:moveE st.x.m0 st.x.m1 0 tm=10:=by unfold moveE;rw[if_neg hs,if_neg hr,if_pos (by unfold kW;rw[if_pos rfl];exact hb)]
   rw[l,if_pos (by decide)];refine(FD tm W o.join u (by rw[h.m0];exact hb)).mono ?_;rintro e b ⟨rfl,p⟩;exact⟨rfl,oC (o.below p),z.same h p⟩
  .have l:moveE st.x.m0 st.x.m1 0 tm=0:=by unfold moveE;rw[if_neg hs,if_neg hr,if_neg (by unfold kW;rw[if_pos rfl];exact hb)]
   rw[l,if_neg (by decide),if_pos rfl];refine((aaL tm W o.join (by omega) (by omega) G F A C).1 (by rw[h.m0];exact hb) (by omega) (Qs h.r1 t.g1)).mono ?_;rintro e b ⟨rfl,K,E,y,B⟩;have m:=o.turn E y;exact⟨rfl,oC m,jh (rs:=⟨_,_,_,_⟩) w (S:=λg=>g=bj) (λg e=>(w g).2 (.inr (.inl e))) m (h.move0 tm) (Turned.of_grown y (λk e=>by cases e;exact .inr (.inr rfl))) (.inl rfl) (λ_ e=>.inl e) (λg e=>.inr (B g e))⟩
 .by_cases hb:tm<st.x.m1
  .have l:moveE st.x.m0 st.x.m1 1 tm=10:=by unfold moveE;rw[if_neg hs,if_neg hr,if_pos (by unfold kW;rw[if_neg (by decide),if_pos rfl];exact hb)]
   rw[l,if_pos (by decide)];refine(FE tm W o.join u (by rw[h.m1];exact hb)).mono ?_;rintro e b ⟨rfl,p⟩;exact⟨rfl,oC (o.below p),z.same h p⟩
  .have l:moveE st.x.m0 st.x.m1 1 tm=0:=by unfold moveE;rw[if_neg hs,if_neg hr,if_neg (by unfold kW;rw[if_neg (by decide),if_pos rfl];exact hb)]
   rw[l,if_neg (by decide),if_neg (by decide)];refine((aaL tm W o.join (by omega) (by omega) G F A C).2 (by rw[h.m1];exact hb) (by omega) (Qs h.r0 t.g0)).mono ?_;rintro e b ⟨rfl,K,E,y,B⟩;have m:=o.turn E y;exact⟨rfl,oC m,jh (rs:=⟨_,_,_,_⟩) w (S:=λg=>g=bj) (λg e=>(w g).2 (.inr (.inl e))) m (h.move1 tm) (Turned.of_grown y (λk e=>by cases e;exact .inr (.inr rfl))) (.inl rfl) (λg e=>.inr (B g e)) (λ_ e=>.inl e)⟩
end
section
open Go.Proofs.Tryz Go.Joins
variable{a:Int}
theorem jw(n:Int):aa [n]=Lib.itoa n:=by
 unfold aa;rw[List.map_cons,Lib.join_cons];simp[Lib.joinTail]
theorem fB(ns:List Int)(f:∀n∈ns,af n)(h:ns.length<=1000)(w:World)(d:jP w)(g:Nat)(W:World)(c:Below w.heap.size w W)(b:W.heap[g]?=some (.cells (ns.map (Value.int .i64)).toArray 3)):
  Calls prog 54 #[.slice (some ⟨g,0,none⟩) ns.length ns.length] W λe i=>e=.returned (sV (aa ns))/\Below W.heap.size W i:=
 jW ns g 0 ns.length W (aG d c) f (aD.1 b).1 (BS b) h
theorem yX(c:af a):∀n∈[a],af n:=by
 intro n b;simp at b;rw[b];exact c
theorem yY{b c:Int}(e:af a)(f:af b)(g:af c):∀n∈[a,b,c],af n:=by
 intro n d;simp at d
 rcases d with rfl|rfl|rfl
 .exact e
 .exact f
 .exact g
theorem oQ(o:O)(w:World)(R:jP w)(g:Fits o):Calls prog 151 #[vO o] w λe r=>e=.returned (.string ⟨(aW o).toArray⟩)/\Below w.heap.size w r:=by
 have B:Below w.heap.size w (w.alloc (tq o)):=wh _ _;have j:=vw w (tq o)
 have Q:w.heap.size<(w.alloc (tq o)).heap.size:=by simp
 obtain⟨d,hw1⟩:∃d,d=w.alloc (tq o):=⟨_,rfl⟩;rw[<-hw1]at B j Q
 have t:Hid (∀W,Below d.heap.size d W->Below w.heap.size w W):=λW K=>B.trans (K.mono B.size)
 have E:Hid (∀a V,af a->Below d.heap.size d V->Calls prog 54 #[.slice (some ⟨V.heap.size,0,none⟩) 1 1] (V.alloc (.cells #[.int .i64 a] 3)) λe r=>e=.returned (.string ⟨(Lib.itoa a).toArray⟩)/\Below d.heap.size d r):=λa V ha x=>by
  have s:Below d.heap.size d (V.alloc (.cells #[.int .i64 a] 3)):=x.alloc x.size _;have:=fB [a] (yX ha) (by simp) w R V.heap.size _ (t.out _ s) (vw V (.cells #[.int .i64 a] 3));rw[jw]at this
  exact this.mono λe r h=>⟨h.1,s.trans (h.2.mono s.size)⟩
 have C:Hid (∀a b V,af a/\af b->Below d.heap.size d V->Calls prog 54 #[.slice (some ⟨V.heap.size,0,none⟩) 2 2] (V.alloc (.cells #[.int .i64 a,.int .i64 b] 3)) λe r=>e=.returned (.string ⟨(aa [a,b]).toArray⟩)/\Below d.heap.size d r):=λa b V S x=>by
  have s:Below d.heap.size d (V.alloc (.cells #[.int .i64 a,.int .i64 b] 3)):=x.alloc x.size _
  exact(fB [a,b] (ku S.1 S.2) (by simp) w R V.heap.size _ (t.out _ s) (vw V (.cells #[.int .i64 a,.int .i64 b] 3))).mono λe r h=>⟨h.1,s.trans (h.2.mono s.size)⟩
 have m:Hid (∀W,Below d.heap.size d W->iH w.heap.size o W):=λW K=>Gw ((K.block _ Q).trans j)
 have z:=hid g.k;have I:Hid (af o.lt/\af o.lv):=⟨g.lt,g.lv⟩;have F:Hid (af o.rt/\af o.rv):=⟨g.rt,g.rv⟩;have u:=Lib.itoa_length_le o.k g.k.1 g.k.2;have p:=jX o.hl o.lt o.lv g.lt g.lv;have n:=jX o.hr o.rt o.rv g.rt g.rv;obtain⟨k,lk,lt,lv,rk,rt,rv,T,H⟩:=o;simp only at m z I F u p n hw1;have A:Hid (Below d.heap.size d d):=zI _ _;have c1:iH w.heap.size ⟨k,lk,lt,lv,rk,rt,rv,T,H⟩ d:=m.out _ (zI _ _);clear g R B j Q;simp only[iH]at m c1;simp only[vO];cases T
 .cases H
  .have N:¬9223372036854775807<(Lib.itoa k).length+2:=by omega
   have M:¬9223372036854775807<(Lib.itoa k).length+2+1:=by omega
   have G:¬9223372036854775807<(Lib.itoa k).length+2+1+1:=by omega
   have L:¬9223372036854775807<(Lib.itoa k).length+2+1+1+1:=by omega
   clear u p n;go_enter func151,ntmps151
   go_upto_region 2 with fail
   rw[<-hw1];clear hw1
   go_wp2_with (first
    |(go_at_call 54;refine(E.out _ _ z.out A.out).mono ?_;rintro e P ⟨rfl,c⟩;have l:=hid c;clear c)
    |fail)
   go_ret;refine⟨?_,t.out _ l.out⟩;congr 2
  .have i:kZ true rt rv=aa [rt,rv]:=rfl;rw[i]at n
   have N:¬9223372036854775807<(Lib.itoa k).length+2:=by omega
   have M:¬9223372036854775807<(Lib.itoa k).length+2+1:=by omega
   have G:¬9223372036854775807<(Lib.itoa k).length+2+1+1:=by omega
   have L:¬9223372036854775807<(Lib.itoa k).length+2+1+1+(aa [rt,rv]).length:=by omega
   clear u p n i;go_enter func151,ntmps151
   go_upto_region 2 with fail
   rw[<-hw1];clear hw1
   go_wp2_with (first
    |(go_at_call 54;first
     |(have q:=l;refine(E.out _ _ z.out q.out).mono ?_;rintro e X ⟨rfl,f⟩;have y:=hid f;clear f)
     |(refine(C.out _ _ _ F.out A.out).mono ?_;rintro e P ⟨rfl,c⟩;have l:=hid c;have Y:=m.out _ c;clear c))
    |fail)
   go_ret;refine⟨?_,t.out _ y.out⟩;congr 2
 .cases H
  .have i:kZ true lt lv=aa [lt,lv]:=rfl;rw[i]at p
   have N:¬9223372036854775807<(Lib.itoa k).length+2:=by omega
   have M:¬9223372036854775807<(Lib.itoa k).length+2+(aa [lt,lv]).length:=by omega
   have G:¬9223372036854775807<(Lib.itoa k).length+2+(aa [lt,lv]).length+1:=by omega
   have L:¬9223372036854775807<(Lib.itoa k).length+2+(aa [lt,lv]).length+1+1:=by omega
   clear u p n i;go_enter func151,ntmps151
   go_upto_region 2 with fail
   rw[<-hw1];clear hw1
   go_wp2_with (first
    |(go_at_call 54;first
     |(have q:=l;refine(E.out _ _ z.out q.out).mono ?_;rintro e X ⟨rfl,f⟩;have y:=hid f;clear f)
     |(refine(C.out _ _ _ I.out A.out).mono ?_;rintro e P ⟨rfl,c⟩;have l:=hid c;have Y:=m.out _ c;clear c))
    |fail)
   go_ret;refine⟨?_,t.out _ y.out⟩;congr 2
  .have i:kZ true lt lv=aa [lt,lv]:=rfl;have U:kZ true rt rv=aa [rt,rv]:=rfl;rw[i]at p;rw[U]at n
   have N:¬9223372036854775807<(Lib.itoa k).length+2:=by omega
   have M:¬9223372036854775807<(Lib.itoa k).length+2+(aa [lt,lv]).length:=by omega
   have G:¬9223372036854775807<(Lib.itoa k).length+2+(aa [lt,lv]).length+1:=by omega
   have L:¬9223372036854775807<(Lib.itoa k).length+2+(aa [lt,lv]).length+1+(aa [rt,rv]).length:=by omega
   clear u p n i U;go_enter func151,ntmps151
   go_upto_region 2 with fail
   rw[<-hw1];clear hw1
   go_wp2_with (first
    |(go_at_call 54;first
     |(have q:=y;refine(E.out _ _ z.out q.out).mono ?_;rintro e w4 ⟨rfl,v⟩;have Z:=hid v;clear v)
     |(have q:=l;refine(C.out _ _ _ F.out q.out).mono ?_;rintro e X ⟨rfl,f⟩;have y:=hid f;have c3:=m.out _ f;clear f)
     |(refine(C.out _ _ _ I.out A.out).mono ?_;rintro e P ⟨rfl,c⟩;have l:=hid c;have Y:=m.out _ c;clear c))
    |fail)
   go_ret;refine⟨?_,t.out _ Z.out⟩;congr 2
end
section
open Go.Joins
variable{a f0 f1 b c:Int}{α:Type}{w W p d w5:World}{m:Value}{g cap n:Nat}{ns:List Int}
def nK(lo hi mode f0 f1 late m0 m1:Int):List UInt8:=[112,108,97,110,32]++aa [lo,hi,mode]++[10,102,101,100,32]++aa [f0,f1,late]++[10,109,97,114,107,115,32]++aa [m0,m1]++[10]
def ed(s:Int)(y:Hl):List UInt8:=[114,111,119,32]++aa [s,y.k,y.t,y.v,y.met]++[10]
def Tg(o:O):Int:=gY o.hl+2*gY o.hr
def kX(o:O):List UInt8:=[111,117,116,32]++aa (Tg o::dV o)++[10]
def FI(x:RJ)(f0 f1:Int)(E0 E1:List Hl)(Z:List O):List UInt8:=nK x.lo x.hi x.mode f0 f1 x.late x.m0 x.m1++E0.flatMap (ed 0)++E1.flatMap (ed 1)++Z.flatMap kX++[101,110,100,10]
structure Ym(x:RJ)(M:List O)(f0 f1:Int):Prop where
 lo:af x.lo
 hi:af x.hi
 mode:af x.mode
 f0:af f0
 f1:af f1
 late:af x.late
 m0:af x.m0
 m1:af x.m1
 r0:∀y∈x.R0,af y.k/\af y.t/\af y.v/\af y.met
 r1:∀y∈x.R1,af y.k/\af y.t/\af y.v/\af y.met
 l0:x.R0.length<=300
 l1:x.R1.length<=300
 o:∀o∈M,(o.hl=true∨o.hr=true)/\(af o.lk/\af o.lt/\af o.lv)/\(af o.rk/\af o.rt/\af o.rv)
 lm:M.length<=1000000
theorem aB{l:List Int}(h:af a)(i:∀n∈l,af n):∀n∈a::l,af n:=by
 intro n f
 rcases qh.1 f with e|e
 .rw[e];exact h
 .exact i n e
theorem kS:∀n∈([]:List Int),af n:=λn e=>by cases e
theorem sI(s:Int)(e:af s)(y:Hl)(h:af y.k/\af y.t/\af y.v/\af y.met):∀n∈[s,y.k,y.t,y.v,y.met],af n:=aB e (aB h.1 (aB h.2.1 (aB h.2.2.1 (aB h.2.2.2 kS))))
theorem FJ(s:Int)(e:af s)(y:Hl)(h:af y.k/\af y.t/\af y.v/\af y.met):(ed s y).length<=200:=by
 have:=bL _ (sI s e y h);unfold ed;simp only[List.length_append,List.length_cons,List.length_nil]at this⊢;omega
theorem xe(f:α->List UInt8)(c:Nat):∀(E:List α),(∀a∈E,(f a).length<=c)->(E.flatMap f).length<=E.length*c
 |[],_=>by simp
 |a::E,h=>by
  have h1:=h a (by simp);have h2:=xe f c E (λb e=>h b (by simp[e]));rw[List.flatMap_cons,List.length_append,List.length_cons,Nat.add_mul];omega
theorem uJ(f:α->List UInt8)(E:List α)(q:Nat)(y:α)(h:E[q]?=some y):(E.take (q+1)).flatMap f=(E.take q).flatMap f++f y:=by
 rw[List.take_add_one,h];simp
theorem Mf(o:O)(h:(af o.lk/\af o.lt/\af o.lv)/\(af o.rk/\af o.rt/\af o.rv)):(∀n∈dV o,af n)/\(dV o).length<=6:=by
 unfold dV;obtain⟨⟨f,l,k⟩,e,j,i⟩:=h
 cases o.hl <;>cases o.hr
 .exact⟨kS,by simp⟩
 .exact⟨aB e (aB j (aB i kS)),by simp⟩
 .exact⟨aB f (aB l (aB k kS)),by simp⟩
 .exact⟨aB f (aB l (aB k (aB e (aB j (aB i kS))))),by simp⟩
theorem Ti(o:O):af (Tg o):=by
 unfold Tg gY
 cases o.hl <;>cases o.hr <;>exact⟨by decide,by decide⟩
theorem Qt(o:O)(h:(af o.lk/\af o.lt/\af o.lv)/\(af o.rk/\af o.rt/\af o.rv)):(kX o).length<=200:=by
 have e:=Mf o h;have:=bL _ (aB (Ti o) e.1);unfold kX;simp only[List.length_append,List.length_cons,List.length_nil]at this⊢;have:=e.2;omega
theorem Mg{lo hi mode late e m1:Int}(j:af lo)(h:af hi)(i:af mode)(q:af f0)(f:af f1)(l:af late)(k:af e)(o:af m1):(aa [lo,hi,mode]).length<=66/\(aa [f0,f1,late]).length<=66/\(aa [e,m1]).length<=44/\(nK lo hi mode f0 f1 late e m1).length<=200:=by
 have a:=bL _ (yY j h i);have b:=bL _ (yY q f l);have c:=bL _ (ku k o);unfold nK;simp only[List.length_append,List.length_cons,List.length_nil]at a b c⊢;exact⟨a,b,c,by omega⟩
def Bv(t:List UInt8):Value:=if 60000<t.length then .tuple #[.string ⟨#[]⟩,.int .i64 4]else .tuple #[sV t,.int .i64 0]
def Qu(w:World)(x:RJ)(M:List O)(f0 f1:Int)(e:Ending)(w':World):Prop:=
 ∃(E0 E1:List Hl) (Z:List O),E0.Perm x.R0/\E0.Pairwise (λa b=>rY b a=false)/\E1.Perm x.R1/\E1.Pairwise (λa b=>rY b a=false)/\Z.Perm M/\bJ Z/\e=.returned (Bv (FI x f0 f1 E0 E1 Z))/\Below w.heap.size w w'
def Tj(x:RJ)(f0 f1:Int)(i:Nat)(t:List UInt8):Prop:=
 (i=0/\t=nK x.lo x.hi x.mode f0 f1 x.late x.m0 x.m1)∨
 (i=1/\∃E0:List Hl,E0.Perm x.R0/\E0.Pairwise (λa b=>rY b a=false)/\t=nK x.lo x.hi x.mode f0 f1 x.late x.m0 x.m1++E0.flatMap (ed 0))∨
 (i=2/\∃E0 E1:List Hl,E0.Perm x.R0/\E0.Pairwise (λa b=>rY b a=false)/\E1.Perm x.R1/\E1.Pairwise (λa b=>rY b a=false)/\t=nK x.lo x.hi x.mode f0 f1 x.late x.m0 x.m1++E0.flatMap (ed 0)++E1.flatMap (ed 1))
structure Tk(w:World)(E:List Hl)(m:Value)(W:World):Prop where
 low:Below w.heap.size w W
 row:W.ownsRow w.heap.size 117 5 m E.length (E.flatMap bz)
theorem Tk.go{E:List Hl}(h:Tk w E m W)(f:Below W.heap.size W p):Tk w E m p:=
 ⟨h.low.trans (f.mono h.low.size),ag h.row (λg e=>f.block g (h.row.lt g e).2)⟩
theorem FK{base q:Nat}{C:List Hl}{y:Hl}(h:W.ownsRow base 117 5 (.slice (some ⟨g,0,none⟩) n cap) n (C.flatMap bz))(hn:C.length=n)(f:C[q]?=some y):W.cell? ⟨g,q*5,none⟩=some (.int .i64 y.k)/\W.cell? ⟨g,q*5+1,none⟩=some (.int .i64 y.t)/\W.cell? ⟨g,q*5+2,none⟩=some (.int .i64 y.v)/\W.cell? ⟨g,q*5+3,none⟩=some (.int .i64 y.met)/\W.cell? ⟨g,q*5+4,none⟩=some (.int .i64 y.came):=by
 have hl:q<C.length:=(kH.1 f).1
 have e:∀j,j<5->W.cell? ⟨g,q*5+j,none⟩=(bz y)[j]? :=λj i=>by
  rw[h.cellAt (q*5+j) (by omega),cB bz 5 fM C q j y f i]
 exact⟨e 0 (by omega),e 1 (by omega),e 2 (by omega),e 3 (by omega),e 4 (by omega)⟩
structure Tm(w:World)(Z:List O)(vz:Value)(W:World):Prop where
 low:Below w.heap.size w W
 row:W.ownsRow w.heap.size 89 9 vz Z.length (Z.flatMap ah)
theorem Tm.go{Z:List O}{f:Value}(h:Tm w Z f W)(i:Below W.heap.size W p):Tm w Z f p:=
 ⟨h.low.trans (i.mono h.low.size),ag h.row (λg e=>i.block g (h.row.lt g e).2)⟩
structure Lr(d:World)(ns:List Int)(m:Value)(W:World):Prop where
 low:Below d.heap.size d W
 row:W.ownsRow d.heap.size 3 1 m ns.length (ns.map (Value.int .i64))
theorem Lr.go(h:Lr d ns m W)(f:Below W.heap.size W p):Lr d ns m p:=
 ⟨h.low.trans (f.mono h.low.size),ag h.row (λg e=>f.block g (h.row.lt g e).2)⟩
theorem Kc(d:World)(o:Obj)(cs:Array Value):∀j u,cs.toList[j]?=some u->((d.alloc o).alloc (.cells cs 3)).cell? ((⟨d.heap.size+1,0,none⟩:Addr).add j)=some u:=by
 have:=World.news_of_block (vw (d.alloc o) (.cells cs 3));simpa using this
theorem oU:∀u∈ns.map (Value.int .i64),u.oneCell'=true:=by
 intro u e;obtain⟨n,_,rfl⟩:=oz.1 e;rfl
theorem sJ:∀u∈[(Value.int .i64 a),.int .i64 b,.int .i64 c],u.oneCell'=true:=oU (ns:=[a,b,c])
theorem yZ{o:Obj}{cs:Array Value}(f:w5.ownsRow d.heap.size 3 1 (.slice (some ⟨g,0,none⟩) (0+3) cap) (0+3) ([]++[.int .i64 a,.int .i64 b,.int .i64 c]))(h:((d.alloc o).alloc (.cells cs 3)).grownBy w5 (Value.slice none 0 0).ownBlock):Lr d [a,b,c] (.slice (some ⟨g,0,none⟩) 3 cap) w5:=
 ⟨((wh d o).alloc (by simp) _).grown h (by simp;omega) (λk e=>by simp[Value.ownBlock]at e),f⟩
theorem Tn(h:Lr d ns m W)(f:w5.ownsRow d.heap.size 3 1 (.slice (some ⟨g,0,none⟩) (ns.length+3) cap) (ns.length+3) (ns.map (Value.int .i64)++[.int .i64 a,.int .i64 b,.int .i64 c]))(i:W.grownBy w5 m.ownBlock):Lr d (ns++[a,b,c]) (.slice (some ⟨g,0,none⟩) (ns.length+3) cap) w5:=
 ⟨h.low.grown i h.low.size (λk e=>(h.row.lt k e).1),by rw[List.length_append,List.map_append];exact f⟩
theorem CV(h:Lr d ns (.slice (some ⟨g,0,none⟩) n cap) W):∀j u,(ns.map (Value.int .i64))[j]?=some u->W.cell? ((⟨g,0,none⟩:Addr).add j)=some u:=
 λj u e=>h.row.cells (g:=g) rfl j u e
theorem Tp{P:Program}{c:Code}{Q:Exit->Act->World->Prop}{a:Act}(h:∀f:Exit->Act->World->Prop,Hid (∀e a w,Q e a w->f e a w)->c.wp P f a w):c.wp P Q a w:=h Q (λ_ _ _ h=>h)
theorem heap_drew(W:World)(g:Nat):W.drew.heap[g]?=W.heap[g]? :=rfl
abbrev xh(be bj:Nat)(x:RJ)(f0 f1:Int)(W:World):Prop:=W.cell? ⟨be,0,none⟩=some (.pointer (some ⟨bj,0,none⟩))/\W.cell? ⟨be,2,none⟩=some (.int .i64 f0)/\W.cell? ⟨be,3,none⟩=some (.int .i64 f1)/\W.cell? ⟨bj,0,none⟩=some (.int .i64 x.lo)/\W.cell? ⟨bj,1,none⟩=some (.int .i64 x.hi)/\W.cell? ⟨bj,2,none⟩=some (.int .i64 x.mode)/\W.cell? ⟨bj,7,none⟩=some (.int .i64 x.late)/\W.cell? ⟨bj,5,none⟩=some (.int .i64 x.m0)/\W.cell? ⟨bj,6,none⟩=some (.int .i64 x.m1)
theorem Tq{be bj:Nat}{v f e:Value}{x:RJ}{M:List O}(h:nM W be bj v f e x M f0 f1):xh be bj x f0 f1 W:=by
 have a:=h.bag.blk;have b:=h.join.blk;refine⟨?_,?_,?_,?_,?_,?_,?_,?_,?_⟩
 .rw[vE a];rfl
 .rw[vE a];rfl
 .rw[vE a];rfl
 .rw[vE b];rfl
 .rw[vE b];rfl
 .rw[vE b];rfl
 .rw[vE b];rfl
 .rw[vE b];rfl
 .rw[vE b];rfl
end
end Go.Proofs.YthfpipieboophaaGreatDoor
