import Derived.Test.YthfpipieboophaaGreatDoorZRjl
import Derived.Test.YthfpipieboophaaGreatDoorZay
import Derived.Test.YthfpipieboophaaGreatDoorRjf
import Derived.Test.YthfpipieboophaaGreatDoorRjh
namespace Go.Proofs.YthfpipieboophaaGreatDoor
set_option maxRecDepth 100000
set_option maxHeartbeats 40000000
open Go.RowKit Go.Sort Go.Shelf
section
variable {R E:List Hl} {T:List D} {c:Int} {n:Nat} {st:Sx}
structure RS where
 x:RJ
 M:List O
 f0:Int
 f1:Int
abbrev nN (E:List Hl):Prop:=E.Pairwise (fun a b=>rY b a=false)
structure iP (R:List Hl) (c:Int):Prop where
 inc:R.Pairwise (fun a b=>a.came < b.came)
 le:∀h∈R,h.came<=c
def eY (R:List Hl) (T:List D):Prop:=∃E:List Hl,E.Perm R∧nN E∧T=E.map fE
theorem FH:∀{R:List Hl},R.Pairwise (fun a b=>a.came < b.came)->∀a∈R,∀b∈R,a.came=b.came->a=b
 | [],_,a,ha,_,_,_=>by simp at ha
 | x::R,h,a,ha,b,hb,e=>by
  rw[List.pairwise_cons] at h
  rcases List.mem_cons.1 ha with h1 | h1
  ·rcases List.mem_cons.1 hb with h2 | h2
   ·rw[h1,h2]
   ·have :=h.1 b h2;rw[h1] at e;omega
  ·rcases List.mem_cons.1 hb with h2 | h2
   ·have :=h.1 a h1;rw[h2] at e;omega
   ·exact FH h.2 a h1 b h2 e
theorem qD {E':List Hl} (hR:R.Pairwise (fun a b=>a.came < b.came)) (h1:E.Perm R) (h2:E'.Perm R) (o1:nN E) (o2:nN E'):E=E':=by
 refine List.Perm.eq_of_pairwise (le:=fun a b=>rY b a=false) (fun a b ha hb h3 h4=> ?_) o1 o2 (h1.trans h2.symm);rw[mW] at h3 h4;exact FH hR a (h1.subset ha) b (h2.subset hb) (by omega)
theorem eY.at (h:eY R T) (hR:R.Pairwise (fun a b=>a.came < b.came)) (h1:E.Perm R) (o1:nN E):T=E.map fE:=by
 obtain⟨E',p,o,rfl⟩:=h;rw[qD hR p h1 o o1]
theorem eY.len (h:eY R T):R.length=T.length:=by
 obtain⟨E,p,_,rfl⟩:=h;rw[List.length_map,p.length_eq]
theorem eY.nil:eY [] []:=⟨[],List.Perm.refl _,List.Pairwise.nil,rfl⟩
theorem oN (h:nN E):ay (E.map fE):=by
 unfold ay;rw[List.pairwise_map];refine h.imp ?_;intro a b hab;rw[mW] at hab;show a.k < b.k∨(a.k=b.k∧a.t<=b.t);omega
theorem Qp (k fr av:Int) (h:Hl):iB k fr av (fE h)=eF k fr av h:=by
 unfold iB eF iG fE
 by_cases h1:h.k=k
 ·by_cases h2:fr<=h.t
  ·by_cases h3:h.t<=av <;>simp[h1,h2,h3]
  ·simp[h1,h2]
 ·simp[h1]
theorem Qq (k fr av:Int) (E:List Hl):(E.map fE).filter (iB k fr av)=(E.filter (eF k fr av)).map fE:=by
 rw[List.filter_map];congr 1;congr 1
 funext h
 exact Qp k fr av h
theorem wZ (hs:eY R T) (hR:R.Pairwise (fun a b=>a.came < b.came)) (h1:E.Perm R) (o1:nN E) (k fr av:Int):bF k fr av T=(E.filter (eF k fr av)).map fE:=by
 rw[hs.at hR h1 o1,gM (oN o1),Qq]
def M8 (k fr av:Int) (h:Hl):Hl:=if eF k fr av h=true then kN h else h
theorem oO (k fr av:Int) (h:Hl):(M8 k fr av h).k=h.k∧(M8 k fr av h).t=h.t∧(M8 k fr av h).came=h.came:=by
 unfold M8
 split
 ·exact⟨rfl,rfl,rfl⟩
 ·exact⟨rfl,rfl,rfl⟩
theorem V6 (k fr av:Int) (a b:Hl):rY (M8 k fr av a) (M8 k fr av b)=rY a b:=by
 unfold rY;obtain⟨a1,a2,a3⟩:=oO k fr av a;obtain⟨b1,b2,b3⟩:=oO k fr av b;rw[a1,a2,a3,b1,b2,b3]
theorem eY.inc (hs:eY R T) (k fr av:Int) (hn:∀y∈T,0<=y.n∧y.n<=1000000):
  eY (R.map fun h=>if eF k fr av h=true then kN h else h) (fo T (aV k fr T) (bF k fr av T).length):=by
 obtain⟨E,p,o,rfl⟩:=hs;rw[gZ (oN o)];refine⟨E.map (M8 k fr av),p.map _,?_,?_⟩
 ·show(E.map (M8 k fr av)).Pairwise _;rw[List.pairwise_map];refine o.imp ?_;intro a b hab;rw[V6];exact hab
 ·rw[List.map_map,List.map_map]
  refine List.map_congr_left fun h hh=> ?_
  have hb:=hn (fE h) (List.mem_map.2 ⟨h,hh,rfl⟩);show(if iB k fr av (fE h)=true then sH (fE h) else fE h)=fE (M8 k fr av h);rw[Qp];unfold M8
  split
  ·show(⟨h.k,h.t,h.v,bR h.met⟩:D)=⟨h.k,h.t,h.v,wrap64 (h.met+1)⟩;have h1:0<=h.met∧h.met<=1000000:=hb
   have e1:bR h.met=h.met+1:=by unfold bR;rw[if_neg (by omega)]
   have e2:wrap64 (h.met+1)=h.met+1:=by unfold wrap64;omega
   rw[e1,e2]
  ·rfl
theorem iP.inc' (h:iP R c) (k fr av:Int):iP (R.map fun h=>if eF k fr av h=true then kN h else h) c:=by
 refine⟨?_,?_⟩
 ·show(R.map (M8 k fr av)).Pairwise _;rw[List.pairwise_map];refine h.inc.imp ?_;intro a b hab;rw[(oO k fr av a).2.2,(oO k fr av b).2.2];exact hab
 ·intro y hy;obtain⟨z,hz,rfl⟩:=List.mem_map.1 hy;show(M8 k fr av z).came<=c;rw[(oO k fr av z).2.2];exact h.le z hz
theorem iP.more {d:Int} (h:iP R c) (hc:c<=d):iP R d:=⟨h.inc,fun y hy=>Int.le_trans (h.le y hy) hc⟩
theorem iP.put (h:iP R c) (y:Hl) (hy:y.came=c+1):iP (R++[y]) (c+1):=by
 refine⟨?_,?_⟩
 ·rw[List.pairwise_append];refine⟨h.inc,List.pairwise_singleton _ _,?_⟩;intro a ha b hb
  have :b=y:=by simpa using hb
  subst this;have :=h.le a ha;omega
 ·intro z hz
  rcases List.mem_append.1 hz with g | g
  ·have :=h.le z g;omega
  ·have :z=y:=by simpa using g
   subst this;omega
theorem Bu (y:Hl):∀{E:List Hl},nN E->(∀a∈E,a.came < y.came)->∃E':List Hl,E'.Perm (y::E)∧nN E'∧bT (E.map fE) (aV y.k (y.t+1) (E.map fE)) (fE y)=E'.map fE
 | [],_,_=>⟨[y],List.Perm.refl _,List.pairwise_singleton _ _,by simp[bT,aV]⟩
 | a::E,o,hc=>by
  have hs:=oN o;have o':=List.pairwise_cons.1 o;have hac:=hc a (by simp)
  cases ha:aX y.k (y.t+1) (fE a) with
  | true=>
   obtain⟨E',p,oE,e⟩:=Bu y o'.2 (fun b hb=>hc b (by simp[hb]));refine⟨a::E',(p.cons a).trans (List.Perm.swap y a E),?_,?_⟩
   ·refine List.pairwise_cons.2 ⟨fun b hb=> ?_,oE⟩
    rcases List.mem_cons.1 (p.subset hb) with g | g
    ·subst g;rw[mW]
     have h1:a.k < b.k∨(a.k=b.k∧a.t < b.t+1):=by
      have :=ha;unfold aX fE at this;simpa using this
     omega
    ·exact o'.1 b g
   ·rw[List.map_cons,gU ha,List.map_cons,<-e];simp[bT]
  | false=>
   refine⟨y::a::E,List.Perm.refl _,?_,?_⟩
   ·have h1:¬(a.k < y.k∨(a.k=y.k∧a.t < y.t+1)):=by
     have :=ha;unfold aX fE at this;simpa using this
    refine List.pairwise_cons.2 ⟨fun b hb=> ?_,o⟩;rw[mW]
    rcases List.mem_cons.1 hb with g | g
    ·subst g;omega
    ·have h2:=o'.1 b g;rw[mW] at h2;omega
   ·rw[List.map_cons] at hs⊢;rw[iQ hs ha];simp[bT]
theorem eY.put (hs:eY R T) (y:Hl) (hc:∀a∈R,a.came < y.came):eY (R++[y]) (bT T (aV y.k (y.t+1) T) (fE y)):=by
 obtain⟨E,p,o,rfl⟩:=hs;obtain⟨E',p',o',e⟩:=Bu y o (fun a ha=>hc a (p.subset ha));exact⟨E',(p'.trans (p.cons y)).trans (List.perm_append_singleton y R).symm,o',e⟩
theorem eY.filt (hs:eY R T) (f:Hl->Bool) (q:D->Bool) (hq:∀h,f h= !q (fE h)):eY (R.filter f) (keepR q T):=by
 obtain⟨E,p,o,rfl⟩:=hs;refine⟨E.filter f,p.filter f,o.filter f,?_⟩;unfold keepR;rw[List.filter_map];congr 1;congr 1
 funext h
 exact(hq h).symm
theorem iP.filt (h:iP R c) (f:Hl->Bool):iP (R.filter f) c:=⟨h.inc.filter f,fun y hy=>h.le y (List.mem_filter.1 hy).1⟩
theorem oP:∀(C:List Ch) {M L:List O},M.Perm L->(C.foldl kK M).Perm (iE L C)
 | [],_,_,h=>h
 | c::C,M,L,h=>by
  unfold iE;rw[List.foldl_cons,List.foldl_cons];refine oP C ?_;unfold kK
  split
  ·exact h.erase _
  ·exact(List.perm_append_singleton c.x M).trans (h.cons c.x)
structure dN (n:Nat) (st:Sx) (rs:RS):Prop where
 lo:rs.x.lo=st.x.lo
 hi:rs.x.hi=st.x.hi
 mode:rs.x.mode=st.x.mode
 m0:rs.x.m0=st.x.m0
 m1:rs.x.m1=st.x.m1
 late:rs.x.late=st.x.late
 f0:rs.f0=st.f0
 f1:rs.f1=st.f1
 cm:0<=rs.x.came∧rs.x.came<=n
 r0:eY rs.x.R0 st.x.R0
 r1:eY rs.x.R1 st.x.R1
 c0:iP rs.x.R0 rs.x.came
 c1:iP rs.x.R1 rs.x.came
 v:rs.M.Perm st.L
theorem dN.more {m:Nat} {rs:RS} (h:dN n st rs) (hm:n<=m):dN m st rs:=
 ⟨h.lo,h.hi,h.mode,h.m0,h.m1,h.late,h.f0,h.f1,⟨h.cm.1,by have :=h.cm.2;omega⟩,h.r0,h.r1,h.c0,h.c1,h.v⟩
theorem yj (lo hi mode:Int) (n:Nat):dN n (Sx.new lo hi mode) ⟨yh lo hi mode,[],0,0⟩:=
 ⟨rfl,rfl,rfl,rfl,rfl,rfl,rfl,rfl,⟨Int.le_refl _,Int.natCast_nonneg n⟩,eY.nil,eY.nil,⟨List.Pairwise.nil,fun _ h=>by cases h⟩,⟨List.Pairwise.nil,fun _ h=>by cases h⟩,List.Perm.refl _⟩
theorem dN.again {rs:RS} (h:dN n st rs):dN n st.again rs:=
 ⟨h.lo,h.hi,h.mode,h.m0,h.m1,h.late,h.f0,h.f1,h.cm,h.r0,h.r1,h.c0,h.c1,h.v.trans ((List.reverse_perm _).trans (aR _)).symm⟩
theorem dN.hold0 {rs:RS} (h:dN n st rs) (hO:dH n st) (hn:n<=1600) (k t u:Int) (hh:st.x.m1 < t+st.x.hi) (hE:E.Perm rs.x.R1) (oE:nN E):
  bU rs.x.mode 0 k t u ((E.filter (eF k (t+rs.x.lo) (t+rs.x.hi))).map fE)=qc st.x ⟨k,t,u⟩∧
  dN (n+1) ⟨st.x.fed0 k t u,aZ st.f0,st.f1,iE st.L (qc st.x ⟨k,t,u⟩)⟩ ⟨{ rs.x with R1:=rs.x.R1.map fun h=>if eF k (t+rs.x.lo) (t+rs.x.hi) h=true then kN h else h,R0:=rs.x.R0++[⟨k,t,u,(E.filter (eF k (t+rs.x.lo) (t+rs.x.hi))).length,rs.x.came+1⟩],came:=rs.x.came+1},(qc st.x ⟨k,t,u⟩).foldl kK rs.M,rs.f0+1,rs.f1⟩:=by
 have hm:=wZ h.r1 h.c1.inc hE oE k (t+st.x.lo) (t+st.x.hi);have hJ:=hO.jok hn;have hf:=hO.f0
 have hs:aZ st.f0=st.f0+1:=by unfold aZ;rw[if_neg (by omega)]
 have hc:=h.cm;rw[h.lo,h.hi,h.mode];refine⟨by rw[<-hm],⟨h.lo,h.hi,h.mode,h.m0,h.m1,h.late,?_,h.f1,⟨?_,?_⟩,?_,?_,?_,?_,oP _ h.v⟩⟩
 ·show rs.f0+1=aZ st.f0;rw[hs,h.f0]
 ·show 0<=rs.x.came+1;omega
 ·show rs.x.came+1<=((n+1:Nat):Int);omega
 ·show eY (rs.x.R0++[_]) (if st.x.m1 < t+st.x.hi then bT st.x.R0 (aV k (t+1) st.x.R0) ⟨k,t,u,((bF k (t+st.x.lo) (t+st.x.hi) st.x.R1).length:Int)⟩ else st.x.R0);rw[if_pos hh,hm,List.length_map];exact h.r0.put ⟨k,t,u,(E.filter (eF k (t+st.x.lo) (t+st.x.hi))).length,rs.x.came+1⟩ (fun a ha=>by have :=h.c0.le a ha;show a.came < rs.x.came+1;omega)
 ·exact h.r1.inc k (t+st.x.lo) (t+st.x.hi) hJ.n1
 ·exact h.c0.put _ rfl
 ·exact(h.c1.inc' k _ _).more (by show rs.x.came<=rs.x.came+1;omega)
theorem dN.pass0 {rs:RS} (h:dN n st rs) (hO:dH n st) (hn:n<=1600) (k t u:Int) (hh:¬st.x.m1 < t+st.x.hi) (hE:E.Perm rs.x.R1) (oE:nN E):
  bU rs.x.mode 0 k t u ((E.filter (eF k (t+rs.x.lo) (t+rs.x.hi))).map fE)=qc st.x ⟨k,t,u⟩∧
  dN (n+1) ⟨st.x.fed0 k t u,aZ st.f0,st.f1,iE st.L (qc st.x ⟨k,t,u⟩)⟩ ⟨{ rs.x with R1:=rs.x.R1.map fun h=>if eF k (t+rs.x.lo) (t+rs.x.hi) h=true then kN h else h},(qc st.x ⟨k,t,u⟩).foldl kK rs.M,rs.f0+1,rs.f1⟩:=by
 have hm:=wZ h.r1 h.c1.inc hE oE k (t+st.x.lo) (t+st.x.hi);have hJ:=hO.jok hn;have hf:=hO.f0
 have hs:aZ st.f0=st.f0+1:=by unfold aZ;rw[if_neg (by omega)]
 have hc:=h.cm;rw[h.lo,h.hi,h.mode];refine⟨by rw[<-hm],⟨h.lo,h.hi,h.mode,h.m0,h.m1,h.late,?_,h.f1,⟨hc.1,by show rs.x.came<=((n+1:Nat):Int);omega⟩,?_,?_,h.c0,?_,oP _ h.v⟩⟩
 ·show rs.f0+1=aZ st.f0;rw[hs,h.f0]
 ·show eY rs.x.R0 (if st.x.m1 < t+st.x.hi then bT st.x.R0 (aV k (t+1) st.x.R0) ⟨k,t,u,((bF k (t+st.x.lo) (t+st.x.hi) st.x.R1).length:Int)⟩ else st.x.R0);rw[if_neg hh];exact h.r0
 ·exact h.r1.inc k (t+st.x.lo) (t+st.x.hi) hJ.n1
 ·exact h.c1.inc' k _ _
theorem dN.late0 {rs:RS} (h:dN n st rs) (hO:dH n st) (hn:n<=1600):dN (n+1) ⟨{ st.x with late:=bR st.x.late},aZ st.f0,st.f1,st.L⟩ ⟨{ rs.x with late:=rs.x.late+1},rs.M,rs.f0+1,rs.f1⟩:=by
 have hf:=hO.f0;have hl:=hO.late
 have hs:aZ st.f0=st.f0+1:=by unfold aZ;rw[if_neg (by omega)]
 have hm:bR st.x.late=st.x.late+1:=by unfold bR;rw[if_neg (by omega)]
 refine⟨h.lo,h.hi,h.mode,h.m0,h.m1,?_,?_,h.f1,⟨h.cm.1,by have :=h.cm.2;show rs.x.came<=((n+1:Nat):Int);omega⟩,h.r0,h.r1,h.c0,h.c1,h.v⟩
 ·show rs.x.late+1=bR st.x.late;rw[hm,h.late]
 ·show rs.f0+1=aZ st.f0;rw[hs,h.f0]
theorem dN.hold1 {rs:RS} (h:dN n st rs) (hO:dH n st) (hn:n<=1600) (k t u:Int) (hh:st.x.m0 < t+ -st.x.lo) (hE:E.Perm rs.x.R0) (oE:nN E):
  bU rs.x.mode 1 k t u ((E.filter (eF k (t -rs.x.hi) (t -rs.x.lo))).map fE)=qd st.x ⟨k,t,u⟩∧
  dN (n+1) ⟨st.x.fed1 k t u,st.f0,aZ st.f1,iE st.L (qd st.x ⟨k,t,u⟩)⟩ ⟨{ rs.x with R0:=rs.x.R0.map fun h=>if eF k (t -rs.x.hi) (t -rs.x.lo) h=true then kN h else h,R1:=rs.x.R1++[⟨k,t,u,(E.filter (eF k (t -rs.x.hi) (t -rs.x.lo))).length,rs.x.came+1⟩],came:=rs.x.came+1},(qd st.x ⟨k,t,u⟩).foldl kK rs.M,rs.f0,rs.f1+1⟩:=by
 have hm:=wZ h.r0 h.c0.inc hE oE k (t+ -st.x.hi) (t+ -st.x.lo);have hJ:=hO.jok hn;have hf:=hO.f1
 have hs:aZ st.f1=st.f1+1:=by unfold aZ;rw[if_neg (by omega)]
 have hc:=h.cm;rw[h.lo,h.hi,h.mode,Int.sub_eq_add_neg,Int.sub_eq_add_neg];refine⟨by rw[<-hm],⟨h.lo,h.hi,h.mode,h.m0,h.m1,h.late,h.f0,?_,⟨?_,?_⟩,?_,?_,?_,?_,oP _ h.v⟩⟩
 ·show rs.f1+1=aZ st.f1;rw[hs,h.f1]
 ·show 0<=rs.x.came+1;omega
 ·show rs.x.came+1<=((n+1:Nat):Int);omega
 ·exact h.r0.inc k (t+ -st.x.hi) (t+ -st.x.lo) hJ.n0
 ·show eY (rs.x.R1++[_]) (if st.x.m0 < t+ -st.x.lo then bT st.x.R1 (aV k (t+1) st.x.R1) ⟨k,t,u,((bF k (t+ -st.x.hi) (t+ -st.x.lo) st.x.R0).length:Int)⟩ else st.x.R1);rw[if_pos hh,hm,List.length_map];exact h.r1.put ⟨k,t,u,(E.filter (eF k (t+ -st.x.hi) (t+ -st.x.lo))).length,rs.x.came+1⟩ (fun a ha=>by have :=h.c1.le a ha;show a.came < rs.x.came+1;omega)
 ·exact(h.c0.inc' k _ _).more (by show rs.x.came<=rs.x.came+1;omega)
 ·exact h.c1.put _ rfl
theorem dN.pass1 {rs:RS} (h:dN n st rs) (hO:dH n st) (hn:n<=1600) (k t u:Int) (hh:¬st.x.m0 < t+ -st.x.lo) (hE:E.Perm rs.x.R0) (oE:nN E):
  bU rs.x.mode 1 k t u ((E.filter (eF k (t -rs.x.hi) (t -rs.x.lo))).map fE)=qd st.x ⟨k,t,u⟩∧
  dN (n+1) ⟨st.x.fed1 k t u,st.f0,aZ st.f1,iE st.L (qd st.x ⟨k,t,u⟩)⟩ ⟨{ rs.x with R0:=rs.x.R0.map fun h=>if eF k (t -rs.x.hi) (t -rs.x.lo) h=true then kN h else h},(qd st.x ⟨k,t,u⟩).foldl kK rs.M,rs.f0,rs.f1+1⟩:=by
 have hm:=wZ h.r0 h.c0.inc hE oE k (t+ -st.x.hi) (t+ -st.x.lo);have hJ:=hO.jok hn;have hf:=hO.f1
 have hs:aZ st.f1=st.f1+1:=by unfold aZ;rw[if_neg (by omega)]
 have hc:=h.cm;rw[h.lo,h.hi,h.mode,Int.sub_eq_add_neg,Int.sub_eq_add_neg];refine⟨by rw[<-hm],⟨h.lo,h.hi,h.mode,h.m0,h.m1,h.late,h.f0,?_,⟨hc.1,by show rs.x.came<=((n+1:Nat):Int);omega⟩,?_,?_,?_,h.c1,oP _ h.v⟩⟩
 ·show rs.f1+1=aZ st.f1;rw[hs,h.f1]
 ·exact h.r0.inc k (t+ -st.x.hi) (t+ -st.x.lo) hJ.n0
 ·show eY rs.x.R1 (if st.x.m0 < t+ -st.x.lo then bT st.x.R1 (aV k (t+1) st.x.R1) ⟨k,t,u,((bF k (t+ -st.x.hi) (t+ -st.x.lo) st.x.R0).length:Int)⟩ else st.x.R1);rw[if_neg hh];exact h.r1
 ·exact h.c0.inc' k _ _
theorem dN.late1 {rs:RS} (h:dN n st rs) (hO:dH n st) (hn:n<=1600):dN (n+1) ⟨{ st.x with late:=bR st.x.late},st.f0,aZ st.f1,st.L⟩ ⟨{ rs.x with late:=rs.x.late+1},rs.M,rs.f0,rs.f1+1⟩:=by
 have hf:=hO.f1;have hl:=hO.late
 have hs:aZ st.f1=st.f1+1:=by unfold aZ;rw[if_neg (by omega)]
 have hm:bR st.x.late=st.x.late+1:=by unfold bR;rw[if_neg (by omega)]
 refine⟨h.lo,h.hi,h.mode,h.m0,h.m1,?_,h.f0,?_,⟨h.cm.1,by have :=h.cm.2;show rs.x.came<=((n+1:Nat):Int);omega⟩,h.r0,h.r1,h.c0,h.c1,h.v⟩
 ·show rs.x.late+1=bR st.x.late;rw[hm,h.late]
 ·show rs.f1+1=aZ st.f1;rw[hs,h.f1]
theorem dN.move0 {rs:RS} (h:dN n st rs) (tm:Int):dN n ⟨{ st.x with m0:=tm,R1:=keepR (fun y=>decide (y.t<=tm+st.x.lo)) st.x.R1},st.f0,st.f1,st.L⟩ ⟨{ rs.x with m0:=tm,R1:=rs.x.R1.filter (fun h:Hl=>decide (tm < h.t -rs.x.lo))},rs.M,rs.f0,rs.f1⟩:=by
 refine⟨h.lo,h.hi,h.mode,rfl,h.m1,h.late,h.f0,h.f1,h.cm,h.r0,?_,h.c0,h.c1.filt _,h.v⟩;refine h.r1.filt _ _ (fun y=> ?_);rw[h.lo];show decide (tm < y.t -st.x.lo)= !decide (y.t<=tm+st.x.lo);rw[<-decide_not];exact decide_eq_decide.2 ⟨fun e=>by omega,fun e=>by omega⟩
theorem dN.move1 {rs:RS} (h:dN n st rs) (tm:Int):dN n ⟨{ st.x with m1:=tm,R0:=keepR (fun y=>decide (y.t<=tm -st.x.hi)) st.x.R0},st.f0,st.f1,st.L⟩ ⟨{ rs.x with m1:=tm,R0:=rs.x.R0.filter (fun h:Hl=>decide (tm < h.t+rs.x.hi))},rs.M,rs.f0,rs.f1⟩:=by
 refine⟨h.lo,h.hi,h.mode,h.m0,rfl,h.late,h.f0,h.f1,h.cm,?_,h.r1,h.c0.filt _,h.c1,h.v⟩;refine h.r0.filt _ _ (fun y=> ?_);rw[h.hi];show decide (tm < y.t+st.x.hi)= !decide (y.t<=tm -st.x.hi);rw[<-decide_not];exact decide_eq_decide.2 ⟨fun e=>by omega,fun e=>by omega⟩
end
section
open Go.Joins
variable {be n bj:Nat} {rs:RS} {P:Nat->Prop} {W W' w':World} {st:Sx} {v v0 v1 v' bA v1':Value} {R:List Hl} {x:RJ} {M:List O} {f0 f1:Int}
def RE (be:Nat) (rs:RS) (P:Nat->Prop) (W:World):Prop:=
 ∃bj v v0 v1,nM W be bj v v0 v1 rs.x rs.M rs.f0 rs.f1∧∀k,P k↔(k=be∨k=bj∨v.ownBlock=some k∨v0.ownBlock=some k∨v1.ownBlock=some k)
theorem RE.plt (h:RE be rs P W):∀k,P k->k < W.heap.size:=by
 obtain⟨bj,v,v0,v1,hA,hP⟩:=h;intro k hk
 rcases(hP k).1 hk with e | e | e | e | e
 ·rw[e];exact hA.bag.lt
 ·rw[e];exact hA.join.lt
 ·exact(hA.bag.row.lt k e).2
 ·exact(hA.join.r0.lt k e).2
 ·exact(hA.join.r1.lt k e).2
theorem RE.pbe (h:RE be rs P W):P be:=by
 obtain⟨bj,v,v0,v1,hA,hP⟩:=h;exact(hP be).2 (.inl rfl)
theorem RE.still (h:RE be rs P W) (hk:∀k,P k->W'.heap[k]? =W.heap[k]?):RE be rs P W':=by
 obtain⟨bj,v,v0,v1,hA,hP⟩:=h;refine⟨bj,v,v0,v1,⟨⟨(hk be ((hP be).2 (.inl rfl))).trans hA.bag.blk,?_⟩,⟨(hk bj ((hP bj).2 (.inr (.inl rfl)))).trans hA.join.blk,?_,?_,hA.join.apart⟩⟩,hP⟩
 ·exact ag hA.bag.row (fun g e=>hk g ((hP g).2 (.inr (.inr (.inl e)))))
 ·exact ag hA.join.r0 (fun g e=>hk g ((hP g).2 (.inr (.inr (.inr (.inl e))))))
 ·exact ag hA.join.r1 (fun g e=>hk g ((hP g).2 (.inr (.inr (.inr (.inr e))))))
theorem RE.below (h:RE be rs P W) (hb:Below W.heap.size W W'):RE be rs P W':=
 h.still (fun k e=>hb.block k (h.plt k e))
def Ol (be:Nat) (n:Nat) (st:Sx) (P:Nat->Prop) (W w':World):Prop:=
 ∃rs' P',RE be rs' P' w'∧dN n st rs'∧Turned P W w'∧∀k,P' k->P k∨W.heap.size<=k
theorem RE.same (h:RE be rs P W) (hL:dN n st rs) (hb:Below W.heap.size W W'):Ol be n st P W W':=
 ⟨rs,P,h.below hb,hL,Turned.of_below hb,fun _ e=> .inl e⟩
theorem Ol.below {w1 w2:World} (h:Ol be n st P W w1) (hb:Below w1.heap.size w1 w2):Ol be n st P W w2:=by
 obtain⟨rs',P',h1,h2,h3,h4⟩:=h;exact⟨rs',P',h1.below hb,h2,h3.trans (Turned.of_below (S:=fun _=>False) hb) (fun _ _ e=>e.elim),h4⟩
theorem jh {S:Nat->Prop} (hP:∀k,P k↔(k=be∨k=bj∨v.ownBlock=some k∨v0.ownBlock=some k∨v1.ownBlock=some k)) (hS:∀g,S g->P g)
  (hA:nM w' be bj v' bA v1' rs.x rs.M rs.f0 rs.f1) (hL:dN n st rs) (hT:Turned (fun g=>g=be∨v.ownBlock=some g∨S g) W w') (hv:Moves W v.ownBlock v'.ownBlock) (h0:∀g,bA.ownBlock=some g->v0.ownBlock=some g∨W.heap.size<=g) (h1:∀g,v1'.ownBlock=some g->v1.ownBlock=some g∨W.heap.size<=g):Ol be n st P W w':=by
 refine⟨rs,fun k=>k=be∨k=bj∨v'.ownBlock=some k∨bA.ownBlock=some k∨v1'.ownBlock=some k,⟨bj,v',bA,v1',hA,fun k=>Iff.rfl⟩,hL,hT.mono ?_,?_⟩
 ·intro k e
  rcases e with e | e | e
  ·exact(hP k).2 (.inl e)
  ·exact(hP k).2 (.inr (.inr (.inl e)))
  ·exact hS k e
 ·intro k e
  rcases e with e | e | e | e | e
  ·exact .inl ((hP k).2 (.inl e))
  ·exact .inl ((hP k).2 (.inr (.inl e)))
  ·rcases hv with g | ⟨q,g,gq⟩
   ·exact .inl ((hP k).2 (.inr (.inr (.inl (g ▸ e)))))
   ·rw[g] at e;cases e;exact .inr gq
  ·exact(h0 k e).imp (fun g=>(hP k).2 (.inr (.inr (.inr (.inl g))))) id
  ·exact(h1 k e).imp (fun g=>(hP k).2 (.inr (.inr (.inr (.inr g))))) id
theorem mZ {W1:World} (h:dF W1 v v') (hs:W.heap.size<=W1.heap.size):dF W v v':=by
 rcases h with g | ⟨q,g,gq⟩
 ·exact .inl g
 ·exact .inr ⟨q,g,by omega⟩
theorem pR (h:dF W v v'):∀g,v'.ownBlock=some g->v.ownBlock=some g∨W.heap.size<=g:=by
 intro g e
 rcases h with h | ⟨q,h,hq⟩
 ·exact .inl (h ▸ e)
 ·rw[h] at e;cases e;exact .inr hq
theorem jV {E:List Hl} {mode s k t u fr av:Int} (hE:E.Perm R) (hR:R.length<=300):(bU mode s k t u ((E.filter (eF k fr av)).map fE)).length<=1000:=by
 have h1:((E.filter (eF k fr av)).map fE).length<=300:=by
  rw[List.length_map];exact Nat.le_trans (List.length_filter_le _ _) (by rw[hE.length_eq];exact hR)
 unfold bU
 split
 ·split <;>simp
 ·exact Nat.le_trans (rP _ _ _ _ _ _ _) (by omega)
def Dh (st:Sx) (k t u:Int):List Ch:=if(st.feed0 k t u).1=0 then qc st.x ⟨k,t,u⟩ else[]
theorem Em (h:RE be rs P W) (hL:dN n st rs) (hO:dH n st) (hn:n<=1600) (k t u:Int):
  Calls Tryz.prog 10 #[.pointer (some ⟨be,0,none⟩),.int .i64 0,.agg #[.int .i64 k,.int .i64 t,.int .i64 u]] W fun e w'=>∃vx,e= .returned (.tuple #[vx,.int .i64 (st.feed0 k t u).1])∧w'.ownsRow W.heap.size 95 10 vx (Dh st k t u).length ((Dh st k t u).flatMap aQ)∧Ol be (n+1) (st.feed0 k t u).2 P W w':=by
 obtain⟨bj,v,v0,v1,hA,hP⟩:=h;have hJ:=hO.jok hn
 have Hf:rs.M.length<=900000:=by rw[hL.v.length_eq];have :=hO.len hn;omega
 have hff:=hO.f0;have hlt:=hO.late;have hcm:=hL.cm;have e0:=hL.r0.len;have e1:=hL.r1.len;have q0:=hJ.l0;have q1:=hJ.l1;have p1:=hJ.lo1;have p2:=hJ.lo2;have p3:=hJ.hi1;have p4:=hJ.hi2;rw[<-hL.lo] at p1 p2;rw[<-hL.hi] at p3 p4;have hf:=hL.f0;unfold Dh Sx.feed0
 by_cases hg:au k t u=false
 ·rw[if_pos hg];refine(kG 0 1 k t u W hA (fun _=>False) (fun C x' bA v1'=>C=[]∧x'=rs.x∧bA=v0∧v1'=v1) Hf (.inr (.inr ⟨.inl rfl,rfl,rfl⟩)) (fun _ e=>e.elim) (fun W1 hs1 sS=>(IL k t u W1 sS hg).mono ?_)).mono ?_
  ·rintro e w' ⟨rfl,hb⟩;exact⟨_,v0,v1,[],rs.x,rfl,World.ownsRow_nil _ _ _ _,by simp,sS.below hb,Turned.of_below hb,rfl,rfl,rfl,rfl⟩
  ·rintro e w' ⟨vx,v',bA,v1',C,x',rfl,h1,h2,⟨hC,hx,hv0,hv1⟩,h4,h5⟩;subst hC hx;rw[hv0,hv1] at h2;refine⟨vx,rfl,?_,jh (rs:=rs) hP (S:=fun _=>False) (fun _ e=>e.elim) h2 (hL.more (by omega)) h4 h5 (fun _ e=> .inl e) (fun _ e=> .inl e)⟩;simpa using h1
 rw[if_neg hg]
 have hg1:au k t u=true:=by simpa using hg
 by_cases hl:t<=st.x.m0
 ·rw[if_pos hl]
  have hl2:t<=rs.x.m0:=by rw[hL.m0];exact hl
  refine(kG 0 10 k t u W hA (fun g=>g=bj) (fun C x' bA v1'=>C=[]∧x'={ rs.x with late:=rs.x.late+1}∧bA=v0∧v1'=v1) Hf (.inl ⟨rfl,.inr rfl,rfl,rfl,by omega,by omega⟩) (fun g e=> .inl e) (fun W1 hs1 sS=>(Fx k t u W1 sS hg1 hl2 (by rw[hL.late];omega) (by rw[hL.late];omega)).mono ?_)).mono ?_
  ·rintro e w' ⟨rfl,hj,hgr⟩;exact⟨_,v0,v1,[],_,rfl,World.ownsRow_nil _ _ _ _,by simp,hj,Turned.of_grown hgr (fun k e=>by cases e;rfl),rfl,rfl,rfl,rfl⟩
  ·rintro e w' ⟨vx,v',bA,v1',C,x',rfl,h1,h2,⟨hC,hx,hv0,hv1⟩,h4,h5⟩;subst hC hx;rw[hv0,hv1] at h2;refine⟨vx,rfl,?_,jh (rs:=⟨{ rs.x with late:=rs.x.late+1},rs.M,rs.f0+1,rs.f1⟩) hP (S:=fun g=>g=bj) (fun g e=>(hP g).2 (.inr (.inl e))) h2 (hL.late0 hO hn) h4 h5 (fun _ e=> .inl e) (fun _ e=> .inl e)⟩;simpa using h1
 rw[if_neg hl]
 have hl2:¬t<=rs.x.m0:=by rw[hL.m0];exact hl
 by_cases hr:st.x.m1 < t+st.x.hi∧300<=st.x.R0.length
 ·rw[if_pos hr]
  have Qr:rs.x.m1 < t+rs.x.hi:=by have :=hr.1;rw[hL.m1,hL.hi];omega
  refine(kG 0 12 k t u W hA (fun _=>False) (fun C x' bA v1'=>C=[]∧x'=rs.x∧bA=v0∧v1'=v1) Hf (.inr (.inr ⟨.inr rfl,rfl,rfl⟩)) (fun _ e=>e.elim) (fun W1 hs1 sS=>(Fy k t u W1 sS hg1 hl2 p1 p2 p3 p4 Qr (by omega)).mono ?_)).mono ?_
  ·rintro e w' ⟨rfl,hb⟩;exact⟨_,v0,v1,[],rs.x,rfl,World.ownsRow_nil _ _ _ _,by simp,sS.below hb,Turned.of_below hb,rfl,rfl,rfl,rfl⟩
  ·rintro e w' ⟨vx,v',bA,v1',C,x',rfl,h1,h2,⟨hC,hx,hv0,hv1⟩,h4,h5⟩;subst hC hx;rw[hv0,hv1] at h2;refine⟨vx,rfl,?_,jh (rs:=rs) hP (S:=fun _=>False) (fun _ e=>e.elim) h2 (hL.more (by omega)) h4 h5 (fun _ e=> .inl e) (fun _ e=> .inl e)⟩;simpa using h1
 rw[if_neg hr]
 by_cases hh:st.x.m1 < t+st.x.hi
 ·have Qr:rs.x.m1 < t+rs.x.hi:=by rw[hL.m1,hL.hi];omega
  have V7:rs.x.R0.length < 300:=by have :=fun e=>hr ⟨hh,e⟩;omega
  refine(kG 0 0 k t u W hA (fun g=>g=bj∨v1.ownBlock=some g) (fun C x' bA v1'=>∃E:List Hl,E.Perm rs.x.R1∧nN E∧C=bU rs.x.mode 0 k t u ((E.filter (eF k (t+rs.x.lo) (t+rs.x.hi))).map fE)∧x'={ rs.x with R1:=rs.x.R1.map fun h=>if eF k (t+rs.x.lo) (t+rs.x.hi) h=true then kN h else h,R0:=rs.x.R0++[⟨k,t,u,(E.filter (eF k (t+rs.x.lo) (t+rs.x.hi))).length,rs.x.came+1⟩],came:=rs.x.came+1}∧v1'=v1∧dF W v0 bA) Hf (.inl ⟨rfl,.inl rfl,rfl,rfl,by omega,by omega⟩) (fun g e=>e.elim .inl (fun e=> .inr (.inr e))) (fun W1 hs1 sS=>((Qd k t u W1 sS hg1 hl2 p1 p2 p3 p4 (by omega) (by omega) (by omega)).1 Qr V7).mono ?_)).mono ?_
  ·rintro e w' ⟨vx,bA,v1',E,rfl,hE,oE,hox,hj,ht,hv,hfr⟩;exact⟨vx,bA,v1',_,_,rfl,hox,jV hE (by omega),hj,ht,E,hE,oE,rfl,rfl,hv,mZ hfr hs1⟩
  ·rintro e w' ⟨vx,v',bA,v1',C,x',rfl,h1,h2,⟨E,hE,oE,hC,hx,hv,hfr⟩,h4,h5⟩;have hk:=hL.hold0 hO hn k t u hh hE oE;rw[hk.1] at hC;subst hC hx;refine⟨vx,rfl,by simpa using h1,jh (rs:=⟨_,_,_,_⟩) hP (S:=fun g=>g=bj∨v1.ownBlock=some g) (fun g e=>e.elim (fun e=>(hP g).2 (.inr (.inl e))) (fun e=>(hP g).2 (.inr (.inr (.inr (.inr e)))))) h2 hk.2 h4 h5 (pR hfr) (fun g e=> .inl (hv ▸ e))⟩
 ·have Qr:¬rs.x.m1 < t+rs.x.hi:=by rw[hL.m1,hL.hi];omega
  refine(kG 0 0 k t u W hA (fun g=>g=bj∨v1.ownBlock=some g) (fun C x' bA v1'=>∃E:List Hl,E.Perm rs.x.R1∧nN E∧C=bU rs.x.mode 0 k t u ((E.filter (eF k (t+rs.x.lo) (t+rs.x.hi))).map fE)∧x'={ rs.x with R1:=rs.x.R1.map fun h=>if eF k (t+rs.x.lo) (t+rs.x.hi) h=true then kN h else h}∧v1'=v1∧dF W v0 bA) Hf (.inl ⟨rfl,.inl rfl,rfl,rfl,by omega,by omega⟩) (fun g e=>e.elim .inl (fun e=> .inr (.inr e))) (fun W1 hs1 sS=>((Qd k t u W1 sS hg1 hl2 p1 p2 p3 p4 (by omega) (by omega) (by omega)).2 Qr).mono ?_)).mono ?_
  ·rintro e w' ⟨vx,bA,v1',E,rfl,hE,oE,hox,hj,ht,hv,hfr⟩;exact⟨vx,bA,v1',_,_,rfl,hox,jV hE (by omega),hj,ht,E,hE,oE,rfl,rfl,hv,mZ hfr hs1⟩
  ·rintro e w' ⟨vx,v',bA,v1',C,x',rfl,h1,h2,⟨E,hE,oE,hC,hx,hv,hfr⟩,h4,h5⟩;have hk:=hL.pass0 hO hn k t u hh hE oE;rw[hk.1] at hC;subst hC hx;refine⟨vx,rfl,by simpa using h1,jh (rs:=⟨_,_,_,_⟩) hP (S:=fun g=>g=bj∨v1.ownBlock=some g) (fun g e=>e.elim (fun e=>(hP g).2 (.inr (.inl e))) (fun e=>(hP g).2 (.inr (.inr (.inr (.inr e)))))) h2 hk.2 h4 h5 (pR hfr) (fun g e=> .inl (hv ▸ e))⟩
def Di (st:Sx) (k t u:Int):List Ch:=if(st.feed1 k t u).1=0 then qd st.x ⟨k,t,u⟩ else[]
theorem En (h:RE be rs P W) (hL:dN n st rs) (hO:dH n st) (hn:n<=1600) (k t u:Int):
  Calls Tryz.prog 10 #[.pointer (some ⟨be,0,none⟩),.int .i64 1,.agg #[.int .i64 k,.int .i64 t,.int .i64 u]] W fun e w'=>∃vx,e= .returned (.tuple #[vx,.int .i64 (st.feed1 k t u).1])∧w'.ownsRow W.heap.size 95 10 vx (Di st k t u).length ((Di st k t u).flatMap aQ)∧Ol be (n+1) (st.feed1 k t u).2 P W w':=by
 obtain⟨bj,v,v0,v1,hA,hP⟩:=h;have hJ:=hO.jok hn
 have Hf:rs.M.length<=900000:=by rw[hL.v.length_eq];have :=hO.len hn;omega
 have hff:=hO.f1;have hlt:=hO.late;have hcm:=hL.cm;have e0:=hL.r0.len;have e1:=hL.r1.len;have q0:=hJ.l0;have q1:=hJ.l1;have p1:=hJ.lo1;have p2:=hJ.lo2;have p3:=hJ.hi1;have p4:=hJ.hi2;rw[<-hL.lo] at p1 p2;rw[<-hL.hi] at p3 p4;have hf:=hL.f1;unfold Di Sx.feed1
 by_cases hg:au k t u=false
 ·rw[if_pos hg];refine(kG 1 1 k t u W hA (fun _=>False) (fun C x' bA v1'=>C=[]∧x'=rs.x∧bA=v0∧v1'=v1) Hf (.inr (.inr ⟨.inl rfl,rfl,rfl⟩)) (fun _ e=>e.elim) (fun W1 hs1 sS=>(IM k t u W1 sS hg).mono ?_)).mono ?_
  ·rintro e w' ⟨rfl,hb⟩;exact⟨_,v0,v1,[],rs.x,rfl,World.ownsRow_nil _ _ _ _,by simp,sS.below hb,Turned.of_below hb,rfl,rfl,rfl,rfl⟩
  ·rintro e w' ⟨vx,v',bA,v1',C,x',rfl,h1,h2,⟨hC,hx,hv0,hv1⟩,h4,h5⟩;subst hC hx;rw[hv0,hv1] at h2;refine⟨vx,rfl,?_,jh (rs:=rs) hP (S:=fun _=>False) (fun _ e=>e.elim) h2 (hL.more (by omega)) h4 h5 (fun _ e=> .inl e) (fun _ e=> .inl e)⟩;simpa using h1
 rw[if_neg hg]
 have hg1:au k t u=true:=by simpa using hg
 by_cases hl:t<=st.x.m1
 ·rw[if_pos hl]
  have hl2:t<=rs.x.m1:=by rw[hL.m1];exact hl
  refine(kG 1 10 k t u W hA (fun g=>g=bj) (fun C x' bA v1'=>C=[]∧x'={ rs.x with late:=rs.x.late+1}∧bA=v0∧v1'=v1) Hf (.inr (.inl ⟨rfl,.inr rfl,rfl,rfl,by omega,by omega⟩)) (fun g e=> .inl e) (fun W1 hs1 sS=>(Fz k t u W1 sS hg1 hl2 (by rw[hL.late];omega) (by rw[hL.late];omega)).mono ?_)).mono ?_
  ·rintro e w' ⟨rfl,hj,hgr⟩;exact⟨_,v0,v1,[],_,rfl,World.ownsRow_nil _ _ _ _,by simp,hj,Turned.of_grown hgr (fun k e=>by cases e;rfl),rfl,rfl,rfl,rfl⟩
  ·rintro e w' ⟨vx,v',bA,v1',C,x',rfl,h1,h2,⟨hC,hx,hv0,hv1⟩,h4,h5⟩;subst hC hx;rw[hv0,hv1] at h2;refine⟨vx,rfl,?_,jh (rs:=⟨{ rs.x with late:=rs.x.late+1},rs.M,rs.f0,rs.f1+1⟩) hP (S:=fun g=>g=bj) (fun g e=>(hP g).2 (.inr (.inl e))) h2 (hL.late1 hO hn) h4 h5 (fun _ e=> .inl e) (fun _ e=> .inl e)⟩;simpa using h1
 rw[if_neg hl]
 have hl2:¬t<=rs.x.m1:=by rw[hL.m1];exact hl
 by_cases hr:st.x.m0 < t+ -st.x.lo∧300<=st.x.R1.length
 ·rw[if_pos hr]
  have Qr:rs.x.m0 < t -rs.x.lo:=by have :=hr.1;rw[hL.m0,hL.lo];omega
  refine(kG 1 12 k t u W hA (fun _=>False) (fun C x' bA v1'=>C=[]∧x'=rs.x∧bA=v0∧v1'=v1) Hf (.inr (.inr ⟨.inr rfl,rfl,rfl⟩)) (fun _ e=>e.elim) (fun W1 hs1 sS=>(FB k t u W1 sS hg1 hl2 p1 p2 p3 p4 Qr (by omega)).mono ?_)).mono ?_
  ·rintro e w' ⟨rfl,hb⟩;exact⟨_,v0,v1,[],rs.x,rfl,World.ownsRow_nil _ _ _ _,by simp,sS.below hb,Turned.of_below hb,rfl,rfl,rfl,rfl⟩
  ·rintro e w' ⟨vx,v',bA,v1',C,x',rfl,h1,h2,⟨hC,hx,hv0,hv1⟩,h4,h5⟩;subst hC hx;rw[hv0,hv1] at h2;refine⟨vx,rfl,?_,jh (rs:=rs) hP (S:=fun _=>False) (fun _ e=>e.elim) h2 (hL.more (by omega)) h4 h5 (fun _ e=> .inl e) (fun _ e=> .inl e)⟩;simpa using h1
 rw[if_neg hr]
 by_cases hh:st.x.m0 < t+ -st.x.lo
 ·have Qr:rs.x.m0 < t -rs.x.lo:=by rw[hL.m0,hL.lo];omega
  have V7:rs.x.R1.length < 300:=by have :=fun e=>hr ⟨hh,e⟩;omega
  refine(kG 1 0 k t u W hA (fun g=>g=bj∨v0.ownBlock=some g) (fun C x' bA v1'=>∃E:List Hl,E.Perm rs.x.R0∧nN E∧C=bU rs.x.mode 1 k t u ((E.filter (eF k (t -rs.x.hi) (t -rs.x.lo))).map fE)∧x'={ rs.x with R0:=rs.x.R0.map fun h=>if eF k (t -rs.x.hi) (t -rs.x.lo) h=true then kN h else h,R1:=rs.x.R1++[⟨k,t,u,(E.filter (eF k (t -rs.x.hi) (t -rs.x.lo))).length,rs.x.came+1⟩],came:=rs.x.came+1}∧bA=v0∧dF W v1 v1') Hf (.inr (.inl ⟨rfl,.inl rfl,rfl,rfl,by omega,by omega⟩)) (fun g e=>e.elim .inl (fun e=> .inr (.inl e))) (fun W1 hs1 sS=>((Qk k t u W1 sS hg1 hl2 p1 p2 p3 p4 (by omega) (by omega) (by omega)).1 Qr V7).mono ?_)).mono ?_
  ·rintro e w' ⟨vx,bA,v1',E,rfl,hE,oE,hox,hj,ht,hv,hfr⟩;exact⟨vx,bA,v1',_,_,rfl,hox,jV hE (by omega),hj,ht,E,hE,oE,rfl,rfl,hv,mZ hfr hs1⟩
  ·rintro e w' ⟨vx,v',bA,v1',C,x',rfl,h1,h2,⟨E,hE,oE,hC,hx,hv,hfr⟩,h4,h5⟩;have hk:=hL.hold1 hO hn k t u hh hE oE;rw[hk.1] at hC;subst hC hx;refine⟨vx,rfl,by simpa using h1,jh (rs:=⟨_,_,_,_⟩) hP (S:=fun g=>g=bj∨v0.ownBlock=some g) (fun g e=>e.elim (fun e=>(hP g).2 (.inr (.inl e))) (fun e=>(hP g).2 (.inr (.inr (.inr (.inl e)))))) h2 hk.2 h4 h5 (fun g e=> .inl (hv ▸ e)) (pR hfr)⟩
 ·have Qr:¬rs.x.m0 < t -rs.x.lo:=by rw[hL.m0,hL.lo];omega
  refine(kG 1 0 k t u W hA (fun g=>g=bj∨v0.ownBlock=some g) (fun C x' bA v1'=>∃E:List Hl,E.Perm rs.x.R0∧nN E∧C=bU rs.x.mode 1 k t u ((E.filter (eF k (t -rs.x.hi) (t -rs.x.lo))).map fE)∧x'={ rs.x with R0:=rs.x.R0.map fun h=>if eF k (t -rs.x.hi) (t -rs.x.lo) h=true then kN h else h}∧bA=v0∧dF W v1 v1') Hf (.inr (.inl ⟨rfl,.inl rfl,rfl,rfl,by omega,by omega⟩)) (fun g e=>e.elim .inl (fun e=> .inr (.inl e))) (fun W1 hs1 sS=>((Qk k t u W1 sS hg1 hl2 p1 p2 p3 p4 (by omega) (by omega) (by omega)).2 Qr).mono ?_)).mono ?_
  ·rintro e w' ⟨vx,bA,v1',E,rfl,hE,oE,hox,hj,ht,hv,hfr⟩;exact⟨vx,bA,v1',_,_,rfl,hox,jV hE (by omega),hj,ht,E,hE,oE,rfl,rfl,hv,mZ hfr hs1⟩
  ·rintro e w' ⟨vx,v',bA,v1',C,x',rfl,h1,h2,⟨E,hE,oE,hC,hx,hv,hfr⟩,h4,h5⟩;have hk:=hL.pass1 hO hn k t u hh hE oE;rw[hk.1] at hC;subst hC hx;refine⟨vx,rfl,by simpa using h1,jh (rs:=⟨_,_,_,_⟩) hP (S:=fun g=>g=bj∨v0.ownBlock=some g) (fun g e=>e.elim (fun e=>(hP g).2 (.inr (.inl e))) (fun e=>(hP g).2 (.inr (.inr (.inr (.inl e)))))) h2 hk.2 h4 h5 (fun g e=> .inl (hv ▸ e)) (pR hfr)⟩
theorem Qs {T:List D} (hs:eY R T) (h:∀y∈T,au y.k y.t y.v=true∧0<=y.n∧y.n<=9223372036854775807):∀y∈R,-1099511627776<=y.t∧y.t<=1099511627776:=by
 obtain⟨E,p,_,rfl⟩:=hs;intro y hy;exact(dI (r:=⟨y.k,y.t,y.v⟩) (h (fE y) (List.mem_map.2 ⟨y,p.symm.subset hy,rfl⟩)).1).2.1
theorem nM.turn {x':RJ} (h:nM W be bj v v0 v1 x M f0 f1) (hj:dh w' 0 bj bA v1' x') (hg:W.grownBy w' (some bj)):nM w' be bj v bA v1' x' M f0 f1:=by
 have hne:be≠bj:=fun e=>by
  have h1:=h.bag.blk;rw[e,h.join.blk] at h1;cases h1
 refine⟨⟨(hg.block be h.bag.lt (fun e=>hne (Option.some.inj e))).trans h.bag.blk,ag h.bag.row (fun g e=>hg.block g (h.bag.row.lt g e).2 (fun e2=> ?_))⟩,hj⟩;have e3:=Option.some.inj e2;exact dZ h.bag.row h.join.blk (by decide) (e3 ▸ e)
theorem oC (h:nM W be bj v v0 v1 x M f0 f1):W.cell? ⟨be,0,none⟩=some (.pointer (some ⟨bj,0,none⟩)):=by
 rw[cell_of_block h.bag.blk];rfl
theorem Kb (s:Int):iG 0 1 s=bM s:=by
 unfold iG bM
 by_cases h0:s=0
 ·subst h0;rfl
 ·by_cases h1:s=1
  ·subst h1;rfl
  ·have e1:(s==0)=false:=by simpa using h0
   have e2:(s==1)=false:=by simpa using h1
   rw[e1,e2]
   by_cases h2:0<=s
   ·have h3:¬s<=1:=by omega
    simp[h2,h3]
   ·simp[h2]
theorem JQ (hA:nM W be bj v v0 v1 rs.x rs.M rs.f0 rs.f1) (hP:∀k,P k↔(k=be∨k=bj∨v.ownBlock=some k∨v0.ownBlock=some k∨v1.ownBlock=some k)) (hL:dN n st rs) (hO:dH n st) (hn:n<=1600) (s tm:Int):
  Calls Tryz.prog 16 #[.pointer (some ⟨bj,0,none⟩),.int .i64 s,.int .i64 tm] W fun e w'=>e= .returned (.int .i64 (st.move s tm).1)∧w'.cell? ⟨be,0,none⟩=some (.pointer (some ⟨bj,0,none⟩))∧Ol be n (st.move s tm).2 P W w':=by
 have Y5:RE be rs P W:=⟨bj,v,v0,v1,hA,hP⟩;have hJ:=hO.jok hn;have hsv:=hO.sv hn;have e0:=hL.r0.len;have e1:=hL.r1.len;have q0:=hJ.l0;have q1:=hJ.l1;have p1:=hJ.lo1;have p2:=hJ.lo2;have p3:=hJ.hi1;have p4:=hJ.hi2;rw[<-hL.lo] at p1 p2;rw[<-hL.hi] at p3 p4;unfold Sx.move
 by_cases hs:bM s=false
 ·have hm:moveE st.x.m0 st.x.m1 s tm=1:=by unfold moveE;rw[if_pos hs]
  rw[hm,if_pos (by decide)];refine(IP bj s tm W (by rw[Kb];exact hs)).mono ?_;rintro e w' ⟨rfl,hw⟩;rw[hw];exact⟨rfl,oC hA,Y5.same hL (Below.refl _ _)⟩
 have hs1:bM s=true:=by simpa using hs
 by_cases hr:tm < -1099511627776∨1099511627776 < tm
 ·have hm:moveE st.x.m0 st.x.m1 s tm=2:=by unfold moveE;rw[if_neg hs,if_pos hr]
  rw[hm,if_pos (by decide)];refine(FC bj s tm W (by rw[Kb];exact hs1) ?_).mono ?_
  ·unfold iG
   rcases hr with g | g
   ·rw[decide_eq_false (by omega)];rfl
   ·rw[decide_eq_false (by omega:¬tm<=1099511627776)];simp
  rintro e w' ⟨rfl,hw⟩;rw[hw];exact⟨rfl,oC hA,Y5.same hL (Below.refl _ _)⟩
 have hin:iG (-1099511627776) 1099511627776 tm=true:=by
  unfold iG;rw[decide_eq_true (by omega),decide_eq_true (by omega)];rfl
 rcases(show s=0∨s=1 by unfold bM at hs1;simpa using hs1) with rfl | rfl
 ·by_cases hb:tm < st.x.m0
  ·have hm:moveE st.x.m0 st.x.m1 0 tm=10:=by unfold moveE;rw[if_neg hs,if_neg hr,if_pos (by unfold kW;rw[if_pos rfl];exact hb)]
   rw[hm,if_pos (by decide)];refine(FD tm W hA.join hin (by rw[hL.m0];exact hb)).mono ?_;rintro e w' ⟨rfl,hw⟩;exact⟨rfl,oC (hA.below hw),Y5.same hL hw⟩
  ·have hm:moveE st.x.m0 st.x.m1 0 tm=0:=by unfold moveE;rw[if_neg hs,if_neg hr,if_neg (by unfold kW;rw[if_pos rfl];exact hb)]
   rw[hm,if_neg (by decide),if_pos rfl];refine(V3 tm W hA.join (by omega) (by omega) (by rw[hL.m0];exact hb) p1 p2 p3 p4 (by omega) (Qs hL.r1 hsv.g1)).mono ?_;rintro e w' ⟨rfl,vl,hj,hg,hv⟩;have hA2:=hA.turn hj hg;exact⟨rfl,oC hA2,jh (rs:=⟨_,_,_,_⟩) hP (S:=fun g=>g=bj) (fun g e=>(hP g).2 (.inr (.inl e))) hA2 (hL.move0 tm) (Turned.of_grown hg (fun k e=>by cases e;exact .inr (.inr rfl))) (.inl rfl) (fun _ e=> .inl e) (fun g e=> .inr (hv g e))⟩
 ·by_cases hb:tm < st.x.m1
  ·have hm:moveE st.x.m0 st.x.m1 1 tm=10:=by unfold moveE;rw[if_neg hs,if_neg hr,if_pos (by unfold kW;rw[if_neg (by decide),if_pos rfl];exact hb)]
   rw[hm,if_pos (by decide)];refine(FE tm W hA.join hin (by rw[hL.m1];exact hb)).mono ?_;rintro e w' ⟨rfl,hw⟩;exact⟨rfl,oC (hA.below hw),Y5.same hL hw⟩
  ·have hm:moveE st.x.m0 st.x.m1 1 tm=0:=by unfold moveE;rw[if_neg hs,if_neg hr,if_neg (by unfold kW;rw[if_neg (by decide),if_pos rfl];exact hb)]
   rw[hm,if_neg (by decide),if_neg (by decide)];refine(V5 tm W hA.join (by omega) (by omega) (by rw[hL.m1];exact hb) p1 p2 p3 p4 (by omega) (Qs hL.r0 hsv.g0)).mono ?_;rintro e w' ⟨rfl,vl,hj,hg,hv⟩;have hA2:=hA.turn hj hg;exact⟨rfl,oC hA2,jh (rs:=⟨_,_,_,_⟩) hP (S:=fun g=>g=bj) (fun g e=>(hP g).2 (.inr (.inl e))) hA2 (hL.move1 tm) (Turned.of_grown hg (fun k e=>by cases e;exact .inr (.inr rfl))) (.inl rfl) (fun g e=> .inr (hv g e)) (fun _ e=> .inl e)⟩
end
end Go.Proofs.YthfpipieboophaaGreatDoor
