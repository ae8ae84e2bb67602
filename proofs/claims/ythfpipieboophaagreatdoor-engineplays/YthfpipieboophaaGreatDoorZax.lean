import Derived.Test.YthfpipieboophaaGreatDoorZav
import Derived.Test.YthfpipieboophaaGreatDoorZaw
namespace Go.Proofs.YthfpipieboophaaGreatDoor
set_option maxRecDepth 100000
set_option maxHeartbeats 40000000
open Go.RowKit Go.Sort Go.Shelf
section
variable {n be:Nat} {st:Sx} {S:Nat->Prop} {W:World}
def jI (c:Int):Value:=if c=0 then .nilIface else .iface 24 (.int .i64 c)
structure dH (n:Nat) (st:Sx):Prop where
 ex:∃A B,Holds st.x A B∧st.L.Perm (kv st.x.lo st.x.hi st.x.mode A B)∧A.length+B.length<=n∧(∀r∈A,r.small)∧(∀r∈B,r.small)
 plan:dn st.x.lo st.x.hi st.x.mode
 l0:st.x.R0.length<=300
 l1:st.x.R1.length<=300
 late:0<=st.x.late∧st.x.late<=n
 m0: -1099511627777<=st.x.m0∧st.x.m0<=1099511627776
 m1: -1099511627777<=st.x.m1∧st.x.m1<=1099511627776
 f0:0<=st.f0∧st.f0<=n
 f1:0<=st.f1∧st.f1<=n
theorem dH.more {m:Nat} (h:dH n st) (hm:n<=m):dH m st:=by
 obtain⟨⟨A,B,a1,a2,a3,a4,a5⟩,h2,h3,h4,h5,h6,h7,h8,h9⟩:=h;exact⟨⟨A,B,a1,a2,by omega,a4,a5⟩,h2,h3,h4,by omega,h6,h7,by omega,by omega⟩
theorem dH.jok (h:dH n st) (hn:n<=1600):DF st.x:=by
 obtain⟨A,B,hH,_,hl,_,_⟩:=h.ex;have :=h.late;exact UF hH h.plan h.l0 h.l1 (by omega) (by omega) (by omega)
theorem dH.len (h:dH n st) (hn:n<=1600):st.L.length<=700000:=by
 obtain⟨A,B,_,hL,hl,_,_⟩:=h.ex;rw[hL.length_eq];exact o8 _ _ _ A B n hn hl
theorem dH.tell (h:dH n st):∀o∈st.L,iK o:=by
 obtain⟨A,B,_,hL,_,ha,hb⟩:=h.ex
 exact fun o ho=>Gy ha hb o (hL.subset ho)
theorem dH.sv (h:dH n st) (hn:n<=1600):DI st.x st.f0 st.f1:=by
 obtain⟨A,B,hH,hL,hl,ha,hb⟩:=h.ex;have hJ:=h.jok hn;have h1:=h.late;have h2:=h.f0;have h3:=h.f1;exact⟨h.plan,h.m0,h.m1,⟨h1.1,by omega⟩,⟨h2.1,by omega⟩,⟨h3.1,by omega⟩,hJ.s0,hJ.s1,hJ.l0,hJ.l1,fun y hy=>⟨hH.good0 ha y hy,(hJ.n0 y hy).1,by have :=(hJ.n0 y hy).2;omega⟩,fun y hy=>⟨hH.good1 hb y hy,(hJ.n1 y hy).1,by have :=(hJ.n1 y hy).2;omega⟩⟩
def Sx.feed0 (st:Sx) (k t v:Int):Int×Sx:=
 if au k t v=false then(1,st)
 else if t<=st.x.m0 then(10,⟨{ st.x with late:=bR st.x.late},aZ st.f0,st.f1,st.L⟩)
 else if st.x.m1 < t+st.x.hi∧300<=st.x.R0.length then(12,st)
 else(0,⟨st.x.fed0 k t v,aZ st.f0,st.f1,iE st.L (qc st.x ⟨k,t,v⟩)⟩)
theorem dH.feed0 (h:dH n st) (hn:n<=1600) (k t v:Int):dH (n+1) (st.feed0 k t v).2:=by
 unfold Sx.feed0
 by_cases hg:au k t v=false
 ·rw[if_pos hg];exact h.more (by omega)
 rw[if_neg hg]
 have hg1:au k t v=true:=by simpa using hg
 have hf0:=h.f0;have hf1:=h.f1
 have hs0:aZ st.f0=st.f0+1:=by unfold aZ;rw[if_neg (by omega)]
 have hlt:=h.late
 have hm:bR st.x.late=st.x.late+1:=by unfold bR;rw[if_neg (by omega)]
 by_cases hl:t<=st.x.m0
 ·rw[if_pos hl];obtain⟨A,B,hH,hL,hlen,ha,hb⟩:=h.ex;exact⟨⟨A,B,⟨hH.r0,hH.r1,hH.s0,hH.s1⟩,hL,by omega,ha,hb⟩,h.plan,h.l0,h.l1,⟨by show 0<=bR st.x.late;omega,by show bR st.x.late<=_;omega⟩,h.m0,h.m1,by show 0<=aZ st.f0∧aZ st.f0<=_;omega,by show 0<=st.f1∧st.f1<=_;omega⟩
 rw[if_neg hl]
 by_cases hr:st.x.m1 < t+st.x.hi∧300<=st.x.R0.length
 ·rw[if_pos hr];exact h.more (by omega)
 rw[if_neg hr];obtain⟨A,B,hH,hL,hlen,ha,hb⟩:=h.ex;have hls:(⟨k,t,v⟩:Rw).small:=dI (r:=⟨k,t,v⟩) hg1;have Gz:=hH.fed0 ⟨k,t,v⟩ (by show st.x.m0 < t;omega) (by omega);have hv:=hH.view0 ⟨k,t,v⟩ (by show st.x.m0 < t;omega) hL;refine⟨⟨A++[(⟨k,t,v⟩:Rw)],B,Gz,hv.2,by simp only[List.length_append,List.length_cons,List.length_nil];omega,?_,?_⟩,h.plan,?_,?_,⟨hlt.1,by show st.x.late<=_;omega⟩,h.m0,h.m1,by show 0<=aZ st.f0∧aZ st.f0<=_;omega,by show 0<=st.f1∧st.f1<=_;omega⟩
 ·intro q hq;rcases List.mem_append.1 hq with g | g;(exact ha q g);(simp at g;rw[g];exact hls)
 ·exact hb
 ·show(if st.x.m1 < t+st.x.hi then bT st.x.R0 _ _ else st.x.R0).length<=300
  split
  ·rw[xK];have :=fun e2=>hr ⟨by assumption,e2⟩;omega
  ·exact h.l0
 ·show(fo st.x.R1 _ _).length<=300;rw[gZ hH.s1,List.length_map];exact h.l1
theorem JC (hP:PE st be S W) (hO:dH n st) (hn:n<=1600) (hg0:W.cell? ⟨2,0,none⟩=some iD) (k t v:Int):
  Calls Tryz.prog 11 #[.pointer (some ⟨be,0,none⟩),.int .i64 0,.agg #[.int .i64 k,.int .i64 t,.int .i64 v]] W fun e w'=>∃v9 S',e= .returned (.tuple #[v9,jI (st.feed0 k t v).1])∧((st.feed0 k t v).1=0->w'.ownsRow W.heap.size 95 10 v9 (qc st.x ⟨k,t,v⟩).length ((qc st.x ⟨k,t,v⟩).flatMap aQ))∧((st.feed0 k t v).1≠0->v9= .slice none 0 0)∧PE (st.feed0 k t v).2 be S' w'∧eO S S' W w':=by
 unfold Sx.feed0
 by_cases hg:au k t v=false
 ·rw[if_pos hg];refine(GA hP hg0 0 k t v (.inr hg)).mono ?_;rintro e w' ⟨rfl,hb⟩;have h1:=cz st be S W w' hP hb.size (fun k hk=>hb.block k (dQ hP k hk));exact⟨_,S,rfl,(fun e=>absurd (show(1:Int)=0 from e) (by decide)),(fun _=>rfl),h1,⟨fun k hk=>⟨.inl hk,dQ h1 k hk⟩,Turned.of_below hb⟩⟩
 rw[if_neg hg]
 have hg1:au k t v=true:=by simpa using hg
 have hJ:=hO.jok hn
 by_cases hl:t<=st.x.m0
 ·rw[if_pos hl];refine(NC (x:=st.x) (f0:=st.f0) (f1:=st.f1) (L:=st.L) ⟨k,t,v⟩ hg0 hP hJ hg1 hl).mono ?_;rintro e w' ⟨S',rfl,h1,h2⟩;exact⟨_,S',rfl,(fun e=>absurd (show(10:Int)=0 from e) (by decide)),(fun _=>rfl),h1,h2⟩
 rw[if_neg hl]
 by_cases hr:st.x.m1 < t+st.x.hi∧300<=st.x.R0.length
 ·rw[if_pos hr];refine(ND (x:=st.x) (f0:=st.f0) (f1:=st.f1) (L:=st.L) ⟨k,t,v⟩ hg0 hP hJ hg1 (by show st.x.m0 < t;omega) hr.1 hr.2).mono ?_;rintro e w' ⟨S',rfl,h1,h2⟩;exact⟨_,S',rfl,(fun e=>absurd (show(12:Int)=0 from e) (by decide)),(fun _=>rfl),h1,h2⟩
 rw[if_neg hr];obtain⟨A,B,hH,hL,hlen,ha,hb⟩:=hO.ex;have hls:(⟨k,t,v⟩:Rw).small:=dI (r:=⟨k,t,v⟩) hg1;have hv:=hH.view0 ⟨k,t,v⟩ (by show st.x.m0 < t;omega) hL
 have RQ:st.L.length<=700000:=by rw[hL.length_eq];exact o8 _ _ _ A B n hn hlen
 have hcw:∀c∈qc st.x ⟨k,t,v⟩,c.x.wf:=wN st.x.mode 0 ⟨k,t,v⟩ _ hls (fun y hy=>hb _ (hH.yet1 y (wO hy)).2.2.2);refine(NF (x:=st.x) (f0:=st.f0) (f1:=st.f1) (L:=st.L) ⟨k,t,v⟩ hP hJ hg1 (by show st.x.m0 < t;omega) (fun e=>Nat.lt_of_not_le (fun e2=>hr ⟨e,e2⟩)) hv.1 hcw (by omega)).mono ?_;rintro e w' ⟨v9,S',rfl,h1,h2,h3⟩;exact⟨v9,S',rfl,(fun _=>h1),(fun e=>absurd rfl e),h2,h3⟩
def Sx.feed1 (st:Sx) (k t v:Int):Int×Sx:=
 if au k t v=false then(1,st)
 else if t<=st.x.m1 then(10,⟨{ st.x with late:=bR st.x.late},st.f0,aZ st.f1,st.L⟩)
 else if st.x.m0 < t+ -st.x.lo∧300<=st.x.R1.length then(12,st)
 else(0,⟨st.x.fed1 k t v,st.f0,aZ st.f1,iE st.L (qd st.x ⟨k,t,v⟩)⟩)
theorem dH.feed1 (h:dH n st) (hn:n<=1600) (k t v:Int):dH (n+1) (st.feed1 k t v).2:=by
 unfold Sx.feed1
 by_cases hg:au k t v=false
 ·rw[if_pos hg];exact h.more (by omega)
 rw[if_neg hg]
 have hg1:au k t v=true:=by simpa using hg
 have hf0:=h.f0;have hf1:=h.f1
 have hs1:aZ st.f1=st.f1+1:=by unfold aZ;rw[if_neg (by omega)]
 have hlt:=h.late
 have hm:bR st.x.late=st.x.late+1:=by unfold bR;rw[if_neg (by omega)]
 by_cases hl:t<=st.x.m1
 ·rw[if_pos hl];obtain⟨A,B,hH,hL,hlen,ha,hb⟩:=h.ex;exact⟨⟨A,B,⟨hH.r0,hH.r1,hH.s0,hH.s1⟩,hL,by omega,ha,hb⟩,h.plan,h.l0,h.l1,⟨by show 0<=bR st.x.late;omega,by show bR st.x.late<=_;omega⟩,h.m0,h.m1,by show 0<=st.f0∧st.f0<=_;omega,by show 0<=aZ st.f1∧aZ st.f1<=_;omega⟩
 rw[if_neg hl]
 by_cases hr:st.x.m0 < t+ -st.x.lo∧300<=st.x.R1.length
 ·rw[if_pos hr];exact h.more (by omega)
 rw[if_neg hr];obtain⟨A,B,hH,hL,hlen,ha,hb⟩:=h.ex;have hls:(⟨k,t,v⟩:Rw).small:=dI (r:=⟨k,t,v⟩) hg1;have Gz:=hH.fed1 ⟨k,t,v⟩ (by show st.x.m1 < t;omega) (by omega);have hv:=hH.view1 ⟨k,t,v⟩ (by show st.x.m1 < t;omega) hL;refine⟨⟨A,B++[(⟨k,t,v⟩:Rw)],Gz,hv.2,by simp only[List.length_append,List.length_cons,List.length_nil];omega,?_,?_⟩,h.plan,?_,?_,⟨hlt.1,by show st.x.late<=_;omega⟩,h.m0,h.m1,by show 0<=st.f0∧st.f0<=_;omega,by show 0<=aZ st.f1∧aZ st.f1<=_;omega⟩
 ·exact ha
 ·intro q hq;rcases List.mem_append.1 hq with g | g;(exact hb q g);(simp at g;rw[g];exact hls)
 ·show(fo st.x.R0 _ _).length<=300;rw[gZ hH.s0,List.length_map];exact h.l0
 ·show(if st.x.m0 < t+ -st.x.lo then bT st.x.R1 _ _ else st.x.R1).length<=300
  split
  ·rw[xK];have :=fun e2=>hr ⟨by assumption,e2⟩;omega
  ·exact h.l1
theorem JD (hP:PE st be S W) (hO:dH n st) (hn:n<=1600) (hg0:W.cell? ⟨2,0,none⟩=some iD) (k t v:Int):
  Calls Tryz.prog 11 #[.pointer (some ⟨be,0,none⟩),.int .i64 1,.agg #[.int .i64 k,.int .i64 t,.int .i64 v]] W fun e w'=>∃v9 S',e= .returned (.tuple #[v9,jI (st.feed1 k t v).1])∧((st.feed1 k t v).1=0->w'.ownsRow W.heap.size 95 10 v9 (qd st.x ⟨k,t,v⟩).length ((qd st.x ⟨k,t,v⟩).flatMap aQ))∧((st.feed1 k t v).1≠0->v9= .slice none 0 0)∧PE (st.feed1 k t v).2 be S' w'∧eO S S' W w':=by
 unfold Sx.feed1
 by_cases hg:au k t v=false
 ·rw[if_pos hg];refine(GA hP hg0 1 k t v (.inr hg)).mono ?_;rintro e w' ⟨rfl,hb⟩;have h1:=cz st be S W w' hP hb.size (fun k hk=>hb.block k (dQ hP k hk));exact⟨_,S,rfl,(fun e=>absurd (show(1:Int)=0 from e) (by decide)),(fun _=>rfl),h1,⟨fun k hk=>⟨.inl hk,dQ h1 k hk⟩,Turned.of_below hb⟩⟩
 rw[if_neg hg]
 have hg1:au k t v=true:=by simpa using hg
 have hJ:=hO.jok hn
 by_cases hl:t<=st.x.m1
 ·rw[if_pos hl];refine(NG (x:=st.x) (f0:=st.f0) (f1:=st.f1) (L:=st.L) ⟨k,t,v⟩ hg0 hP hJ hg1 hl).mono ?_;rintro e w' ⟨S',rfl,h1,h2⟩;exact⟨_,S',rfl,(fun e=>absurd (show(10:Int)=0 from e) (by decide)),(fun _=>rfl),h1,h2⟩
 rw[if_neg hl]
 by_cases hr:st.x.m0 < t+ -st.x.lo∧300<=st.x.R1.length
 ·rw[if_pos hr];refine(NH (x:=st.x) (f0:=st.f0) (f1:=st.f1) (L:=st.L) ⟨k,t,v⟩ hg0 hP hJ hg1 (by show st.x.m1 < t;omega) hr.1 hr.2).mono ?_;rintro e w' ⟨S',rfl,h1,h2⟩;exact⟨_,S',rfl,(fun e=>absurd (show(12:Int)=0 from e) (by decide)),(fun _=>rfl),h1,h2⟩
 rw[if_neg hr];obtain⟨A,B,hH,hL,hlen,ha,hb⟩:=hO.ex;have hls:(⟨k,t,v⟩:Rw).small:=dI (r:=⟨k,t,v⟩) hg1;have hv:=hH.view1 ⟨k,t,v⟩ (by show st.x.m1 < t;omega) hL
 have RQ:st.L.length<=700000:=by rw[hL.length_eq];exact o8 _ _ _ A B n hn hlen
 have hcw:∀c∈qd st.x ⟨k,t,v⟩,c.x.wf:=wN st.x.mode 1 ⟨k,t,v⟩ _ hls (fun y hy=>ha _ (hH.yet0 y (wO hy)).2.2.2);refine(NI (x:=st.x) (f0:=st.f0) (f1:=st.f1) (L:=st.L) ⟨k,t,v⟩ hP hJ hg1 (by show st.x.m1 < t;omega) (fun e=>Nat.lt_of_not_le (fun e2=>hr ⟨e,e2⟩)) hv.1 hcw (by omega)).mono ?_;rintro e w' ⟨v9,S',rfl,h1,h2,h3⟩;exact⟨v9,S',rfl,(fun _=>h1),(fun e=>absurd rfl e),h2,h3⟩
def Sx.new (lo hi mode:Int):Sx:=⟨⟨lo,hi,mode,-1099511627777,-1099511627777,0,[],[]⟩,0,0,[]⟩
theorem BU {lo hi mode:Int} (h:dn lo hi mode) (n:Nat):dH n (Sx.new lo hi mode):=
 ⟨⟨[],[],Holds.new _ _ _ _ _ _,by simp[Sx.new,kv,lq],by simp,by simp,by simp⟩,h,by simp[Sx.new],by simp[Sx.new],by simp[Sx.new],by simp[Sx.new],by simp[Sx.new],by simp[Sx.new],by simp[Sx.new]⟩
def Sx.move (st:Sx) (s t:Int):Int×Sx:=
 if moveE st.x.m0 st.x.m1 s t≠0 then(moveE st.x.m0 st.x.m1 s t,st)
 else(0,if s=0 then⟨{ st.x with m0:=t,R1:=keepR (fun y=>decide (y.t<=t+st.x.lo)) st.x.R1},st.f0,st.f1,st.L⟩ else⟨{ st.x with m1:=t,R0:=keepR (fun y=>decide (y.t<=t -st.x.hi)) st.x.R0},st.f0,st.f1,st.L⟩)
theorem Ap {m0 m1 s t:Int} (h:moveE m0 m1 s t=0):(s=0∧m0<=t∨s=1∧m1<=t)∧ -1099511627776<=t∧t<=1099511627776:=by
 unfold moveE at h
 split at h
 ·cases h
 ·rename_i h1
  split at h
  ·cases h
  ·split at h
   ·cases h
   ·rename_i h2 h3
    unfold bM at h1;unfold kW at h3;simp at h1
    by_cases hs:s=0
    ·subst hs;simp at h3;omega
    ·have h5:=h1 hs;subst h5;simp at h3;omega
theorem dH.move (h:dH n st) (s t:Int):dH n (st.move s t).2:=by
 unfold Sx.move
 by_cases he:moveE st.x.m0 st.x.m1 s t≠0
 ·rw[if_pos he];exact h
 rw[if_neg he];have he:=Classical.not_not.1 he;obtain⟨hs,ht⟩:=Ap he;obtain⟨A,B,hH,hL,hlen,ha,hb⟩:=h.ex;simp only
 by_cases h0:s=0
 ·rw[if_pos h0];exact⟨⟨A,B,hH.moved0 t (by omega),hL,hlen,ha,hb⟩,h.plan,h.l0,Nat.le_trans (List.length_filter_le _ _) h.l1,h.late,⟨by simp only;omega,by simp only;omega⟩,h.m1,h.f0,h.f1⟩
 ·rw[if_neg h0];exact⟨⟨A,B,hH.moved1 t (by omega),hL,hlen,ha,hb⟩,h.plan,Nat.le_trans (List.length_filter_le _ _) h.l0,h.l1,h.late,h.m0,⟨by simp only;omega,by simp only;omega⟩,h.f0,h.f1⟩
theorem NJ (hP:PE st be S W) (hO:dH n st) (hn:n<=1600) (s t:Int):
  Calls Tryz.prog 15 #[.pointer (some ⟨be,0,none⟩),.int .i64 s,.int .i64 t] W fun e w'=>∃S',e= .returned (jI (st.move s t).1)∧PE (st.move s t).2 be S' w'∧eO S S' W w':=by
 unfold Sx.move
 by_cases he:moveE st.x.m0 st.x.m1 s t≠0
 ·rw[if_pos he];refine(DJ hP s t he).mono ?_;rintro e w' ⟨rfl,hb⟩;have h1:=cz st be S W w' hP hb.size (fun k hk=>hb.block k (dQ hP k hk));exact⟨S,by unfold jI;rw[if_neg he],h1,⟨fun k hk=>⟨.inl hk,dQ h1 k hk⟩,Turned.of_below hb⟩⟩
 rw[if_neg he];have he:=Classical.not_not.1 he;obtain⟨hs,ht⟩:=Ap he;have hJ:=hO.jok hn;simp only
 by_cases h0:s=0
 ·rw[if_pos h0];subst h0;exact NK (x:=st.x) (f0:=st.f0) (f1:=st.f1) (L:=st.L) t hP hJ (by omega) ht
 ·rw[if_neg h0]
  have h1:s=1:=by omega
  subst h1;exact NL (x:=st.x) (f0:=st.f0) (f1:=st.f1) (L:=st.L) t hP hJ (by omega) ht
end
section
open Go.Proofs.Tryz Go.Joins
variable {lo hi mode:Int}
def aS (lo hi mode:Int):Int:=if ¬(-1048576<=lo∧lo<=1048576)∨¬(-1048576<=hi∧hi<=1048576) then 2 else if hi < lo then 10 else if ¬(0<=mode∧mode<=3) then 1 else 0
theorem DK (h:dn lo hi mode):aS lo hi mode=0:=by
 unfold dn at h;unfold aS;rw[if_neg (by omega),if_neg (by omega),if_neg (by omega)]
theorem qA (h:aS lo hi mode=0):dn lo hi mode:=by
 unfold aS at h
 split at h
 ·cases h
 ·split at h
  ·cases h
  ·split at h
   ·cases h
   ·unfold dn;omega
theorem GD (lo hi mode:Int) (w:World) (h:¬dn lo hi mode):Calls prog 109 #[.agg #[.int .i64 lo,.int .i64 hi,.int .i64 mode]] w fun e w'=>e= .returned (.iface 24 (.int .i64 (aS lo hi mode)))∧w'=w.alloc (.cells #[.int .i64 lo,.int .i64 hi,.int .i64 mode] 45):=by
 by_cases h1: -1048576<=lo∧lo<=1048576
 ·have d1:Hid (decide (-1048576<=lo∧lo<=1048576)=true):=by show _=_;simp;omega
  by_cases h2: -1048576<=hi∧hi<=1048576
  ·have d2:Hid (decide (-1048576<=hi∧hi<=1048576)=true):=by show _=_;simp;omega
   by_cases h3:hi < lo
   ·have hp:aS lo hi mode=10:=by unfold aS;rw[if_neg (by omega),if_pos h3]
    rw[hp];clear h h1 h2 hp;go_enter func109,ntmps109
    go_wp2_with (first
     | (go_at_call 183;refine(kz _ _).mono ?_;rintro e w' ⟨rfl,rfl⟩;first | rw[d1.out] | rw[d2.out])
     | fail)
    go_ret;exact⟨rfl,rfl⟩
   ·have h4:¬(0<=mode∧mode<=3):=fun h4=>h ⟨h1,h2,by omega,h4⟩
    have hp:aS lo hi mode=1:=by unfold aS;rw[if_neg (by omega),if_neg h3,if_pos h4]
    rw[hp];clear h h1 h2 hp;go_enter func109,ntmps109
    go_wp2_with (first
     | (go_at_call 183;refine(kz _ _).mono ?_;rintro e w' ⟨rfl,rfl⟩;first | rw[d1.out] | rw[d2.out])
     | (go_at_call 184;refine(KF _ _ h4).mono ?_;rintro e w' ⟨rfl,rfl⟩)
     | fail)
    go_ret;exact⟨rfl,rfl⟩
  ·have d2:Hid (decide (-1048576<=hi∧hi<=1048576)=false):=by show _=_;simp;omega
   have hp:aS lo hi mode=2:=by unfold aS;rw[if_pos (.inr h2)]
   rw[hp];clear h h1 h2 hp;go_enter func109,ntmps109
   go_wp2_with (first
    | (go_at_call 183;refine(kz _ _).mono ?_;rintro e w' ⟨rfl,rfl⟩;first | rw[d1.out] | rw[d2.out])
    | fail)
   go_ret;exact⟨rfl,rfl⟩
 ·have d1:Hid (decide (-1048576<=lo∧lo<=1048576)=false):=by show _=_;simp;omega
  have hp:aS lo hi mode=2:=by unfold aS;rw[if_pos (.inl h1)]
  rw[hp];clear h h1 hp;go_enter func109,ntmps109
  go_wp2_with (first
   | (go_at_call 183;refine(kz _ _).mono ?_;rintro e w' ⟨rfl,rfl⟩;rw[d1.out])
   | fail)
  go_ret;exact⟨rfl,rfl⟩
theorem KG (lo hi mode:Int) (w:World) (h:¬dn lo hi mode):Calls prog 48 #[.agg #[.int .i64 lo,.int .i64 hi,.int .i64 mode]] w fun e w'=>e= .returned (.tuple #[.pointer none,.iface 24 (.int .i64 (aS lo hi mode))])∧Below w.heap.size w w':=by
 have hck:=fun W=>GD lo hi mode W h
 have HB:Hid (Below w.heap.size w ((w.alloc (.cells #[.int .i64 lo,.int .i64 hi,.int .i64 mode] 45)).alloc (.cells #[.int .i64 lo,.int .i64 hi,.int .i64 mode] 45))):=below_alloc2 _ _ _;clear h;generalize aS lo hi mode=c at *;have hq:=GG c;go_enter func48,ntmps48
 go_wp2_with (first
  | (go_at_call 109;refine(hck _).mono ?_;rintro e w' ⟨rfl,rfl⟩)
  | fail)
 exact bodyPost_ret (v:= .tuple #[.pointer none,.iface 24 (.int .i64 c)]) (by simp[results,Tryz.results48,go_sem]) rfl ⟨rfl,HB.out⟩
theorem Aq (lo hi mode:Int) (w:World) (h:¬dn lo hi mode):Calls prog 13 #[.agg #[.int .i64 lo,.int .i64 hi,.int .i64 mode]] w fun e w'=>e= .returned (.tuple #[.pointer none,.iface 24 (.int .i64 (aS lo hi mode))])∧Below w.heap.size w w':=by
 have hck:=fun W=>KG lo hi mode W h
 have HB:Hid (Below w.heap.size w (w.alloc (uY lo hi mode))):=below_alloc1 _ _;clear h;generalize aS lo hi mode=c at *;have hq:=GG c;go_enter func13,ntmps13
 go_wp2_with (first
  | (go_at_call 48;refine(hck _).mono ?_;rintro e w1 ⟨rfl,hb1⟩;have HB1:Hid (Below w.heap.size w w1):=HB.out.trans (hb1.mono HB.out.size);clear hb1)
  | fail)
 exact bodyPost_ret (v:= .tuple #[.pointer none,.iface 24 (.int .i64 c)]) (by simp[results,Tryz.results13,go_sem]) rfl ⟨rfl,HB1.out⟩
section
variable {be bj bm:Nat} {v0 v1:Value} {f0 f1:Int} {om:Option Nat} {Sg:Nat->Prop} {x:J} {L Lg:List O} {w:World}
theorem NM (h:az w be bj bm v0 v1 f0 f1 om Sg x L Lg):Calls prog 19 #[.pointer (some ⟨be,0,none⟩),.int .i64 0] w fun e w'=>e= .returned (.int .i64 x.R0.length)∧w'=w:=by
 have H:Hid (Calls prog 63 #[.pointer (some ⟨bj,0,none⟩),.int .i64 0] w fun e w'=>e= .returned (.int .i64 x.R0.length)∧w'=w):=UG 0 bj bm v0 v1 x w h.join;have hc:=h.cells.2.2.2.1;have hlt:=h.blt;clear h;go_enter func19,ntmps19
 go_wp2_with (first
  | (go_at_call 63;refine H.out.mono ?_;rintro e w' ⟨rfl,hw⟩;have hw:=hw.symm;subst hw)
  | fail)
 go_ret;exact⟨rfl,rfl⟩
theorem NN (h:az w be bj bm v0 v1 f0 f1 om Sg x L Lg):Calls prog 19 #[.pointer (some ⟨be,0,none⟩),.int .i64 1] w fun e w'=>e= .returned (.int .i64 x.R1.length)∧w'=w:=by
 have H:Hid (Calls prog 63 #[.pointer (some ⟨bj,0,none⟩),.int .i64 1] w fun e w'=>e= .returned (.int .i64 x.R1.length)∧w'=w):=UH 0 bj bm v0 v1 x w h.join;have hc:=h.cells.2.2.2.1;have hlt:=h.blt;clear h;go_enter func19,ntmps19
 go_wp2_with (first
  | (go_at_call 63;refine H.out.mono ?_;rintro e w' ⟨rfl,hw⟩;have hw:=hw.symm;subst hw)
  | fail)
 go_ret;exact⟨rfl,rfl⟩
theorem Ub (h:az w be bj bm v0 v1 f0 f1 om Sg x L Lg):Calls prog 21 #[.pointer (some ⟨be,0,none⟩),.int .i64 0] w fun e w'=>e= .returned (.int .i64 f0)∧w'=w:=by
 have hc:=h.cells.2.2.2.2.1;have hlt:=h.blt;clear h;go_enter func21,ntmps21;go_wp2;go_ret;exact⟨rfl,rfl⟩
theorem Uc (h:az w be bj bm v0 v1 f0 f1 om Sg x L Lg):Calls prog 21 #[.pointer (some ⟨be,0,none⟩),.int .i64 1] w fun e w'=>e= .returned (.int .i64 f1)∧w'=w:=by
 have hc:=h.cells.2.2.2.2.2.1;have hlt:=h.blt;clear h;go_enter func21,ntmps21;go_wp2;go_ret;exact⟨rfl,rfl⟩
end
/-! What a group is told as. -/
structure Gi where
 key:Int
 count:Int
 sum:Int
 least:Int
 most:Int
 some:Bool
def dR (q:Gi):List UInt8:=Lib.itoa q.key++[58,32]++aa [q.count,q.sum]++(if q.some then 32::aa [q.least,q.most] else[])
structure DL (q:Gi):Prop where
 key:af q.key
 count:af q.count
 sum:af q.sum
 least:af q.least
 most:af q.most
abbrev zx (q:Gi):Obj:= .cells #[.int .i64 q.key,.int .i64 q.count,.int .i64 q.sum,.int .i64 q.least,.int .i64 q.most,.bool q.some] 140
abbrev lM (b:Nat) (q:Gi) (W:World):Prop:=W.cell? ⟨b,0,none⟩=some (.int .i64 q.key)∧W.cell? ⟨b,1,none⟩=some (.int .i64 q.count)∧W.cell? ⟨b,2,none⟩=some (.int .i64 q.sum)∧W.cell? ⟨b,3,none⟩=some (.int .i64 q.least)∧W.cell? ⟨b,4,none⟩=some (.int .i64 q.most)∧W.cell? ⟨b,5,none⟩=some (.bool q.some)
end
section
open Go.Joins
structure Dk (w0:World) (bs:Nat) (mv:Option Nat) (st:Sx) (be:Nat) (S P:Nat->Prop) (W:World):Prop where
 blk:W.heap[bs]? =some (.cells #[.pointer (some ⟨be,0,none⟩),.map mv] 225)
 eng:PE st be S W
 ns:¬S bs
 all:∀k,P k↔(S k∨k=bs)
 low:Below w0.heap.size w0 W
 ge:∀k,P k->w0.heap.size<=k
def YG (w0:World) (bs:Nat) (mv:Option Nat) (st:Sx) (P:Nat->Prop) (W:World):Prop:=∃be S,Dk w0 bs mv st be S P W
abbrev aC (w0:World) (bs:Nat) (mv:Option Nat) (st:Sx) (P:Nat->Prop) (W w':World):Prop:=∃P',YG w0 bs mv st P' w'∧Turned P W w'∧∀k,P' k->P k∨W.heap.size<=k
section
variable {w0:World} {bs be:Nat} {mv:Option Nat} {st st':Sx} {S S' P:Nat->Prop} {W W' w':World}
theorem Dk.lt (h:Dk w0 bs mv st be S P W):bs < W.heap.size:=(Array.getElem?_eq_some_iff.1 h.blk).1
theorem Dk.plt (h:Dk w0 bs mv st be S P W):∀k,P k->k < W.heap.size:=fun k hk=>by
 rcases(h.all k).1 hk with g | g
 ·exact dQ h.eng k g
 ·rw[g];exact h.lt
theorem Dk.cell (h:Dk w0 bs mv st be S P W):W.cell? ⟨bs,0,none⟩=some (.pointer (some ⟨be,0,none⟩))∧W.cell? ⟨bs,1,none⟩=some (.map mv)∧W.frozen? ⟨bs,0,none⟩=false:=by
 refine⟨?_,?_,unfrozen_of_block h.blk 0⟩ <;>(rw[cell_of_block h.blk];rfl)
theorem Dk.still (h:Dk w0 bs mv st be S P W) (hs:W.heap.size<=W'.heap.size) (hk:∀k,P k->W'.heap[k]? =W.heap[k]?) (hl:Below w0.heap.size w0 W'):Dk w0 bs mv st be S P W':=
 ⟨(hk bs ((h.all bs).2 (.inr rfl))).trans h.blk,cz st be S W W' h.eng hs (fun k e=>hk k ((h.all k).2 (.inl e))),h.ns,h.all,hl,h.ge⟩
theorem Dk.below (h:Dk w0 bs mv st be S P W) (hb:Below W.heap.size W W'):Dk w0 bs mv st be S P W':=
 h.still hb.size (fun k e=>hb.block k (h.plt k e)) (h.low.trans (hb.mono h.low.size))
theorem ja {a b:World} (hl:Below w0.heap.size w0 a) (ht:Turned P a b) (hp:∀k,P k->w0.heap.size<=k):Below w0.heap.size w0 b:=
 ⟨ht.os.trans hl.os,ht.tape.trans hl.tape,ht.output.trans hl.output,Nat.le_trans hl.size ht.size,fun k hk=>(ht.block k (Nat.lt_of_lt_of_le hk hl.size) (fun e=>by have :=hp k e;omega)).trans (hl.block k hk)⟩
theorem Dk.same (h:Dk w0 bs mv st be S P W) (hb:Below W.heap.size W w'):aC w0 bs mv st P W w':=⟨P,⟨be,S,h.below hb⟩,Turned.of_below hb,fun _ e=> .inl e⟩
theorem Dk.goes (h:Dk w0 bs mv st be S P W) (hE:PE st' be S' w') (hF:eO S S' W w'):Dk w0 bs mv st' be S' (fun k=>S' k∨k=bs) w'∧Turned P W w'∧∀k,(S' k∨k=bs)->P k∨W.heap.size<=k:=by
 have hT:Turned P W w':=hF.2.mono (fun k e=>(h.all k).2 (.inl e));refine⟨⟨(hF.2.block bs h.lt h.ns).trans h.blk,hE,fun e=> ?_,fun _=>Iff.rfl,ja h.low hT h.ge,fun k e=> ?_⟩,hT,fun k e=> ?_⟩
 ·rcases(hF.1 bs e).1 with g | g
  ·exact h.ns g
  ·have :=h.lt;omega
 ·rcases e with e | e
  ·rcases(hF.1 k e).1 with g | g
   ·exact h.ge k ((h.all k).2 (.inl g))
   ·have :=h.low.size;omega
  ·exact h.ge k ((h.all k).2 (.inr e))
 ·rcases e with e | e
  ·exact(hF.1 k e).1.imp (fun g=>(h.all k).2 (.inl g)) id
  ·exact .inl ((h.all k).2 (.inr e))
theorem aC.go {P':Nat->Prop} (h:Dk w0 bs mv st' be S' P' W') (hT:Turned P W W') (hp:∀k,P' k->P k∨W.heap.size<=k) (hb:Below W'.heap.size W' w'):aC w0 bs mv st' P W w':=
 ⟨P',⟨be,S',h.below hb⟩,hT.trans (Turned.of_below (S:=fun _=>False) hb) (fun _ _ e=>e.elim),hp⟩
theorem Dk.taken (h:Dk w0 bs mv st be S P W) {iF:Nat} (hb:Below W.heap.size W W') (hE:PE st' iF S' W') (hS:∀k,S' k->W.heap.size<=k):aC w0 bs mv st' P W (W'.setCell ⟨bs,0,none⟩ (.pointer (some ⟨iF,0,none⟩))):=by
 have h1:=h.below hb
 have hns:¬S' bs:=fun e=>by have :=hS bs e;have :=h.lt;omega
 have hse:∀k,k≠bs->(W'.setCell ⟨bs,0,none⟩ (.pointer (some ⟨iF,0,none⟩))).heap[k]? =W'.heap[k]? :=fun k e=>Below.heap_setCell _ _ _ _ e
 have hT:Turned P W (W'.setCell ⟨bs,0,none⟩ (.pointer (some ⟨iF,0,none⟩))):=(Turned.of_below (S:=P) hb).trans (bC (b:=bs) (o:=0)) (fun k _ e=>(h.all k).2 (.inr e));refine⟨fun k=>S' k∨k=bs,⟨iF,S',?_,cz st' iF S' W' _ hE (by simp) (fun k e=>hse k (fun e2=>hns (e2 ▸ e))),hns,fun _=>Iff.rfl,ja h.low hT h.ge,fun k e=> ?_⟩,hT,fun k e=> ?_⟩
 ·rw[block_setCell h1.blk];rfl
 ·rcases e with e | e
  ·have :=hS k e;have :=h.low.size;omega
  ·exact h.ge k ((h.all k).2 (.inr e))
 ·rcases e with e | e
  ·exact .inr (hS k e)
  ·exact .inl ((h.all k).2 (.inr e))
end
def jJ (c:Int) (t:List UInt8):Ending:=if c=0 then .returned (sV t) else thrown c
end
section
theorem DN {n:Int} (h:(Lit.int .i64 n).wf=true):af n:=by
 have h1:(decide (IntKind.i64.min<=n) && decide (n<=IntKind.i64.max))=true:=h
 have e1:IntKind.i64.min= -9223372036854775808:=by decide
 have e2:IntKind.i64.max=9223372036854775807:=by decide
 rw[e1,e2] at h1;simpa using h1
theorem mG {o:O} (h:o.wf):Fits o:=by
 obtain⟨a,b,c,d,e,f,g⟩:=h;exact⟨DN a,DN c,DN d,DN f,DN g⟩
def RU (W:World) (oa:Option Addr) (C:List Ch):Prop:=∀k c,C[k]? =some c->∃g,oa=some ⟨g,0,none⟩∧g < W.heap.size∧∀j u,(aQ c)[j]? =some u->W.cell? ⟨g,k * 10+j,none⟩=some u
theorem RU.below {W W':World} {oa:Option Addr} {C:List Ch} (h:RU W oa C) (hb:Below W.heap.size W W'):RU W' oa C:=fun k c hc=>by
 obtain⟨g,e,hl,h1⟩:=h k c hc;exact⟨g,e,Nat.lt_of_lt_of_le hl hb.size,fun j u hu=>(hb.cell (p:=⟨g,k * 10+j,none⟩) hl).trans (h1 j u hu)⟩
abbrev UJ (g o:Nat) (c:Ch) (W:World):Prop:=W.cell? ⟨g,o,none⟩=some (.int .i64 c.x.k)∧W.cell? ⟨g,o+1,none⟩=some (.int .i64 c.x.lk)∧W.cell? ⟨g,o+2,none⟩=some (.int .i64 c.x.lt)∧W.cell? ⟨g,o+3,none⟩=some (.int .i64 c.x.lv)∧W.cell? ⟨g,o+4,none⟩=some (.int .i64 c.x.rk)∧W.cell? ⟨g,o+5,none⟩=some (.int .i64 c.x.rt)∧W.cell? ⟨g,o+6,none⟩=some (.int .i64 c.x.rv)∧W.cell? ⟨g,o+7,none⟩=some (.bool c.x.hl)∧W.cell? ⟨g,o+8,none⟩=some (.bool c.x.hr)∧W.cell? ⟨g,o+9,none⟩=some (.bool c.g)
theorem rD {n:Nat} {st:Sx} (hO:dH n st) (k t v:Int) (h0:(st.feed0 k t v).1=0):(∀c∈qc st.x ⟨k,t,v⟩,Fits c.x)∧(qc st.x ⟨k,t,v⟩).length<=1000:=by
 have hg:au k t v=true:=by
  unfold Sx.feed0 at h0
  by_cases hg:au k t v=false
  ·rw[if_pos hg] at h0;exact absurd (show(1:Int)=0 from h0) (by decide)
  ·simpa using hg
 obtain⟨A,B,hH,hL,hlen,ha,hb⟩:=hO.ex;have hls:(⟨k,t,v⟩:Rw).small:=dI (r:=⟨k,t,v⟩) hg;refine⟨fun c hc=>mG (wN st.x.mode 0 ⟨k,t,v⟩ _ hls (fun y hy=>hb _ (hH.yet1 y (wO hy)).2.2.2) c hc),?_⟩;have h1:=pg st.x.mode 0 k t v (bF k (t+st.x.lo) (t+st.x.hi) st.x.R1);have h2:=wP k (t+st.x.lo) (t+st.x.hi) st.x.R1;have h3:=hO.l1;show(bU st.x.mode 0 k t v (bF k (t+st.x.lo) (t+st.x.hi) st.x.R1)).length<=_;omega
def nC (st:Sx) (k t v:Int):List UInt8:=Lib.join ([102,101,100]::(qc st.x ⟨k,t,v⟩).map dG) [44,32]
end
section
theorem rE {n:Nat} {st:Sx} (hO:dH n st) (k t v:Int) (h0:(st.feed1 k t v).1=0):(∀c∈qd st.x ⟨k,t,v⟩,Fits c.x)∧(qd st.x ⟨k,t,v⟩).length<=1000:=by
 have hg:au k t v=true:=by
  unfold Sx.feed1 at h0
  by_cases hg:au k t v=false
  ·rw[if_pos hg] at h0;exact absurd (show(1:Int)=0 from h0) (by decide)
  ·simpa using hg
 obtain⟨A,B,hH,hL,hlen,ha,hb⟩:=hO.ex;have hls:(⟨k,t,v⟩:Rw).small:=dI (r:=⟨k,t,v⟩) hg;refine⟨fun c hc=>mG (wN st.x.mode 1 ⟨k,t,v⟩ _ hls (fun y hy=>ha _ (hH.yet0 y (wO hy)).2.2.2) c hc),?_⟩;have h1:=pg st.x.mode 1 k t v (bF k (t+ -st.x.hi) (t+ -st.x.lo) st.x.R0);have h2:=wP k (t+ -st.x.hi) (t+ -st.x.lo) st.x.R0;have h3:=hO.l0;show(bU st.x.mode 1 k t v (bF k (t+ -st.x.hi) (t+ -st.x.lo) st.x.R0)).length<=_;omega
def nE (st:Sx) (k t v:Int):List UInt8:=Lib.join ([102,101,100]::(qd st.x ⟨k,t,v⟩).map dG) [44,32]
end
end Go.Proofs.YthfpipieboophaaGreatDoor
