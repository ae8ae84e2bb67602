import Derived.Test.YthfpipieboophaaGreatDoorRlg
import Derived.Test.YthfpipieboophaaGreatDoorZbo
import Derived.Test.YthfpipieboophaaGreatDoorRle
namespace Go.Proofs.YthfpipieboophaaGreatDoor
set_option maxRecDepth 100000
set_option maxHeartbeats 40000000
open Go.RowKit Go.Sort Go.Shelf
section
end
section
variable {n be:Nat} {st:Sx} {rs:RS} {P:Nat->Prop} {W:World}
theorem lI (a b:Int) (r:List Int):aa (a::b::r)=Lib.itoa a++32::aa (b::r):=by
 unfold aa;rw[List.map_cons,Lib.join_cons,List.map_cons,Lib.join_cons];simp[Lib.joinTail]
theorem vV:∀(r:List Int) (a:Int),cK (a::r)=32::aa (a::r)
 | [],a=>by rw[jw];simp[cK]
 | b::r,a=>by
  have :=vV r b;rw[lI];unfold cK at this⊢;rw[List.flatMap_cons,this];rfl
theorem fT (hd:List UInt8) (a:Int) (r:List Int):dB hd (a::r)=hd++32::aa (a::r)++[10]:=by
 unfold dB;rw[vV];simp
theorem QD (x:J) (f0 f1:Int):nK x.lo x.hi x.mode f0 f1 x.late x.m0 x.m1=EM x f0 f1:=by
 unfold EM;rw[fT,fT,fT];unfold nK;simp
theorem Tz (s:Int) (y:Hl):ed s y=dB pX.data.toList [s,(fE y).k,(fE y).t,(fE y).v,(fE y).n]:=by
 rw[fT];unfold ed;simp[fE]
theorem Ws:Lib.itoa 1=[49]:=by kernel_rfl
theorem Wt:Lib.itoa 2=[50]:=by kernel_rfl
theorem Wu:Lib.itoa 3=[51]:=by kernel_rfl
theorem TA (o:O) (h:o.hl=true∨o.hr=true):kX o=dB (fu o).data.toList (dV o):=by
 obtain⟨k,lk,lt,lv,rk,rt,rv,hl,hr⟩:=o;unfold kX dV fu Tg gY;cases hl
 ·cases hr
  ·rcases h with e | e <;>cases e
  ·simp only[Bool.false_eq_true,↓reduceIte,List.nil_append];rw[fT,lI];simp[Wt]
 ·cases hr
  ·simp only[Bool.false_eq_true,↓reduceIte,List.append_nil];rw[fT,lI];simp[Ws]
  ·simp only[↓reduceIte,List.cons_append,List.nil_append];rw[fT,lI];simp[Wu]
theorem Kk (s:Int) (E:List Hl):E.flatMap (ed s)=iw s (E.map fE):=by
 unfold iw;rw[List.flatMap_map];exact congrArg (fun f=>E.flatMap f) (funext fun y=>Tz s y)
theorem Kl:∀(Z:List O),(∀o∈Z,o.hl=true∨o.hr=true)->Z.flatMap kX=iy Z
 | [],_=>rfl
 | o::Z,h=>by
  have :=Kl Z (fun p hp=>h p (by simp[hp]));unfold iy at this⊢;rw[List.flatMap_cons,List.flatMap_cons,this,TA o (h o (by simp))]
theorem Xb:af 0:=⟨by decide,by decide⟩
theorem y7 {o:O} (h:iK o):(o.hl=true∨o.hr=true)∧(af o.lk∧af o.lt∧af o.lv)∧(af o.rk∧af o.rt∧af o.rv):=by
 cases h with
 | left k t v hg=>
  obtain⟨⟨a1,a2⟩,⟨b1,b2⟩,c1,c2⟩:=dI (r:=⟨k,t,v⟩) hg;simp only at a1 a2 b1 b2 c1 c2;exact⟨.inl rfl,⟨⟨by show _<=k;omega,by show k<=_;omega⟩,⟨by show _<=t;omega,by show t<=_;omega⟩,⟨by show _<=v;omega,by show v<=_;omega⟩⟩,Xb,Xb,Xb⟩
 | right k t v hg=>
  obtain⟨⟨a1,a2⟩,⟨b1,b2⟩,c1,c2⟩:=dI (r:=⟨k,t,v⟩) hg;simp only at a1 a2 b1 b2 c1 c2;exact⟨.inr rfl,⟨Xb,Xb,Xb⟩,⟨by show _<=k;omega,by show k<=_;omega⟩,⟨by show _<=t;omega,by show t<=_;omega⟩,⟨by show _<=v;omega,by show v<=_;omega⟩⟩
 | pair k t v t2 v2 hg hg2=>
  obtain⟨⟨a1,a2⟩,⟨b1,b2⟩,c1,c2⟩:=dI (r:=⟨k,t,v⟩) hg;obtain⟨⟨_,_⟩,⟨e1,e2⟩,g1,g2⟩:=dI (r:=⟨k,t2,v2⟩) hg2;simp only at a1 a2 b1 b2 c1 c2 e1 e2 g1 g2;exact⟨.inl rfl,⟨⟨by show _<=k;omega,by show k<=_;omega⟩,⟨by show _<=t;omega,by show t<=_;omega⟩,⟨by show _<=v;omega,by show v<=_;omega⟩⟩,⟨by show _<=k;omega,by show k<=_;omega⟩,⟨by show _<=t2;omega,by show t2<=_;omega⟩,⟨by show _<=v2;omega,by show v2<=_;omega⟩⟩
theorem FQ {R:List Hl} {T:List D} (hs:eY R T) (h:∀y∈T,au y.k y.t y.v=true∧0<=y.n∧y.n<=9223372036854775807):∀y∈R,af y.k∧af y.t∧af y.v∧af y.met:=by
 obtain⟨E,p,_,rfl⟩:=hs;intro y hy;obtain⟨hg,h1,h2⟩:=h (fE y) (List.mem_map.2 ⟨y,p.symm.subset hy,rfl⟩);obtain⟨⟨a1,a2⟩,⟨b1,b2⟩,c1,c2⟩:=dI (r:=⟨y.k,y.t,y.v⟩) hg;simp only at a1 a2 b1 b2 c1 c2;have h1:0<=y.met:=h1;have h2:y.met<=9223372036854775807:=h2;exact⟨⟨by omega,by omega⟩,⟨by omega,by omega⟩,⟨by omega,by omega⟩,by omega,h2⟩
theorem dN.fit (h:dN n st rs) (hO:dH n st) (hn:n<=1600):Ym rs.x rs.M rs.f0 rs.f1:=by
 have hs:=hO.sv hn;obtain⟨⟨a1,a2⟩,⟨a3,a4⟩,_,a5,a6⟩:=hO.plan;have b0:=hO.m0;have b1:=hO.m1;have c0:=hO.late;have d0:=hO.f0;have d1:=hO.f1;have l0:=h.r0.len;have l1:=h.r1.len;have q0:=hO.l0;have q1:=hO.l1;refine⟨by rw[h.lo];exact⟨by omega,by omega⟩,by rw[h.hi];exact⟨by omega,by omega⟩,by rw[h.mode];exact⟨by omega,by omega⟩,by rw[h.f0];exact⟨by omega,by omega⟩,by rw[h.f1];exact⟨by omega,by omega⟩,by rw[h.late];exact⟨by omega,by omega⟩,by rw[h.m0];exact⟨by omega,by omega⟩,by rw[h.m1];exact⟨by omega,by omega⟩,FQ h.r0 hs.g0,FQ h.r1 hs.g1,by omega,by omega,fun o ho=>y7 (hO.tell o (h.v.subset ho)),?_⟩;rw[h.v.length_eq];have :=hO.len hn;omega
theorem QE (h:dN n st rs) (hO:dH n st) {E0 E1:List Hl} {Z:List O} (p0:E0.Perm rs.x.R0) (o0:nN E0) (p1:E1.Perm rs.x.R1) (o1:nN E1) (pz:Z.Perm rs.M) (oz:bJ Z):
  FI rs.x rs.f0 rs.f1 E0 E1 Z=bN st.x st.f0 st.f1 (sortO st.L):=by
 have e0:=h.r0.at h.c0.inc p0 o0;have e1:=h.r1.at h.c1.inc p1 o1;have ez:Z=sortO st.L:=lY ((pz.trans h.v).trans (aR st.L).symm) oz (eX st.L)
 have hto:∀o∈Z,o.hl=true∨o.hr=true:=fun o ho=>(y7 (hO.tell o (h.v.subset (pz.subset ho)))).1
 unfold FI bN;rw[h.lo,h.hi,h.mode,h.f0,h.f1,h.late,h.m0,h.m1,QD,Kk,Kk,Kl Z hto,<-e0,<-e1,ez];rfl
theorem QF (n:Int):1<=(Lib.itoa n).length:=by
 have hd:∀u:Nat,1<=Lib.nDigits u:=fun u=>by
  unfold Lib.nDigits
  split <;>omega
 unfold Lib.itoa
 split
 ·simp
 ·rw[Lib.decDigits_length];exact hd _
theorem BD:∀ns:List Int,ns.length * 2<=(cK ns).length
 | []=>by simp[cK]
 | a::r=>by
  have h1:=BD r;have h2:=QF a;unfold cK at h1⊢;rw[List.flatMap_cons,List.length_append,List.length_cons,List.length_cons];omega
theorem QG (o:O) (h:o.hl=true∨o.hr=true):12<=(dB (fu o).data.toList (dV o)).length:=by
 have h1:=BD (dV o)
 have h2:3<=(dV o).length:=by
  unfold dV
  rcases h with e | e
  ·rw[e];simp
  ·rw[e];cases o.hl <;>simp
 have h3:(fu o).data.toList.length=5:=by
  unfold fu
  cases o.hl <;>cases o.hr <;>rfl
 unfold dB;rw[List.length_append,List.length_append,h3];simp only[List.length_cons,List.length_nil];omega
theorem BF:∀(Z:List O),(∀o∈Z,o.hl=true∨o.hr=true)->Z.length * 12<=(iy Z).length
 | [],_=>by simp
 | o::Z,h=>by
  have h1:=BF Z (fun p hp=>h p (by simp[hp]));have h2:=QG o (h o (by simp));unfold iy at h1⊢;rw[List.flatMap_cons,List.length_append,List.length_cons];omega
theorem QH (hO:dH n st):Bv (bN st.x st.f0 st.f1 (sortO st.L))=(match st.text with | none=> .tuple #[.string ⟨#[]⟩,.int .i64 4] | some t=> .tuple #[sV t,.int .i64 0]):=by
 unfold Bv Sx.text
 have hl:(sortO st.L).length * 12<=(bN st.x st.f0 st.f1 (sortO st.L)).length:=by
  have :=BF (sortO st.L) (fun o ho=>(y7 (hO.tell o ((aR st.L).subset ho))).1);unfold bN;simp only[List.length_append];omega
 rw[(aR st.L).length_eq] at hl
 by_cases h1:60000 < (bN st.x st.f0 st.f1 (sortO st.L)).length
 ·rw[if_pos h1,if_pos (.inr h1)]
 ·rw[if_neg h1,if_neg (by omega)]
theorem yf (h:RE be rs P W) (hL:dN n st rs) (hO:dH n st) (hn:n<=1600) (ht:jP W):
  Calls Tryz.prog 17 #[.pointer (some ⟨be,0,none⟩)] W fun e w'=>e= .returned (match st.text with | none=> .tuple #[.string ⟨#[]⟩,.int .i64 4] | some t=> .tuple #[sV t,.int .i64 0])∧Below W.heap.size W w':=by
 obtain⟨bj,v,v0,v1,hA,hP⟩:=h;refine(IQ W hA ht (hL.fit hO hn)).mono ?_;rintro e w' ⟨E0,E1,Z,p0,o0,p1,o1,pz,oz,rfl,hb⟩;refine⟨?_,hb⟩;rw[QE hL hO p0 o0 p1 o1 pz oz,QH hO]
theorem DH.again {w0:World} {bh:Nat} {Pe:Nat->Prop} (h:DH w0 bh be rs Pe P n st W):DH w0 bh be rs Pe P n st.again W:=⟨h.blk,h.eng,h.like.again,h.np,h.all,h.low,h.ge⟩
end
end Go.Proofs.YthfpipieboophaaGreatDoor
