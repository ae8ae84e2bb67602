import Derived.KernelRfl
import Derived.Test.YthfpipieboophaaGreatDoorCrd
import Derived.Test.YthfpipieboophaaGreatDoorZbv
namespace Go.Proofs.YthfpipieboophaaGreatDoor
set_option maxRecDepth 100000
set_option maxHeartbeats 40000000
section
open Go.Proofs.Tryz Go.ChangeShapes Go.WideShapes Go.ChangeAt Go.RowKit Go.Deep Go.Joins
set_option linter.unusedVariables false
variable {H:Type} {W:World} {base:Nat} {spare:Nat->Bool} {held:Bool} {p:List MemPlace}
theorem RL:prog.cellsOf 45=3:=by kernel_rfl
theorem RN:prog.cellsOf 39=6:=by kernel_rfl
theorem RO:prog.cellsOf 37=3:=by kernel_rfl
theorem cellsIn:prog.cellsOf 3=1:=by kernel_rfl
theorem KE {enc:TypeId×Value->H} {b:Nat} {r:Reach} {v:Value} {d:DataW H}
  (hv:Value.okWide prog W r b 45 v) (h:DataW.Trod enc prog W base spare held 45 v d p):
  ∃k t x:Int,v= .agg #[.int .i64 k,.int .i64 t,.int .i64 x]:=by
 obtain⟨c0,c1,c2,y0,y1,y2,n,rfl,_,_,h0,h1,h2⟩:=open_agg3 underlying45 (by kernel_rfl) RL hv h;obtain⟨a0,e0,_,_⟩:=DataW.trod_int underlying3 h0;obtain⟨a1,e1,_,_⟩:=DataW.trod_int underlying3 h1;obtain⟨a2,e2,_,_⟩:=DataW.trod_int underlying3 h2;simp at e0 e1 e2;subst e0 e1 e2;exact⟨a0,a1,a2,rfl⟩
theorem Xk {α:Type} {l:List α} (h:l.length=6):∃a b c d e f,l=[a,b,c,d,e,f]:=by
 match l,h with
 | [a,b,c,d,e,f],_=>exact⟨a,b,c,d,e,f,rfl⟩
theorem Dx {enc:TypeId×Value->H} {fuel:Nat} {cs:List Value} {y:DataW H×List MemPlace} (hl:cs.length=6)
  (hf:DataW.trod enc prog W base spare held fuel 39 cs=some y):∃a b c d e f:Int,cs=[.int .i64 a,.int .i64 b,.int .i64 c,.int .i64 d,.int .i64 e,.int .i64 f]:=by
 obtain⟨c0,c1,c2,c3,c4,c5,rfl⟩:=Xk hl;obtain⟨xs,n,_,_,_,hlen,hfs⟩:=DataW.trod_struct underlying39 hf
 match xs,hlen with
 | [y0,y1,y2,y3],_=>
  have f0:=hfs 0 _ rfl;have f1:=hfs 1 _ rfl;have f2:=hfs 2 _ rfl;have f3:=hfs 3 _ rfl;simp[cellsIn,RO] at f0 f1 f2 f3;obtain⟨z0,z1,z2,m,_,_,g0,g1,g2⟩:=trod_struct3 underlying37 f3;simp[cellsIn] at g0 g1 g2;obtain⟨a0,e0,_,w0⟩:=DataW.trod_int underlying3 f0;obtain⟨a1,e1,_,w1⟩:=DataW.trod_int underlying3 f1;obtain⟨a2,e2,_,w2⟩:=DataW.trod_int underlying3 f2;obtain⟨a3,e3,_,w3⟩:=DataW.trod_int underlying3 g0;obtain⟨a4,e4,_,w4⟩:=DataW.trod_int underlying3 g1;obtain⟨a5,e5,_,w5⟩:=DataW.trod_int underlying3 g2;simp at e0 e1 e2 e3 e4 e5;subst e0 e1 e2 e3 e4 e5;exact⟨a0,a1,a2,a3,a4,a5,rfl⟩
theorem Gv {enc:TypeId×Value->H} {oa:Option Addr} {n c:Nat} {d:DataW H}
  (h:DataW.Trod enc prog W 0 (fun _=>true) true 22 (.slice oa n c) d p):n=0∨∃(g off:Nat),oa=some ⟨g,off,none⟩∧g < W.heap.size∧∀k,k < n->∃a b c d e f:Int,∀j u,[Value.int .i64 a,.int .i64 b,.int .i64 c,.int .i64 d,.int .i64 e,.int .i64 f][j]? =some u->W.cell? ⟨g,off+k * 6+j,none⟩=some u:=by
 obtain⟨fuel,hf⟩:=h;have hf':DataW.trod enc prog W 0 (fun _=>true) true fuel 22 [.slice oa n c]=some (d,p):=hf
 rcases open_slice underlying22 hf' with⟨h1,_⟩ | ⟨a,len,cap,m,q,D,Pl,hcs,_,hl,_,hm,_,hall⟩
 ·simp at h1;exact .inl h1.2.1
 ·simp only[List.cons.injEq,Value.slice.injEq,and_true] at hcs;obtain⟨rfl,rfl,rfl⟩:=hcs;simp at hm;subst hm;rw[RN] at hall
  by_cases hn:n=0
  ·exact .inl hn
  have hx:∀i,i < n->∃a0 b0 c0 d0 e0 f0:Int,∀j u,[Value.int .i64 a0,.int .i64 b0,.int .i64 c0,.int .i64 d0,.int .i64 e0,.int .i64 f0][j]? =some u->W.cell? (a.add (i * 6+j))=some u:=fun i hi=>by
   obtain⟨cs,h1,h2⟩:=hall i (by omega);have hc:=World.cells?_some h1;obtain⟨a0,b0,c0,d0,e0,f0,rfl⟩:=Dx hc.2.1 h2;refine⟨a0,b0,c0,d0,e0,f0,fun j u hu=> ?_⟩;have hj:j < 6:=(List.getElem?_eq_some_iff.1 hu).1;have h3:=hc.2.2 j hj;rw[Addr.add_add] at h3;rw[h3,hu]
  obtain⟨g,off,spot⟩:=a;obtain⟨a0,b0,c0,d0,e0,f0,h0⟩:=hx 0 (by omega);have h0':=h0 0 _ rfl
  have hspot:spot=none:=by
   simp[Addr.add] at h0';simpa using World.cell?_spot h0'
  subst hspot
  have had:∀k,(⟨g,off,none⟩:Addr).add k=⟨g,off+k,none⟩:=fun k=>by unfold Addr.add;split <;>simp_all
  refine .inr ⟨g,off,rfl,World.block_lt_of_cell? _ _ h0',fun k hk=> ?_⟩;obtain⟨a1,b1,c1,d1,e1,f1,hk1⟩:=hx k hk;refine⟨a1,b1,c1,d1,e1,f1,fun j u hu=> ?_⟩;have :=hk1 j u hu;rw[had,<-Nat.add_assoc] at this;exact this
end
section
theorem Ny:(Rows.enginePlaysRow.inPlace==Tryz.prog.inPlace 4)=true:=by kernel_rfl
theorem zw:(Rows.enginePlaysRow.unfollowed==Tryz.prog.unfollowed 4)=true:=by kernel_rfl
theorem Dw:(Rows.enginePlaysRow.recurses==Tryz.prog.recurses 4)=true:=by kernel_rfl
theorem Nz:(Rows.enginePlaysRow.named==Tryz.prog.varsNamed 4)=true:=by kernel_rfl
theorem KD:joinedFacts Tryz.prog 4 Tryz.f4 Rows.enginePlaysSpec Rows.enginePlaysRow=true:=by
 unfold joinedFacts;rw[Ny,zw,Dw,Nz]
 kernel_rfl
end
end Go.Proofs.YthfpipieboophaaGreatDoor
