import Derived.Test.YthfpipieboophaaGreatDoorZar
import Derived.Test.YthfpipieboophaaGreatDoorLdu
import Derived.Test.YthfpipieboophaaGreatDoorZap
import Derived.Test.YthfpipieboophaaGreatDoorZal
namespace Go.Proofs.YthfpipieboophaaGreatDoor
set_option maxRecDepth 100000
set_option maxHeartbeats 40000000
open Go.RowKit Go.Sort Go.Shelf
section
open Go.Proofs.Tryz Go.Joins
attribute [local go_sem] Oper.semAt_some
structure Bd (w:World) (kb bm:Nat) (ve:Value) (W:World):Prop where
 low:Below w.heap.size w W
 r1:W.heap[w.heap.size]? =some (.cells #[.pointer none] 27)
 r2:W.heap[w.heap.size+1]? =some (.cells #[.bool false] 4)
 re:W.heap[w.heap.size+1+1]? =some (.cells #[ve] 27)
 rk:W.heap[kb]? =some (.cells #[.map (some bm)] 152)
 kn:nH W bm
 kb3:w.heap.size+3<=kb
 bm3:w.heap.size+3<=bm
section
variable {w:World} {kb bm:Nat} {ve:Value} {W W':World}
theorem Bd.lts (h:Bd w kb bm ve W):w.heap.size+2 < W.heap.size∧kb < W.heap.size∧bm < W.heap.size:=by
 refine⟨(Array.getElem?_eq_some_iff.1 h.re).1,(Array.getElem?_eq_some_iff.1 h.rk).1,?_⟩;obtain⟨es,c,h1,_⟩:=h.kn;exact(Array.getElem?_eq_some_iff.1 h1).1
theorem Bd.still (h:Bd w kb bm ve W) (hb:Below w.heap.size W W') (hk:∀k,k=w.heap.size∨k=w.heap.size+1∨k=w.heap.size+1+1∨k=kb∨k=bm->W'.heap[k]? =W.heap[k]?):Bd w kb bm ve W':=
 ⟨h.low.trans hb,(hk _ (.inl rfl)).trans h.r1,(hk _ (.inr (.inl rfl))).trans h.r2,(hk _ (.inr (.inr (.inl rfl)))).trans h.re,(hk _ (.inr (.inr (.inr (.inl rfl))))).trans h.rk,h.kn.still (hk _ (.inr (.inr (.inr (.inr rfl))))),h.kb3,h.bm3⟩
theorem Bd.below (h:Bd w kb bm ve W) (hb:Below W.heap.size W W'):Bd w kb bm ve W':=by
 have l:=h.lts;refine h.still (hb.mono (by omega)) (fun k hk=>hb.block k ?_)
 rcases hk with rfl | rfl | rfl | rfl | rfl <;>omega
theorem Bd.cells (h:Bd w kb bm ve W):W.cell? ⟨w.heap.size,0,none⟩=some (.pointer none)∧W.cell? ⟨w.heap.size+1,0,none⟩=some (.bool false)∧W.cell? ⟨w.heap.size+1+1,0,none⟩=some ve∧W.cell? ⟨kb,0,none⟩=some (.map (some bm))∧W.frozen? ⟨w.heap.size,0,none⟩=false∧W.frozen? ⟨w.heap.size+1,0,none⟩=false∧W.frozen? ⟨w.heap.size+1+1,0,none⟩=false:=
 ⟨by rw[cell_of_block h.r1];rfl,by rw[cell_of_block h.r2];rfl,by rw[cell_of_block h.re];rfl,by rw[cell_of_block h.rk];rfl,unfrozen_of_block h.r1 0,unfrozen_of_block h.r2 0,unfrozen_of_block h.re 0⟩
theorem Bd.put (h:Bd w kb bm ve W) (u:Value):Bd w kb bm u (W.setCell ⟨w.heap.size+1+1,0,none⟩ u):=by
 have hs:∀j,j≠w.heap.size+1+1->(W.setCell ⟨w.heap.size+1+1,0,none⟩ u).heap[j]? =W.heap[j]? :=fun j e=>Below.heap_setCell _ _ _ _ e
 have a:=h.kb3;have b:=h.bm3;refine⟨h.low.setCell (p:=⟨w.heap.size+1+1,0,none⟩) (by show w.heap.size<=w.heap.size+1+1;omega) _,(hs _ (by omega)).trans h.r1,(hs _ (by omega)).trans h.r2,?_,(hs _ (by omega)).trans h.rk,h.kn.still (hs _ (by omega)),a,b⟩;rw[block_setCell h.re];rfl
end
def Bi (P:Nat->Nat->(Nat->Prop)->World->Prop) (w:World) (kb bm:Nat) (B:Nat) (i:Nat) (W:World):Prop:=
 ∃ve,Bd w kb bm ve W∧((i=0∧ve= .pointer none)∨∃be S,1<=i∧ve= .pointer (some ⟨be,0,none⟩)∧P i be S W∧∀k,S k->B<=k∧k < W.heap.size)
theorem Bi.grown {P:Nat->Nat->(Nat->Prop)->World->Prop} (hP:∀i be,tV (P i be)) {w:World} {kb bm B i:Nat} {W W':World} {row:Option Nat} (h:Bi P w kb bm B i W) (hg:W.grownBy W' row) (hr:∀k,row=some k->w.heap.size+3<=k∧k≠kb∧k≠bm∧k < B):Bi P w kb bm B i W':=by
 obtain⟨ve,hB,hE⟩:=h;have l:=hB.lts;have hb:Below w.heap.size W W':=(Below.refl _ _).grown hg (by omega) (fun k e=>by have :=(hr k e).1;omega);refine⟨ve,hB.still hb (fun k hk=>hg.block k ?_ (fun e=> ?_)),?_⟩
 ·rcases hk with rfl | rfl | rfl | rfl | rfl <;>omega
 ·obtain⟨h1,h2,h3,_⟩:=hr k e.symm
  rcases hk with rfl | rfl | rfl | rfl | rfl <;>omega
 ·rcases hE with hE | ⟨be,S,h1,h2,h3,h4⟩
  ·exact .inl hE
  ·refine .inr ⟨be,S,h1,h2,hP i be S W W' h3 hg.size (fun k hk=>hg.block k (h4 k hk).2 (fun e=> ?_)),fun k hk=>⟨(h4 k hk).1,Nat.lt_of_lt_of_le (h4 k hk).2 hg.size⟩⟩;have :=(hr k e.symm).2.2.2;have :=(h4 k hk).1;omega
theorem Pg (WX:∀(s:ByteArray) (c:UInt8) (w:World),Calls prog 154 #[.string s,.string ⟨#[c]⟩] w fun e w'=>e= .returned (.int .i64 (Lib.indexByte s.data.toList c))∧w'=w)
  (HTr:∀(s p:ByteArray) (w:World),s.size<=9223372036854775807->Calls prog 90 #[.string s,.string p] w fun e w'=>e= .returned (.string ⟨(Lib.trimSuffix s.data.toList p.data.toList).toArray⟩)∧w'=w)
  (P:Nat->Nat->(Nat->Prop)->World->Prop) (hP:∀i be,tV (P i be)) (ls:List (ByteArray×List Int)) (tx:ByteArray×List Int->List UInt8) (w:World)
  (hne:ls≠[]) (h10:∀p∈ls,(10:UInt8)∉tx p) (hsz:(ls.flatMap fun p=>tx p++[10]).length<=1000000)
  (ZL:∀(i:Nat) p bm W,ls[i]? =some p->Below w.heap.size w W->nH W bm->bm < W.heap.size->Calls prog 91 #[.string ⟨(tx p).toArray⟩,.map (some bm)] W fun e w'=>∃g,e= .returned (.tuple #[.agg #[.string p.1,.slice (some ⟨g,0,none⟩) p.2.length p.2.length],.bool true])∧w'.heap[g]? =some (.cells (p.2.map (Value.int .i64)).toArray 3)∧W.heap.size<=g∧Below W.heap.size W w')
  (HS:∀p g W,ls[0]? =some p->Below w.heap.size w W->W.heap[g]? =some (.cells (p.2.map (Value.int .i64)).toArray 3)->Calls prog 93 #[.agg #[.string p.1,.slice (some ⟨g,0,none⟩) p.2.length p.2.length]] W fun e w'=>∃be S,e= .returned (.tuple #[.pointer (some ⟨be,0,none⟩),.bool true])∧P 1 be S w'∧(∀k,S k->W.heap.size<=k∧k < w'.heap.size)∧Below W.heap.size W w')
  (HR:∀(i:Nat) p be S g W,1<=i->ls[i]? =some p->Below w.heap.size w W->P i be S W->W.heap[g]? =some (.cells (p.2.map (Value.int .i64)).toArray 3)->¬S g->Calls prog 92 #[.pointer (some ⟨be,0,none⟩),.agg #[.string p.1,.slice (some ⟨g,0,none⟩) p.2.length p.2.length]] W fun e w'=>e= .returned (.bool true)∧∃S',P (i+1) be S' w'∧(∀k,S' k->(S k∨W.heap.size<=k)∧k < w'.heap.size)∧Turned S W w'):
  Calls prog 42 #[.string ⟨(ls.flatMap fun p=>tx p++[10]).toArray⟩] w fun e w'=>∃be S,e= .returned (.tuple #[.pointer (some ⟨be,0,none⟩),.bool true])∧P ls.length be S w'∧(∀k,S k->w.heap.size<=k∧k < w'.heap.size)∧Below w.heap.size w w':=by
 have e10:∀l:List (ByteArray×List Int),(l.flatMap fun p=>tx p++[10])=(l.map tx).flatMap fun x=>x++[10]:=fun l=>by rw[List.flatMap_map]
 have htr:∀W,Calls prog 90 #[.string ⟨(ls.flatMap fun p=>tx p++[10]).toArray⟩,.string ⟨#[10]⟩] W fun e w'=>e= .returned (.string ⟨(aA (ls.map tx)).toArray⟩)∧w'=W:=by
  intro W;refine(HTr _ ⟨#[10]⟩ W (by show(ls.flatMap fun p=>tx p++[10]).toArray.size<=_;simp only[List.size_toArray];omega)).mono ?_;rintro e w' ⟨rfl,h⟩;refine⟨?_,h⟩;show _=Ending.returned (Value.string ⟨(aA (ls.map tx)).toArray⟩);simp only;rw[e10];obtain⟨p,t,rfl⟩:=List.exists_cons_of_ne_nil hne;rw[List.map_cons,A7]
 have hlen:(aA (ls.map tx)).length<=1000000:=by
  have h1:(aA (ls.map tx)).length<=((ls.map tx).flatMap fun x=>x++[10]).length:=by
   obtain⟨p,t,rfl⟩:=List.exists_cons_of_ne_nil hne;rw[List.map_cons,<-A7];unfold Lib.trimSuffix
   split
   ·rw[List.length_take];omega
   ·exact Nat.le_refl _
  rw[<-e10] at h1;omega
 revert htr;generalize (⟨(ls.flatMap fun p=>tx p++[10]).toArray⟩:ByteArray)=txt;intro htr;clear e10 HTr hsz;refine(callsIn_wide (n:=4)).1 ?_;refine callsIn_of_wp_marks func42 rfl trivial ?_ rfl;simp only[ntmps42,List.size_toArray,List.length_cons,List.length_nil,Nat.reduceAdd,Nat.reduceSub,Array.replicate_succ,Array.replicate_zero,List.push_toArray,List.append_toArray,List.nil_append,List.cons_append];have f83:Fence.wide.fn 88:=trivial;have f84:Fence.wide.fn 89:=trivial;have f85:Fence.wide.fn 90:=trivial
 gi_wp2_with (first
  | (gi_at_call 89;refine(callsIn_wide.2 (CG _ _ _)).mono ?_;rintro e w4 ⟨rfl,hw4⟩;subst hw4)
  | (gi_at_call 90;refine(callsIn_wide.2 (htr _)).mono ?_;rintro e w3 ⟨rfl,hw3⟩;have hw3:=hw3.symm;subst hw3)
  | (gi_at_call 88;refine(callsIn_wide.2 (EI _)).mono ?_;rintro e w2 ⟨rfl,hk2,hb2⟩)
  | gi_in)
 have hW0:Below w.heap.size w (((w.alloc (.cells #[.pointer none] 27)).alloc (.cells #[.bool false] 4)).alloc (.cells #[.pointer none] 27)):=((below_alloc2 _ _ _).alloc (by simp only[World.size_alloc];omega) _)
 have hs0:(((w.alloc (.cells #[.pointer none] 27)).alloc (.cells #[.bool false] 4)).alloc (.cells #[.pointer none] 27)).heap.size=w.heap.size+1+1+1:=by simp
 have q1:(((w.alloc (.cells #[.pointer none] 27)).alloc (.cells #[.bool false] 4)).alloc (.cells #[.pointer none] 27)).heap[w.heap.size]? =some (.cells #[.pointer none] 27):=(Below.heap_alloc _ _ _ (by simp only[World.size_alloc];omega)).trans ((Below.heap_alloc _ _ _ (by simp only[World.size_alloc];omega)).trans (heap_alloc_new w _))
 have q2:(((w.alloc (.cells #[.pointer none] 27)).alloc (.cells #[.bool false] 4)).alloc (.cells #[.pointer none] 27)).heap[w.heap.size+1]? =some (.cells #[.bool false] 4):=by
  refine(Below.heap_alloc _ _ _ (by simp only[World.size_alloc];omega)).trans ?_;have :=heap_alloc_new (w.alloc (.cells #[.pointer none] 27)) (.cells #[.bool false] 4)
  rwa [World.size_alloc] at this
 have q3:(((w.alloc (.cells #[.pointer none] 27)).alloc (.cells #[.bool false] 4)).alloc (.cells #[.pointer none] 27)).heap[w.heap.size+1+1]? =some (.cells #[.pointer none] 27):=by
  have :=heap_alloc_new ((w.alloc (.cells #[.pointer none] 27)).alloc (.cells #[.bool false] 4)) (.cells #[.pointer none] 27)
  rwa [World.size_alloc,World.size_alloc] at this
 have X6:∀(W:World),Below w2.heap.size w2 W->W.heap[w2.heap.size]? =some (.cells #[.map (some (w.heap.size+1+1+1))] 152)->Bd w w2.heap.size (w.heap.size+1+1+1) (.pointer none) W:=by
  intro W hW hkb;have hz:=hb2.size;rw[hs0] at hz hk2;have hb3:=hb2.trans (hW.mono hb2.size);have l:=hk2.lt;exact⟨hW0.trans (hb3.mono (by rw[hs0];omega)),(hb3.block _ (by rw[hs0];omega)).trans q1,(hb3.block _ (by rw[hs0];omega)).trans q2,(hb3.block _ (by rw[hs0];omega)).trans q3,hkb,hk2.still (hW.block _ l),by omega,by omega⟩
 have hlo:w.heap.size+1+1+1<=w2.heap.size:=by have :=hb2.size;rwa [hs0] at this
 clear hW0 hs0 q1 q2 q3 hk2 hb2;obtain⟨w4,hw4⟩:∃w4,((((w2.alloc (.cells #[.map (some (w.heap.size+1+1+1))] 152)).alloc (.cells #[.string ⟨(aA (ls.map tx)).toArray⟩] 9)).alloc (.cells #[.string ⟨#[10]⟩] 9)).alloc (.cells #[.int .i64 0] 3))=w4:=⟨_,rfl⟩
 have hs4:w4.heap.size=w2.heap.size+4:=by rw[<-hw4];simp
 have hBx:kI w4 (w2.heap.size+1) (w2.heap.size+1+1) (w2.heap.size+1+2) (aA (ls.map tx)):=by
  rw[<-hw4];refine⟨?_,?_,?_,by omega,by omega⟩
  ·refine(Below.heap_alloc _ _ _ (by simp only[World.size_alloc];omega)).trans ((Below.heap_alloc _ _ _ (by simp only[World.size_alloc];omega)).trans ?_);have :=heap_alloc_new (w2.alloc (.cells #[.map (some (w.heap.size+1+1+1))] 152)) (.cells #[.string ⟨(aA (ls.map tx)).toArray⟩] 9)
   rwa [World.size_alloc] at this
  ·refine(Below.heap_alloc _ _ _ (by simp only[World.size_alloc];omega)).trans ?_;have :=heap_alloc_new ((w2.alloc (.cells #[.map (some (w.heap.size+1+1+1))] 152)).alloc (.cells #[.string ⟨(aA (ls.map tx)).toArray⟩] 9)) (.cells #[.string ⟨#[10]⟩] 9)
   rwa [World.size_alloc,World.size_alloc] at this
  ·have :=heap_alloc_new (((w2.alloc (.cells #[.map (some (w.heap.size+1+1+1))] 152)).alloc (.cells #[.string ⟨(aA (ls.map tx)).toArray⟩] 9)).alloc (.cells #[.string ⟨#[10]⟩] 9)) (.cells #[.int .i64 0] 3)
   rwa [World.size_alloc,World.size_alloc,World.size_alloc] at this
 have hB4:Bd w w2.heap.size (w.heap.size+1+1+1) (.pointer none) w4:=by
  rw[<-hw4];refine X6 _ (((below_alloc2 _ _ _).alloc (by simp only[World.size_alloc];omega) _).alloc (by simp only[World.size_alloc];omega) _) ?_;exact(Below.heap_alloc _ _ _ (by simp only[World.size_alloc];omega)).trans ((Below.heap_alloc _ _ _ (by simp only[World.size_alloc];omega)).trans ((Below.heap_alloc _ _ _ (by simp only[World.size_alloc];omega)).trans (heap_alloc_new w2 _)))
 have acp:w.heap.size+1+1+1 < w2.heap.size+4:=by omega
 have acr:w4.heap.size<=w2.heap.size+4:=by omega
 have acs:w2.heap.size+4<=w4.heap.size:=by omega
 clear hs4;rw[hw4];clear hw4 X6
 refine EJ WX (n:=4) (by omega) (bs:=w2.heap.size+1) (bp:=w2.heap.size+1+1) (bv:=w2.heap.size+1+2) rfl (ls.map tx) (by simpa using hne) (fun x hx=>by obtain⟨p,hp,rfl⟩:=List.mem_map.1 hx;exact h10 p hp) hlen hBx
  (Bi P w w2.heap.size (w.heap.size+1+1+1) (w4.heap.size+2)) ?hI ⟨_,hB4,.inl ⟨rfl,rfl⟩⟩
  (fun x=>{ tmps:= #[.string txt,undef,.pointer (some ⟨w.heap.size,0,none⟩),.pointer (some ⟨w.heap.size+1,0,none⟩),.pointer (some ⟨w.heap.size+1+1,0,none⟩),.pointer (some ⟨w2.heap.size,0,none⟩),.string ⟨x.toArray⟩,undef,undef,.map (some (w.heap.size+1+1+1)),.string txt,.string ⟨(aA (ls.map tx)).toArray⟩,.func (.func 237) #[] #[.pointer (some ⟨w2.heap.size+1+1,0,none⟩),.pointer (some ⟨w2.heap.size+1,0,none⟩),.pointer (some ⟨w2.heap.size+1+2,0,none⟩)],.string ⟨x.toArray⟩,undef,undef,undef,undef,undef,undef,undef,undef,undef,undef,undef,undef,undef,undef,undef,undef,undef,undef,undef,undef,undef,undef,undef],defers:=[]}) ?assign ?body ?done
 case hI=>
  intro i W W' row hB hg hr;refine hB.grown hP hg (fun k e=> ?_)
  rcases hr k e with rfl | rfl
  ·omega
  ·omega
 case assign=>
  intro x W K hK
  gi_wp2
  exact hK
 case body=>
  intro i x W hx hB hWs
  obtain⟨p,hp,rfl⟩:∃p,ls[i]? =some p∧tx p=x:=by
   rw[List.getElem?_map] at hx
   cases hq:ls[i]? with
   | none=>rw[hq] at hx;cases hx
   | some p=>rw[hq] at hx;exact⟨p,rfl,by injection hx⟩
  obtain⟨ve,hBd,hE⟩:=hB;have hcs:=hBd.cells;have lts:=hBd.lts;have WR:=ZL i p _ W hp hBd.low hBd.kn lts.2.2
  rcases hE with⟨rfl,rfl⟩ | ⟨be,S,h1,rfl,YR,Lm⟩
  ·have Vr:Hid (Calls prog 91 #[.string ⟨(tx p).toArray⟩,.map (some (w.heap.size+1+1+1))] W fun e w'=>∃g,e= .returned (.tuple #[.agg #[.string p.1,.slice (some ⟨g,0,none⟩) p.2.length p.2.length],.bool true])∧(w'.cell? ⟨w.heap.size+1+1,0,none⟩=some (.pointer none)∧w.heap.size+1+1 < w'.heap.size)∧Hid (w'.heap[g]? =some (.cells (p.2.map (Value.int .i64)).toArray 3)∧Bd w w2.heap.size (w.heap.size+1+1+1) (.pointer none) w'∧Below W.heap.size W w')):=by
    refine WR.mono ?_;rintro e w' ⟨g,rfl,hg1,hge,hb1⟩;have hB1:=hBd.below hb1;exact⟨g,rfl,⟨hB1.cells.2.2.1,hB1.lts.1⟩,hg1,hB1,hb1⟩
   have hS':Hid (∀g W1,Hid (W1.heap[g]? =some (.cells (p.2.map (Value.int .i64)).toArray 3)∧Bd w w2.heap.size (w.heap.size+1+1+1) (.pointer none) W1∧Below W.heap.size W W1)->
     Calls prog 93 #[.agg #[.string p.1,.slice (some ⟨g,0,none⟩) p.2.length p.2.length]] (W1.alloc (.cells #[.string p.1,.slice (some ⟨g,0,none⟩) p.2.length p.2.length] 169)) fun e w'=>∃be,e= .returned (.tuple #[.pointer (some ⟨be,0,none⟩),.bool true])∧(w'.cell? ⟨w.heap.size+1+1,0,none⟩=some (.pointer none)∧w'.frozen? ⟨w.heap.size+1+1,0,none⟩=false)∧Hid (∃S,P 1 be S w'∧(∀k,S k->W.heap.size<=k∧k < w'.heap.size)∧Bd w w2.heap.size (w.heap.size+1+1+1) (.pointer none) w'∧Below W.heap.size W w')):=by
    intro g W1 hh;obtain⟨g1,g2,g3⟩:=hh.out;have ha:=below_alloc1 W1 (.cells #[.string p.1,.slice (some ⟨g,0,none⟩) p.2.length p.2.length] 169);have hB2:=g2.below ha;refine(HS p g _ hp hB2.low ((ha.block g (Array.getElem?_eq_some_iff.1 g1).1).trans g1)).mono ?_;rintro e w' ⟨be,S,rfl,hP1,hS1,hb3⟩;have hB3:=hB2.below hb3;have hz1:=g3.size;have hz2:=ha.size;exact⟨be,rfl,⟨hB3.cells.2.2.1,hB3.cells.2.2.2.2.2.2⟩,S,hP1,fun k hk=>⟨by have :=(hS1 k hk).1;omega,(hS1 k hk).2⟩,hB3,g3.trans ((ha.trans (hb3.mono hz2)).mono hz1)⟩
   have hn2:1<=4 -1 -1:=by decide
   have f86:Fence.wide.fn 91:=trivial;have f88:Fence.wide.fn 93:=trivial;have hlt:=lts.2.1;clear WR ZL HS HR hBd lts hB4 hBx
   gi_wp2_with (first
    | (gi_at_call 93;refine(CallsIn.inRound _ (callsIn_wide.2 (hS'.out _ _ h1))).mono ?_;rintro e W3 ⟨be,rfl,hc3,h3⟩)
    | (gi_at_call 91;refine(CallsIn.inRound _ (callsIn_wide.2 Vr.out)).mono ?_;rintro e W1 ⟨g,rfl,hc1,h1⟩)
    | gi_in)
   obtain⟨S,hP1,hS1,hB3,hbW⟩:=h3.out;have hB4:=hB3.put (.pointer (some ⟨be,0,none⟩))
   have hset:∀k,k≠w.heap.size+1+1->(W3.setCell ⟨w.heap.size+1+1,0,none⟩ (.pointer (some ⟨be,0,none⟩))).heap[k]? =W3.heap[k]? :=fun k e=>Below.heap_setCell _ _ _ _ e
   have hz:=hbW.size;refine⟨⟨_,hB4,.inr ⟨be,S,Nat.le_refl _,rfl,hP 1 be S W3 _ hP1 (by simp) (fun k hk=>hset k (by have :=(hS1 k hk).1;omega)),fun k hk=>⟨by have :=(hS1 k hk).1;omega,by simpa using(hS1 k hk).2⟩⟩⟩,by simpa using hz,fun k hk=> ?_⟩
   rcases hk with rfl | rfl | rfl | rfl | rfl
   all_goals exact(hset _ (by omega)).trans (hbW.block _ (by omega))
  ·have Vr:Hid (Calls prog 91 #[.string ⟨(tx p).toArray⟩,.map (some (w.heap.size+1+1+1))] W fun e w'=>∃g,e= .returned (.tuple #[.agg #[.string p.1,.slice (some ⟨g,0,none⟩) p.2.length p.2.length],.bool true])∧(w'.cell? ⟨w.heap.size+1+1,0,none⟩=some (.pointer (some ⟨be,0,none⟩))∧w.heap.size+1+1 < w'.heap.size)∧Hid (w'.heap[g]? =some (.cells (p.2.map (Value.int .i64)).toArray 3)∧W.heap.size<=g∧Bd w w2.heap.size (w.heap.size+1+1+1) (.pointer (some ⟨be,0,none⟩)) w'∧Below W.heap.size W w')):=by
    refine WR.mono ?_;rintro e w' ⟨g,rfl,hg1,hge,hb1⟩;have hB1:=hBd.below hb1;exact⟨g,rfl,⟨hB1.cells.2.2.1,hB1.lts.1⟩,hg1,hge,hB1,hb1⟩
   have hS':Hid (∀g W1,Hid (W1.heap[g]? =some (.cells (p.2.map (Value.int .i64)).toArray 3)∧W.heap.size<=g∧Bd w w2.heap.size (w.heap.size+1+1+1) (.pointer (some ⟨be,0,none⟩)) W1∧Below W.heap.size W W1)->
     Calls prog 92 #[.pointer (some ⟨be,0,none⟩),.agg #[.string p.1,.slice (some ⟨g,0,none⟩) p.2.length p.2.length]] (W1.alloc (.cells #[.string p.1,.slice (some ⟨g,0,none⟩) p.2.length p.2.length] 169)) fun e w'=>e= .returned (.bool true)∧Hid (∃S',P (i+1) be S' w'∧(∀k,S' k->w4.heap.size+2<=k∧k < w'.heap.size)∧Bd w w2.heap.size (w.heap.size+1+1+1) (.pointer (some ⟨be,0,none⟩)) w'∧Turned S W w')):=by
    intro g W1 hh;obtain⟨g1,g0,g2,g3⟩:=hh.out;have ha:=below_alloc1 W1 (.cells #[.string p.1,.slice (some ⟨g,0,none⟩) p.2.length p.2.length] 169);have hB2:=g2.below ha;have hz1:=g3.size;have hz2:=ha.size;have hb2:=g3.trans (ha.mono hz1);have hP2:=hP i be S W _ YR hb2.size (fun k hk=>hb2.block k (Lm k hk).2);refine(HR i p be S g _ h1 hp hB2.low hP2 ((ha.block g (Array.getElem?_eq_some_iff.1 g1).1).trans g1) (fun hk=>by have :=(Lm g hk).2;omega)).mono ?_;rintro e w' ⟨rfl,S',hP3,YS,hT⟩
    have hbl:∀k,k < w4.heap.size+2->k < (W1.alloc (.cells #[.string p.1,.slice (some ⟨g,0,none⟩) p.2.length p.2.length] 169)).heap.size->w'.heap[k]? =(W1.alloc (.cells #[.string p.1,.slice (some ⟨g,0,none⟩) p.2.length p.2.length] 169)).heap[k]? :=fun k hk hk2=>hT.block k hk2 (fun e=>by have :=(Lm k e).1;omega)
    have l2:=hB2.lts;refine⟨rfl,S',hP3,fun k hk=>⟨?_,(YS k hk).2⟩,hB2.still (hT.below (by omega) (fun k hk=>by have :=(Lm k hk).1;omega)) (fun k hk=>hbl k ?_ ?_),(Turned.of_below (S:=S) hb2).trans hT (fun _ _ e=>e)⟩
    ·rcases(YS k hk).1 with h | h
     ·exact(Lm k h).1
     ·omega
    ·rcases hk with rfl | rfl | rfl | rfl | rfl <;>omega
    ·rcases hk with rfl | rfl | rfl | rfl | rfl <;>omega
   have hn2:1<=4 -1 -1:=by decide
   have f86:Fence.wide.fn 91:=trivial;have f87:Fence.wide.fn 92:=trivial;have hlt:=lts.2.1;have hi1:=h1;have HSk:=hid Lm;clear WR ZL HS HR hBd lts hB4 hBx h1 Lm YR
   gi_wp2_with (first
    | (gi_at_call 92;refine(CallsIn.inRound _ (callsIn_wide.2 (hS'.out _ _ h1))).mono ?_;rintro e W3 ⟨rfl,h3⟩)
    | (gi_at_call 91;refine(CallsIn.inRound _ (callsIn_wide.2 Vr.out)).mono ?_;rintro e W1 ⟨g,rfl,hc1,h1⟩)
    | gi_in)
   obtain⟨S',hP3,YS,hB3,hT⟩:=h3.out;refine⟨⟨_,hB3,.inr ⟨be,S',by omega,rfl,hP3,YS⟩⟩,hT.size,fun k hk=>hT.block k ?_ (fun e=> ?_)⟩
   ·rcases hk with rfl | rfl | rfl | rfl | rfl <;>omega
   ·have :=(HSk.out k e).1
    rcases hk with rfl | rfl | rfl | rfl | rfl <;>omega
 case done=>
  intro W hB hK;obtain⟨ve,hBd,hE⟩:=hB
  have hl0:1<=ls.length:=by
   cases ls with
   | nil=>exact absurd rfl hne
   | cons a t=>simp
  rw[List.length_map] at hE
  rcases hE with⟨h,_⟩ | ⟨be,S,h1,rfl,YR,Lm⟩
  ·omega
  have hcs:=hBd.cells;have lts:=hBd.lts
  gi_wp2
  obtain⟨W5,WY⟩:∃W5,(W.setCell ⟨w.heap.size,0,none⟩ (.pointer (some ⟨be,0,none⟩))).setCell ⟨w.heap.size+1,0,none⟩ (.bool true)=W5:=⟨_,rfl⟩;rw[WY]
  have hz5:W5.heap.size=W.heap.size:=by rw[<-WY];simp
  have ho5:∀k,k≠w.heap.size->k≠w.heap.size+1->W5.heap[k]? =W.heap[k]? :=fun k e1 e2=>by
   rw[<-WY];exact(Below.heap_setCell _ _ _ _ e2).trans (Below.heap_setCell _ _ _ _ e1)
  have h51:W5.heap[w.heap.size]? =some (.cells #[.pointer (some ⟨be,0,none⟩)] 27):=by
   rw[<-WY,Below.heap_setCell _ _ _ _ (by simp),block_setCell hBd.r1];rfl
  have h52:W5.heap[w.heap.size+1]? =some (.cells #[.bool true] 4):=by
   rw[<-WY,block_setCell ((Below.heap_setCell _ _ _ _ (by simp)).trans hBd.r2)];rfl
  have Od:Below w.heap.size w W5:=by
   rw[<-WY];exact(hBd.low.setCell (p:=⟨w.heap.size,0,none⟩) (Nat.le_refl _) _).setCell (p:=⟨w.heap.size+1,0,none⟩) (by show w.heap.size<=w.heap.size+1;omega) _
  have Xq:W5.heap[w4.heap.size]? =some (.deferred (some [])):=(ho5 _ (by omega) (by omega)).trans hK
  have hpo:∀k,k≠w4.heap.size->(W5.putObj w4.heap.size (.deferred none)).heap[k]? =W5.heap[k]? :=fun k e=>World.putObj_heap_other e
  have hx0:(W5.putObj w4.heap.size (.deferred none)).cell? ⟨w.heap.size,0,none⟩=some (.pointer (some ⟨be,0,none⟩)):=by
   rw[cell_of_block ((hpo _ (by omega)).trans h51)];rfl
  have hx1:(W5.putObj w4.heap.size (.deferred none)).cell? ⟨w.heap.size+1,0,none⟩=some (.bool true):=by
   rw[cell_of_block ((hpo _ (by omega)).trans h52)];rfl
  refine⟨by simp,.inl ⟨_,_,rfl,run_takeDeferred Xq,?_⟩⟩;refine⟨.tuple #[.pointer (some ⟨be,0,none⟩),.bool true],by simp[results,Tryz.results42,go_sem,hx0,hx1],be,S,rfl,?_,fun k hk=>⟨by have :=(Lm k hk).1;omega,?_⟩,?_⟩
  ·refine hP _ be S W _ YR (by simp[hz5]) (fun k hk=>(hpo k (by have :=(Lm k hk).1;omega)).trans (ho5 k (by have :=(Lm k hk).1;omega) (by have :=(Lm k hk).1;omega)))
  ·simpa[hz5] using(Lm k hk).2
  ·exact Od.trans (belowK_b (w:=w) (Nat.le_refl _) W5 w4.heap.size _ _ (by omega) Xq rfl rfl)
end
section
open Go.Proofs.Tryz Go.Joins
variable {be g:Nat} {S:Nat->Prop} {W:World} {n a b k t v:Int}
structure Sx where
 x:J
 f0:Int
 f1:Int
 L:List O
def PE (st:Sx) (be:Nat) (S:Nat->Prop) (W:World):Prop:=
 ∃bj bm v0 v1 om Sg,az W be bj bm v0 v1 st.f0 st.f1 om Sg st.x st.L st.L∧∀k,S k↔aT bj bm v0 v1 om Sg k
theorem cz (st:Sx) (be:Nat):tV (PE st be):=by
 rintro S W W' ⟨bj,bm,v0,v1,om,Sg,h,hS⟩ hs hk;exact⟨bj,bm,v0,v1,om,Sg,h.still hs (fun k e=>hk k ((hS k).2 e)),hS⟩
abbrev Rn (st:Sx) (be:Nat) (S:Nat->Prop) (W w':World):Prop:=∃S',PE st be S' w'∧(∀k,S' k->(S k∨W.heap.size<=k)∧k < w'.heap.size)∧Turned S W w'
theorem uu {st:Sx} {bj bm:Nat} {v0 v1 bA v1':Value} {om fG:Option Nat} {Sg qY:Nat->Prop} {W1 w':World} (hE:az w' be bj bm bA v1' st.f0 st.f1 fG qY st.x st.L st.L)
  (hS:∀k,S k↔aT bj bm v0 v1 om Sg k) (hb:Below W.heap.size W W1) (hT:Turned (aT bj bm v0 v1 om Sg) W1 w') (hF:∀k,aT bj bm bA v1' fG qY k->aT bj bm v0 v1 om Sg k∨W1.heap.size<=k):Rn st be S W w':=by
 have hz:=hb.size;refine⟨aT bj bm bA v1' fG qY,⟨bj,bm,bA,v1',fG,qY,hE,fun _=>Iff.rfl⟩,fun k hk=>⟨?_,hE.lt hk⟩,(Turned.of_below (S:=S) hb).trans hT (fun k _ e=>(hS k).2 e)⟩
 rcases hF k hk with h | h
 ·exact .inl ((hS k).2 h)
 ·exact .inr (by omega)
theorem aI {ns:List Int} (h:W.heap[g]? =some (.cells (ns.map (Value.int .i64)).toArray 3)) (j:Nat) (hn:ns[j]? =some n):W.cell? ⟨g,0+j,none⟩=some (.int .i64 n):=by
 rw[cell_of_block h,Nat.zero_add];simp[hn]
theorem Ph {st:Sx} {d:Int} (hP:PE st be S W) (hg:W.heap[g]? =some (.cells ([a,b,d].map (Value.int .i64)).toArray 3)) (hn:¬S g)
  (ha:0<=a∧a<=9223372036854775807) (hb:0<=b∧b<=9223372036854775807) (hd:0<=d∧d<=9223372036854775807):
  Calls prog 92 #[.pointer (some ⟨be,0,none⟩),.agg #[.string ⟨#[102,101,100]⟩,.slice (some ⟨g,0,none⟩) 3 3]] W fun e w'=>e= .returned (.bool true)∧Rn ⟨{ st.x with late:=d},a,b,st.L⟩ be S W w':=by
 obtain⟨bj,bm,v0,v1,om,Sg,h,hS⟩:=hP;have hgl:=(Array.getElem?_eq_some_iff.1 hg).1
 have n1:g≠be:=fun e=>hn ((hS g).2 (.inr (.inr (by rw[e];exact h.inS))))
 have n2:g≠bj:=fun e=>hn ((hS g).2 (.inl (.inl e)))
 refine EK be g 0 3 _ W (fun W1 hW1=> ?_);have hg1:=(hW1.block g hgl).trans hg;refine(zQ be bj bm v0 v1 st.f0 st.f1 om Sg st.x st.L st.L g 0 3 a b d W1 (h.below hW1) ha hb hd (Nat.lt_of_lt_of_le hgl hW1.size) (aI hg1 0 rfl) (aI hg1 1 rfl) (aI hg1 2 rfl) n1 n2).mono ?_;rintro e w' ⟨rfl,h1,h2⟩;exact⟨rfl,uu (st:=⟨{ st.x with late:=d},a,b,st.L⟩) h1 hS hW1 h2 (fun k e=> .inl e)⟩
theorem step_end {st:Sx} (hP:PE st be S W):
  Calls prog 92 #[.pointer (some ⟨be,0,none⟩),.agg #[.string ⟨#[101,110,100]⟩,.slice (some ⟨g,0,none⟩) 0 0]] W fun e w'=>e= .returned (.bool true)∧Rn st be S W w':=by
 obtain⟨bj,bm,v0,v1,om,Sg,h,hS⟩:=hP;refine EL be g 0 0 _ W (fun W1 hW1=> ?_);exact uu (h.below hW1) hS hW1 (Turned.of_below (Below.refl _ _)) (fun k e=> .inl e)
theorem yB {st:Sx} (hP:PE st be S W) (o:O) (hwf:o.wf) (hL:st.L.length<=100000) (g1:au o.lk o.lt o.lv=true) (g2:au o.rk o.rt o.rv=true) (hk:o.hl=true->o.hr=true->o.lk=o.rk)
  (W1:World) (hW1:Below W.heap.size W W1):Calls prog 166 #[.pointer (some ⟨be,0,none⟩),vO o] W1 fun e w'=>e= .returned (.bool true)∧Rn ⟨st.x,st.f0,st.f1,o::st.L⟩ be S W w':=by
 obtain⟨bj,bm,v0,v1,om,Sg,h,hS⟩:=hP;refine(zR be bj bm v0 v1 st.f0 st.f1 om Sg st.x st.L o W1 (h.below hW1) hwf hL g1 g2 hk).mono ?_;rintro e w' ⟨rfl,fG,qY,h1,h2,h3,h4⟩;refine⟨rfl,uu (st:=⟨st.x,st.f0,st.f1,o::st.L⟩) h1 hS hW1 (h4.mono ?_) (fun k e=> ?_)⟩
 ·rintro k (e | e | e)
  ·exact .inr (.inr (by rw[e];exact h.inS))
  ·exact .inr (.inl e)
  ·exact .inr (.inr e)
 ·rcases e with e | e | e
  ·exact .inl (.inl e)
  ·exact(h2 k e).imp (fun e=> .inr (.inl e)) id
  ·exact(h3 k e).imp (fun e=> .inr (.inr e)) id
theorem Lp (HR:lF) {st:Sx} (hP:PE st be S W) (hg:W.heap[g]? =some (.cells ([0,k,t,v,n].map (Value.int .i64)).toArray 3)) (hn:¬S g)
  (hs:ay st.x.R0) (hL:st.x.R0.length < 300) (hgd:au k t v=true) (hm:0<=n):
  Calls prog 92 #[.pointer (some ⟨be,0,none⟩),.agg #[.string ⟨#[114,111,119]⟩,.slice (some ⟨g,0,none⟩) 5 5]] W fun e w'=>e= .returned (.bool true)∧Rn ⟨{ st.x with R0:=bT st.x.R0 (aV k (t+1) st.x.R0) ⟨k,t,v,n⟩},st.f0,st.f1,st.L⟩ be S W w':=by
 obtain⟨bj,bm,v0,v1,om,Sg,h,hS⟩:=hP;have hgl:=(Array.getElem?_eq_some_iff.1 hg).1;refine(vK HR be bj g 0 0 k t v n (fun w'=>Rn ⟨{ st.x with R0:=bT st.x.R0 (aV k (t+1) st.x.R0) ⟨k,t,v,n⟩},st.f0,st.f1,st.L⟩ be S W w'∧(w'.cell? ⟨be,3,none⟩=some (.pointer (some ⟨bj,0,none⟩))∧w'.cell? ⟨g,0,none⟩=some (.int .i64 0)∧w'.cell? ⟨g,0+4,none⟩=some (.int .i64 n))) W hgl h.blt (aI hg 0 rfl) (aI hg 1 rfl) (aI hg 2 rfl) (aI hg 3 rfl) (aI hg 4 rfl) h.cells.2.2.2.1 (fun W hW=>hW.2) (fun W1 hW1=> ?_)).mono (fun e w' h=>⟨h.1,h.2.1⟩);have h1:=h.below hW1;refine(Pb 0 bj bm v0 v1 st.x k t v n W1 h1.join (Nat.zero_le _) hs hL hgd hm).mono ?_;rintro e w' ⟨rfl,v',j1,j2,j3⟩;have hT:Turned (eP bj bm v0 v1) W1 w':=j2.mono (fun k e=>e.elim .inl (fun e=> .inr (.inr (.inl e))));have hE:=h1.joined j1 ⟨rfl,rfl,rfl⟩ hT (jg j3 (.inl rfl));have hgw:w'.heap[g]? =W.heap[g]? :=(hT.block g (Nat.lt_of_lt_of_le hgl hW1.size) (fun e=>hn ((hS g).2 (.inl e)))).trans (hW1.block g hgl);have hg':=hgw.trans hg;refine⟨rfl,uu (st:=⟨{ st.x with R0:=bT st.x.R0 (aV k (t+1) st.x.R0) ⟨k,t,v,n⟩},st.f0,st.f1,st.L⟩) hE hS hW1 (hT.mono (fun k e=> .inl e)) (fun k e=> ?_),hE.cells.2.2.2.1,aI hg' 0 rfl,aI hg' 4 rfl⟩
 rcases e with e | e
 ·exact(jg j3 (.inl rfl) k e).imp .inl id
 ·exact .inl (.inr e)
theorem Ls (HR:lF) {st:Sx} (hP:PE st be S W) (hg:W.heap[g]? =some (.cells ([1,k,t,v,n].map (Value.int .i64)).toArray 3)) (hn:¬S g)
  (hs:ay st.x.R1) (hL:st.x.R1.length < 300) (hgd:au k t v=true) (hm:0<=n):
  Calls prog 92 #[.pointer (some ⟨be,0,none⟩),.agg #[.string ⟨#[114,111,119]⟩,.slice (some ⟨g,0,none⟩) 5 5]] W fun e w'=>e= .returned (.bool true)∧Rn ⟨{ st.x with R1:=bT st.x.R1 (aV k (t+1) st.x.R1) ⟨k,t,v,n⟩},st.f0,st.f1,st.L⟩ be S W w':=by
 obtain⟨bj,bm,v0,v1,om,Sg,h,hS⟩:=hP;have hgl:=(Array.getElem?_eq_some_iff.1 hg).1;refine(vK HR be bj g 0 1 k t v n (fun w'=>Rn ⟨{ st.x with R1:=bT st.x.R1 (aV k (t+1) st.x.R1) ⟨k,t,v,n⟩},st.f0,st.f1,st.L⟩ be S W w'∧(w'.cell? ⟨be,3,none⟩=some (.pointer (some ⟨bj,0,none⟩))∧w'.cell? ⟨g,0,none⟩=some (.int .i64 1)∧w'.cell? ⟨g,0+4,none⟩=some (.int .i64 n))) W hgl h.blt (aI hg 0 rfl) (aI hg 1 rfl) (aI hg 2 rfl) (aI hg 3 rfl) (aI hg 4 rfl) h.cells.2.2.2.1 (fun W hW=>hW.2) (fun W1 hW1=> ?_)).mono (fun e w' h=>⟨h.1,h.2.1⟩);have h1:=h.below hW1;refine(Pd 0 bj bm v0 v1 st.x k t v n W1 h1.join (Nat.zero_le _) hs hL hgd hm).mono ?_;rintro e w' ⟨rfl,v',j1,j2,j3⟩;have hT:Turned (eP bj bm v0 v1) W1 w':=j2.mono (fun k e=>e.elim .inl (fun e=> .inr (.inr (.inr e))));have hE:=h1.joined j1 ⟨rfl,rfl,rfl⟩ hT (jg (.inl rfl) j3);have hgw:w'.heap[g]? =W.heap[g]? :=(hT.block g (Nat.lt_of_lt_of_le hgl hW1.size) (fun e=>hn ((hS g).2 (.inl e)))).trans (hW1.block g hgl);have hg':=hgw.trans hg;refine⟨rfl,uu (st:=⟨{ st.x with R1:=bT st.x.R1 (aV k (t+1) st.x.R1) ⟨k,t,v,n⟩},st.f0,st.f1,st.L⟩) hE hS hW1 (hT.mono (fun k e=> .inl e)) (fun k e=> ?_),hE.cells.2.2.2.1,aI hg' 0 rfl,aI hg' 4 rfl⟩
 rcases e with e | e
 ·exact(jg (.inl rfl) j3 k e).imp .inl id
 ·exact .inl (.inr e)
theorem step_marks {st:Sx} (hP:PE st be S W) (hg:W.heap[g]? =some (.cells ([a,b].map (Value.int .i64)).toArray 3)) (hn:¬S g) (hpl:dn st.x.lo st.x.hi st.x.mode)
  (hR:st.x.R0=[]∧st.x.R1=[]) (hm:st.x.m0= -1099511627777∧st.x.m1= -1099511627777)
  (ha: -1099511627777<=a∧a<=1099511627776) (hb: -1099511627777<=b∧b<=1099511627776):
  Calls prog 92 #[.pointer (some ⟨be,0,none⟩),.agg #[.string ⟨#[109,97,114,107,115]⟩,.slice (some ⟨g,0,none⟩) 2 2]] W fun e w'=>e= .returned (.bool true)∧Rn ⟨{ st.x with m0:=a,m1:=b},st.f0,st.f1,st.L⟩ be S W w':=by
 obtain⟨bj,bm,v0,v1,om,Sg,h,hS⟩:=hP;have hgl:=(Array.getElem?_eq_some_iff.1 hg).1
 have hgn:¬aT bj bm v0 v1 om Sg g:=fun e=>hn ((hS g).2 e)
 obtain⟨⟨p1,p2⟩,⟨p3,p4⟩,_⟩:=hpl;refine zS be g 0 2 _ W (fun W1 hW1=> ?_);have h1:=h.below hW1;have hg1:=(hW1.block g hgl).trans hg
 --behind i marks
 let xs:Nat->J:=fun i=>{ st.x with m0:=if i=0 then st.x.m0 else a,m1:=if i<=1 then st.x.m1 else b}
 let St:Nat->World->Prop:=fun i V=>∃bA v1',az V be bj bm bA v1' st.f0 st.f1 om Sg (xs i) st.L st.L∧Turned (aT bj bm v0 v1 om Sg) W1 V∧(bA.ownBlock=v0.ownBlock∧v1'.ownBlock=v1.ownBlock)∧V.heap[g]? =W.heap[g]?
 refine(Pj be g 0 2 (fun i=>if i=0 then a else b) (fun _=> -1099511627777) St W1 ?_ ?_ ?_ ?_ ?_ ?_ ?_).mono ?_
 ·exact⟨v0,v1,h1,Turned.of_below (Below.refl _ _),⟨rfl,rfl⟩,hW1.block g hgl⟩
 ·rintro i V ⟨bA,v1',_,_,_,hq⟩;exact(Array.getElem?_eq_some_iff.1 (hq.trans hg)).1
 ·rintro i V V' ⟨bA,v1',q1,q2,q3,q4⟩ hb;exact⟨bA,v1',q1.below hb,q2.trans (Turned.of_below (S:=fun _=>False) hb) (fun _ _ e=>e.elim),q3,(hb.block g (Array.getElem?_eq_some_iff.1 (q4.trans hg)).1).trans q4⟩
 ·rintro i j V ⟨bA,v1',q1,q2,q3,q4⟩ hj
  have hj2:j=0∨j=1:=by omega
  rcases hj2 with rfl | rfl
  ·exact aI (q4.trans hg) 0 rfl
  ·exact aI (q4.trans hg) 1 rfl
 ·rintro i V hi ⟨bA,v1',q1,q2,q3,q4⟩
  have hi2:i=0∨i=1:=by omega
  have e1:kW (xs i).m0 (xs i).m1 (i:Int)= -1099511627777:=by
   rcases hi2 with rfl | rfl
   ·simp[kW,xs,hm.1]
   ·simp[kW,xs,hm.2]
  have :=jd (s:=(i:Int)) (h:=q1);rw[e1] at this;exact this
 ·rintro i V hi hne ⟨bA,v1',q1,q2,q3,q4⟩
  have hi2:i=0∨i=1:=by omega
  have fin:∀(V':World) (u0 u1:Value) (x':J),az V' be bj bm u0 u1 st.f0 st.f1 om Sg x' st.L st.L->x'=xs (i+1)->Turned (aT bj bm bA v1' om Sg) V V'->u0.ownBlock=bA.ownBlock->u1.ownBlock=v1'.ownBlock->St (i+1) V':=by
   intro V' u0 u1 x' hE hx hT hu0 hu1;subst hx
   have hT':Turned (aT bj bm v0 v1 om Sg) V V':=by
    refine hT.mono (fun k e=> ?_);unfold aT eP at e⊢;rw[q3.1,q3.2] at e;exact e
   exact⟨u0,u1,hE,q2.trans hT' (fun _ _ e=>e),⟨hu0.trans q3.1,hu1.trans q3.2⟩,(hT'.block g (Array.getElem?_eq_some_iff.1 (q4.trans hg)).1 hgn).trans q4⟩
  rcases hi2 with rfl | rfl
  ·have hne':a≠ -1099511627777:=by simpa using hne
   have he:moveE (xs 0).m0 (xs 0).m1 0 a=0:=by
    unfold moveE;rw[if_neg (by decide),if_neg (by omega),if_neg (by simp[kW,xs,hm.1];omega)]
   refine(pG be bj bm bA v1' st.f0 st.f1 om Sg (xs 0) { xs 0 with m0:=a,R1:=keepR (fun y=>decide (y.t<=a+(xs 0).lo)) (xs 0).R1} st.L st.L 0 a V q1 ⟨rfl,rfl,rfl⟩ (fun W2 hW2=> ?_)).mono ?_
   ·refine(AX 0 bj bm bA v1' (xs 0) a W2 hW2 he (by simp[xs,hR.2]) p1 p2 p3 p4).mono ?_;rintro e w' ⟨rfl,v',j1,j2,j3⟩;exact⟨rfl,bA,v',j1,j2.mono (fun k e=>e.elim .inl (fun e=>e.elim (fun e=> .inr (.inl e)) (fun e=> .inr (.inr (.inr e))))),rfl,j3⟩
   ·rintro e w' ⟨rfl,u0,u1,j1,j2,j3,j4⟩;exact⟨rfl,fin w' u0 u1 _ j1 (by simp[xs,hR.2,keepR]) j2 j3 j4⟩
  ·have hne':b≠ -1099511627777:=by simpa using hne
   have he:moveE (xs 1).m0 (xs 1).m1 1 b=0:=by
    unfold moveE;rw[if_neg (by decide),if_neg (by omega),if_neg (by simp[kW,xs,hm.2];omega)]
   refine(pG be bj bm bA v1' st.f0 st.f1 om Sg (xs 1) { xs 1 with m1:=b,R0:=keepR (fun y=>decide (y.t<=b -(xs 1).hi)) (xs 1).R0} st.L st.L 1 b V q1 ⟨rfl,rfl,rfl⟩ (fun W2 hW2=> ?_)).mono ?_
   ·refine(AZ 0 bj bm bA v1' (xs 1) b W2 hW2 he (by simp[xs,hR.1]) p3 p4).mono ?_;rintro e w' ⟨rfl,v',j1,j2,j3⟩;exact⟨rfl,v',v1',j1,j2.mono (fun k e=>e.elim .inl (fun e=>e.elim (fun e=> .inr (.inl e)) (fun e=> .inr (.inr (.inl e))))),j3,rfl⟩
   ·rintro e w' ⟨rfl,u0,u1,j1,j2,j3,j4⟩;exact⟨rfl,fin w' u0 u1 _ j1 (by simp[xs,hR.1,keepR]) j2 j3 j4⟩
 ·rintro i V hi he ⟨bA,v1',q1,q2,q3,q4⟩
  have hi2:i=0∨i=1:=by omega
  have ex:xs i=xs (i+1):=by
   rcases hi2 with rfl | rfl
   ·have he':a= -1099511627777:=by simpa using he
    simp[xs,hm.1,he']
   ·have he':b= -1099511627777:=by simpa using he
    simp[xs,hm.2,he']
  rw[ex] at q1;exact⟨bA,v1',q1,q2,q3,q4⟩
 ·rintro e w' ⟨rfl,bA,v1',q1,q2,q3,q4⟩;refine⟨rfl,uu (st:=⟨{ st.x with m0:=a,m1:=b},st.f0,st.f1,st.L⟩) q1 hS hW1 q2 (fun k e=> .inl ?_)⟩;unfold aT eP at e⊢;rw[q3.1,q3.2] at e;exact e
end
section
variable {a b:Sx}
abbrev Ln:=ByteArray×List Int
def Pk (p:Ln):List UInt8:=p.1.data.toList++cK p.2
def A8 (x:J) (f0 f1:Int) (Z:List O):List Ln:=(wC,[f0,f1,x.late])::(jL,[x.m0,x.m1])::((x.R0.map fun y=>(pX,[0,y.k,y.t,y.v,y.n]))++((x.R1.map fun y=>(pX,[1,y.k,y.t,y.v,y.n]))++((Z.map fun o=>(fu o,dV o))++[(Im,[])])))
def jE (x:J) (f0 f1:Int) (Z:List O):List Ln:=(nI,[x.lo,x.hi,x.mode])::A8 x f0 f1 Z
theorem vL (x:J) (f0 f1:Int) (Z:List O):bN x f0 f1 Z=(jE x f0 f1 Z).flatMap fun p=>Pk p++[10]:=by
 have e:∀(p:Ln),Pk p++[10]=dB p.1.data.toList p.2:=fun p=>by unfold Pk dB;simp
 simp only[e];unfold bN EM jE A8 iw iy;simp only[List.flatMap_cons,List.flatMap_append,List.flatMap_nil,List.flatMap_map,List.append_nil,List.append_assoc]
theorem Pm (ns:List Int):(10:UInt8)∉cK ns:=by
 unfold cK;rw[List.mem_flatMap];rintro⟨n,_,h⟩;rw[List.mem_cons] at h
 rcases h with h | h
 ·exact absurd h (by decide)
 ·exact CJ n 10 (by decide) h
theorem X7 (p:Ln) (h:(10:UInt8)∉p.1.data.toList):(10:UInt8)∉Pk p:=by
 unfold Pk;rw[List.mem_append];rintro(e | e)
 ·exact h e
 ·exact Pm _ e
inductive Stp:Sx->Ln->Sx->Prop
 | fed (st:Sx) (a b d:Int):0<=a∧a<=9223372036854775807->0<=b∧b<=9223372036854775807->0<=d∧d<=9223372036854775807->Stp st (wC,[a,b,d]) ⟨{ st.x with late:=d},a,b,st.L⟩
 | marks (st:Sx) (a b:Int):dn st.x.lo st.x.hi st.x.mode->st.x.R0=[]∧st.x.R1=[]->st.x.m0= -1099511627777∧st.x.m1= -1099511627777-> -1099511627777<=a∧a<=1099511627776-> -1099511627777<=b∧b<=1099511627776->Stp st (jL,[a,b]) ⟨{ st.x with m0:=a,m1:=b},st.f0,st.f1,st.L⟩
 | row0 (st:Sx) (k t v n:Int):ay st.x.R0->st.x.R0.length < 300->au k t v=true->0<=n∧n<=9223372036854775807->Stp st (pX,[0,k,t,v,n]) ⟨{ st.x with R0:=bT st.x.R0 (aV k (t+1) st.x.R0) ⟨k,t,v,n⟩},st.f0,st.f1,st.L⟩
 | row1 (st:Sx) (k t v n:Int):ay st.x.R1->st.x.R1.length < 300->au k t v=true->0<=n∧n<=9223372036854775807->Stp st (pX,[1,k,t,v,n]) ⟨{ st.x with R1:=bT st.x.R1 (aV k (t+1) st.x.R1) ⟨k,t,v,n⟩},st.f0,st.f1,st.L⟩
 | out (st:Sx) (o:O):iK o->st.L.length<=100000->Stp st (fu o,dV o) ⟨st.x,st.f0,st.f1,o::st.L⟩
 | fin (st:Sx):Stp st (Im,[]) st
theorem pJ {k t v:Int} (h:au k t v=true):(-1099511627776<=k∧k<=1099511627776)∧(-1099511627776<=t∧t<=1099511627776)∧(-1099511627776<=v∧v<=1099511627776):=by
 unfold au iG at h;simp at h;omega
theorem yC {n:Int} (h: -1099511627777<=n∧n<=1099511627777):(Lit.int .i64 n).wf=true:=by
 simp[Lit.wf,IntKind.min,IntKind.max,IntKind.signed,IntKind.bits];omega
theorem jB {o:O} (h:iK o):o.wf:=by
 cases h with
 | left k t v h=>
  have :=pJ h
  constructor <;>(apply yC;simp[bn];try omega)
 | right k t v h=>
  have :=pJ h
  constructor <;>(apply yC;simp[bn];try omega)
 | pair k t v t2 v2 h h2=>
  have :=pJ h;have :=pJ h2
  constructor <;>(apply yC;simp;try omega)
theorem Lt (HR:lF) {st st':Sx} {p:Ln} (hs:Stp st p st') {be g:Nat} {S:Nat->Prop} {W:World} (hP:PE st be S W) (hg:W.heap[g]? =some (.cells (p.2.map (Value.int .i64)).toArray 3)) (hn:¬S g):
  Calls Tryz.prog 92 #[.pointer (some ⟨be,0,none⟩),.agg #[.string p.1,.slice (some ⟨g,0,none⟩) p.2.length p.2.length]] W fun e w'=>e= .returned (.bool true)∧Rn st' be S W w':=by
 have hgl:=(Array.getElem?_eq_some_iff.1 hg).1
 cases hs with
 | fed a b d ha hb hd=>exact Ph hP hg hn ha hb hd
 | marks a b h1 h2 h3 h4 h5=>exact step_marks hP hg hn h1 h2 h3 h4 h5
 | row0 k t v n h1 h2 h3 h4=>exact Lp HR hP hg hn h1 h2 h3 h4.1
 | row1 k t v n h1 h2 h3 h4=>exact Ls HR hP hg hn h1 h2 h3 h4.1
 | out o ho hL=>
  have hwf:=jB ho
  cases ho with
  | left k t v h=>exact CK HR be g 0 k t v _ W hgl (aI hg 0 rfl) (aI hg 1 rfl) (aI hg 2 rfl) (fun W1 hW1=>yB hP (bn 0 k t v) hwf hL h (show au 0 0 0=true by decide) (fun _ e=>by simp[bn] at e) W1 hW1)
  | right k t v h=>exact zT HR be g 0 k t v _ W hgl (aI hg 0 rfl) (aI hg 1 rfl) (aI hg 2 rfl) (fun W1 hW1=>yB hP (bn 1 k t v) hwf hL (show au 0 0 0=true by decide) h (fun e _=>by simp[bn] at e) W1 hW1)
  | pair k t v t2 v2 h h2=>exact CL HR be g 0 k t v k t2 v2 _ W hgl (aI hg 0 rfl) (aI hg 1 rfl) (aI hg 2 rfl) (aI hg 3 rfl) (aI hg 4 rfl) (aI hg 5 rfl) (fun W1 hW1=>yB hP ⟨k,k,t,v,k,t2,v2,true,true⟩ hwf hL h h2 (fun _ _=>rfl) W1 hW1)
 | fin=>exact step_end hP
/-! ### Line after line -/
def Run:Sx->List Ln->Sx->Prop
 | st,[],st'=>st=st'
 | st,p::ls,st'=>∃s1,Stp st p s1∧Run s1 ls st'
theorem Run.append {c:Sx} {l m:List Ln} (h:Run a l b) (h2:Run b m c):Run a (l++m) c:=by
 induction l generalizing a with
 | nil=>cases h;exact h2
 | cons p l ih=>
  obtain⟨s1,h3,h4⟩:=h;exact⟨s1,h3,ih h4⟩
theorem Run.seq {l:List Ln} (h:Run a l b):∃f:Nat->Sx,f 0=a∧f l.length=b∧∀i p,l[i]? =some p->Stp (f i) p (f (i+1)):=by
 induction l generalizing a with
 | nil=>exact⟨fun _=>a,rfl,h,fun i p e=>by simp at e⟩
 | cons p l ih=>
  obtain⟨s1,h3,h4⟩:=h;obtain⟨f,f0,f1,f2⟩:=ih h4;refine⟨fun i=>match i with | 0=>a | i+1=>f i,rfl,f1,?_⟩;intro i q e
  cases i with
  | zero=>
   simp at e;subst e;show Stp a p (f 0);rw[f0];exact h3
  | succ i=>exact f2 i q (by simpa using e)
theorem EN (S:List D) (y:D) (h:ay (S++[y])):bT S (aV y.k (y.t+1) S) ⟨y.k,y.t,y.v,y.n⟩=S++[y]:=by
 have hall:aV y.k (y.t+1) S=S.length:=by
  unfold aV;rw[List.countP_eq_length];intro x hx;have :=(List.pairwise_append.1 h).2.2 x hx y (by simp);simp only[aX,decide_eq_true_eq];omega
 rw[hall];simp[bT]
theorem Lu (x:J) (f0 f1:Int) (L:List O) (T:List D):∀(S:List D),ay (S++T)->(S++T).length<=300->(∀y∈T,au y.k y.t y.v=true∧0<=y.n∧y.n<=9223372036854775807)->Run ⟨{ x with R0:=S},f0,f1,L⟩ (T.map fun y=>(pX,[0,y.k,y.t,y.v,y.n])) ⟨{ x with R0:=S++T},f0,f1,L⟩:=by
 induction T with
 | nil=>intro S _ _ _;simp[Run]
 | cons y T ih=>
  intro S hs hl hg
  have e:S++y::T=(S++[y])++T:=by simp
  rw[e] at hs hl⊢;have hsy:ay (S++[y]):=(List.pairwise_append.1 hs).1;have hS:ay S:=(List.pairwise_append.1 hsy).1;obtain⟨g1,g2⟩:=hg y (by simp);refine⟨⟨{ x with R0:=S++[y]},f0,f1,L⟩,?_,ih (S++[y]) hs hl (fun z hz=>hg z (by simp[hz]))⟩;have h1:=Stp.row0 ⟨{ x with R0:=S},f0,f1,L⟩ y.k y.t y.v y.n hS (by simp at hl⊢;omega) g1 g2;rw[show({ x with R0:=S}:J).R0=S from rfl,EN S y hsy] at h1;exact h1
theorem Lv (x:J) (f0 f1:Int) (L:List O) (T:List D):∀(S:List D),ay (S++T)->(S++T).length<=300->(∀y∈T,au y.k y.t y.v=true∧0<=y.n∧y.n<=9223372036854775807)->Run ⟨{ x with R1:=S},f0,f1,L⟩ (T.map fun y=>(pX,[1,y.k,y.t,y.v,y.n])) ⟨{ x with R1:=S++T},f0,f1,L⟩:=by
 induction T with
 | nil=>intro S _ _ _;simp[Run]
 | cons y T ih=>
  intro S hs hl hg
  have e:S++y::T=(S++[y])++T:=by simp
  rw[e] at hs hl⊢;have hsy:ay (S++[y]):=(List.pairwise_append.1 hs).1;have hS:ay S:=(List.pairwise_append.1 hsy).1;obtain⟨g1,g2⟩:=hg y (by simp);refine⟨⟨{ x with R1:=S++[y]},f0,f1,L⟩,?_,ih (S++[y]) hs hl (fun z hz=>hg z (by simp[hz]))⟩;have h1:=Stp.row1 ⟨{ x with R1:=S},f0,f1,L⟩ y.k y.t y.v y.n hS (by simp at hl⊢;omega) g1 g2;rw[show({ x with R1:=S}:J).R1=S from rfl,EN S y hsy] at h1;exact h1
theorem Pn (x:J) (f0 f1:Int) (T:List O):∀(L:List O),(∀o∈T,iK o)->L.length+T.length<=100000->Run ⟨x,f0,f1,L⟩ (T.map fun o=>(fu o,dV o)) ⟨x,f0,f1,T.reverse++L⟩:=by
 induction T with
 | nil=>intro L _ _;simp[Run]
 | cons o T ih=>
  intro L ho hl;refine⟨⟨x,f0,f1,o::L⟩,Stp.out _ o (ho o (by simp)) (by simp at hl⊢;omega),?_⟩;have :=ih (o::L) (fun z hz=>ho z (by simp[hz])) (by simp at hl⊢;omega);simpa using this
theorem Lx (x:J) (f0 f1:Int) (Z:List O) (hpl:dn x.lo x.hi x.mode) (hm0: -1099511627777<=x.m0∧x.m0<=1099511627776) (hm1: -1099511627777<=x.m1∧x.m1<=1099511627776) (hl:0<=x.late∧x.late<=9223372036854775807)
  (h0:0<=f0∧f0<=9223372036854775807) (h1:0<=f1∧f1<=9223372036854775807) (s0:ay x.R0) (s1:ay x.R1) (l0:x.R0.length<=300) (l1:x.R1.length<=300)
  (g0:∀y∈x.R0,au y.k y.t y.v=true∧0<=y.n∧y.n<=9223372036854775807) (g1:∀y∈x.R1,au y.k y.t y.v=true∧0<=y.n∧y.n<=9223372036854775807) (hZ:∀o∈Z,iK o) (YT:Z.length<=100000):
  Run ⟨⟨x.lo,x.hi,x.mode,-1099511627777,-1099511627777,0,[],[]⟩,0,0,[]⟩ (A8 x f0 f1 Z) ⟨x,f0,f1,Z.reverse⟩:=by
 refine⟨_,Stp.fed _ f0 f1 x.late h0 h1 hl,_,Stp.marks _ x.m0 x.m1 hpl ⟨rfl,rfl⟩ ⟨rfl,rfl⟩ hm0 hm1,?_⟩;have r0:=Lu ⟨x.lo,x.hi,x.mode,x.m0,x.m1,x.late,[],[]⟩ f0 f1 [] x.R0 [] (by simpa using s0) (by simpa using l0) g0;have r1:=Lv ⟨x.lo,x.hi,x.mode,x.m0,x.m1,x.late,x.R0,[]⟩ f0 f1 [] x.R1 [] (by simpa using s1) (by simpa using l1) g1;have r2:=Pn x f0 f1 Z [] hZ (by simpa using YT);rw[List.nil_append] at r0 r1;rw[List.append_nil] at r2;exact r0.append (r1.append (r2.append ⟨_,Stp.fin _,rfl⟩))
end
section
open Go.Proofs.Tryz Go.Joins
theorem EO (n:Int) (W:World) (h: -9223372036854775808<=n∧n<=9223372036854775807):Calls prog 161 #[.string (bW (Lib.itoa n))] W fun e w'=>e= .returned (.tuple #[.int .i64 n,.nilIface])∧Below W.heap.size W w':=by
 have hl:=Lib.itoa_length_le n h.1 h.2;refine(Tryz.strconv_Atoi_ok (bW (Lib.itoa n)) (by show(Lib.itoa n).toArray.size<=_;simp;omega) n (LA n h.1 h.2) W).mono ?_;rintro e w' ⟨rfl,rfl | ⟨t,rfl⟩⟩
 ·exact⟨rfl,Below.refl _ _⟩
 ·exact⟨rfl,below_bytesWorld _ _ _ _ (Nat.le_refl _)⟩
theorem Pq:lF:=fun g off n c k t v w hg h3 hn h0 h1 h2=>LB g off n c k t v w hg h3 hn h0 h1 h2
theorem J6 (hd:List UInt8) (ns:List Int):hd++cK ns=dW hd (ns.map Lib.itoa):=by
 unfold dW cK;rw[List.flatMap_map]
theorem EP (d:UInt8) (ns:List Int):[111,117,116,32,d]++cK ns=dW [111,117,116] ([d]::ns.map Lib.itoa):=by
 unfold dW cK;rw[List.flatMap_cons,List.flatMap_map];rfl
theorem Pt (p:Ln) (hk:jN p.1 p.2.length) (h64:∀n∈p.2,-9223372036854775808<=n∧n<=9223372036854775807) (bm:Nat) (w W:World) (hG:xO w) (hW:Below w.heap.size w W) (hK:nH W bm) (Eu:bm < W.heap.size):
  Calls prog 91 #[.string ⟨(Pk p).toArray⟩,.map (some bm)] W fun e w'=>∃g,e= .returned (.tuple #[.agg #[.string p.1,.slice (some ⟨g,0,none⟩) p.2.length p.2.length],.bool true])∧w'.heap[g]? =some (.cells (p.2.map (Value.int .i64)).toArray 3)∧W.heap.size<=g∧Below W.heap.size W w':=by
 obtain⟨hd,ns⟩:=p
 have M7:∀(s sep:ByteArray) (V:World),Below W.heap.size W V->s.size < 4294967281->1<=sep.size->Calls prog 80 #[.string s,.string sep] V fun e w'=>e= .returned (.slice (some ⟨V.heap.size,0,none⟩) (Lib.countB s sep+1) (Lib.countB s sep+1))∧w'=V.alloc (.cells ((Lib.splitB sep 0 (Lib.countB s sep) s).map Value.string).toArray 9):=by
  intro s sep V hV hs h1;obtain⟨m,hm⟩:=((hG.below hW).below hV).max;exact Tryz.strings_Split s sep m V hs hm h1
 have hln:∀(l:List Int),l.length<=6->(∀n∈l,-9223372036854775808<=n∧n<=9223372036854775807)->(cK l).length<=283:=fun l h1 h2=>by
  have :=uw l h2;omega
 have plain:∀(hb:List UInt8) (k:Nat),jN (bW hb) k->1<=k->(32:UInt8)∉hb->hb≠[111,117,116]->hb.length<=10->ns.length=k->Calls prog 91 #[.string ⟨(Pk (bW hb,ns)).toArray⟩,.map (some bm)] W fun e w'=>∃g,e= .returned (.tuple #[.agg #[.string (bW hb),.slice (some ⟨g,0,none⟩) k k],.bool true])∧w'.heap[g]? =some (.cells (ns.map (Value.int .i64)).toArray 3)∧W.heap.size<=g∧Below W.heap.size W w':=by
  intro hb k hk1 h1 h32 ho hl hn
  have ZM:k<=6:=by cases hk1 <;>omega
  have e:Pk (bW hb,ns)=dW hb (ns.map Lib.itoa):=J6 hb ns;rw[e];refine Io hb k hk1 h1 h32 ho ns hn h64 bm W hK Eu M7 (fun n V h=>EO n V h) ?_;rw[<-J6,List.length_append];have :=hln ns (by omega) h64;omega
 have outs:∀(d:UInt8) (k:Nat),jN (bW [111,117,116,32,d]) k->1<=k->d≠32->ns.length=k->Calls prog 91 #[.string ⟨(Pk (bW [111,117,116,32,d],ns)).toArray⟩,.map (some bm)] W fun e w'=>∃g,e= .returned (.tuple #[.agg #[.string (bW [111,117,116,32,d]),.slice (some ⟨g,0,none⟩) k k],.bool true])∧w'.heap[g]? =some (.cells (ns.map (Value.int .i64)).toArray 3)∧W.heap.size<=g∧Below W.heap.size W w':=by
  intro d k hk1 h1 h32 hn
  have ZM:k<=6:=by cases hk1 <;>omega
  have e:Pk (bW [111,117,116,32,d],ns)=dW [111,117,116] ([d]::ns.map Lib.itoa):=EP d ns;rw[e];refine Pv d h32 k hk1 h1 ns hn h64 bm W hK Eu M7 (fun n V h=>EO n V h) ?_;rw[<-EP,List.length_append];have :=hln ns (by omega) h64;simp only[List.length_cons,List.length_nil];omega
 simp only at hk;generalize hn:ns.length=k at hk
 cases hk with
 | plan=>exact plain [112,108,97,110] 3 .plan (by omega) (by decide) (by decide) (by decide) hn
 | fed=>exact plain [102,101,100] 3 .fed (by omega) (by decide) (by decide) (by decide) hn
 | marks=>exact plain [109,97,114,107,115] 2 .marks (by omega) (by decide) (by decide) (by decide) hn
 | row=>exact plain [114,111,119] 5 .row (by omega) (by decide) (by decide) (by decide) hn
 | left=>exact outs 49 3 .left (by omega) (by decide) hn
 | right=>exact outs 50 3 .right (by omega) (by decide) hn
 | pair=>exact outs 51 6 .pair (by omega) (by decide) hn
 | fin=>
  have e0:ns=[]:=List.eq_nil_of_length_eq_zero hn;subst e0;exact Po bm W hK Eu M7
theorem Pw (txt:ByteArray) (hsz:txt.size<=60000) (P:Nat->(Nat->Prop)->World->Prop) (hP:∀be,tV (P be)) (w:World)
  (HB:Calls prog 42 #[.string txt] w fun e w'=>∃be S,e= .returned (.tuple #[.pointer (some ⟨be,0,none⟩),.bool true])∧P be S w'∧(∀k,S k->w.heap.size<=k∧k < w'.heap.size)∧Below w.heap.size w w')
  (HSv:∀be S W,P be S W->Below w.heap.size w W->Calls prog 18 #[.pointer (some ⟨be,0,none⟩)] W fun e w'=>e= .returned (.tuple #[.string txt,.nilIface])∧Below W.heap.size W w'):
  Calls prog 8 #[.string txt] w fun e w'=>∃be S,e= .returned (.tuple #[.pointer (some ⟨be,0,none⟩),.nilIface])∧P be S w'∧(∀k,S k->w.heap.size<=k∧k < w'.heap.size)∧Below w.heap.size w w':=by
 have HB':Hid (Calls prog 42 #[.string txt] w fun e w'=>∃be,e= .returned (.tuple #[.pointer (some ⟨be,0,none⟩),.bool true])∧Hid (∃S,P be S w'∧(∀k,S k->w.heap.size<=k∧k < w'.heap.size)∧Below w.heap.size w w')):=by
  refine HB.mono ?_;rintro e w' ⟨be,S,rfl,h⟩;exact⟨be,rfl,S,h⟩
 have HS':Hid (∀be W,Hid (∃S,P be S W∧(∀k,S k->w.heap.size<=k∧k < W.heap.size)∧Below w.heap.size w W)->Calls prog 18 #[.pointer (some ⟨be,0,none⟩)] W fun e w'=>e= .returned (.tuple #[.string txt,.nilIface])∧Hid (∃S,P be S w'∧(∀k,S k->w.heap.size<=k∧k < w'.heap.size)∧Below w.heap.size w w')):=by
  intro be W hh;obtain⟨S,h1,h2,h3⟩:=hh.out;refine(HSv be S W h1 h3).mono ?_;rintro e w' ⟨rfl,hb⟩;exact⟨rfl,S,hP be S W w' h1 hb.size (fun k hk=>hb.block k (h2 k hk).2),fun k hk=>⟨(h2 k hk).1,Nat.lt_of_lt_of_le (h2 k hk).2 hb.size⟩,h3.trans (hb.mono h3.size)⟩
 have i0:(txt.size:Int)<=60000:=by omega
 clear HB HSv hsz;go_enter func8,ntmps8
 go_wp2_with (first
  | (go_at_call 18;refine(HS'.out _ _ h2).mono ?_;rintro e w3 ⟨rfl,h3⟩)
  | (go_at_call 42;refine HB'.out.mono ?_;rintro e w2 ⟨be,rfl,h2⟩)
  | fail)
 obtain⟨S,q1,q2,q3⟩:=h3.out;exact bodyPost_ret (v:= .tuple #[.pointer (some ⟨be,0,none⟩),.nilIface]) (by simp[results,Tryz.results8,go_sem]) rfl ⟨be,S,rfl,q1,q2,q3⟩
structure DI (x:J) (f0 f1:Int):Prop where
 pl:dn x.lo x.hi x.mode
 m0: -1099511627777<=x.m0∧x.m0<=1099511627776
 m1: -1099511627777<=x.m1∧x.m1<=1099511627776
 late:0<=x.late∧x.late<=9223372036854775807
 f0:0<=f0∧f0<=9223372036854775807
 f1:0<=f1∧f1<=9223372036854775807
 s0:ay x.R0
 s1:ay x.R1
 l0:x.R0.length<=300
 l1:x.R1.length<=300
 g0:∀y∈x.R0,au y.k y.t y.v=true∧0<=y.n∧y.n<=9223372036854775807
 g1:∀y∈x.R1,au y.k y.t y.v=true∧0<=y.n∧y.n<=9223372036854775807
theorem DI.sv64 {x:J} {f0 f1:Int} (h:DI x f0 f1):SL x:=by
 obtain⟨⟨a1,a2⟩,⟨a3,a4⟩,_,a5⟩:=h.pl;have b0:=h.m0;have b1:=h.m1;have b2:=h.late;refine⟨⟨by omega,by omega⟩,⟨by omega,by omega⟩,⟨by omega,by omega⟩,⟨by omega,by omega⟩,⟨by omega,by omega⟩,⟨by omega,by omega⟩,fun y hy=> ?_,fun y hy=> ?_⟩
 ·obtain⟨g,n1,n2⟩:=h.g0 y hy;have :=pJ g;exact⟨⟨by omega,by omega⟩,⟨by omega,by omega⟩,⟨by omega,by omega⟩,⟨by omega,by omega⟩⟩
 ·obtain⟨g,n1,n2⟩:=h.g1 y hy;have :=pJ g;exact⟨⟨by omega,by omega⟩,⟨by omega,by omega⟩,⟨by omega,by omega⟩,⟨by omega,by omega⟩⟩
theorem ER {a b c:Int} (ha:In64 a) (hb:In64 b) (hc:In64 c):∀n∈[a,b,c],In64 n:=by
 intro n hn;simp only[List.mem_cons,List.mem_nil_iff,or_false] at hn
 rcases hn with rfl | rfl | rfl <;>assumption
theorem Px (x:J) (f0 f1:Int) (Z:List O) (h:DI x f0 f1) (hZ:∀o∈Z,iK o):∀p∈jE x f0 f1 Z,jN p.1 p.2.length∧(∀n∈p.2,In64 n)∧(10:UInt8)∉p.1.data.toList:=by
 have h64:=h.sv64;intro p hp;unfold jE A8 at hp;simp only[List.mem_cons,List.mem_append,List.mem_map,List.mem_nil_iff,or_false] at hp
 rcases hp with rfl | rfl | rfl | ⟨y,hy,rfl⟩ | ⟨y,hy,rfl⟩ | ⟨o,ho,rfl⟩ | rfl
 ·exact⟨.plan,ER h64.lo h64.hi h64.mode,show(10:UInt8)∉nI.data.toList by decide⟩
 ·exact⟨.fed,ER ⟨by have :=h.f0;omega,h.f0.2⟩ ⟨by have :=h.f1;omega,h.f1.2⟩ h64.late,show(10:UInt8)∉wC.data.toList by decide⟩
 ·refine⟨.marks,?_,show(10:UInt8)∉jL.data.toList by decide⟩;intro n hn;simp only[List.mem_cons,List.mem_nil_iff,or_false] at hn
  rcases hn with rfl | rfl
  ·exact h64.m0
  ·exact h64.m1
 ·refine⟨.row,?_,show(10:UInt8)∉pX.data.toList by decide⟩;obtain⟨a1,a2,a3,a4⟩:=h64.r0 y hy;intro n hn;simp only[List.mem_cons,List.mem_nil_iff,or_false] at hn
  rcases hn with rfl | rfl | rfl | rfl | rfl
  ·exact⟨by omega,by omega⟩
  all_goals assumption
 ·refine⟨.row,?_,show(10:UInt8)∉pX.data.toList by decide⟩;obtain⟨a1,a2,a3,a4⟩:=h64.r1 y hy;intro n hn;simp only[List.mem_cons,List.mem_nil_iff,or_false] at hn
  rcases hn with rfl | rfl | rfl | rfl | rfl
  ·exact⟨by omega,by omega⟩
  all_goals assumption
 ·have hin:=yD o (jB (hZ o ho))
  cases hZ o ho with
  | left k t v h=>exact⟨.left,hin,by simp[fu,bn]⟩
  | right k t v h=>exact⟨.right,hin,by simp[fu,bn]⟩
  | pair k t v t2 v2 h h2=>exact⟨.pair,hin,by simp[fu]⟩
 ·exact⟨.fin,by simp,by decide⟩
theorem xP (x:J) (f0 f1:Int) (Z:List O) (h:DI x f0 f1) (hZ:∀o∈Z,iK o) (YT:Z.length<=5000) (hO:bJ Z) (hsz:(bN x f0 f1 Z).length<=60000) (w:World) (hG:xO w):
  Calls prog 8 #[.string ⟨(bN x f0 f1 Z).toArray⟩] w fun e w'=>∃be S,e= .returned (.tuple #[.pointer (some ⟨be,0,none⟩),.nilIface])∧PE ⟨x,f0,f1,Z.reverse⟩ be S w'∧(∀k,S k->w.heap.size<=k∧k < w'.heap.size)∧Below w.heap.size w w':=by
 have hln:=Px x f0 f1 Z h hZ;obtain⟨f,ff0,ff1,ff2⟩:=(Lx x f0 f1 Z h.pl h.m0 h.m1 h.late h.f0 h.f1 h.s0 h.s1 h.l0 h.l1 h.g0 h.g1 hZ (by omega)).seq;refine Pw ⟨(bN x f0 f1 Z).toArray⟩ (by show(bN x f0 f1 Z).toArray.size<=_;simpa using hsz) (PE ⟨x,f0,f1,Z.reverse⟩) (cz _) w ?_ ?_
 ·have hb:=Pg (fun s c w=>Tryz.strings_Index_one s c w) (fun s p w hs=>Tryz.strings_TrimSuffix s p w hs) (fun i be S W=>PE (f (i -1)) be S W) (fun i be=>cz _ be) (jE x f0 f1 Z) Pk w (by unfold jE;simp)
   (fun p hp=>X7 p (hln p hp).2.2) (by rw[<-vL];omega)
   (fun i p bm W hp hW hK Eu=>Pt p (hln p (List.mem_of_getElem? hp)).1 (hln p (List.mem_of_getElem? hp)).2.1 bm w W hG hW hK Eu)
   (fun p g W hp hW hg=> ?_) (fun i p be S g W hi hp hW hP hg hn=> ?_)
  ·rw[<-vL] at hb;refine hb.mono ?_;rintro e w' ⟨be,S,he,hp,hr⟩
   have e1:(jE x f0 f1 Z).length -1=(A8 x f0 f1 Z).length:=by unfold jE;simp
   simp only[e1,ff1] at hp;exact⟨be,S,he,hp,hr⟩
  ·have hp':p=(nI,[x.lo,x.hi,x.mode]):=by
    unfold jE at hp;simpa using hp.symm
   subst hp';have hgl:=(Array.getElem?_eq_some_iff.1 hg).1;refine(Py g 0 3 x.lo x.hi x.mode (fun be V=>∃S,PE (f 0) be S V∧(∀k,S k->W.heap.size<=k∧k < V.heap.size)∧Below W.heap.size W V) W hgl (aI hg 0 rfl) (aI hg 1 rfl) (aI hg 2 rfl) ?_ ?_).mono ?_
   ·rintro be V V' ⟨S,q1,q2,q3⟩ hb;exact⟨S,cz _ be S V V' q1 hb.size (fun k hk=>hb.block k (q2 k hk).2),fun k hk=>⟨(q2 k hk).1,Nat.lt_of_lt_of_le (q2 k hk).2 hb.size⟩,q3.trans (hb.mono q3.size)⟩
   ·intro V hV;have hz:=hV.size;refine(JM x.lo x.hi x.mode V h.pl).mono ?_;rintro e w' ⟨be,bj,bm,rfl,hE,b1,b2,b3,hb⟩;refine⟨be,rfl,⟨aT bj bm (.slice none 0 0) (.slice none 0 0) none (fun k=>k=be),?_,fun k hk=>⟨?_,hE.lt hk⟩,hV.trans (hb.mono hz)⟩,hb⟩
    ·rw[ff0];exact⟨bj,bm,_,_,_,_,hE,fun _=>Iff.rfl⟩
    ·rcases hk with(hk | hk | hk | hk) | hk | hk
     ·omega
     ·omega
     ·simp[Value.ownBlock] at hk
     ·simp[Value.ownBlock] at hk
     ·cases hk
     ·have :k=be:=hk;omega
   ·rintro e w' ⟨be,rfl,S,q1,q2,q3⟩;exact⟨be,S,rfl,q1,q2,q3⟩
  ·obtain⟨i,rfl⟩:∃j,i=j+1:=⟨i -1,by omega⟩
   have hp':(A8 x f0 f1 Z)[i]? =some p:=by
    unfold jE at hp;simpa using hp
   exact Lt Pq (ff2 i p hp') hP hg hn
 ·rintro be S W ⟨bj,bm,v0,v1,om,Sg,hE,hS⟩ hW;have hw:=A9 be bj bm v0 v1 f0 f1 om Sg x Z.reverse Z.reverse Z W hE (hG.below hW).tab h.sv64 h.l0 h.l1 (fun o ho=>jB (hZ o (by simpa using ho))) (List.reverse_perm Z).symm hO;rw[if_neg (by rintro(e | e);(simp at e;omega);omega)] at hw;exact hw
end
section
theorem NR {x:J} {f0 f1:Int} {L Z:List O} {be:Nat} {S:Nat->Prop} {W:World} (hP:PE ⟨x,f0,f1,L⟩ be S W) (hG:xO W) (hv:DI x f0 f1) (hL:∀o∈L,iK o) (hZ:Z.Perm L) (hO:bJ Z):
  Calls Tryz.prog 18 #[.pointer (some ⟨be,0,none⟩)] W fun e w'=>e= .returned (if 5000 < L.length∨60000 < (bN x f0 f1 Z).length then .tuple #[.string ⟨#[]⟩,.iface 24 (.int .i64 4)] else .tuple #[.string ⟨(bN x f0 f1 Z).toArray⟩,.nilIface])∧Below W.heap.size W w':=by
 obtain⟨bj,bm,v0,v1,om,Sg,hE,hS⟩:=hP;exact A9 be bj bm v0 v1 f0 f1 om Sg x L L Z W hE hG.tab hv.sv64 hv.l0 hv.l1 (fun o ho=>jB (hL o ho)) hZ hO
end
section
open Go.Proofs.Tryz
variable {st:Sx} {be:Nat} {S:Nat->Prop} {W:World} {x:J} {f0 f1:Int} {L:List O}
theorem dQ (h:PE st be S W):∀k,S k->k < W.heap.size:=by
 obtain⟨bj,bm,v0,v1,om,Sg,h,hS⟩:=h
 exact fun k e=>h.lt ((hS k).1 e)
theorem GH (lo hi mode:Int) (W:World) (h:dn lo hi mode):Calls prog 13 #[.agg #[.int .i64 lo,.int .i64 hi,.int .i64 mode]] W fun e w'=>∃be S,e= .returned (.tuple #[.pointer (some ⟨be,0,none⟩),.nilIface])∧PE ⟨⟨lo,hi,mode,-1099511627777,-1099511627777,0,[],[]⟩,0,0,[]⟩ be S w'∧(∀k,S k->W.heap.size<=k∧k < w'.heap.size)∧Below W.heap.size W w':=by
 refine(JM lo hi mode W h).mono ?_;rintro e w' ⟨be,bj,bm,rfl,hE,l1,l2,l3,hb⟩;refine⟨be,aT bj bm (.slice none 0 0) (.slice none 0 0) none (fun k=>k=be),rfl,⟨bj,bm,_,_,none,_,hE,fun _=>Iff.rfl⟩,fun k e=>⟨?_,hE.lt e⟩,hb⟩
 rcases e with(e | e | e | e) | e | e
 ·omega
 ·omega
 ·cases e
 ·cases e
 ·cases e
 ·omega
theorem NF (r:Rw) (hE:PE ⟨x,f0,f1,L⟩ be S W) (hJ:DF x) (hg:au r.k r.t r.v=true) (gN:x.m0 < r.t) (hroom:x.m1 < r.t+x.hi->x.R0.length < 300) (hok:G7 L (qc x r)) (hwf:∀c∈qc x r,c.x.wf) (hL:L.length<=1000000):
  Calls prog 11 #[.pointer (some ⟨be,0,none⟩),.int .i64 0,.agg #[.int .i64 r.k,.int .i64 r.t,.int .i64 r.v]] W fun e w'=>∃v9 S',e= .returned (.tuple #[v9,.nilIface])∧w'.ownsRow W.heap.size 95 10 v9 (qc x r).length ((qc x r).flatMap aQ)∧PE ⟨x.fed0 r.k r.t r.v,aZ f0,f1,iE L (qc x r)⟩ be S' w'∧eO S S' W w':=by
 obtain⟨bj,bm,v0,v1,om,Sg,h,hS⟩:=hE
 have hcl:(qc x r).length<=1000000:=by
  have h1:=pg x.mode 0 r.k r.t r.v (bF r.k (r.t+x.lo) (r.t+x.hi) x.R1);have h2:=Ec r.k (r.t+x.lo) (r.t+x.hi) hJ.s1;have h3:=hJ.l1;show(bU x.mode 0 r.k r.t r.v (bF r.k (r.t+x.lo) (r.t+x.hi) x.R1)).length<=_;omega
 refine(U0 be bj bm v0 v1 f0 f1 om Sg x (x.fed0 r.k r.t r.v) L (qc x r) r.k r.t r.v W h ⟨rfl,rfl,rfl⟩ (fun W hW=> ?_) hok hwf hL hcl).mono ?_
 ·refine(O5 0 bj bm v0 v1 x r.k r.t r.v W hW (Nat.zero_le _) hg hJ.lo1 hJ.lo2 hJ.hi1 hJ.hi2 hJ.s0 hJ.s1 hJ.l0 hJ.l1 (fun y hy=>by have :=hJ.n1 y hy;omega) (by omega) hroom).mono ?_;rintro e w' ⟨v9,v',rfl,h1,h2,h3,h4⟩;refine⟨v9,v',v1,rfl,h1,h2,h3.mono (fun k e=>e.elim .inl (fun e=>e.elim (fun e=> .inr (.inr (.inl e))) (fun e=> .inr (.inr (.inr e))))),jg h4 (.inl rfl),fun k e=> ?_⟩;have hl:=(h2.lt k e).1;rintro(e2 | e2 | e2 | e2)
  ·have :=hW.lt;omega
  ·have :=hW.ltm;omega
  ·exact Az h2 h1.r0 (by decide) e e2
  ·have :=(hW.r1.lt k e2).2;omega
 ·rintro e w' ⟨v9,bA,v1',rfl,hF⟩;obtain⟨fG,qY,h1,h2,h3⟩:=hF.ex;rw[List.take_length] at h1;exact⟨v9,aT bj bm bA v1' fG qY,rfl,hF.row,⟨bj,bm,bA,v1',fG,qY,h1,fun _=>Iff.rfl⟩,⟨fun k e=>⟨(h2 k e).imp (hS k).2 id,h1.lt e⟩,hF.turn.mono (fun k e=>(hS k).2 e)⟩⟩
theorem NC (r:Rw) (hg0:W.cell? ⟨2,0,none⟩=some iD) (hE:PE ⟨x,f0,f1,L⟩ be S W) (hJ:DF x) (hg:au r.k r.t r.v=true) (hl:r.t<=x.m0):
  Calls prog 11 #[.pointer (some ⟨be,0,none⟩),.int .i64 0,.agg #[.int .i64 r.k,.int .i64 r.t,.int .i64 r.v]] W fun e w'=>∃S',e= .returned (.tuple #[.slice none 0 0,.iface 24 (.int .i64 10)])∧PE ⟨{ x with late:=bR x.late},aZ f0,f1,L⟩ be S' w'∧eO S S' W w':=by
 obtain⟨bj,bm,v0,v1,om,Sg,h,hS⟩:=hE;have hlt:=hJ.late;refine(Ed be bj bm v0 v1 f0 f1 om Sg x { x with late:=bR x.late} L L r.k r.t r.v W hg0 h ⟨rfl,rfl,rfl⟩ (fun W hW=>Ih 0 bj bm v0 v1 x r.k r.t r.v W hW hg hl (by omega) (by omega))).mono ?_;rintro e w' ⟨rfl,h1,h2⟩;exact⟨S,rfl,⟨bj,bm,v0,v1,om,Sg,h1,hS⟩,fun k e=>⟨.inl e,h1.lt ((hS k).1 e)⟩,h2.mono (fun k e=>(hS k).2 e)⟩
theorem ND (r:Rw) (hg0:W.cell? ⟨2,0,none⟩=some iD) (hE:PE ⟨x,f0,f1,L⟩ be S W) (hJ:DF x) (hg:au r.k r.t r.v=true) (hl:x.m0 < r.t) (hl2:x.m1 < r.t+x.hi) (hl3:300<=x.R0.length):
  Calls prog 11 #[.pointer (some ⟨be,0,none⟩),.int .i64 0,.agg #[.int .i64 r.k,.int .i64 r.t,.int .i64 r.v]] W fun e w'=>∃S',e= .returned (.tuple #[.slice none 0 0,.iface 24 (.int .i64 12)])∧PE ⟨x,f0,f1,L⟩ be S' w'∧eO S S' W w':=by
 obtain⟨bj,bm,v0,v1,om,Sg,h,hS⟩:=hE;refine(Eg be bj bm v0 v1 f0 f1 om Sg x L L r.k r.t r.v W hg0 h (fun W hW=>Ii 0 bj bm v0 v1 x r.k r.t r.v W hW hg hJ.lo1 hJ.lo2 hJ.hi1 hJ.hi2 (by omega) hl2 hl3)).mono ?_;rintro e w' ⟨rfl,hb⟩;have h1:=h.below hb;exact⟨S,rfl,⟨bj,bm,v0,v1,om,Sg,h1,hS⟩,fun k e=>⟨.inl e,h1.lt ((hS k).1 e)⟩,Turned.of_below hb⟩
theorem NI (r:Rw) (hE:PE ⟨x,f0,f1,L⟩ be S W) (hJ:DF x) (hg:au r.k r.t r.v=true) (gN:x.m1 < r.t) (hroom:x.m0 < r.t+ -x.lo->x.R1.length < 300) (hok:G7 L (qd x r)) (hwf:∀c∈qd x r,c.x.wf) (hL:L.length<=1000000):
  Calls prog 11 #[.pointer (some ⟨be,0,none⟩),.int .i64 1,.agg #[.int .i64 r.k,.int .i64 r.t,.int .i64 r.v]] W fun e w'=>∃v9 S',e= .returned (.tuple #[v9,.nilIface])∧w'.ownsRow W.heap.size 95 10 v9 (qd x r).length ((qd x r).flatMap aQ)∧PE ⟨x.fed1 r.k r.t r.v,f0,aZ f1,iE L (qd x r)⟩ be S' w'∧eO S S' W w':=by
 obtain⟨bj,bm,v0,v1,om,Sg,h,hS⟩:=hE
 have hcl:(qd x r).length<=1000000:=by
  have h1:=pg x.mode 1 r.k r.t r.v (bF r.k (r.t+ -x.hi) (r.t+ -x.lo) x.R0);have h2:=Ec r.k (r.t+ -x.hi) (r.t+ -x.lo) hJ.s0;have h3:=hJ.l0;show(bU x.mode 1 r.k r.t r.v (bF r.k (r.t+ -x.hi) (r.t+ -x.lo) x.R0)).length<=_;omega
 refine(U2 be bj bm v0 v1 f0 f1 om Sg x (x.fed1 r.k r.t r.v) L (qd x r) r.k r.t r.v W h ⟨rfl,rfl,rfl⟩ (fun W hW=> ?_) hok hwf hL hcl).mono ?_
 ·refine(O8 0 bj bm v0 v1 x r.k r.t r.v W hW (Nat.zero_le _) hg hJ.lo1 hJ.lo2 hJ.hi1 hJ.hi2 hJ.s0 hJ.s1 hJ.l0 hJ.l1 (fun y hy=>by have :=hJ.n0 y hy;omega) (by omega) hroom).mono ?_;rintro e w' ⟨v9,v',rfl,h1,h2,h3,h4⟩;refine⟨v9,v0,v',rfl,h1,h2,h3.mono (fun k e=>e.elim .inl (fun e=>e.elim (fun e=> .inr (.inr (.inl e))) (fun e=> .inr (.inr (.inr e))))),jg (.inl rfl) h4,fun k e=> ?_⟩;have hl:=(h2.lt k e).1;rintro(e2 | e2 | e2 | e2)
  ·have :=hW.lt;omega
  ·have :=hW.ltm;omega
  ·have :=(hW.r0.lt k e2).2;omega
  ·exact Az h2 h1.r1 (by decide) e e2
 ·rintro e w' ⟨v9,bA,v1',rfl,hF⟩;obtain⟨fG,qY,h1,h2,h3⟩:=hF.ex;rw[List.take_length] at h1;exact⟨v9,aT bj bm bA v1' fG qY,rfl,hF.row,⟨bj,bm,bA,v1',fG,qY,h1,fun _=>Iff.rfl⟩,⟨fun k e=>⟨(h2 k e).imp (hS k).2 id,h1.lt e⟩,hF.turn.mono (fun k e=>(hS k).2 e)⟩⟩
theorem NG (r:Rw) (hg0:W.cell? ⟨2,0,none⟩=some iD) (hE:PE ⟨x,f0,f1,L⟩ be S W) (hJ:DF x) (hg:au r.k r.t r.v=true) (hl:r.t<=x.m1):
  Calls prog 11 #[.pointer (some ⟨be,0,none⟩),.int .i64 1,.agg #[.int .i64 r.k,.int .i64 r.t,.int .i64 r.v]] W fun e w'=>∃S',e= .returned (.tuple #[.slice none 0 0,.iface 24 (.int .i64 10)])∧PE ⟨{ x with late:=bR x.late},f0,aZ f1,L⟩ be S' w'∧eO S S' W w':=by
 obtain⟨bj,bm,v0,v1,om,Sg,h,hS⟩:=hE;have hlt:=hJ.late;refine(Ee be bj bm v0 v1 f0 f1 om Sg x { x with late:=bR x.late} L L r.k r.t r.v W hg0 h ⟨rfl,rfl,rfl⟩ (fun W hW=>Ij 0 bj bm v0 v1 x r.k r.t r.v W hW hg hl (by omega) (by omega))).mono ?_;rintro e w' ⟨rfl,h1,h2⟩;exact⟨S,rfl,⟨bj,bm,v0,v1,om,Sg,h1,hS⟩,fun k e=>⟨.inl e,h1.lt ((hS k).1 e)⟩,h2.mono (fun k e=>(hS k).2 e)⟩
theorem NH (r:Rw) (hg0:W.cell? ⟨2,0,none⟩=some iD) (hE:PE ⟨x,f0,f1,L⟩ be S W) (hJ:DF x) (hg:au r.k r.t r.v=true) (hl:x.m1 < r.t) (hl2:x.m0 < r.t+ -x.lo) (hl3:300<=x.R1.length):
  Calls prog 11 #[.pointer (some ⟨be,0,none⟩),.int .i64 1,.agg #[.int .i64 r.k,.int .i64 r.t,.int .i64 r.v]] W fun e w'=>∃S',e= .returned (.tuple #[.slice none 0 0,.iface 24 (.int .i64 12)])∧PE ⟨x,f0,f1,L⟩ be S' w'∧eO S S' W w':=by
 obtain⟨bj,bm,v0,v1,om,Sg,h,hS⟩:=hE;refine(Eh be bj bm v0 v1 f0 f1 om Sg x L L r.k r.t r.v W hg0 h (fun W hW=>Ik 0 bj bm v0 v1 x r.k r.t r.v W hW hg hJ.lo1 hJ.lo2 hJ.hi1 hJ.hi2 (by omega) hl2 hl3)).mono ?_;rintro e w' ⟨rfl,hb⟩;have h1:=h.below hb;exact⟨S,rfl,⟨bj,bm,v0,v1,om,Sg,h1,hS⟩,fun k e=>⟨.inl e,h1.lt ((hS k).1 e)⟩,Turned.of_below hb⟩
theorem NK (t:Int) (hE:PE ⟨x,f0,f1,L⟩ be S W) (hJ:DF x) (hm:x.m0<=t) (ht: -1099511627776<=t∧t<=1099511627776):
  Calls prog 15 #[.pointer (some ⟨be,0,none⟩),.int .i64 0,.int .i64 t] W fun e w'=>∃S',e= .returned .nilIface∧PE ⟨{ x with m0:=t,R1:=keepR (fun y=>decide (y.t<=t+x.lo)) x.R1},f0,f1,L⟩ be S' w'∧eO S S' W w':=by
 obtain⟨bj,bm,v0,v1,om,Sg,h,hS⟩:=hE
 have he:moveE x.m0 x.m1 0 t=0:=by
  unfold moveE;rw[if_neg (by decide),if_neg (by omega),if_neg (by simp[kW];omega)]
 refine(pG be bj bm v0 v1 f0 f1 om Sg x { x with m0:=t,R1:=keepR (fun y=>decide (y.t<=t+x.lo)) x.R1} L L 0 t W h ⟨rfl,rfl,rfl⟩ (fun W hW=> ?_)).mono ?_
 ·refine(AX 0 bj bm v0 v1 x t W hW he (by have :=hJ.l1;omega) hJ.lo1 hJ.lo2 hJ.hi1 hJ.hi2).mono ?_;rintro e w' ⟨rfl,v',h1,h2,h3⟩;exact⟨rfl,v0,v',h1,h2.mono (fun k e=>e.elim .inl (fun e=>e.elim (fun e=> .inr (.inl e)) (fun e=> .inr (.inr (.inr e))))),rfl,h3⟩
 ·rintro e w' ⟨rfl,bA,v1',h1,h2,h3,h4⟩
  have hS':∀k,S k↔aT bj bm bA v1' om Sg k:=fun k=>by rw[hS k];unfold aT eP;rw[h3,h4]
  exact⟨S,rfl,⟨bj,bm,bA,v1',om,Sg,h1,hS'⟩,fun k e=>⟨.inl e,h1.lt ((hS' k).1 e)⟩,h2.mono (fun k e=>(hS k).2 e)⟩
theorem NL (t:Int) (hE:PE ⟨x,f0,f1,L⟩ be S W) (hJ:DF x) (hm:x.m1<=t) (ht: -1099511627776<=t∧t<=1099511627776):
  Calls prog 15 #[.pointer (some ⟨be,0,none⟩),.int .i64 1,.int .i64 t] W fun e w'=>∃S',e= .returned .nilIface∧PE ⟨{ x with m1:=t,R0:=keepR (fun y=>decide (y.t<=t -x.hi)) x.R0},f0,f1,L⟩ be S' w'∧eO S S' W w':=by
 obtain⟨bj,bm,v0,v1,om,Sg,h,hS⟩:=hE
 have he:moveE x.m0 x.m1 1 t=0:=by
  unfold moveE;rw[if_neg (by decide),if_neg (by omega),if_neg (by simp[kW];omega)]
 refine(pG be bj bm v0 v1 f0 f1 om Sg x { x with m1:=t,R0:=keepR (fun y=>decide (y.t<=t -x.hi)) x.R0} L L 1 t W h ⟨rfl,rfl,rfl⟩ (fun W hW=> ?_)).mono ?_
 ·refine(AZ 0 bj bm v0 v1 x t W hW he (by have :=hJ.l0;omega) hJ.hi1 hJ.hi2).mono ?_;rintro e w' ⟨rfl,v',h1,h2,h3⟩;exact⟨rfl,v',v1,h1,h2.mono (fun k e=>e.elim .inl (fun e=>e.elim (fun e=> .inr (.inl e)) (fun e=> .inr (.inr (.inl e))))),h3,rfl⟩
 ·rintro e w' ⟨rfl,bA,v1',h1,h2,h3,h4⟩
  have hS':∀k,S k↔aT bj bm bA v1' om Sg k:=fun k=>by rw[hS k];unfold aT eP;rw[h3,h4]
  exact⟨S,rfl,⟨bj,bm,bA,v1',om,Sg,h1,hS'⟩,fun k e=>⟨.inl e,h1.lt ((hS' k).1 e)⟩,h2.mono (fun k e=>(hS k).2 e)⟩
theorem DR {w:World} (hE:PE st be S w):Calls prog 25 #[.pointer (some ⟨be,0,none⟩)] w fun e w'=>e= .returned (.int .i64 st.x.late)∧w'=w:=by
 obtain⟨bj,bm,v0,v1,om,Sg,h,hS⟩:=hE;have H:Hid (Calls prog 67 #[.pointer (some ⟨bj,0,none⟩)] w fun e w'=>e= .returned (.int .i64 st.x.late)∧w'=w):=AV 0 bj bm v0 v1 st.x w h.join;have hc:=h.cells.2.2.2.1;have hlt:=h.blt;clear h hS;go_enter func25,ntmps25
 go_wp2_with (first
  | (go_at_call 67;refine H.out.mono ?_;rintro e w' ⟨rfl,hw⟩;have hw:=hw.symm;subst hw)
  | fail)
 go_ret;exact⟨rfl,rfl⟩
end
end Go.Proofs.YthfpipieboophaaGreatDoor
