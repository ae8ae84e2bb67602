import Derived.Test.YthfpipieboophaaGreatDoorZbq
import Derived.Test.YthfpipieboophaaGreatDoorZbr
namespace Go.Proofs.YthfpipieboophaaGreatDoor
set_option maxRecDepth 100000
set_option maxHeartbeats 40000000
open Go.Joins Go.RowKit Go.Sort Go.Shelf
structure DH (w0:World) (bh be:Nat) (rs:RS) (Pe P:Nat->Prop) (n:Nat) (st:Sx) (W:World):Prop where
 blk:W.heap[bh]? =some (.cells #[.pointer (some ⟨be,0,none⟩)] 155)
 eng:RE be rs Pe W
 like:dN n st rs
 np:¬Pe bh
 all:∀k,P k↔(Pe k∨k=bh)
 low:Below w0.heap.size w0 W
 ge:∀k,P k->w0.heap.size<=k
def DHs (w0:World) (bh n:Nat) (st:Sx) (P:Nat->Prop) (W:World):Prop:=∃be rs Pe,DH w0 bh be rs Pe P n st W
def eu (w0:World) (bh n:Nat) (st:Sx) (P:Nat->Prop) (W w':World):Prop:=∃P',DHs w0 bh n st P' w'∧Turned P W w'∧∀k,P' k->P k∨W.heap.size<=k
section
variable {w0:World} {bh be n m:Nat} {rs:RS} {st st':Sx} {Pe P:Nat->Prop} {W W' w':World}
theorem DH.lt (h:DH w0 bh be rs Pe P n st W):bh < W.heap.size:=(Array.getElem?_eq_some_iff.1 h.blk).1
theorem DH.plt (h:DH w0 bh be rs Pe P n st W):∀k,P k->k < W.heap.size:=fun k hk=>by
 rcases(h.all k).1 hk with g | g
 ·exact h.eng.plt k g
 ·rw[g];exact h.lt
theorem DH.cell (h:DH w0 bh be rs Pe P n st W):W.cell? ⟨bh,0,none⟩=some (.pointer (some ⟨be,0,none⟩))∧W.frozen? ⟨bh,0,none⟩=false:=by
 refine⟨?_,unfrozen_of_block h.blk 0⟩;rw[cell_of_block h.blk];rfl
theorem DH.below (h:DH w0 bh be rs Pe P n st W) (hb:Below W.heap.size W W'):DH w0 bh be rs Pe P n st W':=
 ⟨(hb.block bh h.lt).trans h.blk,h.eng.below hb,h.like,h.np,h.all,h.low.trans (hb.mono h.low.size),h.ge⟩
theorem DH.more (h:DH w0 bh be rs Pe P n st W) (hm:n<=m):DH w0 bh be rs Pe P m st W:=⟨h.blk,h.eng,h.like.more hm,h.np,h.all,h.low,h.ge⟩
theorem DH.same (h:DH w0 bh be rs Pe P n st W) (hb:Below W.heap.size W w'):eu w0 bh (n+1) st P W w':=
 ⟨P,⟨be,rs,Pe,(h.below hb).more (by omega)⟩,Turned.of_below hb,fun _ e=> .inl e⟩
theorem DH.goes (h:DH w0 bh be rs Pe P n st W) (hR:Ol be m st' Pe W w'):eu w0 bh m st' P W w':=by
 obtain⟨rs',Mk,h1,h2,h3,h4⟩:=hR;have hT:Turned P W w':=h3.mono (fun k e=>(h.all k).2 (.inl e));refine⟨fun k=>Mk k∨k=bh,⟨be,rs',Mk,⟨(h3.block bh h.lt h.np).trans h.blk,h1,h2,fun e=> ?_,fun _=>Iff.rfl,ja h.low hT h.ge,fun k e=> ?_⟩⟩,hT,fun k e=> ?_⟩
 ·rcases h4 bh e with g | g
  ·exact h.np g
  ·have :=h.lt;omega
 ·rcases e with e | e
  ·rcases h4 k e with g | g
   ·exact h.ge k ((h.all k).2 (.inl g))
   ·have :=h.low.size;omega
  ·exact h.ge k ((h.all k).2 (.inr e))
 ·rcases e with e | e
  ·exact(h4 k e).imp (fun g=>(h.all k).2 (.inl g)) id
  ·exact .inl ((h.all k).2 (.inr e))
theorem eu.go (h:eu w0 bh n st P W W') (hb:Below W'.heap.size W' w'):eu w0 bh n st P W w':=by
 obtain⟨P',⟨be,rs,Pe,h1⟩,h2,h3⟩:=h;exact⟨P',⟨be,rs,Pe,h1.below hb⟩,h2.trans (Turned.of_below (S:=fun _=>False) hb) (fun _ _ e=>e.elim),h3⟩
theorem DH.taken (h:DH w0 bh be rs Pe P n st W) {iF:Nat} {rs':RS} {Mk:Nat->Prop} (hb:Below W.heap.size W W') (hE:RE iF rs' Mk W') (hS:∀k,Mk k->W.heap.size<=k) (hL:dN m st' rs'):eu w0 bh m st' P W (W'.setCell ⟨bh,0,none⟩ (.pointer (some ⟨iF,0,none⟩))):=by
 have h1:=h.below hb
 have hns:¬Mk bh:=fun e=>by have :=hS bh e;have :=h.lt;omega
 have hse:∀k,k≠bh->(W'.setCell ⟨bh,0,none⟩ (.pointer (some ⟨iF,0,none⟩))).heap[k]? =W'.heap[k]? :=fun k e=>Below.heap_setCell _ _ _ _ e
 have hT:Turned P W (W'.setCell ⟨bh,0,none⟩ (.pointer (some ⟨iF,0,none⟩))):=(Turned.of_below (S:=P) hb).trans (bC (b:=bh) (o:=0)) (fun k _ e=>(h.all k).2 (.inr e));refine⟨fun k=>Mk k∨k=bh,⟨iF,rs',Mk,⟨?_,hE.still (fun k e=>hse k (fun e2=>hns (e2 ▸ e))),hL,hns,fun _=>Iff.rfl,ja h.low hT h.ge,fun k e=> ?_⟩⟩,hT,fun k e=> ?_⟩
 ·rw[block_setCell h1.blk];rfl
 ·rcases e with e | e
  ·have :=hS k e;have :=h.low.size;omega
  ·exact h.ge k ((h.all k).2 (.inr e))
 ·rcases e with e | e
  ·exact .inr (hS k e)
  ·exact .inl ((h.all k).2 (.inr e))
end
def eB (w0:World) (bh n:Nat) (st':Sx) (P:Nat->Prop) (W:World) (c:Int) (tx:List UInt8) (e:Ending) (w':World):Prop:=
 ∃t,e= .returned (.tuple #[sV t,.int .i64 c])∧(c=0->t=tx)∧eu w0 bh n st' P W w'
end Go.Proofs.YthfpipieboophaaGreatDoor
