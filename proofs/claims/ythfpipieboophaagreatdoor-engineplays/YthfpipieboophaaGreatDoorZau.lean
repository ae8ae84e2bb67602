import Derived.Test.YthfpipieboophaaGreatDoorZar
import Derived.Test.YthfpipieboophaaGreatDoorZap
namespace Go.Proofs.YthfpipieboophaaGreatDoor
set_option maxRecDepth 100000
set_option maxHeartbeats 40000000
open Go.RowKit Go.Sort
section
theorem KF (n:Int) (w:World) (h:¬(0<=n∧n<=3)):Calls Tryz.prog 184 #[.int .i64 n] w fun e w'=>e= .returned (.bool false)∧w'=w:=by
 have d0:(n==0)=false:=by simp;omega
 have d1:(n==1)=false:=by simp;omega
 have d2:(n==2)=false:=by simp;omega
 have d3:(n==3)=false:=by simp;omega
 clear h;go_enter Tryz.func184,Tryz.ntmps184;go_wp2;go_ret;exact⟨rfl,rfl⟩
end
section
end
section
open Go.Shelf
end
section
end
section
end
section
open Go.Joins
abbrev ZJ (n:Int):Prop:= -9223372036854775808<=n∧n<=9223372036854775807
structure M6 (w:World) (gw off gs bl:Nat) (hd:ByteArray) (k:Nat) (vs:List (List UInt8)) (ns:List Int) (W:World):Prop where
 low:Below w.heap.size w W
 res:W.heap[w.heap.size]? =some zL
 wrd:∀j x,vs[j]? =some x->W.cell? ⟨gw,off+(j+1),none⟩=some (.string (bW x))
 nums:W.heap[gs]? =some (.cells (ns.map (Value.int .i64)++List.replicate (k -ns.length) (Value.int .i64 0)).toArray 3)
 line:W.heap[bl]? =some (.cells #[.string hd,.slice (some ⟨gs,0,none⟩) k k] 169)
 ge:w.heap.size<=gs
 ngw:gw≠gs
 all:∀n∈ns,ZJ n
section
variable {w:World} {gw off gs bl:Nat} {hd:ByteArray} {k:Nat} {vs:List (List UInt8)} {ns:List Int} {W W':World}
theorem M6.lts (h:M6 w gw off gs bl hd k vs ns W):w.heap.size < W.heap.size∧gs < W.heap.size∧bl < W.heap.size:=⟨(Array.getElem?_eq_some_iff.1 h.res).1,(Array.getElem?_eq_some_iff.1 h.nums).1,(Array.getElem?_eq_some_iff.1 h.line).1⟩
theorem M6.nes (h:M6 w gw off gs bl hd k vs ns W):w.heap.size≠gs∧bl≠gs:=by
 refine⟨fun e=> ?_,fun e=> ?_⟩
 ·have h1:=h.res;rw[e,h.nums] at h1;simp at h1
 ·have h1:=h.line;rw[e,h.nums] at h1;simp at h1
theorem M6.below (h:M6 w gw off gs bl hd k vs ns W) (hb:Below W.heap.size W W'):M6 w gw off gs bl hd k vs ns W':=
 ⟨h.low.trans (hb.mono h.low.size),(hb.block _ h.lts.1).trans h.res,fun j n hj=>(hb.cell (p:=⟨gw,off+(j+1),none⟩) (World.block_lt_of_cell? _ _ (h.wrd j n hj))).trans (h.wrd j n hj),(hb.block _ h.lts.2.1).trans h.nums,(hb.block _ h.lts.2.2).trans h.line,h.ge,h.ngw,h.all⟩
theorem M6.cells (h:M6 w gw off gs bl hd k vs ns W):W.cell? ⟨bl,0,none⟩=some (.string hd)∧W.cell? ⟨bl,1,none⟩=some (.slice (some ⟨gs,0,none⟩) k k)∧W.cell? ⟨w.heap.size,0,none⟩=some (.string ⟨#[]⟩)∧W.cell? ⟨w.heap.size,1,none⟩=some (.slice none 0 0)∧W.frozen? ⟨w.heap.size,0,none⟩=false∧W.frozen? ⟨w.heap.size,1,none⟩=false∧W.frozen? ⟨gs,ns.length,none⟩=false∧(ns.length < k->W.cell? ⟨gs,ns.length,none⟩=some (.int .i64 0)):=by
 refine⟨by rw[cell_of_block h.line];rfl,by rw[cell_of_block h.line];rfl,by rw[cell_of_block h.res];rfl,by rw[cell_of_block h.res];rfl,unfrozen_of_block h.res 0,unfrozen_of_block h.res 1,unfrozen_of_block h.nums ns.length,fun hlt=> ?_⟩;rw[cell_of_block h.nums,List.getElem?_toArray,List.getElem?_append_right (by simp),List.getElem?_replicate,if_pos (by simp;omega)]
theorem M6.store (h:M6 w gw off gs bl hd k vs ns W) (hlt:ns.length < k) {n:Int} (hn:ZJ n):M6 w gw off gs bl hd k vs (ns++[n]) (W.setCell ⟨gs,ns.length,none⟩ (.int .i64 n)):=by
 have hs:∀j,j≠gs->(W.setCell ⟨gs,ns.length,none⟩ (.int .i64 n)).heap[j]? =W.heap[j]? :=fun j e=>Below.heap_setCell _ _ _ _ e
 refine⟨h.low.setCell (p:=⟨gs,ns.length,none⟩) h.ge _,(hs _ h.nes.1).trans h.res,fun j m hj=>(World.cell?_of_block (w:=W) (a:=⟨gw,off+(j+1),none⟩) (hs gw h.ngw)).trans (h.wrd j m hj),?_,(hs _ h.nes.2).trans h.line,h.ge,h.ngw,fun m hm=> ?_⟩
 ·rw[block_setCell h.nums];congr 2;simp only[List.setIfInBounds_toArray];congr 1;rw[List.set_append_right _ _ (by simp)];simp only[List.map_append,List.append_assoc,List.map_cons,List.map_nil,List.length_map,List.singleton_append,List.length_append,List.length_cons,List.length_nil];congr 1;obtain⟨r,hr⟩:∃r,k -ns.length=r+1:=⟨k -ns.length -1,by omega⟩;rw[hr,Nat.sub_self,List.replicate_succ,List.set_cons_zero,show k -(ns.length+(0+1))=r by omega]
 ·rcases List.mem_append.1 hm with g | g
  ·exact h.all m g
  ·simp at g;rw[g];exact hn
end
abbrev ZK (w w':World) (e:Ending):Prop:=e= .returned (.tuple #[.agg #[.string ⟨#[]⟩,.slice none 0 0],.bool false])∧Below w.heap.size w w'
abbrev X0 (w w':World) (e:Ending) (hd:ByteArray) (k:Nat):Prop:=∃(ns:List Int) (g:Nat),ns.length=k∧(∀n∈ns,ZJ n)∧e= .returned (.tuple #[.agg #[.string hd,.slice (some ⟨g,0,none⟩) k k],.bool true])∧w'.heap[g]? =some (.cells (ns.map (Value.int .i64)).toArray 3)∧w.heap.size<=g∧Below w.heap.size w w'
end
end Go.Proofs.YthfpipieboophaaGreatDoor
