import Derived.Test.YthfpipieboophaaGreatDoorZLde
import Derived.Test.YthfpipieboophaaGreatDoorZSvf
namespace Go.Proofs.YthfpipieboophaaGreatDoor
set_option maxRecDepth 100000
set_option maxHeartbeats 40000000
open Go.RowKit Go.Sort
section
theorem KF(n:Int)(w:World)(h:¬(0<=n/\n<=3)):Calls Tryz.prog 184 #[.int .i64 n] w λe a=>e=.returned (.bool false)/\a=w:=by
 have d0:(n==0)=false:=by simp;omega
 have d1:(n==1)=false:=by simp;omega
 have d2:(n==2)=false:=by simp;omega
 have d3:(n==3)=false:=by simp;omega
 clear h;go_enter Tryz.func184,Tryz.ntmps184;go_wp2;go_ret;exact⟨rfl,rfl⟩
end
section
end
section
open Go.Shelf
end
section
end
section
theorem Xn(s:ByteArray)(hs:s.size<=2000000):keyOf Tryz.prog 9 (.string s)=some (.string s.data.toList):=by
 simp[keyOf,Tryz.underlying9,mapKey];unfold maxLen;omega
end
section
open Go.Joins
abbrev ZJ(n:Int):Prop:= -9223372036854775808<=n/\n<=9223372036854775807
structure M6(w:World)(c off b bl:Nat)(hd:ByteArray)(k:Nat)(vs:List (List UInt8))(ns:List Int)(W:World):Prop where
 low:Below w.heap.size w W
 res:W.heap[w.heap.size]?=some zL
 wrd:∀j x,vs[j]?=some x->W.cell? ⟨c,off+(j+1),none⟩=some (.string (bW x))
 nums:W.heap[b]?=some (.cells (ns.map (Value.int .i64)++List.replicate (k -ns.length) (Value.int .i64 0)).toArray 3)
 line:W.heap[bl]?=some (.cells #[.string hd,.slice (some ⟨b,0,none⟩) k k] 169)
 ge:w.heap.size<=b
 ngw:c≠b
 all:∀n∈ns,ZJ n
section
variable{w:World}{c off b bl:Nat}{hd:ByteArray}{k:Nat}{vs:List (List UInt8)}{ns:List Int}{W d:World}
theorem M6.lts(h:M6 w c off b bl hd k vs ns W):w.heap.size<W.heap.size/\b<W.heap.size/\bl<W.heap.size:=⟨(aD.1 h.res).1,(aD.1 h.nums).1,(aD.1 h.line).1⟩
theorem M6.nes(h:M6 w c off b bl hd k vs ns W):w.heap.size≠b/\bl≠b:=by
 refine⟨λe=>?_,λe=>?_⟩
 .have a:=h.res;rw[e,h.nums]at a;simp at a
 .have a:=h.line;rw[e,h.nums]at a;simp at a
theorem M6.below(h:M6 w c off b bl hd k vs ns W)(a:Below W.heap.size W d):M6 w c off b bl hd k vs ns d:=
 ⟨h.low.trans (a.mono h.low.size),(a.block _ h.lts.1).trans h.res,λj n e=>(a.cell (p:=⟨c,off+(j+1),none⟩) (World.block_lt_of_cell? _ _ (h.wrd j n e))).trans (h.wrd j n e),(a.block _ h.lts.2.1).trans h.nums,(a.block _ h.lts.2.2).trans h.line,h.ge,h.ngw,h.all⟩
theorem M6.cells(h:M6 w c off b bl hd k vs ns W):W.cell? ⟨bl,0,none⟩=some (.string hd)/\W.cell? ⟨bl,1,none⟩=some (.slice (some ⟨b,0,none⟩) k k)/\W.cell? ⟨w.heap.size,0,none⟩=some (.string ⟨#[]⟩)/\W.cell? ⟨w.heap.size,1,none⟩=some (.slice none 0 0)/\W.frozen? ⟨w.heap.size,0,none⟩=false/\W.frozen? ⟨w.heap.size,1,none⟩=false/\W.frozen? ⟨b,ns.length,none⟩=false/\(ns.length<k->W.cell? ⟨b,ns.length,none⟩=some (.int .i64 0)):=by
 refine⟨by rw[vE h.line];rfl,by rw[vE h.line];rfl,by rw[vE h.res];rfl,by rw[vE h.res];rfl,x9 h.res 0,x9 h.res 1,x9 h.nums ns.length,λhlt=>?_⟩;rw[vE h.nums,List.getElem?_toArray,pY (by simp),List.getElem?_replicate,if_pos (by simp;omega)]
theorem M6.store(h:M6 w c off b bl hd k vs ns W)(hlt:ns.length<k){n:Int}(o:ZJ n):M6 w c off b bl hd k vs (ns++[n]) (W.setCell ⟨b,ns.length,none⟩ (.int .i64 n)):=by
 have f:∀j,j≠b->(W.setCell ⟨b,ns.length,none⟩ (.int .i64 n)).heap[j]?=W.heap[j]? :=λj e=>zw _ _ _ _ e
 refine⟨h.low.setCell (p:=⟨b,ns.length,none⟩) h.ge _,(f _ h.nes.1).trans h.res,λj m i=>(World.cell?_of_block (w:=W) (a:=⟨c,off+(j+1),none⟩) (f c h.ngw)).trans (h.wrd j m i),?_,(f _ h.nes.2).trans h.line,h.ge,h.ngw,λm l=>?_⟩
 .rw[yc h.nums];congr 2;simp only[List.setIfInBounds_toArray];congr 1;rw[List.set_append_right _ _ (by simp)];simp only[List.map_append,List.append_assoc,List.map_cons,List.map_nil,List.length_map,List.singleton_append,List.length_append,List.length_cons,List.length_nil];congr 1;obtain⟨r,hr⟩:∃r,k -ns.length=r+1:=⟨k -ns.length -1,by omega⟩;rw[hr,Nat.sub_self,List.replicate_succ,List.set_cons_zero,show k -(ns.length+(0+1))=r by omega]
 .rcases List.mem_append.1 l with g|g
  .exact h.all m g
  .simp at g;rw[g];exact o
end
abbrev ZK(w w':World)(e:Ending):Prop:=e=.returned (.tuple #[.agg #[.string ⟨#[]⟩,.slice none 0 0],.bool false])/\Below w.heap.size w w'
abbrev X0(w w':World)(e:Ending)(hd:ByteArray)(k:Nat):Prop:=∃(ns:List Int) (g:Nat),ns.length=k/\(∀n∈ns,ZJ n)/\e=.returned (.tuple #[.agg #[.string hd,.slice (some ⟨g,0,none⟩) k k],.bool true])/\w'.heap[g]?=some (.cells (ns.map (Value.int .i64)).toArray 3)/\w.heap.size<=g/\Below w.heap.size w w'
end
end Go.Proofs.YthfpipieboophaaGreatDoor
