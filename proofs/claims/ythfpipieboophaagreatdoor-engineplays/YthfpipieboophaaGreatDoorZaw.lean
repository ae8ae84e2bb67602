import Derived.Test.YthfpipieboophaaGreatDoorShl
import Derived.Test.YthfpipieboophaaGreatDoorZaj
import Derived.Test.YthfpipieboophaaGreatDoorZaq
namespace Go.Proofs.YthfpipieboophaaGreatDoor
set_option maxRecDepth 100000
set_option maxHeartbeats 40000000
open Go.RowKit Go.Sort Go.Shelf
section
open Go.Proofs.Tryz Go.Joins
variable {w1 W:World} {X:List (List UInt8)} {v9:Value}
abbrev jP (w:World):Prop:=Lib.TabIs prog w "internal/strconv.uint64pow10" .u64 Lib.pow10Tab
abbrev sV (b:List UInt8):Value:= .string ⟨b.toArray⟩
theorem rz:(prog.info? 9).map (fun i=>(i.zero,i.size,i.bytes))=some (some (.string ⟨#[]⟩),1,16):=by kernel_rfl
theorem jA {b:ByteArray}:∀u∈[(.string b:Value)],u.oneCell'=true:=by
 intro u hu;simp at hu;subst hu;rfl
theorem JB (w:World) (k:Nat) (os:Array Obj):Below w.heap.size w (grow (w.drewN k) os):=
 ⟨rfl,rfl,rfl,by simp[grow,World.drewN],fun j hj=>by show(w.heap++os)[j]? =w.heap[j]?;rw[Array.getElem?_append_left hj]⟩
theorem mF (n:Int) (h0: -9223372036854775808<=n) (h1:n<=9223372036854775807) (w:World) (ht:jP w):Calls prog 113 #[.int .i64 n] w fun e w'=>e= .returned (.string ⟨(Lib.itoa n).toArray⟩)∧Below w.heap.size w w':=by
 refine(Tryz.strconv_Itoa n h0 h1 w ht).mono ?_;rintro e w' ⟨rfl,k,os,rfl⟩;exact⟨rfl,JB w k os⟩
def aa (ns:List Int):List UInt8:=Lib.join (ns.map Lib.itoa) [32]
theorem NA (ns:List Int) (h:∀n∈ns,-9223372036854775808<=n∧n<=9223372036854775807):(Lib.joinTail [32] (ns.map Lib.itoa)).length<=ns.length * 22:=by
 unfold Lib.joinTail
 induction ns with
 | nil=>simp
 | cons a r ih=>
  have h1:=Lib.itoa_length_le a (h a (by simp)).1 (h a (by simp)).2;have h2:=ih (fun n hn=>h n (by simp[hn]));simp only[List.map_cons,List.flatten_cons,List.length_append,List.length_cons,List.length_nil] at h2⊢;omega
theorem bL (ns:List Int) (h:∀n∈ns,-9223372036854775808<=n∧n<=9223372036854775807):(aa ns).length<=ns.length * 22:=by
 unfold aa
 cases ns with
 | nil=>simp[Lib.join_nil]
 | cons a r=>
  have h1:=Lib.itoa_length_le a (h a (by simp)).1 (h a (by simp)).2;have h2:=NA r (fun n hn=>h n (by simp[hn]));rw[List.map_cons,Lib.join_cons,List.length_append,List.length_cons];omega
structure Tw (w1:World) (X:List (List UInt8)) (v9:Value) (wr:World):Prop where
 low:Below w1.heap.size w1 wr
 row:wr.ownsRow w1.heap.size 9 1 v9 X.length (X.map sV)
theorem Tw.start (w1:World):Tw w1 [] (.slice none 0 0) w1:=⟨Below.refl _ _,World.ownsRow_nil _ _ _ _⟩
theorem Tw.go {wr:World} (h:Tw w1 X v9 wr) (hb:Below wr.heap.size wr W):Tw w1 X v9 W:=
 ⟨h.low.trans (hb.mono h.low.size),aL h.row hb⟩
theorem Tw.step {w3:World} {b:List UInt8} {g cap:Nat} (h:Tw w1 X v9 W) (hown:w3.ownsRow w1.heap.size 9 1 (.slice (some ⟨g,0,none⟩) (X.length+1) cap) (X.length+1) (X.map sV++[sV b])) (hg:W.grownBy w3 v9.ownBlock):
  Tw w1 (X++[b]) (.slice (some ⟨g,0,none⟩) (X.length+1) cap) w3:=
 ⟨h.low.grown hg h.low.size (fun k e=>(h.row.lt k e).1),by rw[List.length_append,List.map_append];simpa using hown⟩
theorem nS {base:Nat} (X:List (List UInt8)) (v:Value) (sep:ByteArray) (wr:World) (h:wr.ownsRow base 9 1 v X.length (X.map sV)) (hN:X.length<=140737488355328) (hlen:(Lib.join X sep.data.toList).length<=140737488355328):
  Calls prog 114 #[v,.string sep] wr fun e w'=>e= .returned (.string ⟨(Lib.join X sep.data.toList).toArray⟩)∧Below wr.heap.size wr w':=by
 have hX:(X.map fun b=>(⟨b.toArray⟩:ByteArray)).map (·.data.toList)=X:=by
  rw[List.map_map]
  conv=>rhs;rw[<-List.map_id X]
  rfl
 have h0:=h.2
 rcases h0 with⟨rfl,e0⟩ | ⟨g,cap,cur,rfl,h1,h2,h3,h4,h5,h6⟩
 ·have e1:=List.length_eq_zero_iff.1 e0;subst e1;refine(Tryz.strings_Join_none none 0 sep wr).mono ?_;rintro e w' ⟨rfl,rfl⟩;exact⟨rfl,Below.refl _ _⟩
 ·have H:=Tryz.strings_Join g 0 cap (X.map fun b=>(⟨b.toArray⟩:ByteArray)) sep wr (fun j x hx=> ?_) (Array.getElem?_eq_some_iff.1 h2).1 (by rw[List.length_map];exact hN) (by rw[List.length_map];exact h3) (by rw[hX];exact hlen)
  ·rw[List.length_map,hX] at H;exact H
  ·have :=h.cells (g:=g) rfl j (.string x) (by rw[List.getElem?_map] at hx⊢;cases hq:X[j]? with | none=>rw[hq] at hx;simp at hx | some y=>rw[hq] at hx;simp at hx;subst hx;rfl);rw[bZ] at this;rw[Nat.zero_add];exact this
theorem jW (ns:List Int) (g off c:Nat) (w:World) (ht:jP w) (hr:∀n∈ns,-9223372036854775808<=n∧n<=9223372036854775807) (hg:g < w.heap.size) (hc:∀k n,ns[k]? =some n->w.cell? ⟨g,off+k,none⟩=some (.int .i64 n)) (hl:ns.length<=1000):
  Calls prog 54 #[.slice (some ⟨g,off,none⟩) ns.length c] w fun e w'=>e= .returned (.string ⟨(aa ns).toArray⟩)∧Below w.heap.size w w':=by
 obtain⟨i0,hi,hz0,hz1,hz2⟩:=info_parts rz
 have HI:Hid (∀n∈ns,∀W,Below w.heap.size w W->Calls prog 113 #[.int .i64 n] W fun e w'=>e= .returned (.string ⟨(Lib.itoa n).toArray⟩)∧Below W.heap.size W w'):=fun n hn W hW=>mF n (hr n hn).1 (hr n hn).2 W (aG ht hW)
 have HJ:Hid (∀v wr,Tw w (ns.map Lib.itoa) v wr->Calls prog 114 #[v,.string ⟨#[32]⟩] wr fun e w'=>e= .returned (.string ⟨(aa ns).toArray⟩)∧Below wr.heap.size wr w'):=fun v wr h=>by
  have hn:=nS (ns.map Lib.itoa) v ⟨#[32]⟩ wr h.row (by rw[List.length_map];omega) (Nat.le_trans (bL ns hr) (by omega));exact hn
 have HC:=hid hc
 have i1:(ns.length:Int)<=1000:=by omega
 clear hc hr ht;go_enter func54,ntmps54;go_wp2;have C0:Hid (Tw w [] (.slice none 0 0) w):=Tw.start w
 go_loopg [3,8] ns.length (fun gg v3 v8 wr=>∃(i:Nat),i<=ns.length∧gg=ns.length -i∧v8= .int .i64 i∧Hid (Tw w ((ns.take i).map Lib.itoa) v3 wr))
 case atStart=>exact⟨0,Nat.zero_le _,rfl,rfl,C0⟩
 case round=>
  obtain⟨i,hi2,iU,rfl,I⟩:=hrel;have HG:=hid iU;clear iU C0
  by_cases hlt:i < ns.length
  ·obtain⟨n,hn⟩:∃n,ns[i]? =some n:=⟨_,List.getElem?_eq_getElem hlt⟩;have hcx:wr.cell? ⟨g,off+i,none⟩=some (.int .i64 n):=(I.out.low.cell (p:=⟨g,off+i,none⟩) hg).trans (HC.out i n hn)
   have htk:Hid ((ns.take (i+1)).map Lib.itoa=(ns.take i).map Lib.itoa++[Lib.itoa n]):=by
    show(ns.take (i+1)).map Lib.itoa=(ns.take i).map Lib.itoa++[Lib.itoa n];rw[List.take_add_one,hn];simp
   have wL:((ns.take i).map Lib.itoa).length<=1000:=by rw[List.length_map,List.length_take];omega
   have HN:=HI.out n (List.mem_of_getElem? hn) wr I.out.low;have HN:=hid HN;generalize (ns.take i).map Lib.itoa=X at *
   have j1:(0:Int)<=(i:Int):=by omega
   have j2:(i:Int) < (ns.length:Int):=by omega
   have hgw:g < wr.heap.size:=Nat.lt_of_lt_of_le hg I.out.low.size;clear hn
   go_wp2_with (first
    | (go_at_call 113;refine HN.out.mono ?_;rintro e w4 ⟨rfl,hb4⟩;have C4:Hid (Tw w X u3 (w4.alloc (.cells #[.string ⟨(Lib.itoa n).toArray⟩] 9))):=I.out.go (hb4.trans ((below_alloc1 w4 _).mono hb4.size));have hl4:w.heap.size<=w4.heap.size:=Nat.le_trans I.out.low.size hb4.size;have N4:Hid (∀j u,([(.string ⟨(Lib.itoa n).toArray⟩:Value)])[j]? =some u->(w4.alloc (.cells #[.string ⟨(Lib.itoa n).toArray⟩] 9)).cell? ((⟨w4.heap.size,0,none⟩:Addr).add j)=some u):=World.news_of_block (heap_alloc_new w4 (.cells #[.string ⟨(Lib.itoa n).toArray⟩] 9));clear hb4)
    | (at_builtin;refine wpList_append_lies _ rfl _ _ _ rfl w.heap.size 9 i0 (.string ⟨#[]⟩) 1 16 underlying81 hi hz0 hz1 hz2 rfl (by omega) u3 X.length (X.map sV) rfl C4.out.row ⟨w4.heap.size,0,none⟩ 1 1 [.string ⟨(Lib.itoa n).toArray⟩] rfl rfl N4.out jA (by omega) (by unfold maxLen;omega) (by omega) (by simp;omega) _ rfl ?_;intro g5 cap5 w5 hown5 aK gI gJ;have C5:Hid (Tw w (X++[Lib.itoa n]) (.slice (some ⟨g5,0,none⟩) (X.length+1) cap5) w5):=C4.out.step hown5 aK;clear hown5 aK gI gJ)
    | fail)
   go_roundg (ns.length -(i+1))
   case measure=>have :=HG.out;omega
   case rel=>exact⟨i+1,by omega,rfl,by first | rfl | (congr 1;omega) | go_num,by rw[htk.out];exact C5.out⟩
  ·have j2:¬((i:Int) < (ns.length:Int)):=by omega
   have e1:ns.take i=ns:=List.take_of_length_le (by omega);have hI:=I.out;rw[e1] at hI;have HJ2:Hid (Calls prog 114 #[u3,.string ⟨#[32]⟩] wr fun e w'=>e= .returned (.string ⟨(aa ns).toArray⟩)∧Below wr.heap.size wr w'):=HJ.out u3 wr hI;have HL:=hid hI.low;clear hI e1 I HJ HI HC
   go_wp2_with (first
    | (go_at_call 114;refine HJ2.out.mono ?_;rintro e w4 ⟨rfl,hb4⟩;have Df:Hid (Below w.heap.size w w4):=HL.out.trans (hb4.mono HL.out.size);clear hb4)
    | fail)
   go_ret;exact⟨rfl,Df.out⟩
end
section
open Go.Joins
variable {W:World}
abbrev af (n:Int):Prop:= -9223372036854775808<=n∧n<=9223372036854775807
theorem BS {g:Nat} {ns:List Int} {T:TypeId} (h:W.heap[g]? =some (.cells (ns.map (Value.int .i64)).toArray T)):∀k n,ns[k]? =some n->W.cell? ⟨g,0+k,none⟩=some (.int .i64 n):=by
 intro k n hn;rw[cell_of_block h,Nat.zero_add];simp[hn]
theorem ku {a b:Int} (ha:af a) (hb:af b):∀n∈[a,b],af n:=by
 intro n hn;simp at hn
 rcases hn with rfl | rfl
 ·exact ha
 ·exact hb
def kZ (has:Bool) (t v:Int):List UInt8:=if has then aa [t,v] else[45]
def aW (o:O):List UInt8:=Lib.itoa o.k++[58,32]++kZ o.hl o.lt o.lv++[32]++kZ o.hr o.rt o.rv
structure Fits (o:O):Prop where
 k:af o.k
 lt:af o.lt
 lv:af o.lv
 rt:af o.rt
 rv:af o.rv
abbrev tq (o:O):Obj:= .cells #[.int .i64 o.k,.int .i64 o.lk,.int .i64 o.lt,.int .i64 o.lv,.int .i64 o.rk,.int .i64 o.rt,.int .i64 o.rv,.bool o.hl,.bool o.hr] 89
abbrev iH (b:Nat) (o:O) (W:World):Prop:=W.cell? ⟨b,0,none⟩=some (.int .i64 o.k)∧W.cell? ⟨b,1,none⟩=some (.int .i64 o.lk)∧W.cell? ⟨b,2,none⟩=some (.int .i64 o.lt)∧W.cell? ⟨b,3,none⟩=some (.int .i64 o.lv)∧W.cell? ⟨b,4,none⟩=some (.int .i64 o.rk)∧W.cell? ⟨b,5,none⟩=some (.int .i64 o.rt)∧W.cell? ⟨b,6,none⟩=some (.int .i64 o.rv)∧W.cell? ⟨b,7,none⟩=some (.bool o.hl)∧W.cell? ⟨b,8,none⟩=some (.bool o.hr)
theorem Gw {b:Nat} {o:O} (h:W.heap[b]? =some (tq o)):iH b o W:=by
 refine⟨?_,?_,?_,?_,?_,?_,?_,?_,?_⟩ <;>(rw[cell_of_block h];rfl)
def dG (c:Ch):List UInt8:=(if c.g then 45 else 43)::aW c.x
def eH (c:Int):List UInt8:=[101,114,114,111,114,32]++Lib.itoa c
end
section
abbrev thrown (c:Int):Ending:= .panicked [{ v:= .iface 24 (.int .i64 c),recovered:=false}]
/-! Words. -/
def iJ (r:Nat):Bool:=(r:Int)==32
def aH (s:List UInt8):List (List UInt8):=(Lib.goFieldsP iJ ⟨s.toArray⟩).map (·.data.toList)
/-! Numbers. -/
def numOf (y:List UInt8):Option Int:=match Lib.parseIntB 64 y with | .ok v=>if Lib.itoa v=y then some v else none | _=>none
def numsOf:List (List UInt8)->Option (List Int)
 | []=>some []
 | y::r=>match numOf y with | none=>none | some n=>(numsOf r).map (n::·)
end
section
open Go.Joins
structure Nb (w:World) (gw off gs k:Nat) (vs:List (List UInt8)) (ns:List Int) (W:World):Prop where
 low:Below w.heap.size w W
 wrd:∀j y,vs[j]? =some y->W.cell? ⟨gw,off+j,none⟩=some (sV y)
 nums:W.heap[gs]? =some (.cells (ns.map (Value.int .i64)++List.replicate (k -ns.length) (Value.int .i64 0)).toArray 3)
 ge:w.heap.size<=gs
 ngw:gw < w.heap.size
 got:(vs.take ns.length).map numOf=ns.map some
section
variable {w:World} {gw off gs k:Nat} {vs:List (List UInt8)} {ns:List Int} {W W':World}
theorem Nb.lt (h:Nb w gw off gs k vs ns W):gs < W.heap.size:=(Array.getElem?_eq_some_iff.1 h.nums).1
theorem Nb.below (h:Nb w gw off gs k vs ns W) (hb:Below W.heap.size W W'):Nb w gw off gs k vs ns W':=
 ⟨h.low.trans (hb.mono h.low.size),fun j n hj=>(hb.cell (p:=⟨gw,off+j,none⟩) (World.block_lt_of_cell? _ _ (h.wrd j n hj))).trans (h.wrd j n hj),(hb.block _ h.lt).trans h.nums,h.ge,h.ngw,h.got⟩
theorem Nb.cells (h:Nb w gw off gs k vs ns W) (hlt:ns.length < k):W.cell? ⟨gs,ns.length,none⟩=some (.int .i64 0)∧W.frozen? ⟨gs,ns.length,none⟩=false:=by
 refine⟨?_,unfrozen_of_block h.nums ns.length⟩;rw[cell_of_block h.nums,List.getElem?_toArray,List.getElem?_append_right (by simp),List.getElem?_replicate,if_pos (by simp;omega)]
theorem Nb.store (h:Nb w gw off gs k vs ns W) (hlt:ns.length < k) {n:Int} {y:List UInt8} (hy:vs[ns.length]? =some y) (hn:numOf y=some n):Nb w gw off gs k vs (ns++[n]) (W.setCell ⟨gs,ns.length,none⟩ (.int .i64 n)):=by
 have hs:∀j,j≠gs->(W.setCell ⟨gs,ns.length,none⟩ (.int .i64 n)).heap[j]? =W.heap[j]? :=fun j e=>Below.heap_setCell _ _ _ _ e
 have hne:gw≠gs:=by have :=h.ge;have :=h.ngw;omega
 refine⟨h.low.setCell (p:=⟨gs,ns.length,none⟩) h.ge _,fun j m hj=>(World.cell?_of_block (w:=W) (a:=⟨gw,off+j,none⟩) (hs gw hne)).trans (h.wrd j m hj),?_,h.ge,h.ngw,?_⟩
 ·rw[block_setCell h.nums];congr 2;simp only[List.setIfInBounds_toArray];congr 1;rw[List.set_append_right _ _ (by simp)];simp only[List.map_append,List.append_assoc,List.map_cons,List.map_nil,List.length_map,List.singleton_append,List.length_append,List.length_cons,List.length_nil];congr 1;obtain⟨r,hr⟩:∃r,k -ns.length=r+1:=⟨k -ns.length -1,by omega⟩;rw[hr,Nat.sub_self,List.replicate_succ,List.set_cons_zero,show k -(ns.length+(0+1))=r by omega]
 ·rw[List.length_append,List.length_singleton,List.take_add_one,hy];simp[h.got,hn]
end
def fV (vs:List (List UInt8)) (base:Nat) (e:Ending) (w':World):Prop:=
 match numsOf vs with
 | some ns=>∃g,base<=g∧e= .returned (.slice (some ⟨g,0,none⟩) ns.length ns.length)∧w'.heap[g]? =some (.cells (ns.map (Value.int .i64)).toArray 3)
 | none=>e=thrown 3
end
end Go.Proofs.YthfpipieboophaaGreatDoor
