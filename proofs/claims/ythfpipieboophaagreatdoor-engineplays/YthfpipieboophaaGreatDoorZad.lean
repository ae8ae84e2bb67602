import Derived.Shelf.SlSortCmp.WholeK
import Derived.Shelf.SlSortCmp.NoneTotal
import Derived.Shelf.SlIterI.Nil
import Derived.Shelf.SortM.Plain
import Derived.Shelf.SortM.SortNone
import Derived.Test.YthfpipieboophaaGreatDoorZab
namespace Go.Proofs.YthfpipieboophaaGreatDoor
set_option maxRecDepth 100000
set_option maxHeartbeats 40000000
open Go.Proofs.Tryz Go.Shelf
section
def Tryz.sortO_ren:Go.Shelf.Ren:=⟨fun | 6=>193 | 15=>190 | 14=>263 | 28=>253 | 29=>254 | 20=>299 | 21=>300 | 22=>301 | 23=>302 | 24=>303 | 25=>304 | 26=>305 | 27=>306 | 46=>319 | 47=>309 | 48=>310 | 49=>320 | 50=>321 | 57=>323 | n=>n,fun | 22=>50 | 24=>89 | 25=>137 | 3=>3 | 39=>270 | 0=>0 | 53=>239 | 55=>307 | 4=>4 | 46=>345 | 45=>344 | 50=>85 | 5=>5 | 9=>9 | 66=>372 | 70=>365 | 76=>388 | 77=>118 | n=>n,fun | n=>n⟩
theorem Tryz.sortO:Go.Proofs.SlLaysF0.n6 prog Tryz.sortO_ren:=by
 constructor
 case f6=>exact⟨Tryz.f193.name,by decide,func193.trans (congrArg some (by kernel_rfl))⟩
 case f14=>exact⟨Tryz.f263.name,by decide,func263.trans (congrArg some (by kernel_rfl))⟩
 case f20=>exact⟨Tryz.f299.name,by decide,func299.trans (congrArg some (by kernel_rfl))⟩
 case f21=>exact⟨Tryz.f300.name,by decide,func300.trans (congrArg some (by kernel_rfl))⟩
 case f22=>exact⟨Tryz.f301.name,by decide,func301.trans (congrArg some (by kernel_rfl))⟩
 case f23=>exact⟨Tryz.f302.name,by decide,func302.trans (congrArg some (by kernel_rfl))⟩
 case f24=>exact⟨Tryz.f303.name,by decide,func303.trans (congrArg some (by kernel_rfl))⟩
 case f25=>exact⟨Tryz.f304.name,by decide,func304.trans (congrArg some (by kernel_rfl))⟩
 case f26=>exact⟨Tryz.f305.name,by decide,func305.trans (congrArg some (by kernel_rfl))⟩
 case f27=>exact⟨Tryz.f306.name,by decide,func306.trans (congrArg some (by kernel_rfl))⟩
 case f46=>exact⟨Tryz.f319.name,by decide,func319.trans (congrArg some (by kernel_rfl))⟩
 case f49=>exact⟨Tryz.f320.name,by decide,func320.trans (congrArg some (by kernel_rfl))⟩
 case f50=>exact⟨Tryz.f321.name,by decide,func321.trans (congrArg some (by kernel_rfl))⟩
 case f57=>exact⟨Tryz.f323.name,by decide,func323.trans (congrArg some (by kernel_rfl))⟩
 all_goals first | kernel_rfl | (intro w;kernel_rfl)
end
section
def Tryz.keysG_ren:Go.Shelf.Ren:=⟨fun | 7=>129 | 10=>211 | n=>n,fun | 23=>104 | 26=>3 | 3=>221 | 28=>219 | 0=>0 | 27=>218 | 33=>180 | 4=>4 | n=>n,fun | n=>n⟩
theorem Tryz.keysG:Go.Proofs.SlLaysZI.n7 prog Tryz.keysG_ren:=by
 constructor
 case f7=>exact⟨Tryz.f129.name,by decide,func129.trans (congrArg some (by kernel_rfl))⟩
 case f10=>exact⟨Tryz.f211.name,by decide,func211.trans (congrArg some (by kernel_rfl))⟩
 all_goals first | kernel_rfl | (intro w;kernel_rfl)
def Tryz.sortedG_ren:Go.Shelf.Ren:=⟨fun | 6=>128 | 8=>210 | 9=>131 | 11=>266 | 13=>190 | 12=>212 | 23=>253 | 24=>254 | 14=>267 | 15=>268 | 16=>269 | 17=>270 | 18=>271 | 19=>272 | 20=>273 | 21=>274 | 22=>275 | 25=>308 | 26=>309 | 27=>310 | 28=>311 | 29=>312 | 30=>264 | 31=>322 | n=>n,fun | 26=>3 | 28=>219 | 24=>84 | 0=>0 | 3=>3 | 37=>270 | 48=>239 | 50=>307 | 4=>4 | 40=>345 | 39=>344 | 45=>85 | 5=>5 | 9=>9 | 51=>372 | 55=>365 | 57=>388 | 58=>118 | 33=>180 | n=>n,fun | n=>n⟩
theorem Tryz.sortedG:Go.Proofs.SlLaysZI.n6 prog Tryz.sortedG_ren:=by
 constructor
 case f6=>exact⟨Tryz.f128.name,by decide,func128.trans (congrArg some (by kernel_rfl))⟩
 case f8=>exact⟨Tryz.f210.name,by decide,func210.trans (congrArg some (by kernel_rfl))⟩
 case f11=>exact⟨Tryz.f266.name,by decide,func266.trans (congrArg some (by kernel_rfl))⟩
 all_goals first | kernel_rfl | (intro w;kernel_rfl)
def Tryz.sortG_ren:Go.Shelf.Ren:=⟨fun | 5=>131 | 8=>190 | 7=>212 | 19=>253 | 20=>254 | 10=>267 | 11=>268 | 12=>269 | 13=>270 | 14=>271 | 15=>272 | 16=>273 | 17=>274 | 18=>275 | 30=>308 | 31=>309 | 32=>310 | 33=>311 | 34=>312 | 35=>264 | 40=>322 | n=>n,fun | 23=>84 | 25=>3 | 3=>3 | 32=>270 | 22=>84 | 0=>0 | 44=>239 | 46=>307 | 4=>4 | 36=>345 | 35=>344 | 41=>85 | 5=>5 | 9=>9 | 53=>372 | 57=>365 | 63=>388 | 64=>118 | n=>n,fun | n=>n⟩
theorem Tryz.sortG:Go.Proofs.SlLaysM.n5 prog Tryz.sortG_ren:=by
 constructor
 case f5=>exact⟨Tryz.f131.name,by decide,func131.trans (congrArg some (by kernel_rfl))⟩
 case f7=>exact⟨Tryz.f212.name,by decide,func212.trans (congrArg some (by kernel_rfl))⟩
 case f10=>exact⟨Tryz.f267.name,by decide,func267.trans (congrArg some (by kernel_rfl))⟩
 case f11=>exact⟨Tryz.f268.name,by decide,func268.trans (congrArg some (by kernel_rfl))⟩
 case f12=>exact⟨Tryz.f269.name,by decide,func269.trans (congrArg some (by kernel_rfl))⟩
 case f13=>exact⟨Tryz.f270.name,by decide,func270.trans (congrArg some (by kernel_rfl))⟩
 case f14=>exact⟨Tryz.f271.name,by decide,func271.trans (congrArg some (by kernel_rfl))⟩
 case f15=>exact⟨Tryz.f272.name,by decide,func272.trans (congrArg some (by kernel_rfl))⟩
 case f16=>exact⟨Tryz.f273.name,by decide,func273.trans (congrArg some (by kernel_rfl))⟩
 case f17=>exact⟨Tryz.f274.name,by decide,func274.trans (congrArg some (by kernel_rfl))⟩
 case f18=>exact⟨Tryz.f275.name,by decide,func275.trans (congrArg some (by kernel_rfl))⟩
 case f30=>exact⟨Tryz.f308.name,by decide,func308.trans (congrArg some (by kernel_rfl))⟩
 case f33=>exact⟨Tryz.f311.name,by decide,func311.trans (congrArg some (by kernel_rfl))⟩
 case f34=>exact⟨Tryz.f312.name,by decide,func312.trans (congrArg some (by kernel_rfl))⟩
 case f35=>exact⟨Tryz.f264.name,by decide,func264.trans (congrArg some (by kernel_rfl))⟩
 case f40=>exact⟨Tryz.f322.name,by decide,func322.trans (congrArg some (by kernel_rfl))⟩
 all_goals first | kernel_rfl | (intro w;kernel_rfl)
end
section
open Go.RowKit Go.Lib Go.Sort
variable {w:World} {g n:Nat} {cur:Array Value} {e:TypeId} {xs:List O} {os:Array Obj}
theorem isAgg27 (w:World):(isAgg 89).run prog w= .ok true w:=by kernel_rfl
theorem sizeOf27 (w:World):(sizeOf 89).run prog w= .ok 9 w:=by kernel_rfl
theorem YF (x y:O):ltOf cO x y=decide (cO x y < 0):=rfl
theorem Xh:SWO (ltOf cO) where
 irrefl x:=by rw[YF,(wI x x).2 rfl];simp
 trans x y z h1 h2:=by
  rw[YF] at *;simp only[decide_eq_true_eq] at *;have h3:=xz x y z (by omega) (by omega)
  rcases Int.lt_or_le (cO x z) 0 with h | h
  ·exact h
  ·have e:x=z:=(wI x z).1 (by omega);subst e;rw[qw] at h1;omega
 ntrans x y z h1 h2:=by
  rw[YF] at *;simp only[decide_eq_false_iff_not] at *;have h3:=xz z y x (by rw[qw];omega) (by rw[qw];omega);rw[qw] at h3;omega
theorem Nj (blk off size:Nat) (w:World):CmpLays prog 122 #[] ah 9 cO blk off size w:=
 fun _ _ _ _ x y=>(RB x y _).mono fun _ _ ⟨he,hq⟩=>⟨he,hq⟩
theorem qx (xs:List O):(flatK ah 9 xs.toArray).toList=xs.flatMap ah:=by
 apply List.ext_getElem?;intro t
 by_cases ht:t < xs.length * 9
 ·have hk:t/9 < xs.length:=by omega
  have hj:t % 9 < 9:=by omega
  have e1:=flat_get xs (t/9) (t % 9) xs[t/9] (List.getElem?_eq_getElem hk) hj;rw[show t/9 * 9+t % 9=t by omega] at e1;rw[e1,Array.getElem?_toList]
  have hs:t < (flatK ah 9 xs.toArray).size:=by rw[size_flatK];simpa using ht
  rw[Array.getElem?_eq_getElem hs,<-getElem!_pos (flatK ah 9 xs.toArray) t hs,get_flatK _ _ _ _ (by simpa using ht)];rw[List.getElem?_eq_getElem (by rw[fI];exact hj)];simp[hk];rw[List.getElem?_eq_getElem (by rw[fI];exact hj)];rfl
 ·rw[List.getElem?_eq_none (by simp;omega),List.getElem?_eq_none (by rw[lV];omega)]
theorem Nk (hb:w.heap[g]? =some (.cells cur e (0,0))) (ht:cur.toList.take (xs.length * 9)=xs.flatMap ah):HoldsK ah 9 w g 0 xs.toArray:=by
 intro j hj
 have hj':j < xs.length * 9:=by simpa using hj
 refine⟨?_,by simp[World.frozen?,hb]⟩
 have h1:(cur.toList.take (xs.length * 9))[j]? =(xs.flatMap ah)[j]? :=by rw[ht]
 rw[List.getElem?_take_of_lt hj',<-qx] at h1;simp only[World.cell?,hb,Nat.zero_add];simp only[Option.isSome_none,Bool.false_eq_true,if_false];rw[<-Array.getElem?_toList,h1,Array.getElem?_toList,Array.getElem?_eq_getElem hj,getElem!_pos (flatK ah 9 xs.toArray) j hj];rfl
theorem BO {fr:Nat×Nat} (d:Array O) (hb:w.heap[g]? =some (.cells cur e fr)):
  (sortWorldK ah 9 w g 0 n d os).heap[g]? =some (.cells (putCells id 0 (flatK ah 9 d) cur) e fr):=by
 have hg:g < w.heap.size:=(Array.getElem?_eq_some_iff.1 hb).1;unfold sortWorldK putRowK;rw[heap_grow_old _ _ (by simpa using hg)];simp[putRow,mapBlock,Sort.ahead,Array.getElem?_modify,hb,onCells]
theorem wm (d:Array O):w.grownBy (sortWorldK ah 9 w g 0 n d os) (some g):=by
 unfold sortWorldK putRowK;refine⟨rfl,rfl,rfl,by simp,fun k hk hne=> ?_⟩;rw[heap_grow_old _ _ (by simpa using hk)]
 have :g≠k:=fun e=>hne (by rw[e])
 simp[putRow,mapBlock,Sort.ahead,Array.getElem?_modify,this]
theorem Kv (cur:Array Value) (ts:List O) (h:ts.length * 9<=cur.size):(putCells id 0 (flatK ah 9 ts.toArray) cur).toList.take (ts.length * 9)=ts.flatMap ah:=by
 rw[<-qx];apply List.ext_getElem?;intro j
 by_cases hj:j < ts.length * 9
 ·rw[List.getElem?_take_of_lt hj,Array.getElem?_toList,Array.getElem?_toList]
  have hs:j < (flatK ah 9 ts.toArray).size:=by rw[size_flatK];simpa using hj
  rw[Array.getElem?_eq_getElem hs];simp[putCells,hj,show j < cur.size by omega]
 ·rw[List.getElem?_take_eq_none (by omega),List.getElem?_eq_none (by simp;omega)]
theorem Kw {base cap:Nat} {ts:List O} (hl:ts.length=xs.length) (hbase:base<=g) (hb:w.heap[g]? =some (.cells cur 89 (0,0)))
  (h1:xs.length<=cap) (h2:cap<=maxLen) (h3:cur.size=cap * 9):
  (sortWorldK ah 9 w g 0 n ts.toArray os).ownsRow base 89 9 (.slice (some ⟨g,0,none⟩) xs.length cap) xs.length (ts.flatMap ah):=
 ⟨by rw[lV,hl],.inr ⟨g,cap,_,rfl,hbase,BO _ hb,h1,h2,by simp[putCells,h3],by rw[<-hl];exact Kv cur ts (by omega)⟩⟩
theorem ny {d:Array O} (h:SortedIn (ltOf cO) 0 d.size d):bJ d.toList:=by
 unfold bJ;rw[List.pairwise_iff_getElem];intro i j hi hj hij;have :=h i j (Nat.zero_le _) hij (by simpa using hj);rw[YF] at this;simp only[decide_eq_false_iff_not] at this
 have e1:d[i]! =d.toList[i]:=by rw[getElem!_pos d i (by simpa using hi)];simp
 have e2:d[j]! =d.toList[j]:=by rw[getElem!_pos d j (by simpa using hj)];simp
 rw[e1,e2,qw] at this;omega
theorem Nl (g cap:Nat) (xs:List O) (cur:Array Value) (w:World) (hb:w.heap[g]? =some (.cells cur 89 (0,0))) (ht:cur.toList.take (xs.length * 9)=xs.flatMap ah) (hl:xs.length < 4611686018427387904):
  Calls prog 193 #[.slice (some ⟨g,0,none⟩) xs.length cap,.func (.func 122) #[] #[]] w fun e w'=>e= .returned (.tuple #[])∧∃ts n os,ts.Perm xs∧bJ ts∧w'=sortWorldK ah 9 w g 0 n ts.toArray os:=by
 have eg:∀args w,(callFunc 122 args).run prog w= .ok (.enter 122 args) w:=enters_of func122 (by kernel_rfl) rfl;have hcon:=AnyQ.slices_SortFunc Tryz.sortO 9 isAgg27 sizeOf27 ah (fun _=>rfl) o7 cO Xh 122 #[] g 0 cap xs.toArray w eg (Nj g 0 _ w) (Nk hb ht) (Array.getElem?_eq_some_iff.1 hb).1 (by simpa using hl)
 change Calls prog 193 #[.slice (some ⟨g,0,none⟩) xs.length cap,.func (.func 122) #[] #[]] w _ at hcon
 refine hcon.mono ?_;rintro e w' ⟨he,d',n,os,hp,hs,hw⟩;obtain⟨p1,_,p3⟩:=hp
 have e1:d'.size=xs.length:=by simpa using p1
 refine⟨he,d'.toList,n,os,?_,ny (by rw[e1];simpa using hs),by simpa using hw⟩
 have e2:(d'.extract 0 xs.toArray.size).toList=d'.toList:=by simp[<-e1]
 rw[e2] at p3;simpa using p3
def Jv:Prop:=∀w:World,Calls prog 193 #[.slice none 0 0,.func (.func 122) #[] #[]] w fun e w'=>e= .returned (.tuple #[])∧w'=w
theorem nP (HN:Jv):ql:=by
 intro Bm b o m om L w h hL hBm hmm hm;have UB:=Dm Bm b o m om L w h hBm hmm hm;go_enter func120,ntmps120;go_wp2_with fail;refine UB.mono ?_;rintro e w1 ⟨v,xs,rfl,⟨hnd,hmem⟩,hrow,hnil,hb⟩
 rcases hrow.2 with⟨rfl,h0⟩ | ⟨g,cap,cur,rfl,hbase,hg,h1,h2,h3,h4⟩
 ·have hx0:xs=[]:=hnil.1 rfl;subst hx0;have hn:=HN w1;clear UB hrow hnil
  go_wp2_with (go_at_call 193;refine hn.mono ?_;rintro e w' ⟨rfl,rfl⟩)
  go_ret;exact⟨_,[],rfl,List.nodup_nil,hmem,List.Pairwise.nil,by simp,World.ownsRow_nil _ _ _ _,hb⟩
 ·have hlen:xs.length<=100000000:=by
   have :=Dj xs L hnd (fun x hx=>(hmem x).1 hx);omega
  have hs:=Nl g cap xs cur w1 hg h4 (by omega);clear UB hrow hnil
  go_wp2_with (go_at_call 193;refine hs.mono ?_;rintro e w' ⟨rfl,ts,n,os,hp,ho,hw⟩)
  go_ret;have hl:=hp.length_eq;subst hw;refine⟨_,ts,rfl,hp.nodup_iff.2 hnd,fun x=>(hp.mem_iff).trans (hmem x),ho,by omega,?_,?_⟩
  ·have :=Kw (n:=n) (os:=os) hl hbase hg h1 h2 h3;rw[hl];exact this
  ·exact hb.grown (wm _) hb.size (fun k e=>by cases e;exact hbase)
end
end Go.Proofs.YthfpipieboophaaGreatDoor
