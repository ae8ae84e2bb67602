import Derived.Shelf.SlSortCmp.NoneTotal
import Derived.Shelf.SlIterI.Nil
import Derived.Shelf.SortM.Plain
import Derived.Shelf.SortM.SortNone
import Derived.Test.YthfpipieboophaaGreatDoorZBagm
namespace Go.Proofs.YthfpipieboophaaGreatDoor
set_option maxRecDepth 100000
set_option maxHeartbeats 40000000
open Go.Proofs.Tryz Go.Shelf
section
def Tryz.sortO_ren:Go.Shelf.Ren:=⟨λ| 6=>193|15=>190|14=>263|28=>253|29=>254|20=>299|21=>300|22=>301|23=>302|24=>303|25=>304|26=>305|27=>306|46=>319|47=>309|48=>310|49=>320|50=>321|57=>323|n=>n,λ| 22=>50|24=>89|25=>137|3=>3|39=>270|0=>0|53=>239|55=>307|4=>4|46=>345|45=>344|50=>85|5=>5|9=>9|66=>372|70=>365|76=>388|77=>118|n=>n,λ| n=>n⟩
theorem Tryz.sortO:Go.Proofs.SlLaysF0.n6 prog Tryz.sortO_ren:=by
 constructor
 case f6=>exact⟨Tryz.f193.name,by decide,func193.trans (congrArg some (by kernel_rfl))⟩
 case f14=>exact⟨Tryz.f263.name,by decide,func263.trans (congrArg some (by kernel_rfl))⟩
 case f20=>exact⟨Tryz.f299.name,by decide,func299.trans (congrArg some (by kernel_rfl))⟩
 case f21=>exact⟨Tryz.f300.name,by decide,func300.trans (congrArg some (by kernel_rfl))⟩
 case f22=>exact⟨Tryz.f301.name,by decide,func301.trans (congrArg some (by kernel_rfl))⟩
 case f23=>exact⟨Tryz.f302.name,by decide,func302.trans (congrArg some (by kernel_rfl))⟩
 case f24=>exact⟨Tryz.f303.name,by decide,func303.trans (congrArg some (by kernel_rfl))⟩
 case f25=>exact⟨Tryz.f304.name,by decide,func304.trans (congrArg some (by kernel_rfl))⟩
 case f26=>exact⟨Tryz.f305.name,by decide,func305.trans (congrArg some (by kernel_rfl))⟩
 case f27=>exact⟨Tryz.f306.name,by decide,func306.trans (congrArg some (by kernel_rfl))⟩
 case f46=>exact⟨Tryz.f319.name,by decide,func319.trans (congrArg some (by kernel_rfl))⟩
 case f49=>exact⟨Tryz.f320.name,by decide,func320.trans (congrArg some (by kernel_rfl))⟩
 case f50=>exact⟨Tryz.f321.name,by decide,func321.trans (congrArg some (by kernel_rfl))⟩
 case f57=>exact⟨Tryz.f323.name,by decide,func323.trans (congrArg some (by kernel_rfl))⟩
 all_goals first|kernel_rfl|(intro w;kernel_rfl)
end
section
def Tryz.keysG_ren:Go.Shelf.Ren:=⟨λ| 7=>129|10=>211|n=>n,λ| 23=>104|26=>3|3=>221|28=>219|0=>0|27=>218|33=>180|4=>4|n=>n,λ| n=>n⟩
theorem Tryz.keysG:Go.Proofs.SlLaysZI.n7 prog Tryz.keysG_ren:=by
 constructor
 case f7=>exact⟨Tryz.f129.name,by decide,func129.trans (congrArg some (by kernel_rfl))⟩
 case f10=>exact⟨Tryz.f211.name,by decide,func211.trans (congrArg some (by kernel_rfl))⟩
 all_goals first|kernel_rfl|(intro w;kernel_rfl)
def Tryz.sortedG_ren:Go.Shelf.Ren:=⟨λ| 6=>128|8=>210|9=>131|11=>266|13=>190|12=>212|23=>253|24=>254|14=>267|15=>268|16=>269|17=>270|18=>271|19=>272|20=>273|21=>274|22=>275|25=>308|26=>309|27=>310|28=>311|29=>312|30=>264|31=>322|n=>n,λ| 26=>3|28=>219|24=>84|0=>0|3=>3|37=>270|48=>239|50=>307|4=>4|40=>345|39=>344|45=>85|5=>5|9=>9|51=>372|55=>365|57=>388|58=>118|33=>180|n=>n,λ| n=>n⟩
theorem Tryz.sortedG:Go.Proofs.SlLaysZI.n6 prog Tryz.sortedG_ren:=by
 constructor
 case f6=>exact⟨Tryz.f128.name,by decide,func128.trans (congrArg some (by kernel_rfl))⟩
 case f8=>exact⟨Tryz.f210.name,by decide,func210.trans (congrArg some (by kernel_rfl))⟩
 case f11=>exact⟨Tryz.f266.name,by decide,func266.trans (congrArg some (by kernel_rfl))⟩
 all_goals first|kernel_rfl|(intro w;kernel_rfl)
def Tryz.sortG_ren:Go.Shelf.Ren:=⟨λ| 5=>131|8=>190|7=>212|19=>253|20=>254|10=>267|11=>268|12=>269|13=>270|14=>271|15=>272|16=>273|17=>274|18=>275|30=>308|31=>309|32=>310|33=>311|34=>312|35=>264|40=>322|n=>n,λ| 23=>84|25=>3|3=>3|32=>270|22=>84|0=>0|44=>239|46=>307|4=>4|36=>345|35=>344|41=>85|5=>5|9=>9|53=>372|57=>365|63=>388|64=>118|n=>n,λ| n=>n⟩
theorem Tryz.sortG:Go.Proofs.SlLaysM.n5 prog Tryz.sortG_ren:=by
 constructor
 case f5=>exact⟨Tryz.f131.name,by decide,func131.trans (congrArg some (by kernel_rfl))⟩
 case f7=>exact⟨Tryz.f212.name,by decide,func212.trans (congrArg some (by kernel_rfl))⟩
 case f10=>exact⟨Tryz.f267.name,by decide,func267.trans (congrArg some (by kernel_rfl))⟩
 case f11=>exact⟨Tryz.f268.name,by decide,func268.trans (congrArg some (by kernel_rfl))⟩
 case f12=>exact⟨Tryz.f269.name,by decide,func269.trans (congrArg some (by kernel_rfl))⟩
 case f13=>exact⟨Tryz.f270.name,by decide,func270.trans (congrArg some (by kernel_rfl))⟩
 case f14=>exact⟨Tryz.f271.name,by decide,func271.trans (congrArg some (by kernel_rfl))⟩
 case f15=>exact⟨Tryz.f272.name,by decide,func272.trans (congrArg some (by kernel_rfl))⟩
 case f16=>exact⟨Tryz.f273.name,by decide,func273.trans (congrArg some (by kernel_rfl))⟩
 case f17=>exact⟨Tryz.f274.name,by decide,func274.trans (congrArg some (by kernel_rfl))⟩
 case f18=>exact⟨Tryz.f275.name,by decide,func275.trans (congrArg some (by kernel_rfl))⟩
 case f30=>exact⟨Tryz.f308.name,by decide,func308.trans (congrArg some (by kernel_rfl))⟩
 case f33=>exact⟨Tryz.f311.name,by decide,func311.trans (congrArg some (by kernel_rfl))⟩
 case f34=>exact⟨Tryz.f312.name,by decide,func312.trans (congrArg some (by kernel_rfl))⟩
 case f35=>exact⟨Tryz.f264.name,by decide,func264.trans (congrArg some (by kernel_rfl))⟩
 case f40=>exact⟨Tryz.f322.name,by decide,func322.trans (congrArg some (by kernel_rfl))⟩
 all_goals first|kernel_rfl|(intro w;kernel_rfl)
end
section
open Go.RowKit Go.Lib Go.Sort
variable{w:World}{g n:Nat}{c:Array Value}{e:TypeId}{a:List O}{os:Array Obj}
theorem isAgg27(w:World):(isAgg 89).run prog w=.ok true w:=by kernel_rfl
theorem sizeOf27(w:World):(sizeOf 89).run prog w=.ok 9 w:=by kernel_rfl
theorem YF(x y:O):ltOf cO x y=decide (cO x y<0):=rfl
theorem Xh:SWO (ltOf cO) where
 irrefl x:=by rw[YF,(wI x x).2 rfl];simp
 trans x y z h1 h2:=by
  rw[YF]at *;simp only[decide_eq_true_eq]at *;have b:=xz x y z (by omega) (by omega)
  rcases Int.lt_or_le (cO x z) 0 with h|h
  .exact h
  .have e:x=z:=(wI x z).1 (by omega);subst e;rw[qw]at h1;omega
 ntrans x y z h1 h2:=by
  rw[YF]at *;simp only[decide_eq_false_iff_not]at *;have b:=xz z y x (by rw[qw];omega) (by rw[qw];omega);rw[qw]at b;omega
theorem Nj(blk off size:Nat)(w:World):CmpLays prog 122 #[] ah 9 cO blk off size w:=
 λ_ _ _ _ x y=>(RB x y _).mono λ_ _ ⟨d,b⟩=>⟨d,b⟩
theorem qx(a:List O):(flatK ah 9 a.toArray).toList=a.flatMap ah:=by
 apply vg;intro t
 by_cases ht:t<a.length*9
 .have h:t/9<a.length:=by omega
  have b:t % 9<9:=by omega
  have f:=flat_get a (t/9) (t % 9) a[t/9] (dK h) b;rw[show t/9*9+t % 9=t by omega]at f;rw[f,Array.getElem?_toList]
  have d:t<(flatK ah 9 a.toArray).size:=by rw[size_flatK];simpa using ht
  rw[vk d,<-getElem!_pos (flatK ah 9 a.toArray) t d,get_flatK _ _ _ _ (by simpa using ht)];rw[dK (by rw[fI];exact b)];simp[h];rw[dK (by rw[fI];exact b)];rfl
 .rw[rR (by simp;omega),rR (by rw[lV];omega)]
theorem Nk(h:w.heap[g]?=some (.cells c e (0,0)))(i:c.toList.take (a.length*9)=a.flatMap ah):HoldsK ah 9 w g 0 a.toArray:=by
 intro j b
 have d:j<a.length*9:=by simpa using b
 refine⟨?_,by simp[World.frozen?,h]⟩
 have f:(c.toList.take (a.length*9))[j]?=(a.flatMap ah)[j]? :=by rw[i]
 rw[rM d,<-qx]at f;simp only[World.cell?,h,Nat.zero_add];simp only[Option.isSome_none,Bool.false_eq_true,if_false];rw[<-Array.getElem?_toList,f,Array.getElem?_toList,vk b,getElem!_pos (flatK ah 9 a.toArray) j b];rfl
theorem BO{fr:Nat×Nat}(d:Array O)(b:w.heap[g]?=some (.cells c e fr)):
  (sortWorldK ah 9 w g 0 n d os).heap[g]?=some (.cells (putCells id 0 (flatK ah 9 d) c) e fr):=by
 have f:g<w.heap.size:=(aD.1 b).1;unfold sortWorldK putRowK;rw[heap_grow_old _ _ (by simpa using f)];simp[putRow,mapBlock,Sort.ahead,Array.getElem?_modify,b,onCells]
theorem wm(d:Array O):w.grownBy (sortWorldK ah 9 w g 0 n d os) (some g):=by
 unfold sortWorldK putRowK;refine⟨rfl,rfl,rfl,by simp,λk f b=>?_⟩;rw[heap_grow_old _ _ (by simpa using f)]
 have:g≠k:=λe=>b (by rw[e])
 simp[putRow,mapBlock,Sort.ahead,Array.getElem?_modify,this]
theorem Kv(c:Array Value)(ts:List O)(h:ts.length*9<=c.size):(putCells id 0 (flatK ah 9 ts.toArray) c).toList.take (ts.length*9)=ts.flatMap ah:=by
 rw[<-qx];apply vg;intro j
 by_cases hj:j<ts.length*9
 .rw[rM hj,Array.getElem?_toList,Array.getElem?_toList]
  have b:j<(flatK ah 9 ts.toArray).size:=by rw[size_flatK];simpa using hj
  rw[vk b];simp[putCells,hj,show j<c.size by omega]
 .rw[List.getElem?_take_eq_none (by omega),rR (by simp;omega)]
theorem Kw{base cap:Nat}{ts:List O}(d:ts.length=a.length)(b:base<=g)(j:w.heap[g]?=some (.cells c 89 (0,0)))
  (i:a.length<=cap) (f:cap<=maxLen) (h:c.size=cap*9):
  (sortWorldK ah 9 w g 0 n ts.toArray os).ownsRow base 89 9 (.slice (some ⟨g,0,none⟩) a.length cap) a.length (ts.flatMap ah):=
 ⟨by rw[lV,d],.inr ⟨g,cap,_,rfl,b,BO _ j,i,f,by simp[putCells,h],by rw[<-d];exact Kv c ts (by omega)⟩⟩
theorem ny{d:Array O}(h:SortedIn (ltOf cO) 0 d.size d):bJ d.toList:=by
 unfold bJ;rw[List.pairwise_iff_getElem];intro i j hi f b;have:=h i j (gy _) b (by simpa using f);rw[YF]at this;simp only[decide_eq_false_iff_not]at this
 have k:d[i]! =d.toList[i]:=by rw[getElem!_pos d i (by simpa using hi)];simp
 have l:d[j]! =d.toList[j]:=by rw[getElem!_pos d j (by simpa using f)];simp
 rw[k,l,qw]at this;omega
theorem Nl(g cap:Nat)(a:List O)(c:Array Value)(w:World)(i:w.heap[g]?=some (.cells c 89 (0,0)))(q:c.toList.take (a.length*9)=a.flatMap ah)(r:a.length<4611686018427387904):
  Calls prog 193 #[.slice (some ⟨g,0,none⟩) a.length cap,.func (.func 122) #[] #[]] w λe f=>e=.returned (.tuple #[])/\∃ts n os,ts.Perm a/\bJ ts/\f=sortWorldK ah 9 w g 0 n ts.toArray os:=by
 have l:∀args w,(callFunc 122 args).run prog w=.ok (.enter 122 args) w:=enters_of func122 (by kernel_rfl) rfl;have b:=AnyQ.slices_SortFunc Tryz.sortO 9 isAgg27 sizeOf27 ah (λ_=>rfl) o7 cO Xh 122 #[] g 0 cap a.toArray w l (Nj g 0 _ w) (Nk i q) (aD.1 i).1 (by simpa using r)
 change Calls prog 193 #[.slice (some ⟨g,0,none⟩) a.length cap,.func (.func 122) #[] #[]] w _ at b
 refine b.mono ?_;rintro e f ⟨m,d,n,os,p,k,o⟩;obtain⟨t,_,h⟩:=p
 have j:d.size=a.length:=by simpa using t
 refine⟨m,d.toList,n,os,?_,ny (by rw[j];simpa using k),by simpa using o⟩
 have s:(d.extract 0 a.toArray.size).toList=d.toList:=by simp[<-j]
 rw[s]at h;simpa using h
def Jv:Prop:=∀w:World,Calls prog 193 #[.slice none 0 0,.func (.func 122) #[] #[]] w λe w'=>e=.returned (.tuple #[])/\w'=w
theorem nP(H:Jv):ql:=by
 intro E b o m S L w h hL s p N;have r:=Dm E b o m S L w h s p N;go_enter func120,ntmps120;go_wp2_with fail;refine r.mono ?_;rintro e z ⟨v,a,rfl,⟨l,i⟩,d,f,u⟩
 rcases d.2 with⟨rfl,h0⟩|⟨g,cap,c,rfl,j,A,B,I,K,F⟩
 .have t:a=[]:=f.1 rfl;subst t;have R:=H z;clear r d f
  go_wp2_with (go_at_call 193;refine R.mono ?_;rintro e P ⟨rfl,rfl⟩)
  go_ret;exact⟨_,[],rfl,List.nodup_nil,i,List.Pairwise.nil,by simp,Ak _ _ _ _,u⟩
 .have hlen:a.length<=100000000:=by
   have:=Dj a L l (λx Q=>(i x).1 Q);omega
  have C:=Nl g cap a c z A F (by omega);clear r d f
  go_wp2_with (go_at_call 193;refine C.mono ?_;rintro e P ⟨rfl,ts,n,os,q,M,G⟩)
  go_ret;have y:=q.length_eq;subst G;refine⟨_,ts,rfl,q.nodup_iff.2 l,λx=>(q.mem_iff).trans (i x),M,by omega,?_,?_⟩
  .have:=Kw (n:=n) (os:=os) y j A B I K;rw[y];exact this
  .exact u.grown (wm _) u.size (λk e=>by cases e;exact j)
end
end Go.Proofs.YthfpipieboophaaGreatDoor
