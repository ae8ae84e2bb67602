import Derived.Shelf.SlSortCmp.NoneTotal
import Derived.Test.YthfpipieboophaaGreatDoorZBagm
namespace Go.Proofs.YthfpipieboophaaGreatDoor
set_option maxRecDepth 100000
set_option maxHeartbeats 40000000
open Go.Proofs.Tryz Go.Shelf
section
def Tryz.sortO_ren:Go.Shelf.Ren:=⟨λ| 6=>193|15=>190|14=>263|28=>253|29=>254|20=>299|21=>300|22=>301|23=>302|24=>303|25=>304|26=>305|27=>306|46=>319|47=>309|48=>310|49=>320|50=>321|57=>323|n=>n,λ| 22=>50|24=>89|25=>137|3=>3|39=>270|0=>0|53=>239|55=>307|4=>4|46=>345|45=>344|50=>85|5=>5|9=>9|66=>372|70=>365|76=>388|77=>118|n=>n,λ| n=>n⟩
theorem Tryz.sortO:Go.Proofs.SlLaysF0.n6 prog Tryz.sortO_ren:=by
 constructor
 case f6=>exact⟨Tryz.f193.name,by decide,func193.trans (congrArg some (by kernel_rfl))⟩
 case f14=>exact⟨Tryz.f263.name,by decide,func263.trans (congrArg some (by kernel_rfl))⟩
 case f20=>exact⟨Tryz.f299.name,by decide,func299.trans (congrArg some (by kernel_rfl))⟩
 case f21=>exact⟨Tryz.f300.name,by decide,func300.trans (congrArg some (by kernel_rfl))⟩
 case f22=>exact⟨Tryz.f301.name,by decide,func301.trans (congrArg some (by kernel_rfl))⟩
 case f23=>exact⟨Tryz.f302.name,by decide,func302.trans (congrArg some (by kernel_rfl))⟩
 case f24=>exact⟨Tryz.f303.name,by decide,func303.trans (congrArg some (by kernel_rfl))⟩
 case f25=>exact⟨Tryz.f304.name,by decide,func304.trans (congrArg some (by kernel_rfl))⟩
 case f26=>exact⟨Tryz.f305.name,by decide,func305.trans (congrArg some (by kernel_rfl))⟩
 case f27=>exact⟨Tryz.f306.name,by decide,func306.trans (congrArg some (by kernel_rfl))⟩
 case f46=>exact⟨Tryz.f319.name,by decide,func319.trans (congrArg some (by kernel_rfl))⟩
 case f49=>exact⟨Tryz.f320.name,by decide,func320.trans (congrArg some (by kernel_rfl))⟩
 case f50=>exact⟨Tryz.f321.name,by decide,func321.trans (congrArg some (by kernel_rfl))⟩
 case f57=>exact⟨Tryz.f323.name,by decide,func323.trans (congrArg some (by kernel_rfl))⟩
 all_goals first|kernel_rfl|(intro w;kernel_rfl)
end
section
open Go.RowKit Go.Lib Go.Sort
variable{w:World}{g n:Nat}{cur:Array Value}{e:TypeId}{a:List O}{os:Array Obj}
theorem isAgg27(w:World):(isAgg 89).run prog w=.ok true w:=by kernel_rfl
theorem sizeOf27(w:World):(sizeOf 89).run prog w=.ok 9 w:=by kernel_rfl
theorem YF(x y:O):ltOf cO x y=decide (cO x y<0):=rfl
theorem Xh:SWO (ltOf cO) where
 irrefl x:=by rw[YF,(wI x x).2 rfl];simp
 trans x y z h1 h2:=by
  rw[YF]at *;simp only[decide_eq_true_eq]at *;have b:=xz x y z (by omega) (by omega)
  rcases Int.lt_or_le (cO x z) 0 with h|h
  .exact h
  .have e:x=z:=(wI x z).1 (by omega);subst e;rw[qw]at h1;omega
 ntrans x y z h1 h2:=by
  rw[YF]at *;simp only[decide_eq_false_iff_not]at *;have b:=xz z y x (by rw[qw];omega) (by rw[qw];omega);rw[qw]at b;omega
theorem Nj(blk off size:Nat)(w:World):CmpLays prog 122 #[] ah 9 cO blk off size w:=
 λ_ _ _ _ x y=>(RB x y _).mono λ_ _ ⟨c,b⟩=>⟨c,b⟩
theorem qx(a:List O):(flatK ah 9 a.toArray).toList=a.flatMap ah:=by
 apply eH;intro t
 by_cases ht:t<a.length*9
 .have c:t/9<a.length:=by omega
  have b:t % 9<9:=by omega
  have d:=flat_get a (t/9) (t % 9) a[t/9] (aO c) b;rw[show t/9*9+t % 9=t by omega]at d;rw[d,Array.getElem?_toList]
  have f:t<(flatK ah 9 a.toArray).size:=by rw[size_flatK];simpa using ht
  rw[eX f,<-getElem!_pos (flatK ah 9 a.toArray) t f,get_flatK _ _ _ _ (by simpa using ht)];rw[aO (by rw[fI];exact b)];simp[c];rw[aO (by rw[fI];exact b)];rfl
 .rw[dS (by simp;omega),dS (by rw[lV];omega)]
theorem Nk(f:w.heap[g]?=some (.cells cur e (0,0)))(h:cur.toList.take (a.length*9)=a.flatMap ah):HoldsK ah 9 w g 0 a.toArray:=by
 intro j c
 have b:j<a.length*9:=by simpa using c
 refine⟨?_,by simp[World.frozen?,f]⟩
 have d:(cur.toList.take (a.length*9))[j]?=(a.flatMap ah)[j]? :=by rw[h]
 rw[dQ b,<-qx]at d;simp only[World.cell?,f,Nat.zero_add];simp only[Option.isSome_none,Bool.false_eq_true,if_false];rw[<-Array.getElem?_toList,d,Array.getElem?_toList,eX c,getElem!_pos (flatK ah 9 a.toArray) j c];rfl
theorem BO{fr:Nat×Nat}(d:Array O)(b:w.heap[g]?=some (.cells cur e fr)):
  (sortWorldK ah 9 w g 0 n d os).heap[g]?=some (.cells (putCells id 0 (flatK ah 9 d) cur) e fr):=by
 have c:g<w.heap.size:=(ax.1 b).1;unfold sortWorldK putRowK;rw[heap_grow_old _ _ (by simpa using c)];simp[putRow,mapBlock,Sort.ahead,Array.getElem?_modify,b,onCells]
theorem wm(d:Array O):w.grownBy (sortWorldK ah 9 w g 0 n d os) (some g):=by
 unfold sortWorldK putRowK;refine⟨rfl,rfl,rfl,by simp,λk c b=>?_⟩;rw[heap_grow_old _ _ (by simpa using c)]
 have:g≠k:=λe=>b (by rw[e])
 simp[putRow,mapBlock,Sort.ahead,Array.getElem?_modify,this]
theorem Kv(cur:Array Value)(ts:List O)(h:ts.length*9<=cur.size):(putCells id 0 (flatK ah 9 ts.toArray) cur).toList.take (ts.length*9)=ts.flatMap ah:=by
 rw[<-qx];apply eH;intro j
 by_cases hj:j<ts.length*9
 .rw[dQ hj,Array.getElem?_toList,Array.getElem?_toList]
  have b:j<(flatK ah 9 ts.toArray).size:=by rw[size_flatK];simpa using hj
  rw[eX b];simp[putCells,hj,show j<cur.size by omega]
 .rw[List.getElem?_take_eq_none (by omega),dS (by simp;omega)]
theorem Kw{base cap:Nat}{ts:List O}(c:ts.length=a.length)(b:base<=g)(i:w.heap[g]?=some (.cells cur 89 (0,0)))
  (f:a.length<=cap) (d:cap<=maxLen) (h:cur.size=cap*9):
  (sortWorldK ah 9 w g 0 n ts.toArray os).ownsRow base 89 9 (.slice (some ⟨g,0,none⟩) a.length cap) a.length (ts.flatMap ah):=
 ⟨by rw[lV,c],.inr ⟨g,cap,_,rfl,b,BO _ i,f,d,by simp[putCells,h],by rw[<-c];exact Kv cur ts (by omega)⟩⟩
theorem ny{d:Array O}(h:SortedIn (ltOf cO) 0 d.size d):bJ d.toList:=by
 unfold bJ;rw[List.pairwise_iff_getElem];intro i j hi c b;have:=h i j (aW _) b (by simpa using c);rw[YF]at this;simp only[decide_eq_false_iff_not]at this
 have f:d[i]! =d.toList[i]:=by rw[getElem!_pos d i (by simpa using hi)];simp
 have k:d[j]! =d.toList[j]:=by rw[getElem!_pos d j (by simpa using c)];simp
 rw[f,k,qw]at this;omega
theorem Nl(g cap:Nat)(a:List O)(cur:Array Value)(w:World)(h:w.heap[g]?=some (.cells cur 89 (0,0)))(p:cur.toList.take (a.length*9)=a.flatMap ah)(m:a.length<4611686018427387904):
  Calls prog 193 #[.slice (some ⟨g,0,none⟩) a.length cap,.func (.func 122) #[] #[]] w λe f=>e=.returned (.tuple #[])/\∃ts n os,ts.Perm a/\bJ ts/\f=sortWorldK ah 9 w g 0 n ts.toArray os:=by
 have s:∀args w,(callFunc 122 args).run prog w=.ok (.enter 122 args) w:=enters_of func122 (by kernel_rfl) rfl;have b:=AnyQ.slices_SortFunc Tryz.sortO 9 isAgg27 sizeOf27 ah (λ_=>rfl) o7 cO Xh 122 #[] g 0 cap a.toArray w s (Nj g 0 _ w) (Nk h p) (ax.1 h).1 (by simpa using m)
 change Calls prog 193 #[.slice (some ⟨g,0,none⟩) a.length cap,.func (.func 122) #[] #[]] w _ at b
 refine b.mono ?_;rintro e f ⟨r,c,n,os,j,q,k⟩;obtain⟨l,_,d⟩:=j
 have i:c.size=a.length:=by simpa using l
 refine⟨r,c.toList,n,os,?_,ny (by rw[i];simpa using q),by simpa using k⟩
 have o:(c.extract 0 a.toArray.size).toList=c.toList:=by simp[<-i]
 rw[o]at d;simpa using d
def Jv:Prop:=∀w:World,Calls prog 193 #[.slice none 0 0,.func (.func 122) #[] #[]] w λe w'=>e=.returned (.tuple #[])/\w'=w
theorem nP(H:Jv):ql:=by
 intro R b o m Q L w h hL s l P;have q:=Dm R b o m Q L w h s l P;go_enter func120,ntmps120;go_wp2_with fail;refine q.mono ?_;rintro e u ⟨v,a,rfl,⟨j,f⟩,i,d,p⟩
 rcases i.2 with⟨rfl,h0⟩|⟨g,cap,cur,rfl,c,y,E,B,I,C⟩
 .have t:a=[]:=d.1 rfl;subst t;have N:=H u;clear q i d
  go_wp2_with (go_at_call 193;refine N.mono ?_;rintro e A ⟨rfl,rfl⟩)
  go_ret;exact⟨_,[],rfl,List.nodup_nil,f,List.Pairwise.nil,by simp,iR _ _ _ _,p⟩
 .have hlen:a.length<=100000000:=by
   have:=Dj a L j (λx M=>(f x).1 M);omega
  have K:=Nl g cap a cur u y C (by omega);clear q i d
  go_wp2_with (go_at_call 193;refine K.mono ?_;rintro e A ⟨rfl,ts,n,os,r,G,F⟩)
  go_ret;have z:=r.length_eq;subst F;refine⟨_,ts,rfl,r.nodup_iff.2 j,λx=>(r.mem_iff).trans (f x),G,by omega,?_,?_⟩
  .have:=Kw (n:=n) (os:=os) z c y E B I;rw[z];exact this
  .exact p.grown (wm _) p.size (λk e=>by cases e;exact c)
end
end Go.Proofs.YthfpipieboophaaGreatDoor
