import Derived.Lib.SplitLaws
import Derived.Lib.ItoaLen
import Derived.Lib.AtoiAll
import Derived.Lib.IndexBytes
import Derived.Lib.Strings
import Derived.Carry
import Derived.Lib.AppendZerosOnto
import Derived.Test.YthfpipieboophaaGreatDoorZab
namespace Go.Proofs.YthfpipieboophaaGreatDoor
set_option maxRecDepth 100000
set_option maxHeartbeats 40000000
section
open Go
theorem mU (d:Nat) (h:d < 10):(UInt8.ofNat (48+d)).toNat=48+d:=by
 rw[UInt8.toNat_ofNat'];omega
theorem uy (u:Nat):∀b∈Lib.decDigits u,48<=b.toNat∧b.toNat<=57:=by
 induction u using Nat.strongRecOn with
 | _ u ih=>
  intro b hb;rw[Lib.decDigits] at hb
  split at hb
  ·rename_i h
   simp only[List.mem_singleton] at hb;subst hb;rw[mU u h];omega
  ·rename_i h
   rw[List.mem_append] at hb
   rcases hb with hb | hb
   ·exact ih (u/10) (by omega) b hb
   ·simp only[List.mem_singleton] at hb;subst hb;rw[mU _ (by omega)];omega
theorem PD (u:Nat):Lib.decDigits u≠[]:=by
 rw[Lib.decDigits];split
 ·simp
 ·simp
theorem Iq (n:Int):∀b∈Lib.itoa n,b.toNat=45∨(48<=b.toNat∧b.toNat<=57):=by
 intro b hb;unfold Lib.itoa at hb
 split at hb
 ·rw[List.mem_cons] at hb
  rcases hb with rfl | hb
  ·exact .inl rfl
  ·exact .inr (uy _ b hb)
 ·exact .inr (uy _ b hb)
theorem CJ (n:Int) (c:UInt8) (hc:c.toNat < 45):c∉Lib.itoa n:=fun h=>by
 have :=Iq n c h;omega
/-! ### Numbers -/
theorem CO (u:Nat):∀(r:List UInt8),u < 18446744073709551616->Lib.parseUint10 0 (Lib.decDigits u++r)=Lib.parseUint10 u r:=by
 induction u using Nat.strongRecOn with
 | _ u ih=>
  intro r hu;rw[Lib.decDigits]
  split
  ·rename_i h
   show(if 48<=(UInt8.ofNat (48+u)).toNat∧(UInt8.ofNat (48+u)).toNat<=57 then _ else _)=_;rw[mU u h,if_pos (by omega),if_neg (by omega),if_neg (by omega)];congr 1;omega
  ·rename_i h
   rw[List.append_assoc,ih (u/10) (by omega) _ (by omega)];show(if 48<=(UInt8.ofNat (48+u % 10)).toNat∧(UInt8.ofNat (48+u % 10)).toNat<=57 then _ else _)=_;rw[mU _ (by omega),if_pos (by omega),if_neg (by omega),if_neg (by omega)];congr 1;omega
theorem Ba (u:Nat) (hu:u < 18446744073709551616):Lib.parseMag (Lib.decDigits u)= .ok u:=by
 unfold Lib.parseMag;rw[if_neg (PD u)];have :=CO u [] hu;rw[List.append_nil] at this;rw[this];rfl
theorem LA (n:Int) (h0: -9223372036854775808<=n) (h1:n<=9223372036854775807):Lib.atoiAll (Lib.itoa n)= .ok n:=by
 unfold Lib.itoa
 split
 ·rename_i h
  show(match Lib.parseMag (if(45:UInt8).toNat=43∨(45:UInt8).toNat=45 then Lib.decDigits n.natAbs else 45::Lib.decDigits n.natAbs) with | .syntax=>_ | .range=>_ | .ok u=>_)=_;rw[if_pos (.inr rfl),Ba _ (by omega)];simp only;rw[if_neg (by intro h;exact h.1 rfl),if_neg (by omega),if_pos (show(45:UInt8).toNat=45 from rfl)];congr 1;omega
 ·rename_i h
  have hp:=Ba n.toNat (by omega);have hb:=uy n.toNat
  cases hd:Lib.decDigits n.toNat with
  | nil=>exact absurd hd (PD _)
  | cons c r=>
   rw[hd] at hp hb;have hc:=hb c (by simp);show(match Lib.parseMag (if c.toNat=43∨c.toNat=45 then r else c::r) with | .syntax=>_ | .range=>_ | .ok u=>_)=_;rw[if_neg (by omega),hp];simp only;rw[if_neg (by omega),if_neg (by omega),if_neg (by omega)];congr 1;omega
/-! ### Words -/
def dW (a:List UInt8) (ws:List (List UInt8)):List UInt8:=a++ws.flatMap fun x=>32::x
theorem jT (a r:List UInt8) (c:UInt8) (h:c∉a):Lib.indexByte (a++c::r) c=a.length:=by
 induction a with
 | nil=>simp[Lib.indexByte]
 | cons b a ih=>
  have hb:b≠c:=fun e=>h (by simp[e])
  have h2:=ih (fun e=>h (by simp[e]));show(if b==c then(0:Int) else if Lib.indexByte (a++c::r) c== -1 then -1 else Lib.indexByte (a++c::r) c+1)=_;rw[if_neg (by simpa using hb),h2,if_neg (by simp)];simp
theorem qg (a:List UInt8) (c:UInt8) (h:c∉a):Lib.indexByte a c= -1:=by
 induction a with
 | nil=>rfl
 | cons b a ih=>
  have hb:b≠c:=fun e=>h (by simp[e])
  have h2:=ih (fun e=>h (by simp[e]));show(if b==c then(0:Int) else if Lib.indexByte a c== -1 then -1 else Lib.indexByte a c+1)=_;rw[if_neg (by simpa using hb),h2];rfl
theorem yE {a b:ByteArray} (h:a.data.toList=b.data.toList):a=b:=by
 obtain⟨⟨a⟩⟩:=a;obtain⟨⟨b⟩⟩:=b;simp at h;rw[h]
theorem qj (a r:List UInt8):(⟨(a++r).toArray⟩:ByteArray).extract 0 a.length=⟨a.toArray⟩:=by
 apply yE;rw[Lib.extract_data];simp
theorem rV (a r:List UInt8) (c:UInt8) (n:Nat) (hn:n=(a++c::r).length):(⟨(a++c::r).toArray⟩:ByteArray).extract (a.length+1) n=⟨r.toArray⟩:=by
 apply yE;rw[Lib.extract_data];simp only;rw[show a++c::r=(a++[c])++r by simp,List.drop_left' (by simp),List.take_of_length_le (by subst hn;simp;omega)]
theorem ET (a:List UInt8) (ws:List (List UInt8)) (ha:(32:UInt8)∉a) (hw:∀x∈ws,(32:UInt8)∉x):(dW a ws).count 32=ws.length:=by
 unfold dW;rw[List.count_append,List.count_eq_zero_of_not_mem ha]
 induction ws with
 | nil=>simp
 | cons x ws ih=>
  have h1:=ih (fun y hy=>hw y (by simp[hy]));simp only[List.flatMap_cons,List.cons_append,List.count_cons_self,List.count_append,List.count_eq_zero_of_not_mem (hw x (by simp)),List.length_cons] at h1⊢;omega
theorem vM (ws:List (List UInt8)):∀(a:List UInt8),(32:UInt8)∉a->(∀x∈ws,(32:UInt8)∉x)->Lib.splitB ⟨#[32]⟩ 0 ws.length ⟨(dW a ws).toArray⟩=(a::ws).map fun x=>(⟨x.toArray⟩:ByteArray):=by
 induction ws with
 | nil=>intro a _ _;simp[dW,Lib.splitB_zero]
 | cons x ws ih=>
  intro a ha hw
  have e:dW a (x::ws)=a++32::dW x ws:=by simp[dW]
  rw[e,List.length_cons,Lib.splitB_hit _ _ _ _ a.length]
  ·have h1:=qj a (32::dW x ws);rw[Nat.add_zero,h1];have h2:=rV a (dW x ws) 32 (a++32::dW x ws).length rfl;have h3:=ih x (hw x (by simp)) (fun y hy=>hw y (by simp[hy]));show _::Lib.splitB _ 0 ws.length ((⟨(a++32::dW x ws).toArray⟩:ByteArray).extract (a.length+1) (a++32::dW x ws).length)=_;rw[h2,h3];simp
  ·show Lib.index (a++32::dW x ws) [32]=_;rw[Lib.index_one,jT _ _ _ ha]
theorem mR (a:List UInt8) (ws:List (List UInt8)) (ha:(32:UInt8)∉a) (hw:∀x∈ws,(32:UInt8)∉x):Lib.countB ⟨(dW a ws).toArray⟩ ⟨#[32]⟩=ws.length:=by
 show Lib.count (dW a ws) [32]=_;rw[Lib.count_one,ET a ws ha hw]
/-! ### abd -/
def aA:List (List UInt8)->List UInt8
 | []=>[]
 | [l]=>l
 | l::m::ls=>l++10::aA (m::ls)
theorem A7 (l:List UInt8) (ls:List (List UInt8)):Lib.trimSuffix ((l::ls).flatMap fun x=>x++[10]) [10]=aA (l::ls):=by
 have h:∀(ls:List (List UInt8)) (l:List UInt8),((l::ls).flatMap fun x=>x++[10])=aA (l::ls)++[10]:=by
  intro ls
  induction ls with
  | nil=>intro l;simp[aA]
  | cons m ls ih=>intro l;rw[List.flatMap_cons,ih m];simp[aA]
 rw[h];unfold Lib.trimSuffix Lib.hasSuffix;rw[if_pos (by rw[List.isSuffixOf_iff_suffix];exact List.suffix_append _ _)];simp
end
section
open Go.Proofs.Tryz Go.Joins Go.RowKit Go.Shelf
variable {W:World} {bs bp bv:Nat} {rest:List UInt8}
structure kI (W:World) (bs bp bv:Nat) (rest:List UInt8):Prop where
 s:W.heap[bs]? =some (.cells #[.string ⟨rest.toArray⟩] 9)
 p:W.heap[bp]? =some (.cells #[.string ⟨#[10]⟩] 9)
 v:W.heap[bv]? =some (.cells #[.int .i64 0] 3)
 np:bp≠bs
 nv:bv≠bs
theorem kI.cells (h:kI W bs bp bv rest):W.cell? ⟨bs,0,none⟩=some (.string ⟨rest.toArray⟩)∧W.cell? ⟨bp,0,none⟩=some (.string ⟨#[10]⟩)∧W.cell? ⟨bv,0,none⟩=some (.int .i64 0)∧W.frozen? ⟨bs,0,none⟩=false:=
 ⟨by rw[cell_of_block h.s];rfl,by rw[cell_of_block h.p];rfl,by rw[cell_of_block h.v];rfl,unfrozen_of_block h.s 0⟩
theorem kI.still {W':World} (h:kI W bs bp bv rest) (hk:∀k,k=bs∨k=bp∨k=bv->W'.heap[k]? =W.heap[k]?):kI W' bs bp bv rest:=
 ⟨(hk bs (.inl rfl)).trans h.s,(hk bp (.inr (.inl rfl))).trans h.p,(hk bv (.inr (.inr rfl))).trans h.v,h.np,h.nv⟩
theorem kI.next {r:List UInt8} (h:kI W bs bp bv rest):kI (W.setCell ⟨bs,0,none⟩ (.string ⟨r.toArray⟩)) bs bp bv r:=
 ⟨(block_setCell h.s _).trans rfl,(Below.heap_setCell _ _ _ _ h.np).trans h.p,(Below.heap_setCell _ _ _ _ h.nv).trans h.v,h.np,h.nv⟩
theorem xX (ls:List (List UInt8)):∀i,(aA (ls.drop i)).length<=(aA ls).length:=by
 induction ls with
 | nil=>intro i;simp
 | cons x ls ih=>
  intro i
  cases i with
  | zero=>simp
  | succ i=>
   refine Nat.le_trans (ih i) ?_
   cases ls with
   | nil=>simp[aA]
   | cons y ls=>simp[aA];omega
def yF (W:World) (bs:Nat):Nat:=match W.cell? ⟨bs,0,none⟩ with
 | some (.string s)=>s.size
 | _=>0
theorem LC (WX:∀(s:ByteArray) (c:UInt8) (w:World),Calls prog 154 #[.string s,.string ⟨#[c]⟩] w fun e w'=>e= .returned (.int .i64 (Lib.indexByte s.data.toList c))∧w'=w)
  (n:Nat) (hn:1<=n) (l bs bp bv:Nat) (ls:List (List UInt8)) (hne:ls≠[]) (hls:∀x∈ls,(10:UInt8)∉x) (hsz:(aA ls).length<=1000000)
  (J:Nat->World->Prop) (hJ:∀i W W',J i W->W.grownBy W' (some bs)->J i W')
  (hY:∀i x rest W,J i W->ls[i]? =some x->kI W bs bp bv rest->YieldAt Fence.wide (n -1) prog l #[.string ⟨x.toArray⟩] W fun e W'=>e= .returned (.bool true)∧J (i+1) W'∧kI W' bs bp bv rest)
  (W:World) (hB:kI W bs bp bv (aA ls)) (h0:J 0 W):
  CallsIn Fence.wide n prog 237 #[.func (.yield l) #[] #[],.pointer (some ⟨bp,0,none⟩),.pointer (some ⟨bs,0,none⟩),.pointer (some ⟨bv,0,none⟩)] W fun e W'=>(∃v,e= .returned v)∧J ls.length W':=by
 refine callsIn_of_wp func237 rfl trivial ?_ rfl;simp only[ntmps237,List.size_toArray,List.length_cons,List.length_nil,Nat.reduceAdd,Nat.reduceSub,Array.replicate_succ,Array.replicate_zero,List.push_toArray,List.append_toArray,List.nil_append,List.cons_append];have hc:=hB.cells;have acE:Fence.wide.fn 154:=trivial
 gi_wp2
 gi_loopw [7] (fun _ wr=>∃i x t,ls.drop i=x::t∧kI wr bs bp bv (aA (x::t))∧J i wr)
  (fun _ wr=>yF wr bs)
 case atStart=>
  obtain⟨x,t,rfl⟩:=List.exists_cons_of_ne_nil hne;exact⟨0,x,t,rfl,hB,h0⟩
 case round=>
  obtain⟨i,x,t,hd,hBr,JJ⟩:=hrel
  have hx:ls[i]? =some x:=by
   have :=congrArg List.head? hd;simpa[List.head?_drop] using this
  have hmem:x∈ls:=List.mem_of_getElem? hx
  have hlen:(aA (x::t)).length<=1000000:=by
   refine Nat.le_trans ?_ hsz;rw[<-hd];exact xX ls i
  have hcr:=hBr.cells
  cases t with
  | nil=>
   have hix:=WX ⟨x.toArray⟩ 10 wr;have e1:Lib.indexByte (⟨x.toArray⟩:ByteArray).data.toList 10= -1:=qg x 10 (hls x hmem);rw[e1] at hix;obtain⟨fn,tmps,assign,body,hy,hR⟩:=hY i x _ wr JJ hx hBr
   have hil:i+1=ls.length:=by
    have :=congrArg List.length hd;simp at this;omega
   simp only[aA] at hcr;clear hd hBr e1 hlen
   gi_wp2_with (first
    | (gi_at_call 154;refine(callsIn_wide.2 hix).mono ?_;rintro e w' ⟨rfl,hw⟩;have hw:=hw.symm;subst hw)
    | gi_in)
   refine hR.mono ?_;rintro e W3 ⟨rfl,hJ3,_⟩
   gi_wp2
   go_end0
   rw[<-hil];exact⟨⟨_,rfl⟩,hJ3⟩
  | cons y t=>
   have hix:=WX ⟨(aA (x::y::t)).toArray⟩ 10 wr;have e1:Lib.indexByte (⟨(aA (x::y::t)).toArray⟩:ByteArray).data.toList 10=(x.length:Int):=jT x _ 10 (hls x hmem);rw[e1] at hix;obtain⟨fn,tmps,assign,body,hy,hR⟩:=hY i x _ wr JJ hx hBr;have ef:(⟨(aA (x::y::t)).toArray⟩:ByteArray).extract 0 x.length=⟨x.toArray⟩:=qj x (10::aA (y::t));have el:(⟨(aA (x::y::t)).toArray⟩:ByteArray).extract (x.length+1) (aA (x::y::t)).length=⟨(aA (y::t)).toArray⟩:=rV x (aA (y::t)) 10 _ rfl
   have k0:(aA (x::y::t)).length=x.length+1+(aA (y::t)).length:=by simp[aA];omega
   have k1:(x.length:Int)<=1000000:=by omega
   have k3:(x.length:Int)+1<=((aA (x::y::t)).length:Int):=by omega
   have k2:(x.length:Int)<=((aA (x::y::t)).length:Int):=by omega
   have k4:((aA (x::y::t)).length:Int)<=1000000:=by omega
   rw[<-ef] at hy
   have hd2:ls.drop (i+1)=y::t:=by
    rw[<-List.drop_drop,hd];rfl
   have HL:Hid (yF wr bs=(aA (x::y::t)).length∧(aA (x::y::t)).length=x.length+1+(aA (y::t)).length):=⟨by unfold yF;rw[hcr.1];simp[ByteArray.size],k0⟩;have HE:=hid el;clear ef el e1 hlen k0 hd;generalize (aA (x::y::t))=R at *
   gi_wp2_with (first
    | (gi_at_call 154;refine(callsIn_wide.2 hix).mono ?_;rintro e w' ⟨rfl,hw⟩;have hw:=hw.symm;subst hw)
    | gi_in)
   refine hR.mono ?_;rintro e W3 ⟨rfl,hJ3,hB3⟩;have hc3:=hB3.cells;clear hcr
   gi_wp2
   rw[HE.out];have hB4:=hB3.next (r:=aA (y::t));refine⟨⟨i+1,y,t,hd2,hB4,hJ _ _ _ hJ3 (grownBy_setCell' W3 bs _)⟩,?_⟩
   have e4:yF (W3.setCell ⟨bs,0,none⟩ (.string ⟨(aA (y::t)).toArray⟩)) bs=(aA (y::t)).length:=by unfold yF;rw[hB4.cells.1];simp[ByteArray.size]
   have :=HL.out;omega
def JK (fn:FuncId) (tmps:Array Value) (ps:Array Tmp) (assign body:Code) (D:Nat) (st:LoopState) (pe:Option Code):Loop:={ state:=st,pending:=pe,fn,tmps:=tmps,params:=ps,assign,body,defers:=D}
def PG (bs bp bv D l:Nat) (I:World->Prop) (W:World):Exit->Act->World->Prop
 | .normal,_,W'=>I W'∧W.heap.size<=W'.heap.size∧∀k,k=bs∨k=bp∨k=bv∨k=D∨k=l->W'.heap[k]? =W.heap[k]?
 | _,_,_=>False
theorem EJ (WX:∀(s:ByteArray) (c:UInt8) (w:World),Calls prog 154 #[.string s,.string ⟨#[c]⟩] w fun e w'=>e= .returned (.int .i64 (Lib.indexByte s.data.toList c))∧w'=w)
  {n:Nat} (h2:2<=n) {g:Operand} {p:Tmp} {assign body:Code} {Q:Exit->Act->World->Prop} {a:Act} {w:World}
  (hg:a.eval g= .func (.func 237) #[] #[.pointer (some ⟨bp,0,none⟩),.pointer (some ⟨bs,0,none⟩),.pointer (some ⟨bv,0,none⟩)])
  (ls:List (List UInt8)) (hne:ls≠[]) (hls:∀x∈ls,(10:UInt8)∉x) (hsz:(aA ls).length<=1000000) (hB:kI w bs bp bv (aA ls))
  (I:Nat->World->Prop) (hI:∀i W W' row,I i W->W.grownBy W' row->(∀k,row=some k->k=bs∨k=w.heap.size+1)->I i W') (h0:I 0 w)
  (a₁:List UInt8->Act)
  (hassign:∀(x:List UInt8) (W:World) (K:Act->World->Prop),K (a₁ x) W->
   assign.wpIn (Fence.wide.inRound (w.heap.size+1)) (n -1 -1) prog (Exit.then K (fun _ _ _=>False)) { tmps:=((#[p]:Array Tmp).zip #[.string ⟨x.toArray⟩]).foldl (fun t (p,v)=>t.setIfInBounds p v) a.tmps,defers:=[]} W)
  (hbody:∀(i:Nat) (x:List UInt8) (W:World),ls[i]? =some x->I i W->w.heap.size+2<=W.heap.size->body.wpIn (Fence.wide.inRound (w.heap.size+1)) (n -1 -1) prog (PG bs bp bv w.heap.size (w.heap.size+1) (I (i+1)) W) (a₁ x) W)
  (hdone:∀(W:World),I ls.length W->W.heap[w.heap.size]? =some (.deferred (some []))->Q .normal { a with defers:={ target:= .collected w.heap.size,args:= #[]}::a.defers} W):
  (Code.rangeFunc g #[p] assign body).wpIn Fence.wide n prog Q a w:=by
 have hlt:bs < w.heap.size∧bp < w.heap.size∧bv < w.heap.size:=⟨(Array.getElem?_eq_some_iff.1 hB.s).1,(Array.getElem?_eq_some_iff.1 hB.p).1,(Array.getElem?_eq_some_iff.1 hB.v).1⟩;refine wpIn_rangeFunc ?_;intro fn hfn;obtain⟨rec,hrec⟩:∃rec:LoopState->Option Code->Loop,rec=JK fn a.tmps #[p] assign body w.heap.size:=⟨_,rfl⟩;obtain⟨W1,hW1⟩:∃W1,(w.alloc (.deferred (some []))).alloc (.loop (rec .ready none))=W1:=⟨_,rfl⟩
 have hL1:W1.heap[w.heap.size+1]? =some (.loop (rec .ready none)):=by
  rw[<-hW1];have :=World.alloc_heap_new (w.alloc (.deferred (some []))) (.loop (rec .ready none));rwa [World.size_alloc] at this
 have hK1:W1.heap[w.heap.size]? =some (.deferred (some [])):=by
  rw[<-hW1];exact(Below.heap_alloc _ _ _ (by simp)).trans (World.alloc_heap_new w _)
 have hI1:I 0 W1:=by
  rw[<-hW1];exact hI 0 _ _ none (hI 0 _ _ none h0 (World.grownBy_alloc _ _ _) (fun _ e=>by cases e)) (World.grownBy_alloc _ _ _) (fun _ e=>by cases e)
 have hB1:kI W1 bs bp bv (aA ls):=by
  refine hB.still (fun k hk=> ?_)
  have hk':k < w.heap.size:=by rcases hk with rfl | rfl | rfl <;>omega
  rw[<-hW1];exact(Below.heap_alloc _ _ _ (by simp;omega)).trans (Below.heap_alloc _ _ _ hk')
 refine⟨w.heap.size+1,[{ target:= .collected w.heap.size,args:= #[]}],W1,{ target:= .fn (.func 237) #[.pointer (some ⟨bp,0,none⟩),.pointer (some ⟨bs,0,none⟩),.pointer (some ⟨bv,0,none⟩)],args:= #[.func (.yield (w.heap.size+1)) #[] #[]]},W1,237,
  #[.func (.yield (w.heap.size+1)) #[] #[],.pointer (some ⟨bp,0,none⟩),.pointer (some ⟨bs,0,none⟩),.pointer (some ⟨bv,0,none⟩)],W1,?_,?_,?_,?_,fun _=>by omega,?_⟩
 ·rw[<-hW1,hrec];exact run_enterLoop_outer _ _ _ _ _
 ·simp only[resolve,hg];simp[go_sem]
 ·intro f' _;trivial
 ·simp[invoke,go_sem]
 ·refine(LC WX (n -1) (by omega) (w.heap.size+1) bs bp bv ls hne hls hsz
   (fun i W=>I i W∧W.heap[w.heap.size+1]? =some (.loop (rec .ready none))∧W.heap[w.heap.size]? =some (.deferred (some [])))
   (fun i A B hs hg'=>⟨hI i A B _ hs.1 hg' (fun k e=>by cases e;exact .inl rfl),(hg'.block _ (Array.getElem?_eq_some_iff.1 hs.2.1).1 (by simp;omega)).trans hs.2.1,(hg'.block _ (Array.getElem?_eq_some_iff.1 hs.2.2).1 (by simp;omega)).trans hs.2.2⟩)
   ?_ W1 hB1 ⟨hI1,hL1,hK1⟩).mono ?_
  ·rintro i x rest W ⟨hi,hl,hk⟩ hx hBx;have hlt2:w.heap.size+1 < W.heap.size:=(Array.getElem?_eq_some_iff.1 hl).1;have hy:=run_yield (P:=prog) (args:= #[.string ⟨x.toArray⟩]) hl (by rw[hrec];rfl);rw[hrec] at hy;refine⟨fn,_,assign,body,hy,roundIn_of_wpIn hfn (hassign x W _ ⟨_,run_beginRound hl (by rw[hrec];rfl),?_⟩)⟩;clear hy;have hl2:(W.putObj (w.heap.size+1) (.loop { rec .ready none with state:= .busy})).heap[w.heap.size+1]? =some (.loop { rec .ready none with state:= .busy}):=World.putObj_heap_same hlt2;have hk2:(W.putObj (w.heap.size+1) (.loop { rec .ready none with state:= .busy})).heap[w.heap.size]? =some (.deferred (some [])):=(World.putObj_heap_other (by omega)).trans hk;have hi2:I i (W.putObj (w.heap.size+1) (.loop { rec .ready none with state:= .busy})):=hI i _ _ _ hi (grownBy_putObj' W _ _) (fun k e=>by cases e;exact .inr rfl);refine wpIn_mono (hbody i x _ hx hi2 (by simp;omega)) ?_;rintro e a3 W3 hp
   cases e with
   | normal=>
    obtain⟨hi3,hs3,hk3⟩:=hp;have hl3:=(hk3 _ (.inr (.inr (.inr (.inr rfl))))).trans hl2;have hd3:=(hk3 _ (.inr (.inr (.inr (.inl rfl))))).trans hk2;have hr:=run_endRound (P:=prog) none hl3;have hlt3:=(Array.getElem?_eq_some_iff.1 hl3).1;refine⟨_,_,hr,rfl,⟨hI (i+1) _ _ _ hi3 (grownBy_putObj' W3 _ _) (fun k e=>by cases e;exact .inr rfl),?_,(World.putObj_heap_other (by omega)).trans hd3⟩,?_⟩
    ·rw[World.putObj_heap_same hlt3,hrec];rfl
    ·refine hBx.still (fun k hk=> ?_)
     have hne1:k≠w.heap.size+1:=by rcases hk with rfl | rfl | rfl <;>omega
     refine(World.putObj_heap_other hne1).trans ((hk3 k ?_).trans (World.putObj_heap_other hne1))
     rcases hk with rfl | rfl | rfl
     ·exact .inl rfl
     ·exact .inr (.inl rfl)
     ·exact .inr (.inr (.inl rfl))
   | ret=>exact hp.elim
   | exit id=>exact hp.elim
   | goto t=>exact hp.elim
   | panic ch=>exact hp.elim
   | outgrown=>exact hp.elim
  ·rintro e W2 ⟨⟨v,rfl⟩,hi,hl,hk⟩;exact⟨none,_,by have :=run_endLoop (P:=prog) hl (by rw[hrec];simp[JK]);rw[hrec] at this;exact this,hdone _ (hI _ _ _ _ hi (grownBy_putObj' W2 _ _) (fun k e=>by cases e;exact .inr rfl)) ((World.putObj_heap_other (by omega)).trans hk)⟩
theorem CG (s sep:ByteArray) (w:World):Calls prog 89 #[.string s,.string sep] w fun e w'=>
  e= .returned (.func (.func 237) #[] #[.pointer (some ⟨w.heap.size+1,0,none⟩),.pointer (some ⟨w.heap.size,0,none⟩),.pointer (some ⟨w.heap.size+2,0,none⟩)])∧
  w'=((w.alloc (.cells #[.string s] 9)).alloc (.cells #[.string sep] 9)).alloc (.cells #[.int .i64 0] 3):=by
 go_enter func89,ntmps89;go_wp2;go_ret;exact⟨rfl,rfl⟩
end
section
open Go.Proofs.Tryz Go.Joins Go.RowKit Go.Sort
variable {W:World} {bm k:Nat} {hd:ByteArray}
theorem tK:Maps.Keyed prog 9:=Maps.string_keyed underlying9
def Ip:DataW Unit:=((((((((DataW.map []).put (.string [112,108,97,110]) (.lit (.int .i64 3))).put (.string [102,101,100]) (.lit (.int .i64 3))).put (.string [109,97,114,107,115]) (.lit (.int .i64 2))).put (.string [114,111,119]) (.lit (.int .i64 5))).put (.string [111,117,116,32,49]) (.lit (.int .i64 3))).put (.string [111,117,116,32,50]) (.lit (.int .i64 3))).put (.string [111,117,116,32,51]) (.lit (.int .i64 6))).put (.string [101,110,100]) (.lit (.int .i64 0))
def nH (W:World) (bm:Nat):Prop:=W.ownsMap prog 9 (plainElem (H:=Unit) prog 3) bm 8 Ip
theorem nH.still {W':World} (h:nH W bm) (hb:W'.heap[bm]? =W.heap[bm]?):nH W' bm:=by
 obtain⟨es,c,h1,h2⟩:=h;exact⟨es,c,hb.trans h1,h2⟩
inductive jN:ByteArray->Nat->Prop
 | plan:jN ⟨#[112,108,97,110]⟩ 3
 | fed:jN ⟨#[102,101,100]⟩ 3
 | marks:jN ⟨#[109,97,114,107,115]⟩ 2
 | row:jN ⟨#[114,111,119]⟩ 5
 | left:jN ⟨#[111,117,116,32,49]⟩ 3
 | right:jN ⟨#[111,117,116,32,50]⟩ 3
 | pair:jN ⟨#[111,117,116,32,51]⟩ 6
 | fin:jN ⟨#[101,110,100]⟩ 0
theorem X8 (s:ByteArray) (hs:s.size<=100):keyOf prog 9 (.string s)=some (.string s.data.toList):=by
 simp[keyOf,underlying9,mapKey];unfold maxLen;omega
theorem Pz (hk:jN hd k):Ip.atKey (.string hd.data.toList) (.lit (.int .i64 0))= .lit (.int .i64 k)∧Maps.has Ip (.string hd.data.toList)=true:=by
 cases hk <;>exact⟨by kernel_rfl,by kernel_rfl⟩
theorem qI (h:nH W bm) (hk:jN hd k):(Instr.lookup 152 (.map (some bm)) (.string hd) true).run prog W= .ok (.tuple #[.int .i64 k,.bool true]) W:=by
 obtain⟨v,ps,hrun,hv⟩:=h.look_ok tK underlying152 (Dl W) (plainElem_int underlying3 (q:= .i64) (a:=0) (by decide)) (X8 hd (by cases hk <;>decide));obtain⟨c,rfl,hc,_⟩:=plainElem_int_inv underlying3 hv;have hc:=congrArg Prod.fst hc;obtain⟨h1,h2⟩:=Pz hk;rw[h1] at hc;rw[hrun,h2]
 injection hc with hc
 injection hc with _ hc
 rw[hc]
theorem lG {b n:Nat} {D:DataW Unit} (h:W.ownsMap prog 9 (plainElem (H:=Unit) prog 3) b n D) (hn:n < 100) (s:ByteArray) (k:Int) (hk:0<=k∧k < 100) (hs:s.size<=100):
  ∃w',(Instr.mapUpdate 152 (.map (some b)) (.string s) (.int .i64 k)).run prog W= .ok () w'∧w'.ownsMap prog 9 (plainElem (H:=Unit) prog 3) b (n+1) (D.put (.string s.data.toList) (.lit (.int .i64 k)))∧W.grownBy w' (some b):=
 h.update tK underlying152 (by unfold maxLen;omega) (X8 s hs) (plainElem_int underlying3 (q:= .i64) (a:=k) (by simp[Lit.wf,IntKind.min,IntKind.max,IntKind.signed,IntKind.bits];omega))
theorem EI (w:World):Calls prog 88 #[] w fun e w'=>e= .returned (.map (some w.heap.size))∧nH w' w.heap.size∧Below w.heap.size w w':=by
 have hmm:= @run_makeMap prog;have h0:=World.ownsMap_made w prog 9 (plainElem (H:=Unit) prog 3);obtain⟨w1,r1,h1,g1⟩:=lG h0 (by omega) ⟨#[112,108,97,110]⟩ 3 (by omega) (by decide);obtain⟨w2,r2,h2,g2⟩:=lG h1 (by omega) ⟨#[102,101,100]⟩ 3 (by omega) (by decide);obtain⟨w3,r3,h3,g3⟩:=lG h2 (by omega) ⟨#[109,97,114,107,115]⟩ 2 (by omega) (by decide);obtain⟨w4,r4,h4,g4⟩:=lG h3 (by omega) ⟨#[114,111,119]⟩ 5 (by omega) (by decide);obtain⟨w5,r5,h5,g5⟩:=lG h4 (by omega) ⟨#[111,117,116,32,49]⟩ 3 (by omega) (by decide);obtain⟨w6,r6,h6,g6⟩:=lG h5 (by omega) ⟨#[111,117,116,32,50]⟩ 3 (by omega) (by decide);obtain⟨w7,r7,h7,g7⟩:=lG h6 (by omega) ⟨#[111,117,116,32,51]⟩ 6 (by omega) (by decide);obtain⟨w8,r8,h8,g8⟩:=lG h7 (by omega) ⟨#[101,110,100]⟩ 0 (by omega) (by decide)
 have HF:Hid (nH w8 w.heap.size∧Below w.heap.size w w8):=by
  refine⟨h8,?_⟩
  have hb:∀{A B:World},w.heap.size<=A.heap.size->A.grownBy B (some w.heap.size)->Below w.heap.size A B:=fun hA hg=>(Below.refl _ _).grown hg hA (fun k e=>by cases e;exact Nat.le_refl _)
  have s0:w.heap.size<=(w.alloc (.map #[] 0)).heap.size:=by simp
  have s1:=Nat.le_trans s0 g1.size;have s2:=Nat.le_trans s1 g2.size;have s3:=Nat.le_trans s2 g3.size;have s4:=Nat.le_trans s3 g4.size;have s5:=Nat.le_trans s4 g5.size;have s6:=Nat.le_trans s5 g6.size;have s7:=Nat.le_trans s6 g7.size;exact((((((((below_alloc1 w _).trans (hb s0 g1)).trans (hb s1 g2)).trans (hb s2 g3)).trans (hb s3 g4)).trans (hb s4 g5)).trans (hb s5 g6)).trans (hb s6 g7)).trans (hb s7 g8)
 clear h0 h1 h2 h3 h4 h5 h6 h7 h8 g1 g2 g3 g4 g5 g6 g7 g8;go_enter func88,ntmps88;go_wp2;go_ret;exact⟨rfl,HF.out⟩
end
section
open Go.Proofs.Tryz Go.Joins Go.RowKit Go.Sort
abbrev bW (x:List UInt8):ByteArray:=⟨x.toArray⟩
abbrev zL:Obj:= .cells #[.string ⟨#[]⟩,.slice none 0 0] 169
theorem PI:(prog.info? 3).map (fun i=>(i.zero,i.size,i.bytes))=some (some (.int .i64 0),1,8):=by kernel_rfl
theorem wM (k:Nat) (hk:k<=100):∃zk:Array Value,zk=(List.replicate k (Value.int .i64 0)).toArray∧∀W:World,(Instr.makeSlice 84 (.int .i64 k) (.int .i64 k)).run prog W= .ok (.slice (some ⟨W.heap.size,0,none⟩) k k) (W.alloc (.cells zk 3)):=by
 obtain⟨i0,hi,hz0,hz1,hz2⟩:=info_parts PI;refine⟨_,rfl,fun W=> ?_⟩;have h:=run_makeSlice (P:=prog) (w:=W) 84 3 i0 (.int .i64 0) underlying84 hi hz0 .i64 .i64 (k:Int) (k:Int) (by omega) (by omega) (by rw[hz1];omega) (by rw[hz2];omega) (by omega);rw[h,hz1];simp only[Int.toNat_natCast,Nat.mul_one];congr 3;apply Array.ext
 ·simp[madeCells]
 ·intro j h1 h2;simp[madeCells,Value.cells,Nat.mod_one]
structure Rd (w:World) (gw off gs bl:Nat) (hd:ByteArray) (k:Nat) (ns:List Int) (i:Nat) (W:World):Prop where
 low:Below w.heap.size w W
 res:W.heap[w.heap.size]? =some zL
 wrd:∀j n,ns[j]? =some n->W.cell? ⟨gw,off+(j+1),none⟩=some (.string (bW (Lib.itoa n)))
 nums:W.heap[gs]? =some (.cells ((ns.take i).map (Value.int .i64)++List.replicate (k -i) (Value.int .i64 0)).toArray 3)
 line:W.heap[bl]? =some (.cells #[.string hd,.slice (some ⟨gs,0,none⟩) k k] 169)
 ge:w.heap.size<=gs
 ngw:gw≠gs
theorem bV (w:World) (a b:Obj):((w.alloc a).alloc b).heap[w.heap.size]? =some a∧((w.alloc a).alloc b).heap[w.heap.size+1]? =some b:=by
 refine⟨(Below.heap_alloc _ _ _ (by simp)).trans (heap_alloc_new w _),?_⟩;have :=heap_alloc_new (w.alloc a) b
 rwa [World.size_alloc] at this
section
variable {w:World} {gw off gs bl:Nat} {hd:ByteArray} {k:Nat} {ns:List Int} {i:Nat} {W W':World}
theorem Rd.lts (h:Rd w gw off gs bl hd k ns i W):w.heap.size < W.heap.size∧gs < W.heap.size∧bl < W.heap.size:=⟨(Array.getElem?_eq_some_iff.1 h.res).1,(Array.getElem?_eq_some_iff.1 h.nums).1,(Array.getElem?_eq_some_iff.1 h.line).1⟩
theorem Rd.nes (h:Rd w gw off gs bl hd k ns i W):w.heap.size≠gs∧bl≠gs:=by
 refine⟨fun e=> ?_,fun e=> ?_⟩
 ·have h1:=h.res;rw[e,h.nums] at h1;simp at h1
 ·have h1:=h.line;rw[e,h.nums] at h1;simp at h1
theorem Rd.below (h:Rd w gw off gs bl hd k ns i W) (hb:Below W.heap.size W W'):Rd w gw off gs bl hd k ns i W':=
 ⟨h.low.trans (hb.mono h.low.size),(hb.block _ h.lts.1).trans h.res,fun j n hj=>(hb.cell (p:=⟨gw,off+(j+1),none⟩) (World.block_lt_of_cell? _ _ (h.wrd j n hj))).trans (h.wrd j n hj),(hb.block _ h.lts.2.1).trans h.nums,(hb.block _ h.lts.2.2).trans h.line,h.ge,h.ngw⟩
theorem Rd.cells (h:Rd w gw off gs bl hd k ns i W) (hl:ns.length=k):W.cell? ⟨bl,0,none⟩=some (.string hd)∧W.cell? ⟨bl,1,none⟩=some (.slice (some ⟨gs,0,none⟩) k k)∧W.cell? ⟨w.heap.size,0,none⟩=some (.string ⟨#[]⟩)∧W.cell? ⟨w.heap.size,1,none⟩=some (.slice none 0 0)∧W.frozen? ⟨w.heap.size,0,none⟩=false∧W.frozen? ⟨w.heap.size,1,none⟩=false∧W.frozen? ⟨gs,i,none⟩=false∧(i < k->W.cell? ⟨gs,i,none⟩=some (.int .i64 0)):=by
 refine⟨by rw[cell_of_block h.line];rfl,by rw[cell_of_block h.line];rfl,by rw[cell_of_block h.res];rfl,by rw[cell_of_block h.res];rfl,unfrozen_of_block h.res 0,unfrozen_of_block h.res 1,unfrozen_of_block h.nums i,fun hlt=> ?_⟩;rw[cell_of_block h.nums,List.getElem?_toArray,List.getElem?_append_right (by simp;omega),List.getElem?_replicate,if_pos (by simp;omega)]
theorem Rd.store (h:Rd w gw off gs bl hd k ns i W) (hl:ns.length=k) {n:Int} (hn:ns[i]? =some n):Rd w gw off gs bl hd k ns (i+1) (W.setCell ⟨gs,i,none⟩ (.int .i64 n)):=by
 have hi:i < ns.length:=(List.getElem?_eq_some_iff.1 hn).1
 have hs:∀j,j≠gs->(W.setCell ⟨gs,i,none⟩ (.int .i64 n)).heap[j]? =W.heap[j]? :=fun j e=>Below.heap_setCell _ _ _ _ e
 refine⟨h.low.setCell (p:=⟨gs,i,none⟩) h.ge _,(hs _ h.nes.1).trans h.res,fun j m hj=>(World.cell?_of_block (w:=W) (a:=⟨gw,off+(j+1),none⟩) (hs gw h.ngw)).trans (h.wrd j m hj),?_,(hs _ h.nes.2).trans h.line,h.ge,h.ngw⟩;rw[block_setCell h.nums];congr 2;simp only[List.setIfInBounds_toArray];congr 1;rw[List.take_add_one,hn,List.set_append_right _ _ (by simp;omega)];simp only[List.map_append,List.append_assoc,Option.toList_some,List.map_cons,List.map_nil,List.length_map,List.length_take,List.singleton_append];congr 1;obtain⟨r,hr⟩:∃r,k -i=r+1:=⟨k -i -1,by omega⟩;rw[hr,show i -min i ns.length=0 by omega,List.replicate_succ,List.set_cons_zero,show k -(i+1)=r by omega]
end
theorem Io (hd:List UInt8) (k:Nat) (hk:jN (bW hd) k) (hk1:1<=k) (h32:(32:UInt8)∉hd) (ho:hd≠[111,117,116]) (ns:List Int) (hl:ns.length=k) (h64:∀n∈ns,-9223372036854775808<=n∧n<=9223372036854775807) (bm:Nat) (w:World) (hK:nH w bm) (Eu:bm < w.heap.size)
  (M7:∀(s sep:ByteArray) (W:World),Below w.heap.size w W->s.size < 4294967281->1<=sep.size->Calls prog 80 #[.string s,.string sep] W fun e w'=>e= .returned (.slice (some ⟨W.heap.size,0,none⟩) (Lib.countB s sep+1) (Lib.countB s sep+1))∧w'=W.alloc (.cells ((Lib.splitB sep 0 (Lib.countB s sep) s).map Value.string).toArray 9))
  (Ya:∀(n:Int) (W:World),-9223372036854775808<=n∧n<=9223372036854775807->Calls prog 161 #[.string (bW (Lib.itoa n))] W fun e w'=>e= .returned (.tuple #[.int .i64 n,.nilIface])∧Below W.heap.size W w') (hsz:(dW hd (ns.map Lib.itoa)).length < 4294967281):
  Calls prog 91 #[.string (bW (dW hd (ns.map Lib.itoa))),.map (some bm)] w fun e w'=>∃g,e= .returned (.tuple #[.agg #[.string (bW hd),.slice (some ⟨g,0,none⟩) k k],.bool true])∧w'.heap[g]? =some (.cells (ns.map (Value.int .i64)).toArray 3)∧w.heap.size<=g∧Below w.heap.size w w':=by
 have ZM:k<=6:=by cases hk <;>omega
 have h0:(0:Int) < (k:Int):=by omega
 have hk0:k≠0:=by omega
 have h6:(k:Int)<=6:=by omega
 have hw:∀x∈ns.map Lib.itoa,(32:UInt8)∉x:=fun x hx=>by
  obtain⟨n,_,rfl⟩:=List.mem_map.1 hx;exact CJ n 32 (by decide)
 have hS:=M7 (bW (dW hd (ns.map Lib.itoa))) ⟨#[32]⟩ (w.alloc zL) (below_alloc1 _ _) (by show(dW hd (ns.map Lib.itoa)).toArray.size < _;simpa using hsz) (by decide);rw[mR hd _ h32 hw,vM _ hd h32 hw,List.length_map,hl] at hS
 have hne:(hd==[111,117,116])=false:=by simpa using ho
 obtain⟨zk,DD,hmk⟩:∃zk:Array Value,Hid (zk=(List.replicate k (Value.int .i64 0)).toArray)∧∀W:World,(Instr.makeSlice 84 (.int .i64 k) (.int .i64 k)).run prog W= .ok (.slice (some ⟨W.heap.size,0,none⟩) k k) (W.alloc (.cells zk 3)):=wM k (by omega);go_enter func91,ntmps91;go_wp2_with fail;refine hS.mono ?_;rintro e w1 ⟨rfl,rfl⟩;obtain⟨w1,hw1⟩:∃w1,(w.alloc zL).alloc (.cells (List.map Value.string (List.map (fun x=>(⟨x.toArray⟩:ByteArray)) (hd::List.map Lib.itoa ns))).toArray 9)=w1:=⟨_,rfl⟩;rw[hw1]
 have hlt1:w.heap.size+1 < w1.heap.size:=by rw[<-hw1];simp
 have pY:w.heap.size < w1.heap.size:=by rw[<-hw1];simp;omega
 have hB1:Below w.heap.size w w1:=by rw[<-hw1];exact below_alloc2 _ _ _
 have hz1:w1.heap[w.heap.size]? =some zL:=by rw[<-hw1];exact(Below.heap_alloc _ _ _ (by simp)).trans (heap_alloc_new w _)
 have hg1:w1.heap[w.heap.size+1]? =some (.cells (List.map Value.string (List.map (fun x=>(⟨x.toArray⟩:ByteArray)) (hd::List.map Lib.itoa ns))).toArray 9):=by
  rw[<-hw1];have :=heap_alloc_new (w.alloc zL) (.cells (List.map Value.string (List.map (fun x=>(⟨x.toArray⟩:ByteArray)) (hd::List.map Lib.itoa ns))).toArray 9)
  rwa [World.size_alloc] at this
 have hc0:w1.cell? ⟨w.heap.size+1,0,none⟩=some (.string (bW hd)):=by rw[cell_of_block hg1];simp
 have hlk:=qI (hK.still (hB1.block bm Eu)) hk
 have H1:Hid (Below w.heap.size w w1∧w1.heap[w.heap.size]? =some zL∧∀j n,ns[j]? =some n->w1.cell? ⟨w.heap.size+1,0+(j+1),none⟩=some (.string (bW (Lib.itoa n)))):=by
  refine⟨hB1,hz1,fun j n hj=> ?_⟩;rw[cell_of_block hg1,Nat.zero_add];simp[hj]
 clear hw1 hB1 hz1 hg1;simp only[World.size_alloc] at *;clear hS ho hk hw;go_wp2
 go_region
 ·have R0:Rd w (w.heap.size+1) 0 w1.heap.size (w1.heap.size+1) (bW hd) k ns 0 (((w1.alloc (.cells zk 3)).alloc (.cells #[.string (bW hd),.slice (some ⟨w1.heap.size,0,none⟩) k k] 169)).drew):=by
   have hb:Below w1.heap.size w1 (((w1.alloc (.cells zk 3)).alloc (.cells #[.string (bW hd),.slice (some ⟨w1.heap.size,0,none⟩) k k] 169)).drew):=(below_alloc2 _ _ _).drew;obtain⟨a1,a2,a3⟩:=H1.out;refine⟨a1.trans (hb.mono a1.size),(hb.block _ pY).trans a2,fun j n hj=>(hb.cell (p:=⟨w.heap.size+1,0+(j+1),none⟩) hlt1).trans (a3 j n hj),?_,?_,by omega,by omega⟩
   ·show(((w1.alloc (.cells zk 3)).alloc (.cells #[.string (bW hd),.slice (some ⟨w1.heap.size,0,none⟩) k k] 169))).heap[w1.heap.size]? =_;rw[(bV w1 _ _).1,DD.out];simp
   ·show(((w1.alloc (.cells zk 3)).alloc (.cells #[.string (bW hd),.slice (some ⟨w1.heap.size,0,none⟩) k k] 169))).heap[(w1.heap.size+1)]? =_;exact(bV w1 _ _).2
  clear H1 hlk DD hmk hc0;revert R0;generalize (((w1.alloc (.cells zk 3)).alloc (.cells #[.string (bW hd),.slice (some ⟨w1.heap.size,0,none⟩) k k] 169)).drew)=w2;generalize hbl:(w1.heap.size+1)=bl;generalize hgs:w1.heap.size=gs;intro R0;clear hgs hbl pY hlt1;have L:=R0.lts;have hc:=R0.cells hl;have RR:=hid R0;clear R0;go_wp2
  go_loopg [60] k (fun gg Pp wr=>∃i:Nat,i<=k∧gg=k -i∧Pp= .int .i64 i∧Hid (Rd w (w.heap.size+1) 0 gs bl (bW hd) k ns i wr))
  case atStart=>exact⟨0,Nat.zero_le _,rfl,rfl,RR⟩
  case round=>
   obtain⟨i,hile,iU,rfl,I⟩:=hrel;have HG:=hid iU;clear iU RR hc L
   by_cases hlt2:i < k
   ·obtain⟨n,hin⟩:∃n,ns[i]? =some n:=⟨_,List.getElem?_eq_getElem (by omega)⟩;have hcw:=I.out.wrd i n hin;rw[show 0+(i+1)=1+i by omega] at hcw
    have j1:(0:Int)<=(i:Int):=by omega
    have j2:(i:Int) < (k:Int):=by omega
    have j3:(i:Int)+1 < (k:Int)+1:=by omega
    have HA:Hid (Calls prog 161 #[.string (bW (Lib.itoa n))] wr fun e w'=>e= .returned (.tuple #[.int .i64 n,.nilIface])∧(w'.cell? ⟨bl,1,none⟩=some (.slice (some ⟨gs,0,none⟩) k k)∧w'.cell? ⟨gs,i,none⟩=some (.int .i64 0)∧w'.frozen? ⟨gs,i,none⟩=false)∧Hid (Rd w (w.heap.size+1) 0 gs bl (bW hd) k ns i w')):=by
     refine(Ya n wr (h64 n (List.mem_of_getElem? hin))).mono ?_;rintro e w' ⟨rfl,hb⟩;have I2:=I.out.below hb;have c2:=I2.cells hl;exact⟨rfl,⟨c2.2.1,c2.2.2.2.2.2.2.2 hlt2,c2.2.2.2.2.2.2.1⟩,I2⟩
    have HS:Hid (∀w',Hid (Rd w (w.heap.size+1) 0 gs bl (bW hd) k ns i w')->Rd w (w.heap.size+1) 0 gs bl (bW hd) k ns (i+1) (w'.setCell ⟨gs,i,none⟩ (.int .i64 n))):=fun w' hI=>hI.out.store hl hin
    clear I hin
    go_wp2_with (first
     | (go_at_call 161;refine HA.out.mono ?_;rintro e w3 ⟨rfl,hc3,h3⟩)
     | fail)
    go_roundg (k -(i+1))
    all_goals first
     | (have :=HG.out;omega)
     | exact⟨i+1,by omega,rfl,by first | rfl | (congr 1;omega) | go_num,HS.out _ h3⟩
   ·have j2:¬((i:Int) < (k:Int)):=by omega
    obtain rfl:i=k:=by omega
    have I2:=I.out;have c2:=I2.cells hl;clear I
    have HF:Hid (∀u v,(((wr.setCell ⟨w.heap.size,0,none⟩ u).setCell ⟨w.heap.size,1,none⟩ v).heap[gs]? =some (.cells (ns.map (Value.int .i64)).toArray 3))∧w.heap.size<=gs∧Below w.heap.size w ((wr.setCell ⟨w.heap.size,0,none⟩ u).setCell ⟨w.heap.size,1,none⟩ v)):=by
     intro u v;refine⟨?_,I2.ge,(I2.low.setCell (p:=⟨w.heap.size,0,none⟩) (Nat.le_refl _) _).setCell (p:=⟨w.heap.size,1,none⟩) (Nat.le_refl _) _⟩;rw[Below.heap_setCell _ _ _ _ (Ne.symm I2.nes.1),Below.heap_setCell _ _ _ _ (Ne.symm I2.nes.1),I2.nums,<-hl,List.take_length];simp
    have l2:=I2.lts;clear I2;go_wp2
    have hx0:((wr.setCell ⟨w.heap.size,0,none⟩ (.string (bW hd))).setCell ⟨w.heap.size,1,none⟩ (.slice (some ⟨gs,0,none⟩) i i)).cell? ⟨w.heap.size,0,none⟩=some (.string (bW hd)):=by
     rw[World.cell?_setCell_other _ _ _ _ (by simp)];exact World.cell?_setCell_same' _ _ _ (by rw[c2.2.2.1];rfl)
    have hx1:((wr.setCell ⟨w.heap.size,0,none⟩ (.string (bW hd))).setCell ⟨w.heap.size,1,none⟩ (.slice (some ⟨gs,0,none⟩) i i)).cell? ⟨w.heap.size,1,none⟩=some (.slice (some ⟨gs,0,none⟩) i i):=by
     exact World.cell?_setCell_same' _ _ _ (by rw[World.cell?_setCell_other _ _ _ _ (by simp),c2.2.2.2.1];rfl)
    refine bodyPost_ret (v:= .tuple #[.agg #[.string (bW hd),.slice (some ⟨gs,0,none⟩) i i],.bool true]) (by simp[results,Tryz.results91,go_sem,hx0,hx1]) rfl ⟨gs,rfl,HF.out _ _⟩
 ·have R0:Rd w (w.heap.size+1) 0 (w1.heap.size+1) w1.heap.size (bW hd) k ns 0 (((w1.alloc (.cells #[.string (bW hd),.slice (some ⟨w1.heap.size+1,0,none⟩) k k] 169)).alloc (.cells zk 3)).drew):=by
   have hb:Below w1.heap.size w1 (((w1.alloc (.cells #[.string (bW hd),.slice (some ⟨w1.heap.size+1,0,none⟩) k k] 169)).alloc (.cells zk 3)).drew):=(below_alloc2 _ _ _).drew;obtain⟨a1,a2,a3⟩:=H1.out;refine⟨a1.trans (hb.mono a1.size),(hb.block _ pY).trans a2,fun j n hj=>(hb.cell (p:=⟨w.heap.size+1,0+(j+1),none⟩) hlt1).trans (a3 j n hj),?_,?_,by omega,by omega⟩
   ·show(((w1.alloc (.cells #[.string (bW hd),.slice (some ⟨w1.heap.size+1,0,none⟩) k k] 169)).alloc (.cells zk 3))).heap[(w1.heap.size+1)]? =_;rw[(bV w1 _ _).2,DD.out];simp
   ·show(((w1.alloc (.cells #[.string (bW hd),.slice (some ⟨w1.heap.size+1,0,none⟩) k k] 169)).alloc (.cells zk 3))).heap[w1.heap.size]? =_;exact(bV w1 _ _).1
  clear H1 hlk DD hmk hc0;revert R0;generalize (((w1.alloc (.cells #[.string (bW hd),.slice (some ⟨w1.heap.size+1,0,none⟩) k k] 169)).alloc (.cells zk 3)).drew)=w2;generalize hgs:(w1.heap.size+1)=gs;generalize hbl:w1.heap.size=bl;intro R0;clear hgs hbl pY hlt1;have L:=R0.lts;have hc:=R0.cells hl;have RR:=hid R0;clear R0;go_wp2
  go_loopg [60] k (fun gg Pp wr=>∃i:Nat,i<=k∧gg=k -i∧Pp= .int .i64 i∧Hid (Rd w (w.heap.size+1) 0 gs bl (bW hd) k ns i wr))
  case atStart=>exact⟨0,Nat.zero_le _,rfl,rfl,RR⟩
  case round=>
   obtain⟨i,hile,iU,rfl,I⟩:=hrel;have HG:=hid iU;clear iU RR hc L
   by_cases hlt2:i < k
   ·obtain⟨n,hin⟩:∃n,ns[i]? =some n:=⟨_,List.getElem?_eq_getElem (by omega)⟩;have hcw:=I.out.wrd i n hin;rw[show 0+(i+1)=1+i by omega] at hcw
    have j1:(0:Int)<=(i:Int):=by omega
    have j2:(i:Int) < (k:Int):=by omega
    have j3:(i:Int)+1 < (k:Int)+1:=by omega
    have HA:Hid (Calls prog 161 #[.string (bW (Lib.itoa n))] wr fun e w'=>e= .returned (.tuple #[.int .i64 n,.nilIface])∧(w'.cell? ⟨bl,1,none⟩=some (.slice (some ⟨gs,0,none⟩) k k)∧w'.cell? ⟨gs,i,none⟩=some (.int .i64 0)∧w'.frozen? ⟨gs,i,none⟩=false)∧Hid (Rd w (w.heap.size+1) 0 gs bl (bW hd) k ns i w')):=by
     refine(Ya n wr (h64 n (List.mem_of_getElem? hin))).mono ?_;rintro e w' ⟨rfl,hb⟩;have I2:=I.out.below hb;have c2:=I2.cells hl;exact⟨rfl,⟨c2.2.1,c2.2.2.2.2.2.2.2 hlt2,c2.2.2.2.2.2.2.1⟩,I2⟩
    have HS:Hid (∀w',Hid (Rd w (w.heap.size+1) 0 gs bl (bW hd) k ns i w')->Rd w (w.heap.size+1) 0 gs bl (bW hd) k ns (i+1) (w'.setCell ⟨gs,i,none⟩ (.int .i64 n))):=fun w' hI=>hI.out.store hl hin
    clear I hin
    go_wp2_with (first
     | (go_at_call 161;refine HA.out.mono ?_;rintro e w3 ⟨rfl,hc3,h3⟩)
     | fail)
    go_roundg (k -(i+1))
    all_goals first
     | (have :=HG.out;omega)
     | exact⟨i+1,by omega,rfl,by first | rfl | (congr 1;omega) | go_num,HS.out _ h3⟩
   ·have j2:¬((i:Int) < (k:Int)):=by omega
    obtain rfl:i=k:=by omega
    have I2:=I.out;have c2:=I2.cells hl;clear I
    have HF:Hid (∀u v,(((wr.setCell ⟨w.heap.size,0,none⟩ u).setCell ⟨w.heap.size,1,none⟩ v).heap[gs]? =some (.cells (ns.map (Value.int .i64)).toArray 3))∧w.heap.size<=gs∧Below w.heap.size w ((wr.setCell ⟨w.heap.size,0,none⟩ u).setCell ⟨w.heap.size,1,none⟩ v)):=by
     intro u v;refine⟨?_,I2.ge,(I2.low.setCell (p:=⟨w.heap.size,0,none⟩) (Nat.le_refl _) _).setCell (p:=⟨w.heap.size,1,none⟩) (Nat.le_refl _) _⟩;rw[Below.heap_setCell _ _ _ _ (Ne.symm I2.nes.1),Below.heap_setCell _ _ _ _ (Ne.symm I2.nes.1),I2.nums,<-hl,List.take_length];simp
    have l2:=I2.lts;clear I2;go_wp2
    have hx0:((wr.setCell ⟨w.heap.size,0,none⟩ (.string (bW hd))).setCell ⟨w.heap.size,1,none⟩ (.slice (some ⟨gs,0,none⟩) i i)).cell? ⟨w.heap.size,0,none⟩=some (.string (bW hd)):=by
     rw[World.cell?_setCell_other _ _ _ _ (by simp)];exact World.cell?_setCell_same' _ _ _ (by rw[c2.2.2.1];rfl)
    have hx1:((wr.setCell ⟨w.heap.size,0,none⟩ (.string (bW hd))).setCell ⟨w.heap.size,1,none⟩ (.slice (some ⟨gs,0,none⟩) i i)).cell? ⟨w.heap.size,1,none⟩=some (.slice (some ⟨gs,0,none⟩) i i):=by
     exact World.cell?_setCell_same' _ _ _ (by rw[World.cell?_setCell_other _ _ _ _ (by simp),c2.2.2.2.1];rfl)
    refine bodyPost_ret (v:= .tuple #[.agg #[.string (bW hd),.slice (some ⟨gs,0,none⟩) i i],.bool true]) (by simp[results,Tryz.results91,go_sem,hx0,hx1]) rfl ⟨gs,rfl,HF.out _ _⟩
theorem Pv (d:UInt8) (hd32:d≠32) (k:Nat) (hk:jN (bW [111,117,116,32,d]) k) (hk1:1<=k) (ns:List Int) (hl:ns.length=k) (h64:∀n∈ns,-9223372036854775808<=n∧n<=9223372036854775807) (bm:Nat) (w:World) (hK:nH w bm) (Eu:bm < w.heap.size)
  (M7:∀(s sep:ByteArray) (W:World),Below w.heap.size w W->s.size < 4294967281->1<=sep.size->Calls prog 80 #[.string s,.string sep] W fun e w'=>e= .returned (.slice (some ⟨W.heap.size,0,none⟩) (Lib.countB s sep+1) (Lib.countB s sep+1))∧w'=W.alloc (.cells ((Lib.splitB sep 0 (Lib.countB s sep) s).map Value.string).toArray 9))
  (Ya:∀(n:Int) (W:World),-9223372036854775808<=n∧n<=9223372036854775807->Calls prog 161 #[.string (bW (Lib.itoa n))] W fun e w'=>e= .returned (.tuple #[.int .i64 n,.nilIface])∧Below W.heap.size W w') (hsz:(dW [111,117,116] ([d]::ns.map Lib.itoa)).length < 4294967281):
  Calls prog 91 #[.string (bW (dW [111,117,116] ([d]::ns.map Lib.itoa))),.map (some bm)] w fun e w'=>∃g,e= .returned (.tuple #[.agg #[.string (bW [111,117,116,32,d]),.slice (some ⟨g,0,none⟩) k k],.bool true])∧w'.heap[g]? =some (.cells (ns.map (Value.int .i64)).toArray 3)∧w.heap.size<=g∧Below w.heap.size w w':=by
 have ZM:k<=6:=by cases hk <;>omega
 have h0:(0:Int) < (k:Int):=by omega
 have hk0:k≠0:=by omega
 have h6:(k:Int)<=6:=by omega
 have h32:(32:UInt8)∉[111,117,116]:=by decide
 have hw:∀x∈[d]::ns.map Lib.itoa,(32:UInt8)∉x:=fun x hx=>by
  rcases List.mem_cons.1 hx with rfl | hx
  ·simpa using Ne.symm hd32
  ·obtain⟨n,_,rfl⟩:=List.mem_map.1 hx;exact CJ n 32 (by decide)
 have hS:=M7 (bW (dW [111,117,116] ([d]::ns.map Lib.itoa))) ⟨#[32]⟩ (w.alloc zL) (below_alloc1 _ _) (by show(dW [111,117,116] ([d]::ns.map Lib.itoa)).toArray.size < _;simpa using hsz) (by decide);rw[mR _ _ h32 hw,vM _ _ h32 hw,List.length_cons,List.length_map,hl] at hS;obtain⟨zk,DD,hmk⟩:∃zk:Array Value,Hid (zk=(List.replicate k (Value.int .i64 0)).toArray)∧∀W:World,(Instr.makeSlice 84 (.int .i64 k) (.int .i64 k)).run prog W= .ok (.slice (some ⟨W.heap.size,0,none⟩) k k) (W.alloc (.cells zk 3)):=wM k (by omega);go_enter func91,ntmps91;go_wp2_with fail;refine hS.mono ?_;rintro e w1 ⟨rfl,rfl⟩;obtain⟨w1,hw1⟩:∃w1,(w.alloc zL).alloc (.cells (List.map Value.string (List.map (fun x=>(⟨x.toArray⟩:ByteArray)) ([111,117,116]::[d]::List.map Lib.itoa ns))).toArray 9)=w1:=⟨_,rfl⟩;rw[hw1]
 have hlt1:w.heap.size+1 < w1.heap.size:=by rw[<-hw1];simp
 have pY:w.heap.size < w1.heap.size:=by rw[<-hw1];simp;omega
 have hB1:Below w.heap.size w w1:=by rw[<-hw1];exact below_alloc2 _ _ _
 have hz1:w1.heap[w.heap.size]? =some zL:=by rw[<-hw1];exact(Below.heap_alloc _ _ _ (by simp)).trans (heap_alloc_new w _)
 have hg1:w1.heap[w.heap.size+1]? =some (.cells (List.map Value.string (List.map (fun x=>(⟨x.toArray⟩:ByteArray)) ([111,117,116]::[d]::List.map Lib.itoa ns))).toArray 9):=by
  rw[<-hw1];have :=heap_alloc_new (w.alloc zL) (.cells (List.map Value.string (List.map (fun x=>(⟨x.toArray⟩:ByteArray)) ([111,117,116]::[d]::List.map Lib.itoa ns))).toArray 9)
  rwa [World.size_alloc] at this
 have hc0:w1.cell? ⟨w.heap.size+1,0,none⟩=some (.string ⟨#[111,117,116]⟩):=by rw[cell_of_block hg1];rfl
 have hc1:w1.cell? ⟨w.heap.size+1,1,none⟩=some (.string ⟨#[d]⟩):=by rw[cell_of_block hg1];rfl
 have hf1:w1.frozen? ⟨w.heap.size+1,1,none⟩=false:=unfrozen_of_block hg1 1
 have k1:(1:Int) < (k:Int)+1+1:=by omega
 clear hw1;simp only[World.size_alloc] at *;clear hS hw;have ec:((⟨#[111,117,116,32]⟩:ByteArray)++⟨#[d]⟩)=bW [111,117,116,32,d]:=yE (by simp)
 have hs2:∀j,j≠w.heap.size+1->(w1.setCell ⟨w.heap.size+1,1,none⟩ (.string (bW [111,117,116,32,d]))).heap[j]? =w1.heap[j]? :=fun j e=>Below.heap_setCell _ _ _ _ e
 have hg2:=block_setCell (i:=1) hg1 (.string (bW [111,117,116,32,d]));have hB2:Below w.heap.size w (w1.setCell ⟨w.heap.size+1,1,none⟩ (.string (bW [111,117,116,32,d]))):=hB1.setCell (p:=⟨w.heap.size+1,1,none⟩) (by simp) _;have hz2:=(hs2 w.heap.size (by omega)).trans hz1
 have hsz2:(w1.setCell ⟨w.heap.size+1,1,none⟩ (.string (bW [111,117,116,32,d]))).heap.size=w1.heap.size:=by simp
 have hlk2:=qI (hK.still (hB2.block bm Eu)) hk;go_wp2;clear hc0 hc1 hf1 ec hB1 hz1 hg1 hs2 hlk2;revert hg2 hB2 hz2 hsz2;generalize (w1.setCell ⟨w.heap.size+1,1,none⟩ (.string (bW [111,117,116,32,d])))=w2;intro hg2 hB2 hz2 hsz2
 have l1:w.heap.size+1 < w2.heap.size:=by omega
 have l0:w.heap.size < w2.heap.size:=by omega
 clear hsz2 pY hlt1;have hlt1:=l1;have pY:=l0;clear l1 l0
 have hc0:w2.cell? ⟨w.heap.size+1,1,none⟩=some (.string (bW [111,117,116,32,d])):=by rw[cell_of_block hg2];simp
 have H1:Hid (Below w.heap.size w w2∧w2.heap[w.heap.size]? =some zL∧∀j n,ns[j]? =some n->w2.cell? ⟨w.heap.size+1,1+(j+1),none⟩=some (.string (bW (Lib.itoa n)))):=by
  refine⟨hB2,hz2,fun j n hj=> ?_⟩;rw[cell_of_block hg2,show 1+(j+1)=j+1+1 by omega];simp[hj]
 clear hB2 hz2 hg2 hk
 go_region
 ·have R0:Rd w (w.heap.size+1) 1 w2.heap.size (w2.heap.size+1) (bW [111,117,116,32,d]) k ns 0 (((w2.alloc (.cells zk 3)).alloc (.cells #[.string (bW [111,117,116,32,d]),.slice (some ⟨w2.heap.size,0,none⟩) k k] 169)).drew):=by
   have hb:Below w2.heap.size w2 (((w2.alloc (.cells zk 3)).alloc (.cells #[.string (bW [111,117,116,32,d]),.slice (some ⟨w2.heap.size,0,none⟩) k k] 169)).drew):=(below_alloc2 _ _ _).drew;obtain⟨a1,a2,a3⟩:=H1.out;refine⟨a1.trans (hb.mono a1.size),(hb.block _ pY).trans a2,fun j n hj=>(hb.cell (p:=⟨w.heap.size+1,1+(j+1),none⟩) hlt1).trans (a3 j n hj),?_,?_,by omega,by omega⟩
   ·show(((w2.alloc (.cells zk 3)).alloc (.cells #[.string (bW [111,117,116,32,d]),.slice (some ⟨w2.heap.size,0,none⟩) k k] 169))).heap[w2.heap.size]? =_;rw[(bV w2 _ _).1,DD.out];simp
   ·show(((w2.alloc (.cells zk 3)).alloc (.cells #[.string (bW [111,117,116,32,d]),.slice (some ⟨w2.heap.size,0,none⟩) k k] 169))).heap[(w2.heap.size+1)]? =_;exact(bV w2 _ _).2
  clear H1 DD hmk hc0;revert R0;generalize (((w2.alloc (.cells zk 3)).alloc (.cells #[.string (bW [111,117,116,32,d]),.slice (some ⟨w2.heap.size,0,none⟩) k k] 169)).drew)=w3;generalize hbl:(w2.heap.size+1)=bl;generalize hgs:w2.heap.size=gs;intro R0;clear hgs hbl pY hlt1;have L:=R0.lts;have hc:=R0.cells hl;have RR:=hid R0;clear R0;go_wp2
  go_loopg [60] k (fun gg Pp wr=>∃i:Nat,i<=k∧gg=k -i∧Pp= .int .i64 i∧Hid (Rd w (w.heap.size+1) 1 gs bl (bW [111,117,116,32,d]) k ns i wr))
  case atStart=>exact⟨0,Nat.zero_le _,rfl,rfl,RR⟩
  case round=>
   obtain⟨i,hile,iU,rfl,I⟩:=hrel;have HG:=hid iU;clear iU RR hc L
   by_cases hlt2:i < k
   ·obtain⟨n,hin⟩:∃n,ns[i]? =some n:=⟨_,List.getElem?_eq_getElem (by omega)⟩;have hcw:=I.out.wrd i n hin;rw[show 1+(i+1)=2+i by omega] at hcw
    have j1:(0:Int)<=(i:Int):=by omega
    have j2:(i:Int) < (k:Int):=by omega
    have j3:(i:Int)+1 < (k:Int)+1:=by omega
    have HA:Hid (Calls prog 161 #[.string (bW (Lib.itoa n))] wr fun e w'=>e= .returned (.tuple #[.int .i64 n,.nilIface])∧(w'.cell? ⟨bl,1,none⟩=some (.slice (some ⟨gs,0,none⟩) k k)∧w'.cell? ⟨gs,i,none⟩=some (.int .i64 0)∧w'.frozen? ⟨gs,i,none⟩=false)∧Hid (Rd w (w.heap.size+1) 1 gs bl (bW [111,117,116,32,d]) k ns i w')):=by
     refine(Ya n wr (h64 n (List.mem_of_getElem? hin))).mono ?_;rintro e w' ⟨rfl,hb⟩;have I2:=I.out.below hb;have c2:=I2.cells hl;exact⟨rfl,⟨c2.2.1,c2.2.2.2.2.2.2.2 hlt2,c2.2.2.2.2.2.2.1⟩,I2⟩
    have HS:Hid (∀w',Hid (Rd w (w.heap.size+1) 1 gs bl (bW [111,117,116,32,d]) k ns i w')->Rd w (w.heap.size+1) 1 gs bl (bW [111,117,116,32,d]) k ns (i+1) (w'.setCell ⟨gs,i,none⟩ (.int .i64 n))):=fun w' hI=>hI.out.store hl hin
    clear I hin
    go_wp2_with (first
     | (go_at_call 161;refine HA.out.mono ?_;rintro e w3 ⟨rfl,hc3,h3⟩)
     | fail)
    go_roundg (k -(i+1))
    all_goals first
     | (have :=HG.out;omega)
     | exact⟨i+1,by omega,rfl,by first | rfl | (congr 1;omega) | go_num,HS.out _ h3⟩
   ·have j2:¬((i:Int) < (k:Int)):=by omega
    obtain rfl:i=k:=by omega
    have I2:=I.out;have c2:=I2.cells hl;clear I
    have HF:Hid (∀u v,(((wr.setCell ⟨w.heap.size,0,none⟩ u).setCell ⟨w.heap.size,1,none⟩ v).heap[gs]? =some (.cells (ns.map (Value.int .i64)).toArray 3))∧w.heap.size<=gs∧Below w.heap.size w ((wr.setCell ⟨w.heap.size,0,none⟩ u).setCell ⟨w.heap.size,1,none⟩ v)):=by
     intro u v;refine⟨?_,I2.ge,(I2.low.setCell (p:=⟨w.heap.size,0,none⟩) (Nat.le_refl _) _).setCell (p:=⟨w.heap.size,1,none⟩) (Nat.le_refl _) _⟩;rw[Below.heap_setCell _ _ _ _ (Ne.symm I2.nes.1),Below.heap_setCell _ _ _ _ (Ne.symm I2.nes.1),I2.nums,<-hl,List.take_length];simp
    have l2:=I2.lts;clear I2;go_wp2
    have hx0:((wr.setCell ⟨w.heap.size,0,none⟩ (.string (bW [111,117,116,32,d]))).setCell ⟨w.heap.size,1,none⟩ (.slice (some ⟨gs,0,none⟩) i i)).cell? ⟨w.heap.size,0,none⟩=some (.string (bW [111,117,116,32,d])):=by
     rw[World.cell?_setCell_other _ _ _ _ (by simp)];exact World.cell?_setCell_same' _ _ _ (by rw[c2.2.2.1];rfl)
    have hx1:((wr.setCell ⟨w.heap.size,0,none⟩ (.string (bW [111,117,116,32,d]))).setCell ⟨w.heap.size,1,none⟩ (.slice (some ⟨gs,0,none⟩) i i)).cell? ⟨w.heap.size,1,none⟩=some (.slice (some ⟨gs,0,none⟩) i i):=by
     exact World.cell?_setCell_same' _ _ _ (by rw[World.cell?_setCell_other _ _ _ _ (by simp),c2.2.2.2.1];rfl)
    refine bodyPost_ret (v:= .tuple #[.agg #[.string (bW [111,117,116,32,d]),.slice (some ⟨gs,0,none⟩) i i],.bool true]) (by simp[results,Tryz.results91,go_sem,hx0,hx1]) rfl ⟨gs,rfl,HF.out _ _⟩
 ·have R0:Rd w (w.heap.size+1) 1 (w2.heap.size+1) w2.heap.size (bW [111,117,116,32,d]) k ns 0 (((w2.alloc (.cells #[.string (bW [111,117,116,32,d]),.slice (some ⟨w2.heap.size+1,0,none⟩) k k] 169)).alloc (.cells zk 3)).drew):=by
   have hb:Below w2.heap.size w2 (((w2.alloc (.cells #[.string (bW [111,117,116,32,d]),.slice (some ⟨w2.heap.size+1,0,none⟩) k k] 169)).alloc (.cells zk 3)).drew):=(below_alloc2 _ _ _).drew;obtain⟨a1,a2,a3⟩:=H1.out;refine⟨a1.trans (hb.mono a1.size),(hb.block _ pY).trans a2,fun j n hj=>(hb.cell (p:=⟨w.heap.size+1,1+(j+1),none⟩) hlt1).trans (a3 j n hj),?_,?_,by omega,by omega⟩
   ·show(((w2.alloc (.cells #[.string (bW [111,117,116,32,d]),.slice (some ⟨w2.heap.size+1,0,none⟩) k k] 169)).alloc (.cells zk 3))).heap[(w2.heap.size+1)]? =_;rw[(bV w2 _ _).2,DD.out];simp
   ·show(((w2.alloc (.cells #[.string (bW [111,117,116,32,d]),.slice (some ⟨w2.heap.size+1,0,none⟩) k k] 169)).alloc (.cells zk 3))).heap[w2.heap.size]? =_;exact(bV w2 _ _).1
  clear H1 DD hmk hc0;revert R0;generalize (((w2.alloc (.cells #[.string (bW [111,117,116,32,d]),.slice (some ⟨w2.heap.size+1,0,none⟩) k k] 169)).alloc (.cells zk 3)).drew)=w3;generalize hgs:(w2.heap.size+1)=gs;generalize hbl:w2.heap.size=bl;intro R0;clear hgs hbl pY hlt1;have L:=R0.lts;have hc:=R0.cells hl;have RR:=hid R0;clear R0;go_wp2
  go_loopg [60] k (fun gg Pp wr=>∃i:Nat,i<=k∧gg=k -i∧Pp= .int .i64 i∧Hid (Rd w (w.heap.size+1) 1 gs bl (bW [111,117,116,32,d]) k ns i wr))
  case atStart=>exact⟨0,Nat.zero_le _,rfl,rfl,RR⟩
  case round=>
   obtain⟨i,hile,iU,rfl,I⟩:=hrel;have HG:=hid iU;clear iU RR hc L
   by_cases hlt2:i < k
   ·obtain⟨n,hin⟩:∃n,ns[i]? =some n:=⟨_,List.getElem?_eq_getElem (by omega)⟩;have hcw:=I.out.wrd i n hin;rw[show 1+(i+1)=2+i by omega] at hcw
    have j1:(0:Int)<=(i:Int):=by omega
    have j2:(i:Int) < (k:Int):=by omega
    have j3:(i:Int)+1 < (k:Int)+1:=by omega
    have HA:Hid (Calls prog 161 #[.string (bW (Lib.itoa n))] wr fun e w'=>e= .returned (.tuple #[.int .i64 n,.nilIface])∧(w'.cell? ⟨bl,1,none⟩=some (.slice (some ⟨gs,0,none⟩) k k)∧w'.cell? ⟨gs,i,none⟩=some (.int .i64 0)∧w'.frozen? ⟨gs,i,none⟩=false)∧Hid (Rd w (w.heap.size+1) 1 gs bl (bW [111,117,116,32,d]) k ns i w')):=by
     refine(Ya n wr (h64 n (List.mem_of_getElem? hin))).mono ?_;rintro e w' ⟨rfl,hb⟩;have I2:=I.out.below hb;have c2:=I2.cells hl;exact⟨rfl,⟨c2.2.1,c2.2.2.2.2.2.2.2 hlt2,c2.2.2.2.2.2.2.1⟩,I2⟩
    have HS:Hid (∀w',Hid (Rd w (w.heap.size+1) 1 gs bl (bW [111,117,116,32,d]) k ns i w')->Rd w (w.heap.size+1) 1 gs bl (bW [111,117,116,32,d]) k ns (i+1) (w'.setCell ⟨gs,i,none⟩ (.int .i64 n))):=fun w' hI=>hI.out.store hl hin
    clear I hin
    go_wp2_with (first
     | (go_at_call 161;refine HA.out.mono ?_;rintro e w3 ⟨rfl,hc3,h3⟩)
     | fail)
    go_roundg (k -(i+1))
    all_goals first
     | (have :=HG.out;omega)
     | exact⟨i+1,by omega,rfl,by first | rfl | (congr 1;omega) | go_num,HS.out _ h3⟩
   ·have j2:¬((i:Int) < (k:Int)):=by omega
    obtain rfl:i=k:=by omega
    have I2:=I.out;have c2:=I2.cells hl;clear I
    have HF:Hid (∀u v,(((wr.setCell ⟨w.heap.size,0,none⟩ u).setCell ⟨w.heap.size,1,none⟩ v).heap[gs]? =some (.cells (ns.map (Value.int .i64)).toArray 3))∧w.heap.size<=gs∧Below w.heap.size w ((wr.setCell ⟨w.heap.size,0,none⟩ u).setCell ⟨w.heap.size,1,none⟩ v)):=by
     intro u v;refine⟨?_,I2.ge,(I2.low.setCell (p:=⟨w.heap.size,0,none⟩) (Nat.le_refl _) _).setCell (p:=⟨w.heap.size,1,none⟩) (Nat.le_refl _) _⟩;rw[Below.heap_setCell _ _ _ _ (Ne.symm I2.nes.1),Below.heap_setCell _ _ _ _ (Ne.symm I2.nes.1),I2.nums,<-hl,List.take_length];simp
    have l2:=I2.lts;clear I2;go_wp2
    have hx0:((wr.setCell ⟨w.heap.size,0,none⟩ (.string (bW [111,117,116,32,d]))).setCell ⟨w.heap.size,1,none⟩ (.slice (some ⟨gs,0,none⟩) i i)).cell? ⟨w.heap.size,0,none⟩=some (.string (bW [111,117,116,32,d])):=by
     rw[World.cell?_setCell_other _ _ _ _ (by simp)];exact World.cell?_setCell_same' _ _ _ (by rw[c2.2.2.1];rfl)
    have hx1:((wr.setCell ⟨w.heap.size,0,none⟩ (.string (bW [111,117,116,32,d]))).setCell ⟨w.heap.size,1,none⟩ (.slice (some ⟨gs,0,none⟩) i i)).cell? ⟨w.heap.size,1,none⟩=some (.slice (some ⟨gs,0,none⟩) i i):=by
     exact World.cell?_setCell_same' _ _ _ (by rw[World.cell?_setCell_other _ _ _ _ (by simp),c2.2.2.2.1];rfl)
    refine bodyPost_ret (v:= .tuple #[.agg #[.string (bW [111,117,116,32,d]),.slice (some ⟨gs,0,none⟩) i i],.bool true]) (by simp[results,Tryz.results91,go_sem,hx0,hx1]) rfl ⟨gs,rfl,HF.out _ _⟩
end
end Go.Proofs.YthfpipieboophaaGreatDoor
