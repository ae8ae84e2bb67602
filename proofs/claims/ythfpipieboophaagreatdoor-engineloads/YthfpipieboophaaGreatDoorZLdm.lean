import Derived.Lib.SplitLaws
import Derived.Lib.ItoaLen
import Derived.Lib.AtoiAll
import Derived.Lib.AppendZerosOnto
import Derived.Test.YthfpipieboophaaGreatDoorZBagm
namespace Go.Proofs.YthfpipieboophaaGreatDoor
set_option maxRecDepth 100000
set_option maxHeartbeats 40000000
section
open Go
theorem mU(d:Nat)(h:d<10):(UInt8.ofNat (48+d)).toNat=48+d:=by
 rw[UInt8.toNat_ofNat'];omega
theorem uy(u:Nat):∀b∈Lib.decDigits u,48<=b.toNat/\b.toNat<=57:=by
 induction u using Nat.strongRecOn with
 |_ u ih=>
  intro b a;rw[Lib.decDigits]at a
  split at a
  .rename_i h
   simp only[List.mem_singleton]at a;subst a;rw[mU u h];omega
  .rename_i h
   rw[List.mem_append]at a
   rcases a with a|a
   .exact ih (u/10) (by omega) b a
   .simp only[List.mem_singleton]at a;subst a;rw[mU _ (by omega)];omega
theorem PD(u:Nat):Lib.decDigits u≠[]:=by
 rw[Lib.decDigits];split
 .simp
 .simp
theorem Iq(n:Int):∀b∈Lib.itoa n,b.toNat=45∨(48<=b.toNat/\b.toNat<=57):=by
 intro b a;unfold Lib.itoa at a
 split at a
 .rw[List.mem_cons]at a
  rcases a with rfl|a
  .exact .inl rfl
  .exact .inr (uy _ b a)
 .exact .inr (uy _ b a)
theorem CJ(n:Int)(c:UInt8)(hc:c.toNat<45):c∉Lib.itoa n:=λh=>by
 have:=Iq n c h;omega
theorem CO(u:Nat):∀(r:List UInt8),u<18446744073709551616->Lib.parseUint10 0 (Lib.decDigits u++r)=Lib.parseUint10 u r:=by
 induction u using Nat.strongRecOn with
 |_ u ih=>
  intro r hu;rw[Lib.decDigits]
  split
  .rename_i h
   show(if 48<=(UInt8.ofNat (48+u)).toNat/\(UInt8.ofNat (48+u)).toNat<=57 then _ else _)=_;rw[mU u h,if_pos (by omega),if_neg (by omega),if_neg (by omega)];congr 1;omega
  .rename_i h
   rw[List.append_assoc,ih (u/10) (by omega) _ (by omega)];show(if 48<=(UInt8.ofNat (48+u % 10)).toNat/\(UInt8.ofNat (48+u % 10)).toNat<=57 then _ else _)=_;rw[mU _ (by omega),if_pos (by omega),if_neg (by omega),if_neg (by omega)];congr 1;omega
theorem Ba(u:Nat)(a:u<18446744073709551616):Lib.parseMag (Lib.decDigits u)=.ok u:=by
 unfold Lib.parseMag;rw[if_neg (PD u)];have:=CO u [] a;rw[List.append_nil]at this;rw[this];rfl
theorem LA(n:Int)(h0: -9223372036854775808<=n)(h1:n<=9223372036854775807):Lib.atoiAll (Lib.itoa n)=.ok n:=by
 unfold Lib.itoa
 split
 .rename_i h
  show(match Lib.parseMag (if(45:UInt8).toNat=43∨(45:UInt8).toNat=45 then Lib.decDigits n.natAbs else 45::Lib.decDigits n.natAbs)with|.syntax=>_|.range=>_|.ok u=>_)=_;rw[if_pos (.inr rfl),Ba _ (by omega)];simp only;rw[if_neg (by intro h;exact h.1 rfl),if_neg (by omega),if_pos (show(45:UInt8).toNat=45 from rfl)];congr 1;omega
 .rename_i h
  have a:=Ba n.toNat (by omega);have b:=uy n.toNat
  cases hd:Lib.decDigits n.toNat with
  |nil=>exact absurd hd (PD _)
  |cons c r=>
   rw[hd]at a b;have hc:=b c (by simp);show(match Lib.parseMag (if c.toNat=43∨c.toNat=45 then r else c::r)with|.syntax=>_|.range=>_|.ok u=>_)=_;rw[if_neg (by omega),a];simp only;rw[if_neg (by omega),if_neg (by omega),if_neg (by omega)];congr 1;omega
def dW(a:List UInt8)(ws:List (List UInt8)):List UInt8:=a++ws.flatMap λx=>32::x
theorem jT(a r:List UInt8)(c:UInt8)(h:c∉a):Lib.indexByte (a++c::r) c=a.length:=by
 induction a with
 |nil=>simp[Lib.indexByte]
 |cons b a ih=>
  have d:b≠c:=λe=>h (by simp[e])
  have f:=ih (λe=>h (by simp[e]));show(if b==c then(0:Int)else if Lib.indexByte (a++c::r) c== -1 then -1 else Lib.indexByte (a++c::r) c+1)=_;rw[if_neg (by simpa using d),f,if_neg (by simp)];simp
theorem qg(a:List UInt8)(c:UInt8)(h:c∉a):Lib.indexByte a c= -1:=by
 induction a with
 |nil=>rfl
 |cons b a ih=>
  have d:b≠c:=λe=>h (by simp[e])
  have f:=ih (λe=>h (by simp[e]));show(if b==c then(0:Int)else if Lib.indexByte a c== -1 then -1 else Lib.indexByte a c+1)=_;rw[if_neg (by simpa using d),f];rfl
theorem yE{a b:ByteArray}(h:a.data.toList=b.data.toList):a=b:=by
 obtain⟨⟨a⟩⟩:=a;obtain⟨⟨b⟩⟩:=b;simp at h;rw[h]
theorem qj(a r:List UInt8):(⟨(a++r).toArray⟩:ByteArray).extract 0 a.length=⟨a.toArray⟩:=by
 apply yE;rw[Lib.extract_data];simp
theorem rV(a r:List UInt8)(c:UInt8)(n:Nat)(b:n=(a++c::r).length):(⟨(a++c::r).toArray⟩:ByteArray).extract (a.length+1) n=⟨r.toArray⟩:=by
 apply yE;rw[Lib.extract_data];simp only;rw[show a++c::r=(a++[c])++r by simp,List.drop_left' (by simp),List.take_of_length_le (by subst b;simp;omega)]
theorem ET(a:List UInt8)(ws:List (List UInt8))(d:(32:UInt8)∉a)(b:∀x∈ws,(32:UInt8)∉x):(dW a ws).count 32=ws.length:=by
 unfold dW;rw[List.count_append,List.count_eq_zero_of_not_mem d]
 induction ws with
 |nil=>simp
 |cons x ws ih=>
  have c:=ih (λy e=>b y (by simp[e]));simp only[List.flatMap_cons,List.cons_append,List.count_cons_self,List.count_append,List.count_eq_zero_of_not_mem (b x (by simp)),List.length_cons]at c⊢;omega
theorem vM(ws:List (List UInt8)):∀(a:List UInt8),(32:UInt8)∉a->(∀x∈ws,(32:UInt8)∉x)->Lib.splitB ⟨#[32]⟩ 0 ws.length ⟨(dW a ws).toArray⟩=(a::ws).map λx=>(⟨x.toArray⟩:ByteArray):=by
 induction ws with
 |nil=>intro a _ _;simp[dW,Lib.splitB_zero]
 |cons x ws ih=>
  intro a g b
  have e:dW a (x::ws)=a++32::dW x ws:=by simp[dW]
  rw[e,List.length_cons,Lib.splitB_hit _ _ _ _ a.length]
  .have h:=qj a (32::dW x ws);rw[Nat.add_zero,h];have d:=rV a (dW x ws) 32 (a++32::dW x ws).length rfl;have f:=ih x (b x (by simp)) (λy c=>b y (by simp[c]));show _::Lib.splitB _ 0 ws.length ((⟨(a++32::dW x ws).toArray⟩:ByteArray).extract (a.length+1) (a++32::dW x ws).length)=_;rw[d,f];simp
  .show Lib.index (a++32::dW x ws) [32]=_;rw[Lib.index_one,jT _ _ _ g]
theorem mR(a:List UInt8)(ws:List (List UInt8))(c:(32:UInt8)∉a)(b:∀x∈ws,(32:UInt8)∉x):Lib.countB ⟨(dW a ws).toArray⟩ ⟨#[32]⟩=ws.length:=by
 show Lib.count (dW a ws) [32]=_;rw[Lib.count_one,ET a ws c b]
def aA:List (List UInt8)->List UInt8
 |[]=>[]
 |[l]=>l
 |l::m::ls=>l++10::aA (m::ls)
theorem A7(l:List UInt8)(ls:List (List UInt8)):Lib.trimSuffix ((l::ls).flatMap λx=>x++[10]) [10]=aA (l::ls):=by
 have h:∀(ls:List (List UInt8)) (l:List UInt8),((l::ls).flatMap λx=>x++[10])=aA (l::ls)++[10]:=by
  intro ls
  induction ls with
  |nil=>intro l;simp[aA]
  |cons m ls ih=>intro l;rw[List.flatMap_cons,ih m];simp[aA]
 rw[h];unfold Lib.trimSuffix Lib.hasSuffix;rw[if_pos (by rw[List.isSuffixOf_iff_suffix];exact List.suffix_append _ _)];simp
end
section
open Go.Proofs.Tryz Go.Joins Go.RowKit Go.Shelf
variable{W:World}{bs bp bv:Nat}{rest:List UInt8}
structure kI(W:World)(bs bp bv:Nat)(rest:List UInt8):Prop where
 s:W.heap[bs]?=some (.cells #[.string ⟨rest.toArray⟩] 9)
 p:W.heap[bp]?=some (.cells #[.string ⟨#[10]⟩] 9)
 v:W.heap[bv]?=some (.cells #[.int .i64 0] 3)
 np:bp≠bs
 nv:bv≠bs
theorem kI.cells(h:kI W bs bp bv rest):W.cell? ⟨bs,0,none⟩=some (.string ⟨rest.toArray⟩)/\W.cell? ⟨bp,0,none⟩=some (.string ⟨#[10]⟩)/\W.cell? ⟨bv,0,none⟩=some (.int .i64 0)/\W.frozen? ⟨bs,0,none⟩=false:=
 ⟨by rw[fq h.s];rfl,by rw[fq h.p];rfl,by rw[fq h.v];rfl,fV h.s 0⟩
theorem kI.still{b:World}(h:kI W bs bp bv rest)(a:∀k,k=bs∨k=bp∨k=bv->b.heap[k]?=W.heap[k]?):kI b bs bp bv rest:=
 ⟨(a bs (.inl rfl)).trans h.s,(a bp (.inr (.inl rfl))).trans h.p,(a bv (.inr (.inr rfl))).trans h.v,h.np,h.nv⟩
theorem kI.next{r:List UInt8}(h:kI W bs bp bv rest):kI (W.setCell ⟨bs,0,none⟩ (.string ⟨r.toArray⟩)) bs bp bv r:=
 ⟨(fZ h.s _).trans rfl,(iJ _ _ _ _ h.np).trans h.p,(iJ _ _ _ _ h.nv).trans h.v,h.np,h.nv⟩
theorem xX(ls:List (List UInt8)):∀i,(aA (ls.drop i)).length<=(aA ls).length:=by
 induction ls with
 |nil=>intro i;simp
 |cons x ls ih=>
  intro i
  cases i with
  |zero=>simp
  |succ i=>
   refine aH (ih i) ?_
   cases ls with
   |nil=>simp[aA]
   |cons y ls=>simp[aA];omega
def yF(W:World)(bs:Nat):Nat:=match W.cell? ⟨bs,0,none⟩with
 |some (.string s)=>s.size
 |_=>0
theorem LC(N:∀(s:ByteArray) (c:UInt8) (w:World),Calls prog 154 #[.string s,.string ⟨#[c]⟩] w λe z=>e=.returned (.int .i64 (Lib.indexByte s.data.toList c))/\z=w)
  (n:Nat) (hn:1<=n) (l bs bp bv:Nat) (ls:List (List UInt8)) (u:ls≠[]) (hls:∀x∈ls,(10:UInt8)∉x) (A:(aA ls).length<=1000000)
  (J:Nat->World->Prop) (Q:∀i W g,J i W->W.grownBy g (some bs)->J i g)
  (K:∀i x rest W,J i W->ls[i]?=some x->kI W bs bp bv rest->YieldAt Fence.wide (n -1) prog l #[.string ⟨x.toArray⟩] W λe g=>e=.returned (.bool true)/\J (i+1) g/\kI g bs bp bv rest)
  (W:World) (M:kI W bs bp bv (aA ls)) (P:J 0 W):
  CallsIn Fence.wide n prog 237 #[.func (.yield l) #[] #[],.pointer (some ⟨bp,0,none⟩),.pointer (some ⟨bs,0,none⟩),.pointer (some ⟨bv,0,none⟩)] W λe g=>(∃v,e=.returned v)/\J ls.length g:=by
 refine callsIn_of_wp func237 rfl trivial ?_ rfl;simp only[ntmps237,List.size_toArray,List.length_cons,List.length_nil,Nat.reduceAdd,Nat.reduceSub,Array.replicate_succ,Array.replicate_zero,List.push_toArray,List.append_toArray,List.nil_append,List.cons_append];have hc:=M.cells;have acE:Fence.wide.fn 154:=trivial
 gi_wp2
 gi_loopw [7] (λ_ wr=>∃i x t,ls.drop i=x::t/\kI wr bs bp bv (aA (x::t))/\J i wr)
  (λ_ wr=>yF wr bs)
 case atStart=>
  obtain⟨x,t,rfl⟩:=List.exists_cons_of_ne_nil u;exact⟨0,x,t,rfl,M,P⟩
 case round=>
  obtain⟨i,x,t,hd,b,H⟩:=hrel
  have E:ls[i]?=some x:=by
   have:=congrArg List.head? hd;simpa[List.head?_drop]using this
  have f:x∈ls:=cZ E
  have d:(aA (x::t)).length<=1000000:=by
   refine aH ?_ A;rw[<-hd];exact xX ls i
  have k:=b.cells
  cases t with
  |nil=>
   have a:=N ⟨x.toArray⟩ 10 wr;have o:Lib.indexByte (⟨x.toArray⟩:ByteArray).data.toList 10= -1:=qg x 10 (hls x f);rw[o]at a;obtain⟨fn,tmps,assign,body,L,F⟩:=K i x _ wr H E b
   have C:i+1=ls.length:=by
    have:=congrArg List.length hd;simp at this;omega
   simp only[aA]at k;clear hd b o d
   gi_wp2_with (first
    |(gi_at_call 154;refine(jf.2 a).mono ?_;rintro e z ⟨rfl,h⟩;have h:=h.symm;subst h)
    |gi_in)
   refine F.mono ?_;rintro e B ⟨rfl,j,_⟩
   gi_wp2
   go_end0
   rw[<-C];exact⟨⟨_,rfl⟩,j⟩
  |cons y t=>
   have a:=N ⟨(aA (x::y::t)).toArray⟩ 10 wr;have o:Lib.indexByte (⟨(aA (x::y::t)).toArray⟩:ByteArray).data.toList 10=(x.length:Int):=jT x _ 10 (hls x f);rw[o]at a;obtain⟨fn,tmps,assign,body,L,F⟩:=K i x _ wr H E b;have G:(⟨(aA (x::y::t)).toArray⟩:ByteArray).extract 0 x.length=⟨x.toArray⟩:=qj x (10::aA (y::t));have el:(⟨(aA (x::y::t)).toArray⟩:ByteArray).extract (x.length+1) (aA (x::y::t)).length=⟨(aA (y::t)).toArray⟩:=rV x (aA (y::t)) 10 _ rfl
   have I:(aA (x::y::t)).length=x.length+1+(aA (y::t)).length:=by simp[aA];omega
   have k1:(x.length:Int)<=1000000:=by omega
   have k3:(x.length:Int)+1<=((aA (x::y::t)).length:Int):=by omega
   have k2:(x.length:Int)<=((aA (x::y::t)).length:Int):=by omega
   have k4:((aA (x::y::t)).length:Int)<=1000000:=by omega
   rw[<-G]at L
   have q:ls.drop (i+1)=y::t:=by
    rw[<-List.drop_drop,hd];rfl
   have S:Hid (yF wr bs=(aA (x::y::t)).length/\(aA (x::y::t)).length=x.length+1+(aA (y::t)).length):=⟨by unfold yF;rw[k.1];simp[ByteArray.size],I⟩;have T:=hid el;clear G el o d I hd;generalize(aA (x::y::t))=R at *
   gi_wp2_with (first
    |(gi_at_call 154;refine(jf.2 a).mono ?_;rintro e z ⟨rfl,h⟩;have h:=h.symm;subst h)
    |gi_in)
   refine F.mono ?_;rintro e B ⟨rfl,j,p⟩;have hc3:=p.cells;clear k
   gi_wp2
   rw[T.out];have m:=p.next (r:=aA (y::t));refine⟨⟨i+1,y,t,q,m,Q _ _ _ j (grownBy_setCell' B bs _)⟩,?_⟩
   have e4:yF (B.setCell ⟨bs,0,none⟩ (.string ⟨(aA (y::t)).toArray⟩)) bs=(aA (y::t)).length:=by unfold yF;rw[m.cells.1];simp[ByteArray.size]
   have:=S.out;omega
def JK(fn:FuncId)(tmps:Array Value)(ps:Array Tmp)(assign body:Code)(D:Nat)(st:LoopState)(pe:Option Code):Loop:={ state:=st,pending:=pe,fn,tmps:=tmps,params:=ps,assign,body,defers:=D}
def PG(bs bp bv D l:Nat)(I:World->Prop)(W:World):Exit->Act->World->Prop
 |.normal,_,W'=>I W'/\W.heap.size<=W'.heap.size/\∀k,k=bs∨k=bp∨k=bv∨k=D∨k=l->W'.heap[k]?=W.heap[k]?
 |_,_,_=>False
theorem EJ(WX:∀(s:ByteArray) (c:UInt8) (w:World),Calls prog 154 #[.string s,.string ⟨#[c]⟩] w λe w'=>e=.returned (.int .i64 (Lib.indexByte s.data.toList c))/\w'=w)
  {n:Nat} (h2:2<=n) {g:Operand} {p:Tmp} {assign body:Code} {Q:Exit->Act->World->Prop} {a:Act} {w:World}
  (hg:a.eval g=.func (.func 237) #[] #[.pointer (some ⟨bp,0,none⟩),.pointer (some ⟨bs,0,none⟩),.pointer (some ⟨bv,0,none⟩)])
  (ls:List (List UInt8)) (G:ls≠[]) (hls:∀x∈ls,(10:UInt8)∉x) (X:(aA ls).length<=1000000) (F:kI w bs bp bv (aA ls))
  (I:Nat->World->Prop) (r:∀i W W' row,I i W->W.grownBy W' row->(∀k,row=some k->k=bs∨k=w.heap.size+1)->I i W') (h0:I 0 w)
  (a₁:List UInt8->Act)
  (b:∀(x:List UInt8) (W:World) (K:Act->World->Prop),K (a₁ x) W->
   assign.wpIn (Fence.wide.inRound (w.heap.size+1)) (n -1 -1) prog (Exit.then K (λ_ _ _=>False)) { tmps:=((#[p]:Array Tmp).zip #[.string ⟨x.toArray⟩]).foldl (λt (p,v)=>t.setIfInBounds p v) a.tmps,defers:=[]} W)
  (o:∀(i:Nat) (x:List UInt8) (W:World),ls[i]?=some x->I i W->w.heap.size+2<=W.heap.size->body.wpIn (Fence.wide.inRound (w.heap.size+1)) (n -1 -1) prog (PG bs bp bv w.heap.size (w.heap.size+1) (I (i+1)) W) (a₁ x) W)
  (l:∀(W:World),I ls.length W->W.heap[w.heap.size]?=some (.deferred (some []))->Q .normal { a with defers:={ target:= .collected w.heap.size,args:= #[]}::a.defers} W):
  (Code.rangeFunc g #[p] assign body).wpIn Fence.wide n prog Q a w:=by
 have hlt:bs<w.heap.size/\bp<w.heap.size/\bv<w.heap.size:=⟨(ax.1 F.s).1,(ax.1 F.p).1,(ax.1 F.v).1⟩;refine wpIn_rangeFunc ?_;intro fn Z;obtain⟨rec,hrec⟩:∃rec:LoopState->Option Code->Loop,rec=JK fn a.tmps #[p] assign body w.heap.size:=⟨_,rfl⟩;obtain⟨d,hW1⟩:∃d,(w.alloc (.deferred (some []))).alloc (.loop (rec .ready none))=d:=⟨_,rfl⟩
 have U:d.heap[w.heap.size+1]?=some (.loop (rec .ready none)):=by
  rw[<-hW1];have:=World.alloc_heap_new (w.alloc (.deferred (some []))) (.loop (rec .ready none));rwa [World.size_alloc]at this
 have hK1:d.heap[w.heap.size]?=some (.deferred (some [])):=by
  rw[<-hW1];exact(gL _ _ _ (by simp)).trans (World.alloc_heap_new w _)
 have V:I 0 d:=by
  rw[<-hW1];exact r 0 _ _ none (r 0 _ _ none h0 (iV _ _ _) (λ_ e=>by cases e)) (iV _ _ _) (λ_ e=>by cases e)
 have L:kI d bs bp bv (aA ls):=by
  refine F.still (λk f=>?_)
  have N:k<w.heap.size:=by rcases f with rfl|rfl|rfl <;>omega
  rw[<-hW1];exact(gL _ _ _ (by simp;omega)).trans (gL _ _ _ N)
 refine⟨w.heap.size+1,[{ target:= .collected w.heap.size,args:= #[]}],d,{ target:= .fn (.func 237) #[.pointer (some ⟨bp,0,none⟩),.pointer (some ⟨bs,0,none⟩),.pointer (some ⟨bv,0,none⟩)],args:= #[.func (.yield (w.heap.size+1)) #[] #[]]},d,237,
  #[.func (.yield (w.heap.size+1)) #[] #[],.pointer (some ⟨bp,0,none⟩),.pointer (some ⟨bs,0,none⟩),.pointer (some ⟨bv,0,none⟩)],d,?_,?_,?_,?_,λ_=>by omega,?_⟩
 .rw[<-hW1,hrec];exact run_enterLoop_outer _ _ _ _ _
 .simp only[resolve,hg];simp[go_sem]
 .intro f' _;trivial
 .simp[invoke,go_sem]
 .refine(LC WX (n -1) (by omega) (w.heap.size+1) bs bp bv ls G hls X
   (λi W=>I i W/\W.heap[w.heap.size+1]?=some (.loop (rec .ready none))/\W.heap[w.heap.size]?=some (.deferred (some [])))
   (λi A B z j=>⟨r i A B _ z.1 j (λk e=>by cases e;exact .inl rfl),(j.block _ (ax.1 z.2.1).1 (by simp;omega)).trans z.2.1,(j.block _ (ax.1 z.2.2).1 (by simp;omega)).trans z.2.2⟩)
   ?_ d L ⟨V,U,hK1⟩).mono ?_
  .rintro i x rest W ⟨hi,u,f⟩ hx H;have C:w.heap.size+1<W.heap.size:=(ax.1 u).1;have Y:=run_yield (P:=prog) (args:= #[.string ⟨x.toArray⟩]) u (by rw[hrec];rfl);rw[hrec]at Y;refine⟨fn,_,assign,body,Y,roundIn_of_wpIn Z (b x W _ ⟨_,run_beginRound u (by rw[hrec];rfl),?_⟩)⟩;clear Y;have R:(W.putObj (w.heap.size+1) (.loop { rec .ready none with state:= .busy})).heap[w.heap.size+1]?=some (.loop { rec .ready none with state:= .busy}):=World.putObj_heap_same C;have M:(W.putObj (w.heap.size+1) (.loop { rec .ready none with state:= .busy})).heap[w.heap.size]?=some (.deferred (some [])):=(World.putObj_heap_other (by omega)).trans f;have T:I i (W.putObj (w.heap.size+1) (.loop { rec .ready none with state:= .busy})):=r i _ _ _ hi (grownBy_putObj' W _ _) (λk e=>by cases e;exact .inr rfl);refine wpIn_mono (o i x _ hx T (by simp;omega)) ?_;rintro e a3 W3 q
   cases e with
   |normal=>
    obtain⟨hi3,hs3,m⟩:=q;have y:=(m _ (.inr (.inr (.inr (.inr rfl))))).trans R;have S:=(m _ (.inr (.inr (.inr (.inl rfl))))).trans M;have hr:=run_endRound (P:=prog) none y;have E:=(ax.1 y).1;refine⟨_,_,hr,rfl,⟨r (i+1) _ _ _ hi3 (grownBy_putObj' W3 _ _) (λk e=>by cases e;exact .inr rfl),?_,(World.putObj_heap_other (by omega)).trans S⟩,?_⟩
    .rw[World.putObj_heap_same E,hrec];rfl
    .refine H.still (λk f=>?_)
     have h:k≠w.heap.size+1:=by rcases f with rfl|rfl|rfl <;>omega
     refine(World.putObj_heap_other h).trans ((m k ?_).trans (World.putObj_heap_other h))
     rcases f with rfl|rfl|rfl
     .exact .inl rfl
     .exact .inr (.inl rfl)
     .exact .inr (.inr (.inl rfl))
   |ret=>exact q.elim
   |exit id=>exact q.elim
   |goto t=>exact q.elim
   |panic ch=>exact q.elim
   |outgrown=>exact q.elim
  .rintro e W2 ⟨⟨v,rfl⟩,hi,u,f⟩;exact⟨none,_,by have:=run_endLoop (P:=prog) u (by rw[hrec];simp[JK]);rw[hrec]at this;exact this,l _ (r _ _ _ _ hi (grownBy_putObj' W2 _ _) (λk e=>by cases e;exact .inr rfl)) ((World.putObj_heap_other (by omega)).trans f)⟩
theorem CG(s sep:ByteArray)(w:World):Calls prog 89 #[.string s,.string sep] w λe a=>
  e=.returned (.func (.func 237) #[] #[.pointer (some ⟨w.heap.size+1,0,none⟩),.pointer (some ⟨w.heap.size,0,none⟩),.pointer (some ⟨w.heap.size+2,0,none⟩)])/\
  a=((w.alloc (.cells #[.string s] 9)).alloc (.cells #[.string sep] 9)).alloc (.cells #[.int .i64 0] 3):=by
 go_enter func89,ntmps89;go_wp2;go_ret;exact⟨rfl,rfl⟩
end
section
open Go.Proofs.Tryz Go.Joins Go.RowKit Go.Sort
variable{W:World}{d k:Nat}{hd:ByteArray}
theorem tK:Maps.Keyed prog 9:=Maps.string_keyed underlying9
def Ip:DataW Unit:=((((((((DataW.map []).put (.string [112,108,97,110]) (.lit (.int .i64 3))).put (.string [102,101,100]) (.lit (.int .i64 3))).put (.string [109,97,114,107,115]) (.lit (.int .i64 2))).put (.string [114,111,119]) (.lit (.int .i64 5))).put (.string [111,117,116,32,49]) (.lit (.int .i64 3))).put (.string [111,117,116,32,50]) (.lit (.int .i64 3))).put (.string [111,117,116,32,51]) (.lit (.int .i64 6))).put (.string [101,110,100]) (.lit (.int .i64 0))
def nH(W:World)(d:Nat):Prop:=W.ownsMap prog 9 (plainElem (H:=Unit) prog 3) d 8 Ip
theorem nH.still{a:World}(h:nH W d)(f:a.heap[d]?=W.heap[d]?):nH a d:=by
 obtain⟨e,c,b,g⟩:=h;exact⟨e,c,f.trans b,g⟩
inductive jN:ByteArray->Nat->Prop
 |plan:jN ⟨#[112,108,97,110]⟩ 3
 |fed:jN ⟨#[102,101,100]⟩ 3
 |marks:jN ⟨#[109,97,114,107,115]⟩ 2
 |row:jN ⟨#[114,111,119]⟩ 5
 |left:jN ⟨#[111,117,116,32,49]⟩ 3
 |right:jN ⟨#[111,117,116,32,50]⟩ 3
 |pair:jN ⟨#[111,117,116,32,51]⟩ 6
 |fin:jN ⟨#[101,110,100]⟩ 0
theorem X8(s:ByteArray)(hs:s.size<=100):keyOf prog 9 (.string s)=some (.string s.data.toList):=by
 simp[keyOf,underlying9,mapKey];unfold maxLen;omega
theorem Pz(a:jN hd k):Ip.atKey (.string hd.data.toList) (.lit (.int .i64 0))=.lit (.int .i64 k)/\Maps.has Ip (.string hd.data.toList)=true:=by
 cases a <;>exact⟨by kernel_rfl,by kernel_rfl⟩
theorem qI(h:nH W d)(f:jN hd k):(Instr.lookup 152 (.map (some d)) (.string hd) true).run prog W=.ok (.tuple #[.int .i64 k,.bool true]) W:=by
 obtain⟨v,ps,e,g⟩:=h.look_ok tK underlying152 (Dl W) (plainElem_int underlying3 (q:= .i64) (a:=0) (by decide)) (X8 hd (by cases f <;>decide));obtain⟨c,rfl,b,_⟩:=plainElem_int_inv underlying3 g;have b:=congrArg Prod.fst b;obtain⟨j,i⟩:=Pz f;rw[j]at b;rw[e,i]
 injection b with b
 injection b with _ b
 rw[b]
theorem lG{b n:Nat}{D:DataW Unit}(h:W.ownsMap prog 9 (plainElem (H:=Unit) prog 3) b n D)(hn:n<100)(s:ByteArray)(k:Int)(hk:0<=k/\k<100)(e:s.size<=100):
  ∃c,(Instr.mapUpdate 152 (.map (some b)) (.string s) (.int .i64 k)).run prog W=.ok () c/\c.ownsMap prog 9 (plainElem (H:=Unit) prog 3) b (n+1) (D.put (.string s.data.toList) (.lit (.int .i64 k)))/\W.grownBy c (some b):=
 h.update tK underlying152 (by unfold maxLen;omega) (X8 s e) (plainElem_int underlying3 (q:= .i64) (a:=k) (by simp[Lit.wf,IntKind.min,IntKind.max,IntKind.signed,IntKind.bits];omega))
theorem EI(w:World):Calls prog 88 #[] w λe n=>e=.returned (.map (some w.heap.size))/\nH n w.heap.size/\Below w.heap.size w n:=by
 have hmm:= @run_makeMap prog;have p:=World.ownsMap_made w prog 9 (plainElem (H:=Unit) prog 3);obtain⟨w1,r1,s,h⟩:=lG p (by omega) ⟨#[112,108,97,110]⟩ 3 (by omega) (by decide);obtain⟨w2,r2,o,c⟩:=lG s (by omega) ⟨#[102,101,100]⟩ 3 (by omega) (by decide);obtain⟨w3,r3,C,j⟩:=lG o (by omega) ⟨#[109,97,114,107,115]⟩ 2 (by omega) (by decide);obtain⟨w4,r4,r,g⟩:=lG C (by omega) ⟨#[114,111,119]⟩ 5 (by omega) (by decide);obtain⟨w5,r5,u,i⟩:=lG r (by omega) ⟨#[111,117,116,32,49]⟩ 3 (by omega) (by decide);obtain⟨w6,r6,F,b⟩:=lG u (by omega) ⟨#[111,117,116,32,50]⟩ 3 (by omega) (by decide);obtain⟨w7,r7,t,f⟩:=lG F (by omega) ⟨#[111,117,116,32,51]⟩ 6 (by omega) (by decide);obtain⟨E,r8,y,x⟩:=lG t (by omega) ⟨#[101,110,100]⟩ 0 (by omega) (by decide)
 have L:Hid (nH E w.heap.size/\Below w.heap.size w E):=by
  refine⟨y,?_⟩
  have a:∀{A B:World},w.heap.size<=A.heap.size->A.grownBy B (some w.heap.size)->Below w.heap.size A B:=λN K=>(iL _ _).grown K N (λk e=>by cases e;exact aC _)
  have v:w.heap.size<=(w.alloc (.map #[] 0)).heap.size:=by simp
  have z:=aH v h.size;have q:=aH z c.size;have G:=aH q j.size;have m:=aH G g.size;have I:=aH m i.size;have l:=aH I b.size;have M:=aH l f.size;exact((((((((fC w _).trans (a v h)).trans (a z c)).trans (a q j)).trans (a G g)).trans (a m i)).trans (a I b)).trans (a l f)).trans (a M x)
 clear p s o C r u F t y h c j g i b f x;go_enter func88,ntmps88;go_wp2;go_ret;exact⟨rfl,L.out⟩
end
section
open Go.Proofs.Tryz Go.Joins Go.RowKit Go.Sort
abbrev bW(x:List UInt8):ByteArray:=⟨x.toArray⟩
abbrev zL:Obj:= .cells #[.string ⟨#[]⟩,.slice none 0 0] 169
theorem PI:(prog.info? 3).map (λi=>(i.zero,i.size,i.bytes))=some (some (.int .i64 0),1,8):=by kernel_rfl
theorem wM(k:Nat)(hk:k<=100):∃e:Array Value,e=(List.replicate k (Value.int .i64 0)).toArray/\∀W:World,(Instr.makeSlice 84 (.int .i64 k) (.int .i64 k)).run prog W=.ok (.slice (some ⟨W.heap.size,0,none⟩) k k) (W.alloc (.cells e 3)):=by
 obtain⟨g,hi,d,a,b⟩:=je PI;refine⟨_,rfl,λW=>?_⟩;have h:=run_makeSlice (P:=prog) (w:=W) 84 3 g (.int .i64 0) underlying84 hi d .i64 .i64 (k:Int) (k:Int) (by omega) (by omega) (by rw[a];omega) (by rw[b];omega) (by omega);rw[h,a];simp only[Int.toNat_natCast,Nat.mul_one];congr 3;apply Array.ext
 .simp[madeCells]
 .intro j h1 h2;simp[madeCells,Value.cells,Nat.mod_one]
structure Rd(w:World)(f off c bl:Nat)(hd:ByteArray)(k:Nat)(ns:List Int)(i:Nat)(W:World):Prop where
 low:Below w.heap.size w W
 res:W.heap[w.heap.size]?=some zL
 wrd:∀j n,ns[j]?=some n->W.cell? ⟨f,off+(j+1),none⟩=some (.string (bW (Lib.itoa n)))
 nums:W.heap[c]?=some (.cells ((ns.take i).map (Value.int .i64)++List.replicate (k -i) (Value.int .i64 0)).toArray 3)
 line:W.heap[bl]?=some (.cells #[.string hd,.slice (some ⟨c,0,none⟩) k k] 169)
 ge:w.heap.size<=c
 ngw:f≠c
theorem bV(w:World)(a b:Obj):((w.alloc a).alloc b).heap[w.heap.size]?=some a/\((w.alloc a).alloc b).heap[w.heap.size+1]?=some b:=by
 refine⟨(gL _ _ _ (by simp)).trans (eZ w _),?_⟩;have:=eZ (w.alloc a) b
 rwa [World.size_alloc]at this
section
variable{w:World}{f off c bl:Nat}{hd:ByteArray}{k:Nat}{ns:List Int}{i:Nat}{W l:World}
theorem Rd.lts(h:Rd w f off c bl hd k ns i W):w.heap.size<W.heap.size/\c<W.heap.size/\bl<W.heap.size:=⟨(ax.1 h.res).1,(ax.1 h.nums).1,(ax.1 h.line).1⟩
theorem Rd.nes(h:Rd w f off c bl hd k ns i W):w.heap.size≠c/\bl≠c:=by
 refine⟨λe=>?_,λe=>?_⟩
 .have a:=h.res;rw[e,h.nums]at a;simp at a
 .have a:=h.line;rw[e,h.nums]at a;simp at a
theorem Rd.below(h:Rd w f off c bl hd k ns i W)(a:Below W.heap.size W l):Rd w f off c bl hd k ns i l:=
 ⟨h.low.trans (a.mono h.low.size),(a.block _ h.lts.1).trans h.res,λj n b=>(a.cell (p:=⟨f,off+(j+1),none⟩) (World.block_lt_of_cell? _ _ (h.wrd j n b))).trans (h.wrd j n b),(a.block _ h.lts.2.1).trans h.nums,(a.block _ h.lts.2.2).trans h.line,h.ge,h.ngw⟩
theorem Rd.cells(h:Rd w f off c bl hd k ns i W)(hl:ns.length=k):W.cell? ⟨bl,0,none⟩=some (.string hd)/\W.cell? ⟨bl,1,none⟩=some (.slice (some ⟨c,0,none⟩) k k)/\W.cell? ⟨w.heap.size,0,none⟩=some (.string ⟨#[]⟩)/\W.cell? ⟨w.heap.size,1,none⟩=some (.slice none 0 0)/\W.frozen? ⟨w.heap.size,0,none⟩=false/\W.frozen? ⟨w.heap.size,1,none⟩=false/\W.frozen? ⟨c,i,none⟩=false/\(i<k->W.cell? ⟨c,i,none⟩=some (.int .i64 0)):=by
 refine⟨by rw[fq h.line];rfl,by rw[fq h.line];rfl,by rw[fq h.res];rfl,by rw[fq h.res];rfl,fV h.res 0,fV h.res 1,fV h.nums i,λhlt=>?_⟩;rw[fq h.nums,List.getElem?_toArray,dK (by simp;omega),List.getElem?_replicate,if_pos (by simp;omega)]
theorem Rd.store(h:Rd w f off c bl hd k ns i W)(hl:ns.length=k){n:Int}(d:ns[i]?=some n):Rd w f off c bl hd k ns (i+1) (W.setCell ⟨c,i,none⟩ (.int .i64 n)):=by
 have hi:i<ns.length:=(bP.1 d).1
 have b:∀j,j≠c->(W.setCell ⟨c,i,none⟩ (.int .i64 n)).heap[j]?=W.heap[j]? :=λj e=>iJ _ _ _ _ e
 refine⟨h.low.setCell (p:=⟨c,i,none⟩) h.ge _,(b _ h.nes.1).trans h.res,λj m g=>(World.cell?_of_block (w:=W) (a:=⟨f,off+(j+1),none⟩) (b f h.ngw)).trans (h.wrd j m g),?_,(b _ h.nes.2).trans h.line,h.ge,h.ngw⟩;rw[fZ h.nums];congr 2;simp only[List.setIfInBounds_toArray];congr 1;rw[List.take_add_one,d,List.set_append_right _ _ (by simp;omega)];simp only[List.map_append,List.append_assoc,Option.toList_some,List.map_cons,List.map_nil,List.length_map,List.length_take,List.singleton_append];congr 1;obtain⟨r,hr⟩:∃r,k -i=r+1:=⟨k -i -1,by omega⟩;rw[hr,show i -min i ns.length=0 by omega,List.replicate_succ,List.set_cons_zero,show k -(i+1)=r by omega]
end
abbrev aan(w:World)(hd:List UInt8)(k:Nat)(ns:List Int)(e:Ending)(w':World):Prop:=∃g,e=.returned (.tuple #[.agg #[.string (bW hd),.slice (some ⟨g,0,none⟩) k k],.bool true])/\w'.heap[g]?=some (.cells (ns.map (Value.int .i64)).toArray 3)/\w.heap.size<=g/\Below w.heap.size w w'
theorem aaa{w d:World}{off k:Nat}{hd:ByteArray}{g:Array Value}{ns:List Int}(q:Below w.heap.size w d/\d.heap[w.heap.size]?=some zL/\∀j n,ns[j]?=some n->d.cell? ⟨w.heap.size+1,off+(j+1),none⟩=some (.string (bW (Lib.itoa n))))(m:g=(List.replicate k (Value.int .i64 0)).toArray)(e:w.heap.size+1<d.heap.size):
  Rd w (w.heap.size+1) off d.heap.size (d.heap.size+1) hd k ns 0 (((d.alloc (.cells g 3)).alloc (.cells #[.string hd,.slice (some ⟨d.heap.size,0,none⟩) k k] 169)).drew)/\Rd w (w.heap.size+1) off (d.heap.size+1) d.heap.size hd k ns 0 (((d.alloc (.cells #[.string hd,.slice (some ⟨d.heap.size+1,0,none⟩) k k] 169)).alloc (.cells g 3)).drew):=by
 obtain⟨h,s,o⟩:=q
 have key:∀a b:Obj,Below d.heap.size d (((d.alloc a).alloc b).drew)/\((d.alloc a).alloc b).drew.heap[d.heap.size]?=some a/\((d.alloc a).alloc b).drew.heap[d.heap.size+1]?=some b:=λa b=>⟨(fK _ _ _).drew,(bV d a b).1,(bV d a b).2⟩
 constructor
 all_goals
  refine⟨h.trans ((key _ _).1.mono h.size),((key _ _).1.block _ (by omega)).trans s,λj n r=>((key _ _).1.cell (p:=⟨w.heap.size+1,off+(j+1),none⟩) e).trans (o j n r),?_,?_,by omega,by omega⟩
  all_goals first|exact(key _ _).2.1|exact(key _ _).2.2|(rw[(key _ _).2.1,m];simp;done)|(rw[(key _ _).2.2,m];simp;done)
theorem aae(k:Nat)(hk1:1<=k)(ns:List Int)(M:ns.length=k)(h64:∀n∈ns,-9223372036854775808<=n/\n<=9223372036854775807)(Q:Nat)(w:World)(hK:nH w Q)(Eu:Q<w.heap.size)
  (M7:∀(s sep:ByteArray) (W:World),Below w.heap.size w W->s.size<4294967281->1<=sep.size->Calls prog 80 #[.string s,.string sep] W λe q=>e=.returned (.slice (some ⟨W.heap.size,0,none⟩) (Lib.countB s sep+1) (Lib.countB s sep+1))/\q=W.alloc (.cells ((Lib.splitB sep 0 (Lib.countB s sep) s).map Value.string).toArray 9))
  (Ya:∀(n:Int) (W:World),-9223372036854775808<=n/\n<=9223372036854775807->Calls prog 161 #[.string (bW (Lib.itoa n))] W λe q=>e=.returned (.tuple #[.int .i64 n,.nilIface])/\Below W.heap.size W q):
  (∀hd:List UInt8,jN (bW hd) k->(32:UInt8)∉hd->hd≠[111,117,116]->(dW hd (ns.map Lib.itoa)).length<4294967281->Calls prog 91 #[.string (bW (dW hd (ns.map Lib.itoa))),.map (some Q)] w (aan w hd k ns))/\
  (∀(d:UInt8) (hd:List UInt8),hd=[111,117,116,32,d]->d≠32->jN (bW hd) k->(dW [111,117,116] ([d]::ns.map Lib.itoa)).length<4294967281->Calls prog 91 #[.string (bW (dW [111,117,116] ([d]::ns.map Lib.itoa))),.map (some Q)] w (aan w hd k ns)):=by
 have r:∀x∈ns.map Lib.itoa,(32:UInt8)∉x:=λx V=>by
  obtain⟨n,_,rfl⟩:=dH.1 V;exact CJ n 32 (by decide)
 have two:∀L:List Value,w.heap.size+1<((w.alloc zL).alloc (.cells L.toArray 9)).heap.size/\Below w.heap.size w ((w.alloc zL).alloc (.cells L.toArray 9))/\((w.alloc zL).alloc (.cells L.toArray 9)).heap[w.heap.size]?=some zL/\((w.alloc zL).alloc (.cells L.toArray 9)).heap[w.heap.size+1]?=some (.cells L.toArray 9):=λL=>⟨by simp,fK _ _ _,bV _ _ _⟩
 have F:=hid two;clear two
 constructor
 case' left=>
  intro hd K z ho H;obtain⟨off,HO⟩:∃off:Nat,Hid (off=0):=⟨0,rfl⟩
  have ZM:k<=6:=by cases K <;>omega
  have h0:(0:Int)<(k:Int):=by omega
  have hk0:k≠0:=by omega
  have h6:(k:Int)<=6:=by omega
  have N:=M7 (bW (dW hd (ns.map Lib.itoa))) ⟨#[32]⟩ (w.alloc zL) (fC _ _) (by show(dW hd (ns.map Lib.itoa)).toArray.size<_;simpa using H) (by decide);rw[mR hd _ z r,vM _ hd z r,List.length_map,M]at N
  have hne:(hd==[111,117,116])=false:=by simpa using ho
  obtain⟨A,DD,hmk⟩:∃A:Array Value,Hid (A=(List.replicate k (Value.int .i64 0)).toArray)/\∀W:World,(Instr.makeSlice 84 (.int .i64 k) (.int .i64 k)).run prog W=.ok (.slice (some ⟨W.heap.size,0,none⟩) k k) (W.alloc (.cells A 3)):=wM k (by omega);go_enter func91,ntmps91;go_wp2_with fail;refine N.mono ?_;rintro e b ⟨rfl,rfl⟩;obtain⟨a,h,m,g⟩:=F.out (List.map Value.string (List.map (λx=>(⟨x.toArray⟩:ByteArray)) (hd::List.map Lib.itoa ns)));revert a h m g;generalize(w.alloc zL).alloc (.cells (List.map Value.string (List.map (λx=>(⟨x.toArray⟩:ByteArray)) (hd::List.map Lib.itoa ns))).toArray 9)=b;intro a h m g
  have o:b.cell? ⟨w.heap.size+1,0,none⟩=some (.string (bW hd)):=by rw[fq g];simp
  have U:=qI (hK.still (h.block Q Eu)) K
  have Z:w.heap.size<b.heap.size:=by omega
  have E:Hid (Below w.heap.size w b/\b.heap[w.heap.size]?=some zL/\∀j n,ns[j]?=some n->b.cell? ⟨w.heap.size+1,off+(j+1),none⟩=some (.string (bW (Lib.itoa n)))):=by
   refine⟨h,m,λj n hj=>?_⟩;rw[fq g,HO.out,Nat.zero_add];simp[hj]
  clear h m g F;simp only[World.size_alloc]at *;clear N ho K r;go_wp2
  go_region
  have R0:=(aaa (hd:=bW hd) E.out DD.out a).1;clear E U DD hmk o;revert R0;generalize(((b.alloc (.cells A 3)).alloc (.cells #[.string (bW hd),.slice (some ⟨b.heap.size,0,none⟩) k k] 169)).drew)=w2;generalize hbl:b.heap.size+1=bl;generalize hgs:b.heap.size=c
  rotate_left 1
  have R0:=(aaa (hd:=bW hd) E.out DD.out a).2;clear E U DD hmk o;revert R0;generalize(((b.alloc (.cells #[.string (bW hd),.slice (some ⟨b.heap.size+1,0,none⟩) k k] 169)).alloc (.cells A 3)).drew)=w2;generalize hgs:b.heap.size+1=c;generalize hbl:b.heap.size=bl
 case' right=>
  intro d hd Y S K H;have HD:=hid Y;clear Y;obtain⟨off,HO⟩:∃off:Nat,Hid (off=1):=⟨1,rfl⟩
  have ZM:k<=6:=by cases K <;>omega
  have h0:(0:Int)<(k:Int):=by omega
  have hk0:k≠0:=by omega
  have h6:(k:Int)<=6:=by omega
  have z:(32:UInt8)∉[111,117,116]:=by decide
  have hw:∀x∈[d]::ns.map Lib.itoa,(32:UInt8)∉x:=λx V=>by
   rcases dM.1 V with rfl|V
   .simpa using Ne.symm S
   .exact r x V
  have N:=M7 (bW (dW [111,117,116] ([d]::ns.map Lib.itoa))) ⟨#[32]⟩ (w.alloc zL) (fC _ _) (by show(dW [111,117,116] ([d]::ns.map Lib.itoa)).toArray.size<_;simpa using H) (by decide);rw[mR _ _ z hw,vM _ _ z hw,List.length_cons,List.length_map,M]at N;obtain⟨A,DD,hmk⟩:∃A:Array Value,Hid (A=(List.replicate k (Value.int .i64 0)).toArray)/\∀W:World,(Instr.makeSlice 84 (.int .i64 k) (.int .i64 k)).run prog W=.ok (.slice (some ⟨W.heap.size,0,none⟩) k k) (W.alloc (.cells A 3)):=wM k (by omega);go_enter func91,ntmps91;go_wp2_with fail;refine N.mono ?_;rintro e b ⟨rfl,rfl⟩;obtain⟨a,h,m,g⟩:=F.out (List.map Value.string (List.map (λx=>(⟨x.toArray⟩:ByteArray)) ([111,117,116]::[d]::List.map Lib.itoa ns)));revert a h m g;generalize(w.alloc zL).alloc (.cells (List.map Value.string (List.map (λx=>(⟨x.toArray⟩:ByteArray)) ([111,117,116]::[d]::List.map Lib.itoa ns))).toArray 9)=w0;intro a h m g
  have o:w0.cell? ⟨w.heap.size+1,0,none⟩=some (.string ⟨#[111,117,116]⟩):=by rw[fq g];rfl
  have hc1:w0.cell? ⟨w.heap.size+1,1,none⟩=some (.string ⟨#[d]⟩):=by rw[fq g];rfl
  have hf1:w0.frozen? ⟨w.heap.size+1,1,none⟩=false:=fV g 1
  have k1:(1:Int)<(k:Int)+1+1:=by omega
  have Z:w.heap.size<w0.heap.size:=by omega
  simp only[World.size_alloc]at *;clear N hw r F
  have ec:((⟨#[111,117,116,32]⟩:ByteArray)++⟨#[d]⟩)=bW hd:=by rw[HD.out];exact yE (by simp)
  have T:∀j,j≠w.heap.size+1->(w0.setCell ⟨w.heap.size+1,1,none⟩ (.string (bW hd))).heap[j]?=w0.heap[j]? :=λj e=>iJ _ _ _ _ e
  have C:=fZ (i:=1) g (.string (bW hd));have t:Below w.heap.size w (w0.setCell ⟨w.heap.size+1,1,none⟩ (.string (bW hd))):=h.setCell (p:=⟨w.heap.size+1,1,none⟩) (by simp) _;have G:=(T w.heap.size (by omega)).trans m
  have y:(w0.setCell ⟨w.heap.size+1,1,none⟩ (.string (bW hd))).heap.size=w0.heap.size:=by simp
  have R:=qI (hK.still (t.block Q Eu)) K;go_wp2;clear o hc1 hf1 ec h m g T R;revert C t G y;generalize(w0.setCell ⟨w.heap.size+1,1,none⟩ (.string (bW hd)))=b;intro C t G y
  have l1:w.heap.size+1<b.heap.size:=by omega
  have l0:w.heap.size<b.heap.size:=by omega
  clear y Z a;have a:=l1;have Z:=l0;clear l1 l0
  have o:b.cell? ⟨w.heap.size+1,1,none⟩=some (.string (bW hd)):=by rw[fq C];simp
  have E:Hid (Below w.heap.size w b/\b.heap[w.heap.size]?=some zL/\∀j n,ns[j]?=some n->b.cell? ⟨w.heap.size+1,off+(j+1),none⟩=some (.string (bW (Lib.itoa n)))):=by
   refine⟨t,G,λj n hj=>?_⟩;rw[fq C,HO.out,show 1+(j+1)=j+1+1 by omega];simp[hj]
  clear t G C K HD
  go_region
  have R0:=(aaa (hd:=bW hd) E.out DD.out a).1;clear E DD hmk o;revert R0;generalize(((b.alloc (.cells A 3)).alloc (.cells #[.string (bW hd),.slice (some ⟨b.heap.size,0,none⟩) k k] 169)).drew)=w2;generalize hbl:b.heap.size+1=bl;generalize hgs:b.heap.size=c
  rotate_left 1
  have R0:=(aaa (hd:=bW hd) E.out DD.out a).2;clear E DD hmk o;revert R0;generalize(((b.alloc (.cells #[.string (bW hd),.slice (some ⟨b.heap.size+1,0,none⟩) k k] 169)).alloc (.cells A 3)).drew)=w2;generalize hgs:b.heap.size+1=c;generalize hbl:b.heap.size=bl
 all_goals
  intro R0;clear hgs hbl Z a;have L:=R0.lts;have hc:=R0.cells M;have RR:=hid R0;clear R0;go_wp2
  go_loopg [60] k (λgg Pp wr=>∃i:Nat,i<=k/\gg=k -i/\Pp=.int .i64 i/\Hid (Rd w (w.heap.size+1) off c bl (bW hd) k ns i wr))
  case atStart=>exact⟨0,aW _,rfl,rfl,RR⟩
  case round=>
   obtain⟨i,hile,iU,rfl,I⟩:=hrel;have HG:=hid iU;clear iU RR hc L
   by_cases hlt2:i<k
   .obtain⟨n,hin⟩:∃n,ns[i]?=some n:=⟨_,aO (by omega)⟩;have X:=I.out.wrd i n hin
    first|rw[show off+(i+1)=1+i by have:=HO.out;omega]at X|rw[show off+(i+1)=2+i by have:=HO.out;omega]at X
    have j1:(0:Int)<=(i:Int):=by omega
    have j2:(i:Int)<(k:Int):=by omega
    have j3:(i:Int)+1<(k:Int)+1:=by omega
    have HA:Hid (Calls prog 161 #[.string (bW (Lib.itoa n))] wr λe q=>e=.returned (.tuple #[.int .i64 n,.nilIface])/\(q.cell? ⟨bl,1,none⟩=some (.slice (some ⟨c,0,none⟩) k k)/\q.cell? ⟨c,i,none⟩=some (.int .i64 0)/\q.frozen? ⟨c,i,none⟩=false)/\Hid (Rd w (w.heap.size+1) off c bl (bW hd) k ns i q)):=by
     refine(Ya n wr (h64 n (cZ hin))).mono ?_;rintro e q ⟨rfl,hb⟩;have B:=I.out.below hb;have P:=B.cells M;exact⟨rfl,⟨P.2.1,P.2.2.2.2.2.2.2 hlt2,P.2.2.2.2.2.2.1⟩,B⟩
    have HS:Hid (∀q,Hid (Rd w (w.heap.size+1) off c bl (bW hd) k ns i q)->Rd w (w.heap.size+1) off c bl (bW hd) k ns (i+1) (q.setCell ⟨c,i,none⟩ (.int .i64 n))):=λq hI=>hI.out.store M hin
    clear I hin
    go_wp2_with (first
     |(go_at_call 161;refine HA.out.mono ?_;rintro e w3 ⟨rfl,hc3,h3⟩)
     |fail)
    go_roundg (k -(i+1))
    all_goals first
     |(have:=HG.out;omega)
     |exact⟨i+1,by omega,rfl,by first|rfl|(congr 1;omega)|go_num,HS.out _ h3⟩
   .have j2:¬((i:Int)<(k:Int)):=by omega
    obtain rfl:i=k:=by omega
    have B:=I.out;have P:=B.cells M;clear I
    have HF:Hid (∀u v,(((wr.setCell ⟨w.heap.size,0,none⟩ u).setCell ⟨w.heap.size,1,none⟩ v).heap[c]?=some (.cells (ns.map (Value.int .i64)).toArray 3))/\w.heap.size<=c/\Below w.heap.size w ((wr.setCell ⟨w.heap.size,0,none⟩ u).setCell ⟨w.heap.size,1,none⟩ v)):=by
     intro u v;refine⟨?_,B.ge,(B.low.setCell (p:=⟨w.heap.size,0,none⟩) (aC _) _).setCell (p:=⟨w.heap.size,1,none⟩) (aC _) _⟩;rw[iJ _ _ _ _ (Ne.symm B.nes.1),iJ _ _ _ _ (Ne.symm B.nes.1),B.nums,<-M,List.take_length];simp
    have l2:=B.lts;clear B;go_wp2
    have hx0:((wr.setCell ⟨w.heap.size,0,none⟩ (.string (bW hd))).setCell ⟨w.heap.size,1,none⟩ (.slice (some ⟨c,0,none⟩) i i)).cell? ⟨w.heap.size,0,none⟩=some (.string (bW hd)):=by
     rw[World.cell?_setCell_other _ _ _ _ (by simp)];exact World.cell?_setCell_same' _ _ _ (by rw[P.2.2.1];rfl)
    have hx1:((wr.setCell ⟨w.heap.size,0,none⟩ (.string (bW hd))).setCell ⟨w.heap.size,1,none⟩ (.slice (some ⟨c,0,none⟩) i i)).cell? ⟨w.heap.size,1,none⟩=some (.slice (some ⟨c,0,none⟩) i i):=by
     exact World.cell?_setCell_same' _ _ _ (by rw[World.cell?_setCell_other _ _ _ _ (by simp),P.2.2.2.1];rfl)
    refine ja (v:= .tuple #[.agg #[.string (bW hd),.slice (some ⟨c,0,none⟩) i i],.bool true]) (by simp[results,Tryz.results91,go_sem,hx0,hx1]) rfl ⟨c,rfl,HF.out _ _⟩
end
end Go.Proofs.YthfpipieboophaaGreatDoor
