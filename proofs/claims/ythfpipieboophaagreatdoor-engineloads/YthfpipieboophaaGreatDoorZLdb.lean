import Derived.Test.YthfpipieboophaaGreatDoorZLde
import Derived.Test.YthfpipieboophaaGreatDoorLdu
import Derived.Test.YthfpipieboophaaGreatDoorZSvf
import Derived.Test.YthfpipieboophaaGreatDoorZAs
namespace Go.Proofs.YthfpipieboophaaGreatDoor
set_option maxRecDepth 100000
set_option maxHeartbeats 40000000
open Go.RowKit Go.Sort Go.Shelf
section
open Go.Proofs.Tryz Go.Joins
attribute [local go_sem] Oper.semAt_some
structure Bd(w:World)(f d:Nat)(m:Value)(W:World):Prop where
 low:Below w.heap.size w W
 r1:W.heap[w.heap.size]?=some (.cells #[.pointer none] 27)
 r2:W.heap[w.heap.size+1]?=some (.cells #[.bool false] 4)
 re:W.heap[w.heap.size+1+1]?=some (.cells #[m] 27)
 rk:W.heap[f]?=some (.cells #[.map (some d)] 152)
 kn:nH W d
 kb3:w.heap.size+3<=f
 bm3:w.heap.size+3<=d
section
variable{w:World}{f d:Nat}{m:Value}{W o:World}
theorem Bd.lts(h:Bd w f d m W):w.heap.size+2<W.heap.size/\f<W.heap.size/\d<W.heap.size:=by
 refine⟨(ax.1 h.re).1,(ax.1 h.rk).1,?_⟩;obtain⟨es,c,a,_⟩:=h.kn;exact(ax.1 a).1
theorem Bd.still(h:Bd w f d m W)(b:Below w.heap.size W o)(a:∀k,k=w.heap.size∨k=w.heap.size+1∨k=w.heap.size+1+1∨k=f∨k=d->o.heap[k]?=W.heap[k]?):Bd w f d m o:=
 ⟨h.low.trans b,(a _ (.inl rfl)).trans h.r1,(a _ (.inr (.inl rfl))).trans h.r2,(a _ (.inr (.inr (.inl rfl)))).trans h.re,(a _ (.inr (.inr (.inr (.inl rfl))))).trans h.rk,h.kn.still (a _ (.inr (.inr (.inr (.inr rfl))))),h.kb3,h.bm3⟩
theorem Bd.below(h:Bd w f d m W)(a:Below W.heap.size W o):Bd w f d m o:=by
 have l:=h.lts;refine h.still (a.mono (by omega)) (λk b=>a.block k ?_)
 rcases b with rfl|rfl|rfl|rfl|rfl <;>omega
theorem Bd.cells(h:Bd w f d m W):W.cell? ⟨w.heap.size,0,none⟩=some (.pointer none)/\W.cell? ⟨w.heap.size+1,0,none⟩=some (.bool false)/\W.cell? ⟨w.heap.size+1+1,0,none⟩=some m/\W.cell? ⟨f,0,none⟩=some (.map (some d))/\W.frozen? ⟨w.heap.size,0,none⟩=false/\W.frozen? ⟨w.heap.size+1,0,none⟩=false/\W.frozen? ⟨w.heap.size+1+1,0,none⟩=false:=
 ⟨by rw[fq h.r1];rfl,by rw[fq h.r2];rfl,by rw[fq h.re];rfl,by rw[fq h.rk];rfl,fV h.r1 0,fV h.r2 0,fV h.re 0⟩
theorem Bd.put(h:Bd w f d m W)(u:Value):Bd w f d u (W.setCell ⟨w.heap.size+1+1,0,none⟩ u):=by
 have c:∀j,j≠w.heap.size+1+1->(W.setCell ⟨w.heap.size+1+1,0,none⟩ u).heap[j]?=W.heap[j]? :=λj e=>iJ _ _ _ _ e
 have a:=h.kb3;have b:=h.bm3;refine⟨h.low.setCell (p:=⟨w.heap.size+1+1,0,none⟩) (by show w.heap.size<=w.heap.size+1+1;omega) _,(c _ (by omega)).trans h.r1,(c _ (by omega)).trans h.r2,?_,(c _ (by omega)).trans h.rk,h.kn.still (c _ (by omega)),a,b⟩;rw[fZ h.re];rfl
end
def Bi(P:Nat->Nat->(Nat->Prop)->World->Prop)(w:World)(f d:Nat)(B:Nat)(i:Nat)(W:World):Prop:=
 ∃m,Bd w f d m W/\((i=0/\m=.pointer none)∨∃be S,1<=i/\m=.pointer (some ⟨be,0,none⟩)/\P i be S W/\∀k,S k->B<=k/\k<W.heap.size)
theorem Bi.grown{P:Nat->Nat->(Nat->Prop)->World->Prop}(s:∀i be,tV (P i be)){w:World}{f d B i:Nat}{W o:World}{row:Option Nat}(h:Bi P w f d B i W)(b:W.grownBy o row)(g:∀k,row=some k->w.heap.size+3<=k/\k≠f/\k≠d/\k<B):Bi P w f d B i o:=by
 obtain⟨m,q,c⟩:=h;have l:=q.lts;have r:Below w.heap.size W o:=(iL _ _).grown b (by omega) (λk e=>by have:=(g k e).1;omega);refine⟨m,q.still r (λk a=>b.block k ?_ (λe=>?_)),?_⟩
 .rcases a with rfl|rfl|rfl|rfl|rfl <;>omega
 .obtain⟨p,j,n,_⟩:=g k e.symm
  rcases a with rfl|rfl|rfl|rfl|rfl <;>omega
 .rcases c with c|⟨be,S,p,j,n,h4⟩
  .exact .inl c
  .refine .inr ⟨be,S,p,j,s i be S W o n b.size (λk a=>b.block k (h4 k a).2 (λe=>?_)),λk a=>⟨(h4 k a).1,aR (h4 k a).2 b.size⟩⟩;have:=(g k e.symm).2.2.2;have:=(h4 k a).1;omega
theorem Pg(WX:∀(s:ByteArray) (c:UInt8) (w:World),Calls prog 154 #[.string s,.string ⟨#[c]⟩] w λe b=>e=.returned (.int .i64 (Lib.indexByte s.data.toList c))/\b=w)
  (HTr:∀(s p:ByteArray) (w:World),s.size<=9223372036854775807->Calls prog 90 #[.string s,.string p] w λe b=>e=.returned (.string ⟨(Lib.trimSuffix s.data.toList p.data.toList).toArray⟩)/\b=w)
  (P:Nat->Nat->(Nat->Prop)->World->Prop) (hP:∀i be,tV (P i be)) (ls:List (ByteArray×List Int)) (u:ByteArray×List Int->List UInt8) (w:World)
  (T:ls≠[]) (h10:∀p∈ls,(10:UInt8)∉u p) (hsz:(ls.flatMap λp=>u p++[10]).length<=1000000)
  (ZL:∀(i:Nat) p d W,ls[i]?=some p->Below w.heap.size w W->nH W d->d<W.heap.size->Calls prog 91 #[.string ⟨(u p).toArray⟩,.map (some d)] W λe b=>∃g,e=.returned (.tuple #[.agg #[.string p.1,.slice (some ⟨g,0,none⟩) p.2.length p.2.length],.bool true])/\b.heap[g]?=some (.cells (p.2.map (Value.int .i64)).toArray 3)/\W.heap.size<=g/\Below W.heap.size W b)
  (HS:∀p g W,ls[0]?=some p->Below w.heap.size w W->W.heap[g]?=some (.cells (p.2.map (Value.int .i64)).toArray 3)->Calls prog 93 #[.agg #[.string p.1,.slice (some ⟨g,0,none⟩) p.2.length p.2.length]] W λe b=>∃be S,e=.returned (.tuple #[.pointer (some ⟨be,0,none⟩),.bool true])/\P 1 be S b/\(∀k,S k->W.heap.size<=k/\k<b.heap.size)/\Below W.heap.size W b)
  (HR:∀(i:Nat) p be S g W,1<=i->ls[i]?=some p->Below w.heap.size w W->P i be S W->W.heap[g]?=some (.cells (p.2.map (Value.int .i64)).toArray 3)->¬S g->Calls prog 92 #[.pointer (some ⟨be,0,none⟩),.agg #[.string p.1,.slice (some ⟨g,0,none⟩) p.2.length p.2.length]] W λe b=>e=.returned (.bool true)/\∃S',P (i+1) be S' b/\(∀k,S' k->(S k∨W.heap.size<=k)/\k<b.heap.size)/\Turned S W b):
  Calls prog 42 #[.string ⟨(ls.flatMap λp=>u p++[10]).toArray⟩] w λe b=>∃be S,e=.returned (.tuple #[.pointer (some ⟨be,0,none⟩),.bool true])/\P ls.length be S b/\(∀k,S k->w.heap.size<=k/\k<b.heap.size)/\Below w.heap.size w b:=by
 have e10:∀l:List (ByteArray×List Int),(l.flatMap λp=>u p++[10])=(l.map u).flatMap λx=>x++[10]:=λl=>by rw[List.flatMap_map]
 have htr:∀W,Calls prog 90 #[.string ⟨(ls.flatMap λp=>u p++[10]).toArray⟩,.string ⟨#[10]⟩] W λe b=>e=.returned (.string ⟨(aA (ls.map u)).toArray⟩)/\b=W:=by
  intro W;refine(HTr _ ⟨#[10]⟩ W (by show(ls.flatMap λp=>u p++[10]).toArray.size<=_;simp only[List.size_toArray];omega)).mono ?_;rintro e b ⟨rfl,h⟩;refine⟨?_,h⟩;show _=Ending.returned (Value.string ⟨(aA (ls.map u)).toArray⟩);simp only;rw[e10];obtain⟨p,t,rfl⟩:=List.exists_cons_of_ne_nil T;rw[List.map_cons,A7]
 have hlen:(aA (ls.map u)).length<=1000000:=by
  have R:(aA (ls.map u)).length<=((ls.map u).flatMap λx=>x++[10]).length:=by
   obtain⟨p,t,rfl⟩:=List.exists_cons_of_ne_nil T;rw[List.map_cons,<-A7];unfold Lib.trimSuffix
   split
   .rw[List.length_take];omega
   .exact aC _
  rw[<-e10]at R;omega
 revert htr;generalize(⟨(ls.flatMap λp=>u p++[10]).toArray⟩:ByteArray)=txt;intro htr;clear e10 HTr hsz;refine(jf (n:=4)).1 ?_;refine callsIn_of_wp_marks func42 rfl trivial ?_ rfl;simp only[ntmps42,List.size_toArray,List.length_cons,List.length_nil,Nat.reduceAdd,Nat.reduceSub,Array.replicate_succ,Array.replicate_zero,List.push_toArray,List.append_toArray,List.nil_append,List.cons_append];have f83:Fence.wide.fn 88:=trivial;have f84:Fence.wide.fn 89:=trivial;have f85:Fence.wide.fn 90:=trivial
 gi_wp2_with (first
  |(gi_at_call 89;refine(jf.2 (CG _ _ _)).mono ?_;rintro e y ⟨rfl,B⟩;subst B)
  |(gi_at_call 90;refine(jf.2 (htr _)).mono ?_;rintro e w3 ⟨rfl,X⟩;have X:=X.symm;subst X)
  |(gi_at_call 88;refine(jf.2 (EI _)).mono ?_;rintro e q ⟨rfl,H,v⟩)
  |gi_in)
 have hW0:Below w.heap.size w (((w.alloc (.cells #[.pointer none] 27)).alloc (.cells #[.bool false] 4)).alloc (.cells #[.pointer none] 27)):=((fK _ _ _).alloc (by simp only[World.size_alloc];omega) _)
 have E:(((w.alloc (.cells #[.pointer none] 27)).alloc (.cells #[.bool false] 4)).alloc (.cells #[.pointer none] 27)).heap.size=w.heap.size+1+1+1:=by simp
 have q1:(((w.alloc (.cells #[.pointer none] 27)).alloc (.cells #[.bool false] 4)).alloc (.cells #[.pointer none] 27)).heap[w.heap.size]?=some (.cells #[.pointer none] 27):=(gL _ _ _ (by simp only[World.size_alloc];omega)).trans ((gL _ _ _ (by simp only[World.size_alloc];omega)).trans (eZ w _))
 have q2:(((w.alloc (.cells #[.pointer none] 27)).alloc (.cells #[.bool false] 4)).alloc (.cells #[.pointer none] 27)).heap[w.heap.size+1]?=some (.cells #[.bool false] 4):=by
  refine(gL _ _ _ (by simp only[World.size_alloc];omega)).trans ?_;have:=eZ (w.alloc (.cells #[.pointer none] 27)) (.cells #[.bool false] 4)
  rwa [World.size_alloc]at this
 have q3:(((w.alloc (.cells #[.pointer none] 27)).alloc (.cells #[.bool false] 4)).alloc (.cells #[.pointer none] 27)).heap[w.heap.size+1+1]?=some (.cells #[.pointer none] 27):=by
  have:=eZ ((w.alloc (.cells #[.pointer none] 27)).alloc (.cells #[.bool false] 4)) (.cells #[.pointer none] 27)
  rwa [World.size_alloc,World.size_alloc]at this
 have X6:∀(W:World),Below q.heap.size q W->W.heap[q.heap.size]?=some (.cells #[.map (some (w.heap.size+1+1+1))] 152)->Bd w q.heap.size (w.heap.size+1+1+1) (.pointer none) W:=by
  intro W hW hkb;have hz:=v.size;rw[E]at hz H;have F:=v.trans (hW.mono v.size);have l:=H.lt;exact⟨hW0.trans (F.mono (by rw[E];omega)),(F.block _ (by rw[E];omega)).trans q1,(F.block _ (by rw[E];omega)).trans q2,(F.block _ (by rw[E];omega)).trans q3,hkb,H.still (hW.block _ l),by omega,by omega⟩
 have hlo:w.heap.size+1+1+1<=q.heap.size:=by have:=v.size;rwa [E]at this
 clear hW0 E q1 q2 q3 H v;obtain⟨y,B⟩:∃y,((((q.alloc (.cells #[.map (some (w.heap.size+1+1+1))] 152)).alloc (.cells #[.string ⟨(aA (ls.map u)).toArray⟩] 9)).alloc (.cells #[.string ⟨#[10]⟩] 9)).alloc (.cells #[.int .i64 0] 3))=y:=⟨_,rfl⟩
 have hs4:y.heap.size=q.heap.size+4:=by rw[<-B];simp
 have hBx:kI y (q.heap.size+1) (q.heap.size+1+1) (q.heap.size+1+2) (aA (ls.map u)):=by
  rw[<-B];refine⟨?_,?_,?_,by omega,by omega⟩
  .refine(gL _ _ _ (by simp only[World.size_alloc];omega)).trans ((gL _ _ _ (by simp only[World.size_alloc];omega)).trans ?_);have:=eZ (q.alloc (.cells #[.map (some (w.heap.size+1+1+1))] 152)) (.cells #[.string ⟨(aA (ls.map u)).toArray⟩] 9)
   rwa [World.size_alloc]at this
  .refine(gL _ _ _ (by simp only[World.size_alloc];omega)).trans ?_;have:=eZ ((q.alloc (.cells #[.map (some (w.heap.size+1+1+1))] 152)).alloc (.cells #[.string ⟨(aA (ls.map u)).toArray⟩] 9)) (.cells #[.string ⟨#[10]⟩] 9)
   rwa [World.size_alloc,World.size_alloc]at this
  .have:=eZ (((q.alloc (.cells #[.map (some (w.heap.size+1+1+1))] 152)).alloc (.cells #[.string ⟨(aA (ls.map u)).toArray⟩] 9)).alloc (.cells #[.string ⟨#[10]⟩] 9)) (.cells #[.int .i64 0] 3)
   rwa [World.size_alloc,World.size_alloc,World.size_alloc]at this
 have N:Bd w q.heap.size (w.heap.size+1+1+1) (.pointer none) y:=by
  rw[<-B];refine X6 _ (((fK _ _ _).alloc (by simp only[World.size_alloc];omega) _).alloc (by simp only[World.size_alloc];omega) _) ?_;exact(gL _ _ _ (by simp only[World.size_alloc];omega)).trans ((gL _ _ _ (by simp only[World.size_alloc];omega)).trans ((gL _ _ _ (by simp only[World.size_alloc];omega)).trans (eZ q _)))
 have acp:w.heap.size+1+1+1<q.heap.size+4:=by omega
 have acr:y.heap.size<=q.heap.size+4:=by omega
 have acs:q.heap.size+4<=y.heap.size:=by omega
 clear hs4;rw[B];clear B X6
 refine EJ WX (n:=4) (by omega) (bs:=q.heap.size+1) (bp:=q.heap.size+1+1) (bv:=q.heap.size+1+2) rfl (ls.map u) (by simpa using T) (λx hx=>by obtain⟨p,hp,rfl⟩:=dH.1 hx;exact h10 p hp) hlen hBx
  (Bi P w q.heap.size (w.heap.size+1+1+1) (y.heap.size+2)) ?hI ⟨_,N,.inl ⟨rfl,rfl⟩⟩
  (λx=>{ tmps:= #[.string txt,undef,.pointer (some ⟨w.heap.size,0,none⟩),.pointer (some ⟨w.heap.size+1,0,none⟩),.pointer (some ⟨w.heap.size+1+1,0,none⟩),.pointer (some ⟨q.heap.size,0,none⟩),.string ⟨x.toArray⟩,undef,undef,.map (some (w.heap.size+1+1+1)),.string txt,.string ⟨(aA (ls.map u)).toArray⟩,.func (.func 237) #[] #[.pointer (some ⟨q.heap.size+1+1,0,none⟩),.pointer (some ⟨q.heap.size+1,0,none⟩),.pointer (some ⟨q.heap.size+1+2,0,none⟩)],.string ⟨x.toArray⟩,undef,undef,undef,undef,undef,undef,undef,undef,undef,undef,undef,undef,undef,undef,undef,undef,undef,undef,undef,undef,undef,undef,undef],defers:=[]}) ?assign ?body ?done
 case hI=>
  intro i W o row hB hg hr;refine hB.grown hP hg (λk e=>?_)
  rcases hr k e with rfl|rfl
  .omega
  .omega
 case assign=>
  intro x W K hK
  gi_wp2
  exact hK
 case body=>
  intro i x W hx hB hWs
  obtain⟨p,hp,rfl⟩:∃p,ls[i]?=some p/\u p=x:=by
   rw[List.getElem?_map]at hx
   cases hq:ls[i]? with
   |none=>rw[hq]at hx;cases hx
   |some p=>rw[hq]at hx;exact⟨p,rfl,by injection hx⟩
  obtain⟨m,r,hE⟩:=hB;have hcs:=r.cells;have lts:=r.lts;have WR:=ZL i p _ W hp r.low r.kn lts.2.2
  rcases hE with⟨rfl,rfl⟩|⟨be,S,R,rfl,YR,G⟩
  .have Vr:Hid (Calls prog 91 #[.string ⟨(u p).toArray⟩,.map (some (w.heap.size+1+1+1))] W λe b=>∃g,e=.returned (.tuple #[.agg #[.string p.1,.slice (some ⟨g,0,none⟩) p.2.length p.2.length],.bool true])/\(b.cell? ⟨w.heap.size+1+1,0,none⟩=some (.pointer none)/\w.heap.size+1+1<b.heap.size)/\Hid (b.heap[g]?=some (.cells (p.2.map (Value.int .i64)).toArray 3)/\Bd w q.heap.size (w.heap.size+1+1+1) (.pointer none) b/\Below W.heap.size W b)):=by
    refine WR.mono ?_;rintro e b ⟨g,rfl,hg1,hge,Q⟩;have A:=r.below Q;exact⟨g,rfl,⟨A.cells.2.2.1,A.lts.1⟩,hg1,A,Q⟩
   have hS':Hid (∀g z,Hid (z.heap[g]?=some (.cells (p.2.map (Value.int .i64)).toArray 3)/\Bd w q.heap.size (w.heap.size+1+1+1) (.pointer none) z/\Below W.heap.size W z)->
     Calls prog 93 #[.agg #[.string p.1,.slice (some ⟨g,0,none⟩) p.2.length p.2.length]] (z.alloc (.cells #[.string p.1,.slice (some ⟨g,0,none⟩) p.2.length p.2.length] 169)) λe b=>∃be,e=.returned (.tuple #[.pointer (some ⟨be,0,none⟩),.bool true])/\(b.cell? ⟨w.heap.size+1+1,0,none⟩=some (.pointer none)/\b.frozen? ⟨w.heap.size+1+1,0,none⟩=false)/\Hid (∃S,P 1 be S b/\(∀k,S k->W.heap.size<=k/\k<b.heap.size)/\Bd w q.heap.size (w.heap.size+1+1+1) (.pointer none) b/\Below W.heap.size W b)):=by
    intro g z hh;obtain⟨g1,g2,g3⟩:=hh.out;have U:=fC z (.cells #[.string p.1,.slice (some ⟨g,0,none⟩) p.2.length p.2.length] 169);have L:=g2.below U;refine(HS p g _ hp L.low ((U.block g (ax.1 g1).1).trans g1)).mono ?_;rintro e b ⟨be,S,rfl,Z,I,F⟩;have C:=L.below F;have hz1:=g3.size;have hz2:=U.size;exact⟨be,rfl,⟨C.cells.2.2.1,C.cells.2.2.2.2.2.2⟩,S,Z,λk j=>⟨by have:=(I k j).1;omega,(I k j).2⟩,C,g3.trans ((U.trans (F.mono hz2)).mono hz1)⟩
   have hn2:1<=4 -1 -1:=by decide
   have f86:Fence.wide.fn 91:=trivial;have f88:Fence.wide.fn 93:=trivial;have hlt:=lts.2.1;clear WR ZL HS HR r lts N hBx
   gi_wp2_with (first
    |(gi_at_call 93;refine(CallsIn.inRound _ (jf.2 (hS'.out _ _ R))).mono ?_;rintro e W3 ⟨be,rfl,hc3,h3⟩)
    |(gi_at_call 91;refine(CallsIn.inRound _ (jf.2 Vr.out)).mono ?_;rintro e z ⟨g,rfl,hc1,R⟩)
    |gi_in)
   obtain⟨S,Z,I,C,hbW⟩:=h3.out;have N:=C.put (.pointer (some ⟨be,0,none⟩))
   have V:∀k,k≠w.heap.size+1+1->(W3.setCell ⟨w.heap.size+1+1,0,none⟩ (.pointer (some ⟨be,0,none⟩))).heap[k]?=W3.heap[k]? :=λk e=>iJ _ _ _ _ e
   have hz:=hbW.size;refine⟨⟨_,N,.inr ⟨be,S,aC _,rfl,hP 1 be S W3 _ Z (by simp) (λk j=>V k (by have:=(I k j).1;omega)),λk j=>⟨by have:=(I k j).1;omega,by simpa using(I k j).2⟩⟩⟩,by simpa using hz,λk j=>?_⟩
   rcases j with rfl|rfl|rfl|rfl|rfl
   all_goals exact(V _ (by omega)).trans (hbW.block _ (by omega))
  .have Vr:Hid (Calls prog 91 #[.string ⟨(u p).toArray⟩,.map (some (w.heap.size+1+1+1))] W λe b=>∃g,e=.returned (.tuple #[.agg #[.string p.1,.slice (some ⟨g,0,none⟩) p.2.length p.2.length],.bool true])/\(b.cell? ⟨w.heap.size+1+1,0,none⟩=some (.pointer (some ⟨be,0,none⟩))/\w.heap.size+1+1<b.heap.size)/\Hid (b.heap[g]?=some (.cells (p.2.map (Value.int .i64)).toArray 3)/\W.heap.size<=g/\Bd w q.heap.size (w.heap.size+1+1+1) (.pointer (some ⟨be,0,none⟩)) b/\Below W.heap.size W b)):=by
    refine WR.mono ?_;rintro e b ⟨g,rfl,hg1,hge,Q⟩;have A:=r.below Q;exact⟨g,rfl,⟨A.cells.2.2.1,A.lts.1⟩,hg1,hge,A,Q⟩
   have hS':Hid (∀g z,Hid (z.heap[g]?=some (.cells (p.2.map (Value.int .i64)).toArray 3)/\W.heap.size<=g/\Bd w q.heap.size (w.heap.size+1+1+1) (.pointer (some ⟨be,0,none⟩)) z/\Below W.heap.size W z)->
     Calls prog 92 #[.pointer (some ⟨be,0,none⟩),.agg #[.string p.1,.slice (some ⟨g,0,none⟩) p.2.length p.2.length]] (z.alloc (.cells #[.string p.1,.slice (some ⟨g,0,none⟩) p.2.length p.2.length] 169)) λe b=>e=.returned (.bool true)/\Hid (∃S',P (i+1) be S' b/\(∀k,S' k->y.heap.size+2<=k/\k<b.heap.size)/\Bd w q.heap.size (w.heap.size+1+1+1) (.pointer (some ⟨be,0,none⟩)) b/\Turned S W b)):=by
    intro g z hh;obtain⟨g1,g0,g2,g3⟩:=hh.out;have U:=fC z (.cells #[.string p.1,.slice (some ⟨g,0,none⟩) p.2.length p.2.length] 169);have L:=g2.below U;have hz1:=g3.size;have hz2:=U.size;have v:=g3.trans (U.mono hz1);have hP2:=hP i be S W _ YR v.size (λk j=>v.block k (G k j).2);refine(HR i p be S g _ R hp L.low hP2 ((U.block g (ax.1 g1).1).trans g1) (λj=>by have:=(G g j).2;omega)).mono ?_;rintro e b ⟨rfl,S',Y,YS,hT⟩
    have hbl:∀k,k<y.heap.size+2->k<(z.alloc (.cells #[.string p.1,.slice (some ⟨g,0,none⟩) p.2.length p.2.length] 169)).heap.size->b.heap[k]?=(z.alloc (.cells #[.string p.1,.slice (some ⟨g,0,none⟩) p.2.length p.2.length] 169)).heap[k]? :=λk j H=>hT.block k H (λe=>by have:=(G k e).1;omega)
    have l2:=L.lts;refine⟨rfl,S',Y,λk j=>⟨?_,(YS k j).2⟩,L.still (hT.below (by omega) (λk j=>by have:=(G k j).1;omega)) (λk j=>hbl k ?_ ?_),(Turned.of_below (S:=S) v).trans hT (λ_ _ e=>e)⟩
    .rcases(YS k j).1 with h|h
     .exact(G k h).1
     .omega
    .rcases j with rfl|rfl|rfl|rfl|rfl <;>omega
    .rcases j with rfl|rfl|rfl|rfl|rfl <;>omega
   have hn2:1<=4 -1 -1:=by decide
   have f86:Fence.wide.fn 91:=trivial;have f87:Fence.wide.fn 92:=trivial;have hlt:=lts.2.1;have hi1:=R;have HSk:=hid G;clear WR ZL HS HR r lts N hBx R G YR
   gi_wp2_with (first
    |(gi_at_call 92;refine(CallsIn.inRound _ (jf.2 (hS'.out _ _ R))).mono ?_;rintro e W3 ⟨rfl,h3⟩)
    |(gi_at_call 91;refine(CallsIn.inRound _ (jf.2 Vr.out)).mono ?_;rintro e z ⟨g,rfl,hc1,R⟩)
    |gi_in)
   obtain⟨S',Y,YS,C,hT⟩:=h3.out;refine⟨⟨_,C,.inr ⟨be,S',by omega,rfl,Y,YS⟩⟩,hT.size,λk j=>hT.block k ?_ (λe=>?_)⟩
   .rcases j with rfl|rfl|rfl|rfl|rfl <;>omega
   .have:=(HSk.out k e).1
    rcases j with rfl|rfl|rfl|rfl|rfl <;>omega
 case done=>
  intro W hB hK;obtain⟨m,r,hE⟩:=hB
  have hl0:1<=ls.length:=by
   cases ls with
   |nil=>exact absurd rfl T
   |cons a t=>simp
  rw[List.length_map]at hE
  rcases hE with⟨h,_⟩|⟨be,S,R,rfl,YR,G⟩
  .omega
  have hcs:=r.cells;have lts:=r.lts
  gi_wp2
  obtain⟨M,WY⟩:∃M,(W.setCell ⟨w.heap.size,0,none⟩ (.pointer (some ⟨be,0,none⟩))).setCell ⟨w.heap.size+1,0,none⟩ (.bool true)=M:=⟨_,rfl⟩;rw[WY]
  have hz5:M.heap.size=W.heap.size:=by rw[<-WY];simp
  have ho5:∀k,k≠w.heap.size->k≠w.heap.size+1->M.heap[k]?=W.heap[k]? :=λk e1 e2=>by
   rw[<-WY];exact(iJ _ _ _ _ e2).trans (iJ _ _ _ _ e1)
  have h51:M.heap[w.heap.size]?=some (.cells #[.pointer (some ⟨be,0,none⟩)] 27):=by
   rw[<-WY,iJ _ _ _ _ (by simp),fZ r.r1];rfl
  have h52:M.heap[w.heap.size+1]?=some (.cells #[.bool true] 4):=by
   rw[<-WY,fZ ((iJ _ _ _ _ (by simp)).trans r.r2)];rfl
  have Od:Below w.heap.size w M:=by
   rw[<-WY];exact(r.low.setCell (p:=⟨w.heap.size,0,none⟩) (aC _) _).setCell (p:=⟨w.heap.size+1,0,none⟩) (by show w.heap.size<=w.heap.size+1;omega) _
  have Xq:M.heap[y.heap.size]?=some (.deferred (some [])):=(ho5 _ (by omega) (by omega)).trans hK
  have hpo:∀k,k≠y.heap.size->(M.putObj y.heap.size (.deferred none)).heap[k]?=M.heap[k]? :=λk e=>World.putObj_heap_other e
  have hx0:(M.putObj y.heap.size (.deferred none)).cell? ⟨w.heap.size,0,none⟩=some (.pointer (some ⟨be,0,none⟩)):=by
   rw[fq ((hpo _ (by omega)).trans h51)];rfl
  have hx1:(M.putObj y.heap.size (.deferred none)).cell? ⟨w.heap.size+1,0,none⟩=some (.bool true):=by
   rw[fq ((hpo _ (by omega)).trans h52)];rfl
  refine⟨by simp,.inl ⟨_,_,rfl,run_takeDeferred Xq,?_⟩⟩;refine⟨.tuple #[.pointer (some ⟨be,0,none⟩),.bool true],by simp[results,Tryz.results42,go_sem,hx0,hx1],be,S,rfl,?_,λk j=>⟨by have:=(G k j).1;omega,?_⟩,?_⟩
  .refine hP _ be S W _ YR (by simp[hz5]) (λk j=>(hpo k (by have:=(G k j).1;omega)).trans (ho5 k (by have:=(G k j).1;omega) (by have:=(G k j).1;omega)))
  .simpa[hz5]using(G k j).2
  .exact Od.trans (belowK_b (w:=w) (aC _) M y.heap.size _ _ (by omega) Xq rfl rfl)
end
section
open Go.Proofs.Tryz Go.Joins
variable{c g:Nat}{S:Nat->Prop}{W:World}{n a b k t v:Int}
structure Sx where
 x:J
 f0:Int
 f1:Int
 L:List O
def PE(st:Sx)(c:Nat)(S:Nat->Prop)(W:World):Prop:=
 ∃bj bm v0 v1 om Sg,az W c bj bm v0 v1 st.f0 st.f1 om Sg st.x st.L st.L/\∀k,S k↔aT bj bm v0 v1 om Sg k
theorem cz(st:Sx)(c:Nat):tV (PE st c):=by
 rintro S W W' ⟨bj,i,o,m,l,j,h,d⟩ p f;exact⟨bj,i,o,m,l,j,h.still p (λk e=>f k ((d k).2 e)),d⟩
abbrev Rn(st:Sx)(c:Nat)(S:Nat->Prop)(W w':World):Prop:=∃S',PE st c S' w'/\(∀k,S' k->(S k∨W.heap.size<=k)/\k<w'.heap.size)/\Turned S W w'
theorem uu{st:Sx}{bj f:Nat}{r q j d:Value}{p i:Option Nat}{o l:Nat->Prop}{s m:World}(u:az m c bj f j d st.f0 st.f1 i l st.x st.L st.L)
  (z:∀k,S k↔aT bj f r q p o k) (w:Below W.heap.size W s) (A:Turned (aT bj f r q p o) s m) (B:∀k,aT bj f j d i l k->aT bj f r q p o k∨s.heap.size<=k):Rn st c S W m:=by
 have hz:=w.size;refine⟨aT bj f j d i l,⟨bj,f,j,d,i,l,u,λ_=>Iff.rfl⟩,λk y=>⟨?_,u.lt y⟩,(Turned.of_below (S:=S) w).trans A (λk _ e=>(z k).2 e)⟩
 rcases B k y with h|h
 .exact .inl ((z k).2 h)
 .exact .inr (by omega)
theorem aI{ns:List Int}(h:W.heap[g]?=some (.cells (ns.map (Value.int .i64)).toArray 3))(j:Nat)(d:ns[j]?=some n):W.cell? ⟨g,0+j,none⟩=some (.int .i64 n):=by
 rw[fq h,Nat.zero_add];simp[d]
theorem Ph{st:Sx}{d:Int}(u:PE st c S W)(o:W.heap[g]?=some (.cells ([a,b,d].map (Value.int .i64)).toArray 3))(p:¬S g)
  (w:0<=a/\a<=9223372036854775807) (s:0<=b/\b<=9223372036854775807) (hd:0<=d/\d<=9223372036854775807):
  Calls prog 92 #[.pointer (some ⟨c,0,none⟩),.agg #[.string ⟨#[102,101,100]⟩,.slice (some ⟨g,0,none⟩) 3 3]] W λe m=>e=.returned (.bool true)/\Rn ⟨{ st.x with late:=d},a,b,st.L⟩ c S W m:=by
 obtain⟨bj,q,F,C,z,y,h,l⟩:=u;have j:=(ax.1 o).1
 have B:g≠c:=λe=>p ((l g).2 (.inr (.inr (by rw[e];exact h.inS))))
 have E:g≠bj:=λe=>p ((l g).2 (.inl (.inl e)))
 refine EK c g 0 3 _ W (λG f=>?_);have i:=(f.block g j).trans o;refine(zQ c bj q F C st.f0 st.f1 z y st.x st.L st.L g 0 3 a b d G (h.below f) w s hd (aR j f.size) (aI i 0 rfl) (aI i 1 rfl) (aI i 2 rfl) B E).mono ?_;rintro e m ⟨rfl,A,r⟩;exact⟨rfl,uu (st:=⟨{ st.x with late:=d},a,b,st.L⟩) A l f r (λk e=>.inl e)⟩
theorem step_end{st:Sx}(i:PE st c S W):
  Calls prog 92 #[.pointer (some ⟨c,0,none⟩),.agg #[.string ⟨#[101,110,100]⟩,.slice (some ⟨g,0,none⟩) 0 0]] W λe f=>e=.returned (.bool true)/\Rn st c S W f:=by
 obtain⟨bj,bm,v0,v1,om,Sg,h,j⟩:=i;refine EL c g 0 0 _ W (λW1 d=>?_);exact uu (h.below d) j d (Turned.of_below (iL _ _)) (λk e=>.inl e)
theorem yB{st:Sx}(u:PE st c S W)(o:O)(f:o.wf)(F:st.L.length<=100000)(m:au o.lk o.lt o.lv=true)(r:au o.rk o.rt o.rv=true)(s:o.hl=true->o.hr=true->o.lk=o.rk)
  (i:World) (d:Below W.heap.size W i):Calls prog 166 #[.pointer (some ⟨c,0,none⟩),vO o] i λe j=>e=.returned (.bool true)/\Rn ⟨st.x,st.f0,st.f1,o::st.L⟩ c S W j:=by
 obtain⟨bj,l,E,C,B,A,h,y⟩:=u;refine(zR c bj l E C st.f0 st.f1 B A st.x st.L o i (h.below d) f F m r s).mono ?_;rintro e j ⟨rfl,fG,qY,z,p,q,w⟩;refine⟨rfl,uu (st:=⟨st.x,st.f0,st.f1,o::st.L⟩) z y d (w.mono ?_) (λk e=>?_)⟩
 .rintro k (e|e|e)
  .exact .inr (.inr (by rw[e];exact h.inS))
  .exact .inr (.inl e)
  .exact .inr (.inr e)
 .rcases e with e|e|e
  .exact .inl (.inl e)
  .exact(p k e).imp (λe=>.inr (.inl e)) id
  .exact(q k e).imp (λe=>.inr (.inr e)) id
theorem Lp(B:lF){st:Sx}(I:PE st c S W)(i:W.heap[g]?=some (.cells ([0,k,t,v,n].map (Value.int .i64)).toArray 3))(F:¬S g)
  (E:ay st.x.R0) (M:st.x.R0.length<300) (m:au k t v=true) (G:0<=n):
  Calls prog 92 #[.pointer (some ⟨c,0,none⟩),.agg #[.string ⟨#[114,111,119]⟩,.slice (some ⟨g,0,none⟩) 5 5]] W λe d=>e=.returned (.bool true)/\Rn ⟨{ st.x with R0:=bT st.x.R0 (aV k (t+1) st.x.R0) ⟨k,t,v,n⟩},st.f0,st.f1,st.L⟩ c S W d:=by
 obtain⟨bj,r,z,y,om,Sg,h,u⟩:=I;have j:=(ax.1 i).1;refine(vK B c bj g 0 0 k t v n (λd=>Rn ⟨{ st.x with R0:=bT st.x.R0 (aV k (t+1) st.x.R0) ⟨k,t,v,n⟩},st.f0,st.f1,st.L⟩ c S W d/\(d.cell? ⟨c,3,none⟩=some (.pointer (some ⟨bj,0,none⟩))/\d.cell? ⟨g,0,none⟩=some (.int .i64 0)/\d.cell? ⟨g,0+4,none⟩=some (.int .i64 n))) W j h.blt (aI i 0 rfl) (aI i 1 rfl) (aI i 2 rfl) (aI i 3 rfl) (aI i 4 rfl) h.cells.2.2.2.1 (λW H=>H.2) (λA f=>?_)).mono (λe d h=>⟨h.1,h.2.1⟩);have w:=h.below f;refine(Pb 0 bj r z y st.x k t v n A w.join (aW _) E M m G).mono ?_;rintro e d ⟨rfl,v',C,K,s⟩;have p:Turned (eP bj r z y) A d:=K.mono (λk e=>e.elim .inl (λe=>.inr (.inr (.inl e))));have q:=w.joined C ⟨rfl,rfl,rfl⟩ p (jg s (.inl rfl));have o:d.heap[g]?=W.heap[g]? :=(p.block g (aR j f.size) (λe=>F ((u g).2 (.inl e)))).trans (f.block g j);have l:=o.trans i;refine⟨rfl,uu (st:=⟨{ st.x with R0:=bT st.x.R0 (aV k (t+1) st.x.R0) ⟨k,t,v,n⟩},st.f0,st.f1,st.L⟩) q u f (p.mono (λk e=>.inl e)) (λk e=>?_),q.cells.2.2.2.1,aI l 0 rfl,aI l 4 rfl⟩
 rcases e with e|e
 .exact(jg s (.inl rfl) k e).imp .inl id
 .exact .inl (.inr e)
theorem Ls(B:lF){st:Sx}(I:PE st c S W)(i:W.heap[g]?=some (.cells ([1,k,t,v,n].map (Value.int .i64)).toArray 3))(F:¬S g)
  (E:ay st.x.R1) (M:st.x.R1.length<300) (m:au k t v=true) (G:0<=n):
  Calls prog 92 #[.pointer (some ⟨c,0,none⟩),.agg #[.string ⟨#[114,111,119]⟩,.slice (some ⟨g,0,none⟩) 5 5]] W λe d=>e=.returned (.bool true)/\Rn ⟨{ st.x with R1:=bT st.x.R1 (aV k (t+1) st.x.R1) ⟨k,t,v,n⟩},st.f0,st.f1,st.L⟩ c S W d:=by
 obtain⟨bj,r,z,y,om,Sg,h,u⟩:=I;have j:=(ax.1 i).1;refine(vK B c bj g 0 1 k t v n (λd=>Rn ⟨{ st.x with R1:=bT st.x.R1 (aV k (t+1) st.x.R1) ⟨k,t,v,n⟩},st.f0,st.f1,st.L⟩ c S W d/\(d.cell? ⟨c,3,none⟩=some (.pointer (some ⟨bj,0,none⟩))/\d.cell? ⟨g,0,none⟩=some (.int .i64 1)/\d.cell? ⟨g,0+4,none⟩=some (.int .i64 n))) W j h.blt (aI i 0 rfl) (aI i 1 rfl) (aI i 2 rfl) (aI i 3 rfl) (aI i 4 rfl) h.cells.2.2.2.1 (λW H=>H.2) (λA f=>?_)).mono (λe d h=>⟨h.1,h.2.1⟩);have w:=h.below f;refine(Pd 0 bj r z y st.x k t v n A w.join (aW _) E M m G).mono ?_;rintro e d ⟨rfl,v',C,K,s⟩;have p:Turned (eP bj r z y) A d:=K.mono (λk e=>e.elim .inl (λe=>.inr (.inr (.inr e))));have q:=w.joined C ⟨rfl,rfl,rfl⟩ p (jg (.inl rfl) s);have o:d.heap[g]?=W.heap[g]? :=(p.block g (aR j f.size) (λe=>F ((u g).2 (.inl e)))).trans (f.block g j);have l:=o.trans i;refine⟨rfl,uu (st:=⟨{ st.x with R1:=bT st.x.R1 (aV k (t+1) st.x.R1) ⟨k,t,v,n⟩},st.f0,st.f1,st.L⟩) q u f (p.mono (λk e=>.inl e)) (λk e=>?_),q.cells.2.2.2.1,aI l 0 rfl,aI l 4 rfl⟩
 rcases e with e|e
 .exact(jg (.inl rfl) s k e).imp .inl id
 .exact .inl (.inr e)
theorem step_marks{st:Sx}(hP:PE st c S W)(F:W.heap[g]?=some (.cells ([a,b].map (Value.int .i64)).toArray 3))(hn:¬S g)(hpl:dn st.x.lo st.x.hi st.x.mode)
  (Y:st.x.R0=[]/\st.x.R1=[]) (K:st.x.m0= -1099511627777/\st.x.m1= -1099511627777)
  (ha: -1099511627777<=a/\a<=1099511627776) (X: -1099511627777<=b/\b<=1099511627776):
  Calls prog 92 #[.pointer (some ⟨c,0,none⟩),.agg #[.string ⟨#[109,97,114,107,115]⟩,.slice (some ⟨g,0,none⟩) 2 2]] W λe w=>e=.returned (.bool true)/\Rn ⟨{ st.x with m0:=a,m1:=b},st.f0,st.f1,st.L⟩ c S W w:=by
 obtain⟨bj,q,R,P,A,z,h,hS⟩:=hP;have T:=(ax.1 F).1
 have hgn:¬aT bj q R P A z g:=λe=>hn ((hS g).2 e)
 obtain⟨⟨p1,p2⟩,⟨p3,p4⟩,_⟩:=hpl;refine zS c g 0 2 _ W (λW1 r=>?_);have h1:=h.below r;have hg1:=(r.block g T).trans F
 let xs:Nat->J:=λi=>{ st.x with m0:=if i=0 then st.x.m0 else a,m1:=if i<=1 then st.x.m1 else b}
 let St:Nat->World->Prop:=λi V=>∃f d,az V c bj q f d st.f0 st.f1 A z (xs i) st.L st.L/\Turned (aT bj q R P A z) W1 V/\(f.ownBlock=R.ownBlock/\d.ownBlock=P.ownBlock)/\V.heap[g]?=W.heap[g]?
 refine(Pj c g 0 2 (λi=>if i=0 then a else b) (λ_=> -1099511627777) St W1 ?_ ?_ ?_ ?_ ?_ ?_ ?_).mono ?_
 .exact⟨R,P,h1,Turned.of_below (iL _ _),⟨rfl,rfl⟩,r.block g T⟩
 .rintro i V ⟨f,d,_,_,_,hq⟩;exact(ax.1 (hq.trans F)).1
 .rintro i V I ⟨f,d,m,u,l,o⟩ X;exact⟨f,d,m.below X,u.trans (Turned.of_below (S:=λ_=>False) X) (λ_ _ e=>e.elim),l,(X.block g (ax.1 (o.trans F)).1).trans o⟩
 .rintro i j V ⟨f,d,m,u,l,o⟩ hj
  have hj2:j=0∨j=1:=by omega
  rcases hj2 with rfl|rfl
  .exact aI (o.trans F) 0 rfl
  .exact aI (o.trans F) 1 rfl
 .rintro i V hi ⟨f,d,m,u,l,o⟩
  have p:i=0∨i=1:=by omega
  have e1:kW (xs i).m0 (xs i).m1 (i:Int)= -1099511627777:=by
   rcases p with rfl|rfl
   .simp[kW,xs,K.1]
   .simp[kW,xs,K.2]
  have:=jd (s:=(i:Int)) (h:=m);rw[e1]at this;exact this
 .rintro i V hi N ⟨f,d,m,u,l,o⟩
  have p:i=0∨i=1:=by omega
  have fin:∀(I:World) (u0 u1:Value) (x':J),az I c bj q u0 u1 st.f0 st.f1 A z x' st.L st.L->x'=xs (i+1)->Turned (aT bj q f d A z) V I->u0.ownBlock=f.ownBlock->u1.ownBlock=d.ownBlock->St (i+1) I:=by
   intro I u0 u1 x' hE hx hT hu0 hu1;subst hx
   have Q:Turned (aT bj q R P A z) V I:=by
    refine hT.mono (λk e=>?_);unfold aT eP at e⊢;rw[l.1,l.2]at e;exact e
   exact⟨u0,u1,hE,u.trans Q (λ_ _ e=>e),⟨hu0.trans l.1,hu1.trans l.2⟩,(Q.block g (ax.1 (o.trans F)).1 hgn).trans o⟩
  rcases p with rfl|rfl
  .have U:a≠ -1099511627777:=by simpa using N
   have M:vk (xs 0).m0 (xs 0).m1 0 a=0:=by
    unfold vk;rw[if_neg (by decide),if_neg (by omega),if_neg (by simp[kW,xs,K.1];omega)]
   refine(pG c bj q f d st.f0 st.f1 A z (xs 0) { xs 0 with m0:=a,R1:=keepR (λy=>decide (y.t<=a+(xs 0).lo)) (xs 0).R1} st.L st.L 0 a V m ⟨rfl,rfl,rfl⟩ (λW2 B=>?_)).mono ?_
   .refine(AX 0 bj q f d (xs 0) a W2 B M (by simp[xs,Y.2]) p1 p2 p3 p4).mono ?_;rintro e w ⟨rfl,Z,C,G,E⟩;exact⟨rfl,f,Z,C,G.mono (λk e=>e.elim .inl (λe=>e.elim (λe=>.inr (.inl e)) (λe=>.inr (.inr (.inr e))))),rfl,E⟩
   .rintro e w ⟨rfl,u0,u1,C,G,E,j4⟩;exact⟨rfl,fin w u0 u1 _ C (by simp[xs,Y.2,keepR]) G E j4⟩
  .have U:b≠ -1099511627777:=by simpa using N
   have M:vk (xs 1).m0 (xs 1).m1 1 b=0:=by
    unfold vk;rw[if_neg (by decide),if_neg (by omega),if_neg (by simp[kW,xs,K.2];omega)]
   refine(pG c bj q f d st.f0 st.f1 A z (xs 1) { xs 1 with m1:=b,R0:=keepR (λy=>decide (y.t<=b -(xs 1).hi)) (xs 1).R0} st.L st.L 1 b V m ⟨rfl,rfl,rfl⟩ (λW2 B=>?_)).mono ?_
   .refine(AZ 0 bj q f d (xs 1) b W2 B M (by simp[xs,Y.1]) p3 p4).mono ?_;rintro e w ⟨rfl,Z,C,G,E⟩;exact⟨rfl,Z,d,C,G.mono (λk e=>e.elim .inl (λe=>e.elim (λe=>.inr (.inl e)) (λe=>.inr (.inr (.inl e))))),E,rfl⟩
   .rintro e w ⟨rfl,u0,u1,C,G,E,j4⟩;exact⟨rfl,fin w u0 u1 _ C (by simp[xs,Y.1,keepR]) G E j4⟩
 .rintro i V hi M ⟨f,d,m,u,l,o⟩
  have p:i=0∨i=1:=by omega
  have ex:xs i=xs (i+1):=by
   rcases p with rfl|rfl
   .have H:a= -1099511627777:=by simpa using M
    simp[xs,K.1,H]
   .have H:b= -1099511627777:=by simpa using M
    simp[xs,K.2,H]
  rw[ex]at m;exact⟨f,d,m,u,l,o⟩
 .rintro e w ⟨rfl,f,d,m,u,l,o⟩;refine⟨rfl,uu (st:=⟨{ st.x with m0:=a,m1:=b},st.f0,st.f1,st.L⟩) m hS r u (λk e=>.inl ?_)⟩;unfold aT eP at e⊢;rw[l.1,l.2]at e;exact e
end
section
variable{a b:Sx}
abbrev Ln:=ByteArray×List Int
def Pk(p:Ln):List UInt8:=p.1.data.toList++cK p.2
def A8(x:J)(f0 f1:Int)(Z:List O):List Ln:=(wC,[f0,f1,x.late])::(jL,[x.m0,x.m1])::((x.R0.map λy=>(pX,[0,y.k,y.t,y.v,y.n]))++((x.R1.map λy=>(pX,[1,y.k,y.t,y.v,y.n]))++((Z.map λo=>(fu o,dV o))++[(Im,[])])))
def jE(x:J)(f0 f1:Int)(Z:List O):List Ln:=(nI,[x.lo,x.hi,x.mode])::A8 x f0 f1 Z
theorem vL(x:J)(f0 f1:Int)(Z:List O):bN x f0 f1 Z=(jE x f0 f1 Z).flatMap λp=>Pk p++[10]:=by
 have e:∀(p:Ln),Pk p++[10]=dB p.1.data.toList p.2:=λp=>by unfold Pk dB;simp
 simp only[e];unfold bN EM jE A8 iw iy;simp only[List.flatMap_cons,List.flatMap_append,List.flatMap_nil,List.flatMap_map,List.append_nil,List.append_assoc]
theorem Pm(ns:List Int):(10:UInt8)∉cK ns:=by
 unfold cK;rw[List.mem_flatMap];rintro⟨n,_,h⟩;rw[List.mem_cons]at h
 rcases h with h|h
 .exact absurd h (by decide)
 .exact CJ n 10 (by decide) h
theorem X7(p:Ln)(h:(10:UInt8)∉p.1.data.toList):(10:UInt8)∉Pk p:=by
 unfold Pk;rw[List.mem_append];rintro(e|e)
 .exact h e
 .exact Pm _ e
inductive Stp:Sx->Ln->Sx->Prop
 |fed (st:Sx) (a b d:Int):0<=a/\a<=9223372036854775807->0<=b/\b<=9223372036854775807->0<=d/\d<=9223372036854775807->Stp st (wC,[a,b,d]) ⟨{ st.x with late:=d},a,b,st.L⟩
 |marks (st:Sx) (a b:Int):dn st.x.lo st.x.hi st.x.mode->st.x.R0=[]/\st.x.R1=[]->st.x.m0= -1099511627777/\st.x.m1= -1099511627777-> -1099511627777<=a/\a<=1099511627776-> -1099511627777<=b/\b<=1099511627776->Stp st (jL,[a,b]) ⟨{ st.x with m0:=a,m1:=b},st.f0,st.f1,st.L⟩
 |row0 (st:Sx) (k t v n:Int):ay st.x.R0->st.x.R0.length<300->au k t v=true->0<=n/\n<=9223372036854775807->Stp st (pX,[0,k,t,v,n]) ⟨{ st.x with R0:=bT st.x.R0 (aV k (t+1) st.x.R0) ⟨k,t,v,n⟩},st.f0,st.f1,st.L⟩
 |row1 (st:Sx) (k t v n:Int):ay st.x.R1->st.x.R1.length<300->au k t v=true->0<=n/\n<=9223372036854775807->Stp st (pX,[1,k,t,v,n]) ⟨{ st.x with R1:=bT st.x.R1 (aV k (t+1) st.x.R1) ⟨k,t,v,n⟩},st.f0,st.f1,st.L⟩
 |out (st:Sx) (o:O):iK o->st.L.length<=100000->Stp st (fu o,dV o) ⟨st.x,st.f0,st.f1,o::st.L⟩
 |fin (st:Sx):Stp st (Im,[]) st
theorem pJ{k t v:Int}(h:au k t v=true):(-1099511627776<=k/\k<=1099511627776)/\(-1099511627776<=t/\t<=1099511627776)/\(-1099511627776<=v/\v<=1099511627776):=by
 unfold au iG at h;simp at h;omega
theorem yC{n:Int}(h: -1099511627777<=n/\n<=1099511627777):(Lit.int .i64 n).wf=true:=by
 simp[Lit.wf,IntKind.min,IntKind.max,IntKind.signed,IntKind.bits];omega
theorem jB{o:O}(h:iK o):o.wf:=by
 cases h with
 |left k t v h=>
  have:=pJ h
  constructor <;>(apply yC;simp[bn];try omega)
 |right k t v h=>
  have:=pJ h
  constructor <;>(apply yC;simp[bn];try omega)
 |pair k t v t2 v2 h h2=>
  have:=pJ h;have:=pJ h2
  constructor <;>(apply yC;simp;try omega)
theorem Lt(m:lF){st q:Sx}{p:Ln}(w:Stp st p q){be g:Nat}{S:Nat->Prop}{W:World}(i:PE st be S W)(c:W.heap[g]?=some (.cells (p.2.map (Value.int .i64)).toArray 3))(s:¬S g):
  Calls Tryz.prog 92 #[.pointer (some ⟨be,0,none⟩),.agg #[.string p.1,.slice (some ⟨g,0,none⟩) p.2.length p.2.length]] W λe u=>e=.returned (.bool true)/\Rn q be S W u:=by
 have l:=(ax.1 c).1
 cases w with
 |fed a b d ha hb hd=>exact Ph i c s ha hb hd
 |marks a b h1 h2 h3 h4 h5=>exact step_marks i c s h1 h2 h3 h4 h5
 |row0 k t v n h1 h2 h3 h4=>exact Lp m i c s h1 h2 h3 h4.1
 |row1 k t v n h1 h2 h3 h4=>exact Ls m i c s h1 h2 h3 h4.1
 |out o ho hL=>
  have j:=jB ho
  cases ho with
  |left k t v h=>exact CK m be g 0 k t v _ W l (aI c 0 rfl) (aI c 1 rfl) (aI c 2 rfl) (λr f=>yB i (bn 0 k t v) j hL h (show au 0 0 0=true by decide) (λ_ e=>by simp[bn]at e) r f)
  |right k t v h=>exact zT m be g 0 k t v _ W l (aI c 0 rfl) (aI c 1 rfl) (aI c 2 rfl) (λr f=>yB i (bn 1 k t v) j hL (show au 0 0 0=true by decide) h (λe _=>by simp[bn]at e) r f)
  |pair k t v t2 v2 h h2=>exact CL m be g 0 k t v k t2 v2 _ W l (aI c 0 rfl) (aI c 1 rfl) (aI c 2 rfl) (aI c 3 rfl) (aI c 4 rfl) (aI c 5 rfl) (λr f=>yB i ⟨k,k,t,v,k,t2,v2,true,true⟩ j hL h h2 (λ_ _=>rfl) r f)
 |fin=>exact step_end i
def Run:Sx->List Ln->Sx->Prop
 |st,[],st'=>st=st'
 |st,p::ls,st'=>∃s1,Stp st p s1/\Run s1 ls st'
theorem Run.append{c:Sx}{l m:List Ln}(h:Run a l b)(g:Run b m c):Run a (l++m) c:=by
 induction l generalizing a with
 |nil=>cases h;exact g
 |cons p l ih=>
  obtain⟨d,e,f⟩:=h;exact⟨d,e,ih f⟩
theorem Run.seq{l:List Ln}(h:Run a l b):∃f:Nat->Sx,f 0=a/\f l.length=b/\∀i p,l[i]?=some p->Stp (f i) p (f (i+1)):=by
 induction l generalizing a with
 |nil=>exact⟨λ_=>a,rfl,h,λi p e=>by simp at e⟩
 |cons p l ih=>
  obtain⟨s1,d,c⟩:=h;obtain⟨f,f0,f1,f2⟩:=ih c;refine⟨λi=>match i with|0=>a|i+1=>f i,rfl,f1,?_⟩;intro i q e
  cases i with
  |zero=>
   simp at e;subst e;show Stp a p (f 0);rw[f0];exact d
  |succ i=>exact f2 i q (by simpa using e)
theorem EN(S:List D)(y:D)(h:ay (S++[y])):bT S (aV y.k (y.t+1) S) ⟨y.k,y.t,y.v,y.n⟩=S++[y]:=by
 have c:aV y.k (y.t+1) S=S.length:=by
  unfold aV;rw[List.countP_eq_length];intro x d;have:=(List.pairwise_append.1 h).2.2 x d y (by simp);simp only[aX,decide_eq_true_eq];omega
 rw[c];simp[bT]
theorem Lu(x:J)(f0 f1:Int)(L:List O)(T:List D):∀(S:List D),ay (S++T)->(S++T).length<=300->(∀y∈T,au y.k y.t y.v=true/\0<=y.n/\y.n<=9223372036854775807)->Run ⟨{ x with R0:=S},f0,f1,L⟩ (T.map λy=>(pX,[0,y.k,y.t,y.v,y.n])) ⟨{ x with R0:=S++T},f0,f1,L⟩:=by
 induction T with
 |nil=>intro S _ _ _;simp[Run]
 |cons y T ih=>
  intro S f d g
  have e:S++y::T=(S++[y])++T:=by simp
  rw[e]at f d⊢;have c:ay (S++[y]):=(List.pairwise_append.1 f).1;have m:ay S:=(List.pairwise_append.1 c).1;obtain⟨l,i⟩:=g y (by simp);refine⟨⟨{ x with R0:=S++[y]},f0,f1,L⟩,?_,ih (S++[y]) f d (λz j=>g z (by simp[j]))⟩;have h:=Stp.row0 ⟨{ x with R0:=S},f0,f1,L⟩ y.k y.t y.v y.n m (by simp at d⊢;omega) l i;rw[show({ x with R0:=S}:J).R0=S from rfl,EN S y c]at h;exact h
theorem Lv(x:J)(f0 f1:Int)(L:List O)(T:List D):∀(S:List D),ay (S++T)->(S++T).length<=300->(∀y∈T,au y.k y.t y.v=true/\0<=y.n/\y.n<=9223372036854775807)->Run ⟨{ x with R1:=S},f0,f1,L⟩ (T.map λy=>(pX,[1,y.k,y.t,y.v,y.n])) ⟨{ x with R1:=S++T},f0,f1,L⟩:=by
 induction T with
 |nil=>intro S _ _ _;simp[Run]
 |cons y T ih=>
  intro S f d g
  have e:S++y::T=(S++[y])++T:=by simp
  rw[e]at f d⊢;have c:ay (S++[y]):=(List.pairwise_append.1 f).1;have m:ay S:=(List.pairwise_append.1 c).1;obtain⟨l,i⟩:=g y (by simp);refine⟨⟨{ x with R1:=S++[y]},f0,f1,L⟩,?_,ih (S++[y]) f d (λz j=>g z (by simp[j]))⟩;have h:=Stp.row1 ⟨{ x with R1:=S},f0,f1,L⟩ y.k y.t y.v y.n m (by simp at d⊢;omega) l i;rw[show({ x with R1:=S}:J).R1=S from rfl,EN S y c]at h;exact h
theorem Pn(x:J)(f0 f1:Int)(T:List O):∀(L:List O),(∀o∈T,iK o)->L.length+T.length<=100000->Run ⟨x,f0,f1,L⟩ (T.map λo=>(fu o,dV o)) ⟨x,f0,f1,T.reverse++L⟩:=by
 induction T with
 |nil=>intro L _ _;simp[Run]
 |cons o T ih=>
  intro L c d;refine⟨⟨x,f0,f1,o::L⟩,Stp.out _ o (c o (by simp)) (by simp at d⊢;omega),?_⟩;have:=ih (o::L) (λz e=>c z (by simp[e])) (by simp at d⊢;omega);simpa using this
theorem Lx(x:J)(f0 f1:Int)(Z:List O)(c:dn x.lo x.hi x.mode)(d: -1099511627777<=x.m0/\x.m0<=1099511627776)(e: -1099511627777<=x.m1/\x.m1<=1099511627776)(s:0<=x.late/\x.late<=9223372036854775807)
  (i:0<=f0/\f0<=9223372036854775807) (m:0<=f1/\f1<=9223372036854775807) (p:ay x.R0) (u:ay x.R1) (q:x.R0.length<=300) (z:x.R1.length<=300)
  (l:∀y∈x.R0,au y.k y.t y.v=true/\0<=y.n/\y.n<=9223372036854775807) (r:∀y∈x.R1,au y.k y.t y.v=true/\0<=y.n/\y.n<=9223372036854775807) (w:∀o∈Z,iK o) (j:Z.length<=100000):
  Run ⟨⟨x.lo,x.hi,x.mode,-1099511627777,-1099511627777,0,[],[]⟩,0,0,[]⟩ (A8 x f0 f1 Z) ⟨x,f0,f1,Z.reverse⟩:=by
 refine⟨_,Stp.fed _ f0 f1 x.late i m s,_,Stp.marks _ x.m0 x.m1 c ⟨rfl,rfl⟩ ⟨rfl,rfl⟩ d e,?_⟩;have g:=Lu ⟨x.lo,x.hi,x.mode,x.m0,x.m1,x.late,[],[]⟩ f0 f1 [] x.R0 [] (by simpa using p) (by simpa using q) l;have f:=Lv ⟨x.lo,x.hi,x.mode,x.m0,x.m1,x.late,x.R0,[]⟩ f0 f1 [] x.R1 [] (by simpa using u) (by simpa using z) r;have h:=Pn x f0 f1 Z [] w (by simpa using j);rw[List.nil_append]at g f;rw[List.append_nil]at h;exact g.append (f.append (h.append ⟨_,Stp.fin _,rfl⟩))
end
section
open Go.Proofs.Tryz Go.Joins
theorem EO(n:Int)(W:World)(h: -9223372036854775808<=n/\n<=9223372036854775807):Calls prog 161 #[.string (bW (Lib.itoa n))] W λe a=>e=.returned (.tuple #[.int .i64 n,.nilIface])/\Below W.heap.size W a:=by
 have hl:=Lib.itoa_length_le n h.1 h.2;refine(Tryz.strconv_Atoi_ok (bW (Lib.itoa n)) (by show(Lib.itoa n).toArray.size<=_;simp;omega) n (LA n h.1 h.2) W).mono ?_;rintro e a ⟨rfl,rfl|⟨t,rfl⟩⟩
 .exact⟨rfl,iL _ _⟩
 .exact⟨rfl,below_bytesWorld _ _ _ _ (aC _)⟩
theorem Pq:lF:=λg off n c k t v w f e h d b a=>LB g off n c k t v w f e h d b a
theorem J6(hd:List UInt8)(ns:List Int):hd++cK ns=dW hd (ns.map Lib.itoa):=by
 unfold dW cK;rw[List.flatMap_map]
theorem EP(d:UInt8)(ns:List Int):[111,117,116,32,d]++cK ns=dW [111,117,116] ([d]::ns.map Lib.itoa):=by
 unfold dW cK;rw[List.flatMap_cons,List.flatMap_map];rfl
theorem Pt(p:Ln)(v:jN p.1 p.2.length)(i:∀n∈p.2,-9223372036854775808<=n/\n<=9223372036854775807)(j:Nat)(w W:World)(B:xO w)(F:Below w.heap.size w W)(x:nH W j)(u:j<W.heap.size):
  Calls prog 91 #[.string ⟨(Pk p).toArray⟩,.map (some j)] W λe f=>∃g,e=.returned (.tuple #[.agg #[.string p.1,.slice (some ⟨g,0,none⟩) p.2.length p.2.length],.bool true])/\f.heap[g]?=some (.cells (p.2.map (Value.int .i64)).toArray 3)/\W.heap.size<=g/\Below W.heap.size W f:=by
 obtain⟨hd,ns⟩:=p
 have t:∀(s sep:ByteArray) (V:World),Below W.heap.size W V->s.size<4294967281->1<=sep.size->Calls prog 80 #[.string s,.string sep] V λe f=>e=.returned (.slice (some ⟨V.heap.size,0,none⟩) (Lib.countB s sep+1) (Lib.countB s sep+1))/\f=V.alloc (.cells ((Lib.splitB sep 0 (Lib.countB s sep) s).map Value.string).toArray 9):=by
  intro s sep V C G q;obtain⟨m,H⟩:=((B.below F).below C).max;exact Tryz.strings_Split s sep m V G H q
 have r:∀(l:List Int),l.length<=6->(∀n∈l,-9223372036854775808<=n/\n<=9223372036854775807)->(cK l).length<=283:=λl q z=>by
  have:=uw l z;omega
 have plain:∀(b:List UInt8) (k:Nat),jN (bW b) k->1<=k->(32:UInt8)∉b->b≠[111,117,116]->b.length<=10->ns.length=k->Calls prog 91 #[.string ⟨(Pk (bW b,ns)).toArray⟩,.map (some j)] W λe f=>∃g,e=.returned (.tuple #[.agg #[.string (bW b),.slice (some ⟨g,0,none⟩) k k],.bool true])/\f.heap[g]?=some (.cells (ns.map (Value.int .i64)).toArray 3)/\W.heap.size<=g/\Below W.heap.size W f:=by
  intro b k c q o A hl a
  have E:k<=6:=by cases c <;>omega
  have e:Pk (bW b,ns)=dW b (ns.map Lib.itoa):=J6 b ns;rw[e];refine(aae k q ns a i j W x u t (λn V h=>EO n V h)).1 b c o A ?_;rw[<-J6,List.length_append];have:=r ns (by omega) i;omega
 have outs:∀(d:UInt8) (k:Nat),jN (bW [111,117,116,32,d]) k->1<=k->d≠32->ns.length=k->Calls prog 91 #[.string ⟨(Pk (bW [111,117,116,32,d],ns)).toArray⟩,.map (some j)] W λe f=>∃g,e=.returned (.tuple #[.agg #[.string (bW [111,117,116,32,d]),.slice (some ⟨g,0,none⟩) k k],.bool true])/\f.heap[g]?=some (.cells (ns.map (Value.int .i64)).toArray 3)/\W.heap.size<=g/\Below W.heap.size W f:=by
  intro d k c q o a
  have E:k<=6:=by cases c <;>omega
  have e:Pk (bW [111,117,116,32,d],ns)=dW [111,117,116] ([d]::ns.map Lib.itoa):=EP d ns;rw[e];refine(aae k q ns a i j W x u t (λn V h=>EO n V h)).2 d _ rfl o c ?_;rw[<-EP,List.length_append];have:=r ns (by omega) i;simp only[List.length_cons,List.length_nil];omega
 simp only at v;generalize a:ns.length=k at v
 cases v with
 |plan=>exact plain [112,108,97,110] 3 .plan (by omega) (by decide) (by decide) (by decide) a
 |fed=>exact plain [102,101,100] 3 .fed (by omega) (by decide) (by decide) (by decide) a
 |marks=>exact plain [109,97,114,107,115] 2 .marks (by omega) (by decide) (by decide) (by decide) a
 |row=>exact plain [114,111,119] 5 .row (by omega) (by decide) (by decide) (by decide) a
 |left=>exact outs 49 3 .left (by omega) (by decide) a
 |right=>exact outs 50 3 .right (by omega) (by decide) a
 |pair=>exact outs 51 6 .pair (by omega) (by decide) a
 |fin=>
  have y:ns=[]:=di a;subst y;exact Po j W x u t
theorem Pw(b:ByteArray)(m:b.size<=60000)(P:Nat->(Nat->Prop)->World->Prop)(q:∀be,tV (P be))(w:World)
  (n:Calls prog 42 #[.string b] w λe a=>∃be S,e=.returned (.tuple #[.pointer (some ⟨be,0,none⟩),.bool true])/\P be S a/\(∀k,S k->w.heap.size<=k/\k<a.heap.size)/\Below w.heap.size w a)
  (f:∀be S W,P be S W->Below w.heap.size w W->Calls prog 18 #[.pointer (some ⟨be,0,none⟩)] W λe a=>e=.returned (.tuple #[.string b,.nilIface])/\Below W.heap.size W a):
  Calls prog 8 #[.string b] w λe a=>∃be S,e=.returned (.tuple #[.pointer (some ⟨be,0,none⟩),.nilIface])/\P be S a/\(∀k,S k->w.heap.size<=k/\k<a.heap.size)/\Below w.heap.size w a:=by
 have l:Hid (Calls prog 42 #[.string b] w λe a=>∃be,e=.returned (.tuple #[.pointer (some ⟨be,0,none⟩),.bool true])/\Hid (∃S,P be S a/\(∀k,S k->w.heap.size<=k/\k<a.heap.size)/\Below w.heap.size w a)):=by
  refine n.mono ?_;rintro e a ⟨be,S,rfl,h⟩;exact⟨be,rfl,S,h⟩
 have j:Hid (∀be W,Hid (∃S,P be S W/\(∀k,S k->w.heap.size<=k/\k<W.heap.size)/\Below w.heap.size w W)->Calls prog 18 #[.pointer (some ⟨be,0,none⟩)] W λe a=>e=.returned (.tuple #[.string b,.nilIface])/\Hid (∃S,P be S a/\(∀k,S k->w.heap.size<=k/\k<a.heap.size)/\Below w.heap.size w a)):=by
  intro be W p;obtain⟨S,o,c,d⟩:=p.out;refine(f be S W o d).mono ?_;rintro e a ⟨rfl,g⟩;exact⟨rfl,S,q be S W a o g.size (λk i=>g.block k (c k i).2),λk i=>⟨(c k i).1,aR (c k i).2 g.size⟩,d.trans (g.mono d.size)⟩
 have i0:(b.size:Int)<=60000:=by omega
 clear n f m;go_enter func8,ntmps8
 go_wp2_with (first
  |(go_at_call 18;refine(j.out _ _ c).mono ?_;rintro e w3 ⟨rfl,d⟩)
  |(go_at_call 42;refine l.out.mono ?_;rintro e w2 ⟨be,rfl,c⟩)
  |fail)
 obtain⟨S,r,t,s⟩:=d.out;exact ja (v:= .tuple #[.pointer (some ⟨be,0,none⟩),.nilIface]) (by simp[results,Tryz.results8,go_sem]) rfl ⟨be,S,rfl,r,t,s⟩
structure DI(x:J)(f0 f1:Int):Prop where
 pl:dn x.lo x.hi x.mode
 m0: -1099511627777<=x.m0/\x.m0<=1099511627776
 m1: -1099511627777<=x.m1/\x.m1<=1099511627776
 late:0<=x.late/\x.late<=9223372036854775807
 f0:0<=f0/\f0<=9223372036854775807
 f1:0<=f1/\f1<=9223372036854775807
 s0:ay x.R0
 s1:ay x.R1
 l0:x.R0.length<=300
 l1:x.R1.length<=300
 g0:∀y∈x.R0,au y.k y.t y.v=true/\0<=y.n/\y.n<=9223372036854775807
 g1:∀y∈x.R1,au y.k y.t y.v=true/\0<=y.n/\y.n<=9223372036854775807
theorem DI.sv64{x:J}{f0 f1:Int}(h:DI x f0 f1):SL x:=by
 obtain⟨⟨a1,a2⟩,⟨a3,a4⟩,_,a5⟩:=h.pl;have b0:=h.m0;have b1:=h.m1;have b2:=h.late;refine⟨⟨by omega,by omega⟩,⟨by omega,by omega⟩,⟨by omega,by omega⟩,⟨by omega,by omega⟩,⟨by omega,by omega⟩,⟨by omega,by omega⟩,λy a=>?_,λy a=>?_⟩
 .obtain⟨g,b,c⟩:=h.g0 y a;have:=pJ g;exact⟨⟨by omega,by omega⟩,⟨by omega,by omega⟩,⟨by omega,by omega⟩,⟨by omega,by omega⟩⟩
 .obtain⟨g,b,c⟩:=h.g1 y a;have:=pJ g;exact⟨⟨by omega,by omega⟩,⟨by omega,by omega⟩,⟨by omega,by omega⟩,⟨by omega,by omega⟩⟩
theorem ER{a b c:Int}(ha:In64 a)(hb:In64 b)(hc:In64 c):∀n∈[a,b,c],In64 n:=by
 intro n d;simp only[List.mem_cons,List.mem_nil_iff,or_false]at d
 rcases d with rfl|rfl|rfl <;>assumption
theorem Px(x:J)(f0 f1:Int)(Z:List O)(h:DI x f0 f1)(e:∀o∈Z,iK o):∀p∈jE x f0 f1 Z,jN p.1 p.2.length/\(∀n∈p.2,In64 n)/\(10:UInt8)∉p.1.data.toList:=by
 have a:=h.sv64;intro p d;unfold jE A8 at d;simp only[List.mem_cons,List.mem_append,List.mem_map,List.mem_nil_iff,or_false]at d
 rcases d with rfl|rfl|rfl|⟨y,hy,rfl⟩|⟨y,hy,rfl⟩|⟨o,ho,rfl⟩|rfl
 .exact⟨.plan,ER a.lo a.hi a.mode,show(10:UInt8)∉nI.data.toList by decide⟩
 .exact⟨.fed,ER ⟨by have:=h.f0;omega,h.f0.2⟩ ⟨by have:=h.f1;omega,h.f1.2⟩ a.late,show(10:UInt8)∉wC.data.toList by decide⟩
 .refine⟨.marks,?_,show(10:UInt8)∉jL.data.toList by decide⟩;intro n b;simp only[List.mem_cons,List.mem_nil_iff,or_false]at b
  rcases b with rfl|rfl
  .exact a.m0
  .exact a.m1
 .refine⟨.row,?_,show(10:UInt8)∉pX.data.toList by decide⟩;obtain⟨g,i,j,f⟩:=a.r0 y hy;intro n b;simp only[List.mem_cons,List.mem_nil_iff,or_false]at b
  rcases b with rfl|rfl|rfl|rfl|rfl
  .exact⟨by omega,by omega⟩
  all_goals assumption
 .refine⟨.row,?_,show(10:UInt8)∉pX.data.toList by decide⟩;obtain⟨g,i,j,f⟩:=a.r1 y hy;intro n b;simp only[List.mem_cons,List.mem_nil_iff,or_false]at b
  rcases b with rfl|rfl|rfl|rfl|rfl
  .exact⟨by omega,by omega⟩
  all_goals assumption
 .have c:=yD o (jB (e o ho))
  cases e o ho with
  |left k t v h=>exact⟨.left,c,by simp[fu,bn]⟩
  |right k t v h=>exact⟨.right,c,by simp[fu,bn]⟩
  |pair k t v t2 v2 h h2=>exact⟨.pair,c,by simp[fu]⟩
 .exact⟨.fin,by simp,by decide⟩
theorem xP(x:J)(f0 f1:Int)(Z:List O)(h:DI x f0 f1)(E:∀o∈Z,iK o)(YT:Z.length<=5000)(P:bJ Z)(C:(bN x f0 f1 Z).length<=60000)(w:World)(I:xO w):
  Calls prog 8 #[.string ⟨(bN x f0 f1 Z).toArray⟩] w λe n=>∃be S,e=.returned (.tuple #[.pointer (some ⟨be,0,none⟩),.nilIface])/\PE ⟨x,f0,f1,Z.reverse⟩ be S n/\(∀k,S k->w.heap.size<=k/\k<n.heap.size)/\Below w.heap.size w n:=by
 have m:=Px x f0 f1 Z h E;obtain⟨f,z,B,G⟩:=(Lx x f0 f1 Z h.pl h.m0 h.m1 h.late h.f0 h.f1 h.s0 h.s1 h.l0 h.l1 h.g0 h.g1 E (by omega)).seq;refine Pw ⟨(bN x f0 f1 Z).toArray⟩ (by show(bN x f0 f1 Z).toArray.size<=_;simpa using C) (PE ⟨x,f0,f1,Z.reverse⟩) (cz _) w ?_ ?_
 .have d:=Pg (λs c w=>Tryz.strings_Index_one s c w) (λs p w X=>Tryz.strings_TrimSuffix s p w X) (λi be S W=>PE (f (i -1)) be S W) (λi be=>cz _ be) (jE x f0 f1 Z) Pk w (by unfold jE;simp)
   (λp b=>X7 p (m p b).2.2) (by rw[<-vL];omega)
   (λi p r W b t M L=>Pt p (m p (cZ b)).1 (m p (cZ b)).2.1 r w W I t M L)
   (λp g W b t q=>?_) (λi p be S g W hi b t hP q Y=>?_)
  .rw[<-vL]at d;refine d.mono ?_;rintro e n ⟨be,S,he,b,U⟩
   have e1:(jE x f0 f1 Z).length -1=(A8 x f0 f1 Z).length:=by unfold jE;simp
   simp only[e1,B]at b;exact⟨be,S,he,b,U⟩
  .have l:p=(nI,[x.lo,x.hi,x.mode]):=by
    unfold jE at b;simpa using b.symm
   subst l;have F:=(ax.1 q).1;refine(Py g 0 3 x.lo x.hi x.mode (λbe V=>∃S,PE (f 0) be S V/\(∀k,S k->W.heap.size<=k/\k<V.heap.size)/\Below W.heap.size W V) W F (aI q 0 rfl) (aI q 1 rfl) (aI q 2 rfl) ?_ ?_).mono ?_
   .rintro be V T ⟨S,A,u,v⟩ d;exact⟨S,cz _ be S V T A d.size (λk a=>d.block k (u k a).2),λk a=>⟨(u k a).1,aR (u k a).2 d.size⟩,v.trans (d.mono v.size)⟩
   .intro V K;have Q:=K.size;refine(JM x.lo x.hi x.mode V h.pl).mono ?_;rintro e n ⟨be,bj,r,rfl,y,b1,b2,b3,d⟩;refine⟨be,rfl,⟨aT bj r (.slice none 0 0) (.slice none 0 0) none (λk=>k=be),?_,λk a=>⟨?_,y.lt a⟩,K.trans (d.mono Q)⟩,d⟩
    .rw[z];exact⟨bj,r,_,_,_,_,y,λ_=>Iff.rfl⟩
    .rcases a with(a|a|a|a)|a|a
     .omega
     .omega
     .simp[Value.ownBlock]at a
     .simp[Value.ownBlock]at a
     .cases a
     .have:k=be:=a;omega
   .rintro e n ⟨be,rfl,S,A,u,v⟩;exact⟨be,S,rfl,A,u,v⟩
  .obtain⟨i,rfl⟩:∃j,i=j+1:=⟨i -1,by omega⟩
   have l:(A8 x f0 f1 Z)[i]?=some p:=by
    unfold jE at b;simpa using b
   exact Lt Pq (G i p l) hP q Y
 .rintro be S W ⟨bj,r,v0,N,om,Sg,y,hS⟩ t;have H:=A9 be bj r v0 N f0 f1 om Sg x Z.reverse Z.reverse Z W y (I.below t).tab h.sv64 h.l0 h.l1 (λo R=>jB (E o (by simpa using R))) (List.reverse_perm Z).symm P;rw[if_neg (by rintro(e|e);(simp at e;omega);omega)]at H;exact H
end
section
theorem adu(L:List O):∃Z:List O,Z.Perm L/\bJ Z:=by
 refine⟨L.mergeSort (λa b=>decide (cO a b<=0)),List.mergeSort_perm L _,?_⟩
 have h:=List.pairwise_mergeSort (le:=λa b:O=>decide (cO a b<=0)) (λa b c e d=>by
  simp only[decide_eq_true_eq]at e d⊢
  exact xz a b c e d) (λa b=>by
  have:=qw a b;simp only[Bool.or_eq_true,decide_eq_true_eq]
  omega) L
 exact h.imp (λh=>by simpa using h)
theorem NR{x:J}{f0 f1:Int}{L Z:List O}{be:Nat}{S:Nat->Prop}{W:World}(j:PE ⟨x,f0,f1,L⟩ be S W)(i:xO W)(a:DI x f0 f1)(p:∀o∈L,iK o)(h:Z.Perm L)(g:bJ Z):
  Calls Tryz.prog 18 #[.pointer (some ⟨be,0,none⟩)] W λe f=>e=.returned (if 5000<L.length∨60000<(bN x f0 f1 Z).length then .tuple #[.string ⟨#[]⟩,.iface 24 (.int .i64 4)]else .tuple #[.string ⟨(bN x f0 f1 Z).toArray⟩,.nilIface])/\Below W.heap.size W f:=by
 obtain⟨bj,c,n,m,l,k,b,hS⟩:=j;exact A9 be bj c n m f0 f1 l k x L L Z W b i.tab a.sv64 a.l0 a.l1 (λo d=>jB (p o d)) h g
end
end Go.Proofs.YthfpipieboophaaGreatDoor
