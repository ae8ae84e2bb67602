import Derived.Test.YthfpipieboophaaGreatDoorZLde
import Derived.Test.YthfpipieboophaaGreatDoorLdu
import Derived.Test.YthfpipieboophaaGreatDoorZSvf
import Derived.Test.YthfpipieboophaaGreatDoorZAs
namespace Go.Proofs.YthfpipieboophaaGreatDoor
set_option maxRecDepth 100000
set_option maxHeartbeats 40000000
open Go.RowKit Go.Sort Go.Shelf
section
open Go.Proofs.Tryz Go.Joins
attribute [local go_sem] Oper.semAt_some
structure Bd(w:World)(f d:Nat)(m:Value)(W:World):Prop where
 low:Below w.heap.size w W
 r1:W.heap[w.heap.size]?=some (.cells #[.pointer none] 27)
 r2:W.heap[w.heap.size+1]?=some (.cells #[.bool false] 4)
 re:W.heap[w.heap.size+1+1]?=some (.cells #[m] 27)
 rk:W.heap[f]?=some (.cells #[.map (some d)] 152)
 kn:nH W d
 kb3:w.heap.size+3<=f
 bm3:w.heap.size+3<=d
section
variable{w:World}{f d:Nat}{m:Value}{W o:World}
theorem Bd.lts(h:Bd w f d m W):w.heap.size+2<W.heap.size/\f<W.heap.size/\d<W.heap.size:=by
 refine⟨(aD.1 h.re).1,(aD.1 h.rk).1,?_⟩;obtain⟨es,c,a,_⟩:=h.kn;exact(aD.1 a).1
theorem Bd.still(h:Bd w f d m W)(b:Below w.heap.size W o)(a:∀k,k=w.heap.size∨k=w.heap.size+1∨k=w.heap.size+1+1∨k=f∨k=d->o.heap[k]?=W.heap[k]?):Bd w f d m o:=
 ⟨h.low.trans b,(a _ (.inl rfl)).trans h.r1,(a _ (.inr (.inl rfl))).trans h.r2,(a _ (.inr (.inr (.inl rfl)))).trans h.re,(a _ (.inr (.inr (.inr (.inl rfl))))).trans h.rk,h.kn.still (a _ (.inr (.inr (.inr (.inr rfl))))),h.kb3,h.bm3⟩
theorem Bd.below(h:Bd w f d m W)(a:Below W.heap.size W o):Bd w f d m o:=by
 have l:=h.lts;refine h.still (a.mono (by omega)) (λk b=>a.block k ?_)
 rcases b with rfl|rfl|rfl|rfl|rfl <;>omega
theorem Bd.cells(h:Bd w f d m W):W.cell? ⟨w.heap.size,0,none⟩=some (.pointer none)/\W.cell? ⟨w.heap.size+1,0,none⟩=some (.bool false)/\W.cell? ⟨w.heap.size+1+1,0,none⟩=some m/\W.cell? ⟨f,0,none⟩=some (.map (some d))/\W.frozen? ⟨w.heap.size,0,none⟩=false/\W.frozen? ⟨w.heap.size+1,0,none⟩=false/\W.frozen? ⟨w.heap.size+1+1,0,none⟩=false:=
 ⟨by rw[vE h.r1];rfl,by rw[vE h.r2];rfl,by rw[vE h.re];rfl,by rw[vE h.rk];rfl,x9 h.r1 0,x9 h.r2 0,x9 h.re 0⟩
theorem Bd.put(h:Bd w f d m W)(u:Value):Bd w f d u (W.setCell ⟨w.heap.size+1+1,0,none⟩ u):=by
 have c:∀j,j≠w.heap.size+1+1->(W.setCell ⟨w.heap.size+1+1,0,none⟩ u).heap[j]?=W.heap[j]? :=λj e=>zw _ _ _ _ e
 have a:=h.kb3;have b:=h.bm3;refine⟨h.low.setCell (p:=⟨w.heap.size+1+1,0,none⟩) (by show w.heap.size<=w.heap.size+1+1;omega) _,(c _ (by omega)).trans h.r1,(c _ (by omega)).trans h.r2,?_,(c _ (by omega)).trans h.rk,h.kn.still (c _ (by omega)),a,b⟩;rw[yc h.re];rfl
end
def Bi(P:Nat->Nat->(Nat->Prop)->World->Prop)(w:World)(f d:Nat)(B:Nat)(i:Nat)(W:World):Prop:=
 ∃m,Bd w f d m W/\((i=0/\m=.pointer none)∨∃be S,1<=i/\m=.pointer (some ⟨be,0,none⟩)/\P i be S W/\∀k,S k->B<=k/\k<W.heap.size)
theorem Bi.grown{P:Nat->Nat->(Nat->Prop)->World->Prop}(s:∀i be,tV (P i be)){w:World}{f d B i:Nat}{W o:World}{row:Option Nat}(h:Bi P w f d B i W)(b:W.grownBy o row)(c:∀k,row=some k->w.heap.size+3<=k/\k≠f/\k≠d/\k<B):Bi P w f d B i o:=by
 obtain⟨m,q,g⟩:=h;have l:=q.lts;have r:Below w.heap.size W o:=(zI _ _).grown b (by omega) (λk e=>by have:=(c k e).1;omega);refine⟨m,q.still r (λk a=>b.block k ?_ (λe=>?_)),?_⟩
 .rcases a with rfl|rfl|rfl|rfl|rfl <;>omega
 .obtain⟨j,n,p,_⟩:=c k e.symm
  rcases a with rfl|rfl|rfl|rfl|rfl <;>omega
 .rcases g with g|⟨be,S,j,n,p,h4⟩
  .exact .inl g
  .refine .inr ⟨be,S,j,n,s i be S W o p b.size (λk a=>b.block k (h4 k a).2 (λe=>?_)),λk a=>⟨(h4 k a).1,fO (h4 k a).2 b.size⟩⟩;have:=(c k e.symm).2.2.2;have:=(h4 k a).1;omega
theorem Pg(WX:∀(s:ByteArray) (c:UInt8) (w:World),Calls prog 154 #[.string s,.string ⟨#[c]⟩] w λe b=>e=.returned (.int .i64 (Lib.indexByte s.data.toList c))/\b=w)
  (HTr:∀(s p:ByteArray) (w:World),s.size<=9223372036854775807->Calls prog 90 #[.string s,.string p] w λe b=>e=.returned (.string ⟨(Lib.trimSuffix s.data.toList p.data.toList).toArray⟩)/\b=w)
  (P:Nat->Nat->(Nat->Prop)->World->Prop) (hP:∀i be,tV (P i be)) (ls:List (ByteArray×List Int)) (u:ByteArray×List Int->List UInt8) (w:World)
  (T:ls≠[]) (h10:∀p∈ls,(10:UInt8)∉u p) (hsz:(ls.flatMap λp=>u p++[10]).length<=1000000)
  (ZL:∀(i:Nat) p d W,ls[i]?=some p->Below w.heap.size w W->nH W d->d<W.heap.size->Calls prog 91 #[.string ⟨(u p).toArray⟩,.map (some d)] W λe b=>∃g,e=.returned (.tuple #[.agg #[.string p.1,.slice (some ⟨g,0,none⟩) p.2.length p.2.length],.bool true])/\b.heap[g]?=some (.cells (p.2.map (Value.int .i64)).toArray 3)/\W.heap.size<=g/\Below W.heap.size W b)
  (HS:∀p g W,ls[0]?=some p->Below w.heap.size w W->W.heap[g]?=some (.cells (p.2.map (Value.int .i64)).toArray 3)->Calls prog 93 #[.agg #[.string p.1,.slice (some ⟨g,0,none⟩) p.2.length p.2.length]] W λe b=>∃be S,e=.returned (.tuple #[.pointer (some ⟨be,0,none⟩),.bool true])/\P 1 be S b/\(∀k,S k->W.heap.size<=k/\k<b.heap.size)/\Below W.heap.size W b)
  (HR:∀(i:Nat) p be S g W,1<=i->ls[i]?=some p->Below w.heap.size w W->P i be S W->W.heap[g]?=some (.cells (p.2.map (Value.int .i64)).toArray 3)->¬S g->Calls prog 92 #[.pointer (some ⟨be,0,none⟩),.agg #[.string p.1,.slice (some ⟨g,0,none⟩) p.2.length p.2.length]] W λe b=>e=.returned (.bool true)/\∃S',P (i+1) be S' b/\(∀k,S' k->(S k∨W.heap.size<=k)/\k<b.heap.size)/\Turned S W b):
  Calls prog 42 #[.string ⟨(ls.flatMap λp=>u p++[10]).toArray⟩] w λe b=>∃be S,e=.returned (.tuple #[.pointer (some ⟨be,0,none⟩),.bool true])/\P ls.length be S b/\(∀k,S k->w.heap.size<=k/\k<b.heap.size)/\Below w.heap.size w b:=by
 have e10:∀l:List (ByteArray×List Int),(l.flatMap λp=>u p++[10])=(l.map u).flatMap λx=>x++[10]:=λl=>by rw[List.flatMap_map]
 have Z:∀W,Calls prog 90 #[.string ⟨(ls.flatMap λp=>u p++[10]).toArray⟩,.string ⟨#[10]⟩] W λe b=>e=.returned (.string ⟨(aA (ls.map u)).toArray⟩)/\b=W:=by
  intro W;refine(HTr _ ⟨#[10]⟩ W (by show(ls.flatMap λp=>u p++[10]).toArray.size<=_;simp only[List.size_toArray];omega)).mono ?_;rintro e b ⟨rfl,h⟩;refine⟨?_,h⟩;show _=Ending.returned (Value.string ⟨(aA (ls.map u)).toArray⟩);simp only;rw[e10];obtain⟨p,t,rfl⟩:=List.exists_cons_of_ne_nil T;rw[List.map_cons,A7]
 have hlen:(aA (ls.map u)).length<=1000000:=by
  have R:(aA (ls.map u)).length<=((ls.map u).flatMap λx=>x++[10]).length:=by
   obtain⟨p,t,rfl⟩:=List.exists_cons_of_ne_nil T;rw[List.map_cons,<-A7];unfold Lib.trimSuffix
   split
   .rw[List.length_take];omega
   .exact aO _
  rw[<-e10]at R;omega
 revert Z;generalize(⟨(ls.flatMap λp=>u p++[10]).toArray⟩:ByteArray)=txt;intro Z;clear e10 HTr hsz;refine(Dx (n:=4)).1 ?_;refine callsIn_of_wp_marks func42 rfl trivial ?_ rfl;simp only[ntmps42,List.size_toArray,List.length_cons,List.length_nil,Nat.reduceAdd,Nat.reduceSub,Array.replicate_succ,Array.replicate_zero,List.push_toArray,List.append_toArray,List.nil_append,List.cons_append];have f83:Fence.wide.fn 88:=trivial;have f84:Fence.wide.fn 89:=trivial;have f85:Fence.wide.fn 90:=trivial
 gi_wp2_with (first
  |(gi_at_call 89;refine(Dx.2 (CG _ _ _)).mono ?_;rintro e y ⟨rfl,A⟩;subst A)
  |(gi_at_call 90;refine(Dx.2 (Z _)).mono ?_;rintro e w3 ⟨rfl,hw3⟩;have hw3:=hw3.symm;subst hw3)
  |(gi_at_call 88;refine(Dx.2 (EI _)).mono ?_;rintro e j ⟨rfl,M,v⟩)
  |gi_in)
 have hW0:Below w.heap.size w (((w.alloc (.cells #[.pointer none] 27)).alloc (.cells #[.bool false] 4)).alloc (.cells #[.pointer none] 27)):=((wT _ _ _).alloc (by simp only[World.size_alloc];omega) _)
 have F:(((w.alloc (.cells #[.pointer none] 27)).alloc (.cells #[.bool false] 4)).alloc (.cells #[.pointer none] 27)).heap.size=w.heap.size+1+1+1:=by simp
 have q1:(((w.alloc (.cells #[.pointer none] 27)).alloc (.cells #[.bool false] 4)).alloc (.cells #[.pointer none] 27)).heap[w.heap.size]?=some (.cells #[.pointer none] 27):=(zk _ _ _ (by simp only[World.size_alloc];omega)).trans ((zk _ _ _ (by simp only[World.size_alloc];omega)).trans (vw w _))
 have q2:(((w.alloc (.cells #[.pointer none] 27)).alloc (.cells #[.bool false] 4)).alloc (.cells #[.pointer none] 27)).heap[w.heap.size+1]?=some (.cells #[.bool false] 4):=by
  refine(zk _ _ _ (by simp only[World.size_alloc];omega)).trans ?_;have:=vw (w.alloc (.cells #[.pointer none] 27)) (.cells #[.bool false] 4)
  rwa [World.size_alloc]at this
 have q3:(((w.alloc (.cells #[.pointer none] 27)).alloc (.cells #[.bool false] 4)).alloc (.cells #[.pointer none] 27)).heap[w.heap.size+1+1]?=some (.cells #[.pointer none] 27):=by
  have:=vw ((w.alloc (.cells #[.pointer none] 27)).alloc (.cells #[.bool false] 4)) (.cells #[.pointer none] 27)
  rwa [World.size_alloc,World.size_alloc]at this
 have X6:∀(W:World),Below j.heap.size j W->W.heap[j.heap.size]?=some (.cells #[.map (some (w.heap.size+1+1+1))] 152)->Bd w j.heap.size (w.heap.size+1+1+1) (.pointer none) W:=by
  intro W hW hkb;have hz:=v.size;rw[F]at hz M;have C:=v.trans (hW.mono v.size);have l:=M.lt;exact⟨hW0.trans (C.mono (by rw[F];omega)),(C.block _ (by rw[F];omega)).trans q1,(C.block _ (by rw[F];omega)).trans q2,(C.block _ (by rw[F];omega)).trans q3,hkb,M.still (hW.block _ l),by omega,by omega⟩
 have hlo:w.heap.size+1+1+1<=j.heap.size:=by have:=v.size;rwa [F]at this
 clear hW0 F q1 q2 q3 M v;obtain⟨y,A⟩:∃y,((((j.alloc (.cells #[.map (some (w.heap.size+1+1+1))] 152)).alloc (.cells #[.string ⟨(aA (ls.map u)).toArray⟩] 9)).alloc (.cells #[.string ⟨#[10]⟩] 9)).alloc (.cells #[.int .i64 0] 3))=y:=⟨_,rfl⟩
 have hs4:y.heap.size=j.heap.size+4:=by rw[<-A];simp
 have X:kI y (j.heap.size+1) (j.heap.size+1+1) (j.heap.size+1+2) (aA (ls.map u)):=by
  rw[<-A];refine⟨?_,?_,?_,by omega,by omega⟩
  .refine(zk _ _ _ (by simp only[World.size_alloc];omega)).trans ((zk _ _ _ (by simp only[World.size_alloc];omega)).trans ?_);have:=vw (j.alloc (.cells #[.map (some (w.heap.size+1+1+1))] 152)) (.cells #[.string ⟨(aA (ls.map u)).toArray⟩] 9)
   rwa [World.size_alloc]at this
  .refine(zk _ _ _ (by simp only[World.size_alloc];omega)).trans ?_;have:=vw ((j.alloc (.cells #[.map (some (w.heap.size+1+1+1))] 152)).alloc (.cells #[.string ⟨(aA (ls.map u)).toArray⟩] 9)) (.cells #[.string ⟨#[10]⟩] 9)
   rwa [World.size_alloc,World.size_alloc]at this
  .have:=vw (((j.alloc (.cells #[.map (some (w.heap.size+1+1+1))] 152)).alloc (.cells #[.string ⟨(aA (ls.map u)).toArray⟩] 9)).alloc (.cells #[.string ⟨#[10]⟩] 9)) (.cells #[.int .i64 0] 3)
   rwa [World.size_alloc,World.size_alloc,World.size_alloc]at this
 have N:Bd w j.heap.size (w.heap.size+1+1+1) (.pointer none) y:=by
  rw[<-A];refine X6 _ (((wT _ _ _).alloc (by simp only[World.size_alloc];omega) _).alloc (by simp only[World.size_alloc];omega) _) ?_;exact(zk _ _ _ (by simp only[World.size_alloc];omega)).trans ((zk _ _ _ (by simp only[World.size_alloc];omega)).trans ((zk _ _ _ (by simp only[World.size_alloc];omega)).trans (vw j _)))
 have acp:w.heap.size+1+1+1<j.heap.size+4:=by omega
 have acr:y.heap.size<=j.heap.size+4:=by omega
 have acs:j.heap.size+4<=y.heap.size:=by omega
 clear hs4;rw[A];clear A X6
 refine EJ WX (n:=4) (by omega) (bs:=j.heap.size+1) (bp:=j.heap.size+1+1) (bv:=j.heap.size+1+2) rfl (ls.map u) (by simpa using T) (λx hx=>by obtain⟨p,hp,rfl⟩:=oz.1 hx;exact h10 p hp) hlen X
  (Bi P w j.heap.size (w.heap.size+1+1+1) (y.heap.size+2)) ?hI ⟨_,N,.inl ⟨rfl,rfl⟩⟩
  (λx=>{ tmps:= #[.string txt,undef,.pointer (some ⟨w.heap.size,0,none⟩),.pointer (some ⟨w.heap.size+1,0,none⟩),.pointer (some ⟨w.heap.size+1+1,0,none⟩),.pointer (some ⟨j.heap.size,0,none⟩),.string ⟨x.toArray⟩,undef,undef,.map (some (w.heap.size+1+1+1)),.string txt,.string ⟨(aA (ls.map u)).toArray⟩,.func (.func 237) #[] #[.pointer (some ⟨j.heap.size+1+1,0,none⟩),.pointer (some ⟨j.heap.size+1,0,none⟩),.pointer (some ⟨j.heap.size+1+2,0,none⟩)],.string ⟨x.toArray⟩,undef,undef,undef,undef,undef,undef,undef,undef,undef,undef,undef,undef,undef,undef,undef,undef,undef,undef,undef,undef,undef,undef,undef],defers:=[]}) ?assign ?body ?done
 case hI=>
  intro i W o row hB hg hr;refine hB.grown hP hg (λk e=>?_)
  rcases hr k e with rfl|rfl
  .omega
  .omega
 case assign=>
  intro x W K hK
  gi_wp2
  exact hK
 case body=>
  intro i x W hx hB hWs
  obtain⟨p,hp,rfl⟩:∃p,ls[i]?=some p/\u p=x:=by
   rw[List.getElem?_map]at hx
   cases hq:ls[i]? with
   |none=>rw[hq]at hx;cases hx
   |some p=>rw[hq]at hx;exact⟨p,rfl,by injection hx⟩
  obtain⟨m,r,hE⟩:=hB;have hcs:=r.cells;have lts:=r.lts;have WR:=ZL i p _ W hp r.low r.kn lts.2.2
  rcases hE with⟨rfl,rfl⟩|⟨be,S,R,rfl,YR,I⟩
  .have Vr:Hid (Calls prog 91 #[.string ⟨(u p).toArray⟩,.map (some (w.heap.size+1+1+1))] W λe b=>∃g,e=.returned (.tuple #[.agg #[.string p.1,.slice (some ⟨g,0,none⟩) p.2.length p.2.length],.bool true])/\(b.cell? ⟨w.heap.size+1+1,0,none⟩=some (.pointer none)/\w.heap.size+1+1<b.heap.size)/\Hid (b.heap[g]?=some (.cells (p.2.map (Value.int .i64)).toArray 3)/\Bd w j.heap.size (w.heap.size+1+1+1) (.pointer none) b/\Below W.heap.size W b)):=by
    refine WR.mono ?_;rintro e b ⟨g,rfl,hg1,hge,Q⟩;have B:=r.below Q;exact⟨g,rfl,⟨B.cells.2.2.1,B.lts.1⟩,hg1,B,Q⟩
   have hS':Hid (∀g z,Hid (z.heap[g]?=some (.cells (p.2.map (Value.int .i64)).toArray 3)/\Bd w j.heap.size (w.heap.size+1+1+1) (.pointer none) z/\Below W.heap.size W z)->
     Calls prog 93 #[.agg #[.string p.1,.slice (some ⟨g,0,none⟩) p.2.length p.2.length]] (z.alloc (.cells #[.string p.1,.slice (some ⟨g,0,none⟩) p.2.length p.2.length] 169)) λe b=>∃be,e=.returned (.tuple #[.pointer (some ⟨be,0,none⟩),.bool true])/\(b.cell? ⟨w.heap.size+1+1,0,none⟩=some (.pointer none)/\b.frozen? ⟨w.heap.size+1+1,0,none⟩=false)/\Hid (∃S,P 1 be S b/\(∀k,S k->W.heap.size<=k/\k<b.heap.size)/\Bd w j.heap.size (w.heap.size+1+1+1) (.pointer none) b/\Below W.heap.size W b)):=by
    intro g z hh;obtain⟨g1,g2,g3⟩:=hh.out;have U:=wh z (.cells #[.string p.1,.slice (some ⟨g,0,none⟩) p.2.length p.2.length] 169);have L:=g2.below U;refine(HS p g _ hp L.low ((U.block g (aD.1 g1).1).trans g1)).mono ?_;rintro e b ⟨be,S,rfl,hP1,H,C⟩;have E:=L.below C;have hz1:=g3.size;have hz2:=U.size;exact⟨be,rfl,⟨E.cells.2.2.1,E.cells.2.2.2.2.2.2⟩,S,hP1,λk q=>⟨by have:=(H k q).1;omega,(H k q).2⟩,E,g3.trans ((U.trans (C.mono hz2)).mono hz1)⟩
   have hn2:1<=4 -1 -1:=by decide
   have f86:Fence.wide.fn 91:=trivial;have f88:Fence.wide.fn 93:=trivial;have hlt:=lts.2.1;clear WR ZL HS HR r lts N X
   gi_wp2_with (first
    |(gi_at_call 93;refine(CallsIn.inRound _ (Dx.2 (hS'.out _ _ R))).mono ?_;rintro e W3 ⟨be,rfl,hc3,h3⟩)
    |(gi_at_call 91;refine(CallsIn.inRound _ (Dx.2 Vr.out)).mono ?_;rintro e z ⟨g,rfl,hc1,R⟩)
    |gi_in)
   obtain⟨S,hP1,H,E,hbW⟩:=h3.out;have N:=E.put (.pointer (some ⟨be,0,none⟩))
   have V:∀k,k≠w.heap.size+1+1->(W3.setCell ⟨w.heap.size+1+1,0,none⟩ (.pointer (some ⟨be,0,none⟩))).heap[k]?=W3.heap[k]? :=λk e=>zw _ _ _ _ e
   have hz:=hbW.size;refine⟨⟨_,N,.inr ⟨be,S,aO _,rfl,hP 1 be S W3 _ hP1 (by simp) (λk q=>V k (by have:=(H k q).1;omega)),λk q=>⟨by have:=(H k q).1;omega,by simpa using(H k q).2⟩⟩⟩,by simpa using hz,λk q=>?_⟩
   rcases q with rfl|rfl|rfl|rfl|rfl
   all_goals exact(V _ (by omega)).trans (hbW.block _ (by omega))
  .have Vr:Hid (Calls prog 91 #[.string ⟨(u p).toArray⟩,.map (some (w.heap.size+1+1+1))] W λe b=>∃g,e=.returned (.tuple #[.agg #[.string p.1,.slice (some ⟨g,0,none⟩) p.2.length p.2.length],.bool true])/\(b.cell? ⟨w.heap.size+1+1,0,none⟩=some (.pointer (some ⟨be,0,none⟩))/\w.heap.size+1+1<b.heap.size)/\Hid (b.heap[g]?=some (.cells (p.2.map (Value.int .i64)).toArray 3)/\W.heap.size<=g/\Bd w j.heap.size (w.heap.size+1+1+1) (.pointer (some ⟨be,0,none⟩)) b/\Below W.heap.size W b)):=by
    refine WR.mono ?_;rintro e b ⟨g,rfl,hg1,hge,Q⟩;have B:=r.below Q;exact⟨g,rfl,⟨B.cells.2.2.1,B.lts.1⟩,hg1,hge,B,Q⟩
   have hS':Hid (∀g z,Hid (z.heap[g]?=some (.cells (p.2.map (Value.int .i64)).toArray 3)/\W.heap.size<=g/\Bd w j.heap.size (w.heap.size+1+1+1) (.pointer (some ⟨be,0,none⟩)) z/\Below W.heap.size W z)->
     Calls prog 92 #[.pointer (some ⟨be,0,none⟩),.agg #[.string p.1,.slice (some ⟨g,0,none⟩) p.2.length p.2.length]] (z.alloc (.cells #[.string p.1,.slice (some ⟨g,0,none⟩) p.2.length p.2.length] 169)) λe b=>e=.returned (.bool true)/\Hid (∃S',P (i+1) be S' b/\(∀k,S' k->y.heap.size+2<=k/\k<b.heap.size)/\Bd w j.heap.size (w.heap.size+1+1+1) (.pointer (some ⟨be,0,none⟩)) b/\Turned S W b)):=by
    intro g z hh;obtain⟨g1,g0,g2,g3⟩:=hh.out;have U:=wh z (.cells #[.string p.1,.slice (some ⟨g,0,none⟩) p.2.length p.2.length] 169);have L:=g2.below U;have hz1:=g3.size;have hz2:=U.size;have v:=g3.trans (U.mono hz1);have hP2:=hP i be S W _ YR v.size (λk q=>v.block k (I k q).2);refine(HR i p be S g _ R hp L.low hP2 ((U.block g (aD.1 g1).1).trans g1) (λq=>by have:=(I g q).2;omega)).mono ?_;rintro e b ⟨rfl,S',Y,YS,hT⟩
    have hbl:∀k,k<y.heap.size+2->k<(z.alloc (.cells #[.string p.1,.slice (some ⟨g,0,none⟩) p.2.length p.2.length] 169)).heap.size->b.heap[k]?=(z.alloc (.cells #[.string p.1,.slice (some ⟨g,0,none⟩) p.2.length p.2.length] 169)).heap[k]? :=λk q M=>hT.block k M (λe=>by have:=(I k e).1;omega)
    have l2:=L.lts;refine⟨rfl,S',Y,λk q=>⟨?_,(YS k q).2⟩,L.still (hT.below (by omega) (λk q=>by have:=(I k q).1;omega)) (λk q=>hbl k ?_ ?_),(Turned.of_below (S:=S) v).trans hT (λ_ _ e=>e)⟩
    .rcases(YS k q).1 with h|h
     .exact(I k h).1
     .omega
    .rcases q with rfl|rfl|rfl|rfl|rfl <;>omega
    .rcases q with rfl|rfl|rfl|rfl|rfl <;>omega
   have hn2:1<=4 -1 -1:=by decide
   have f86:Fence.wide.fn 91:=trivial;have f87:Fence.wide.fn 92:=trivial;have hlt:=lts.2.1;have hi1:=R;have HSk:=hid I;clear WR ZL HS HR r lts N X R I YR
   gi_wp2_with (first
    |(gi_at_call 92;refine(CallsIn.inRound _ (Dx.2 (hS'.out _ _ R))).mono ?_;rintro e W3 ⟨rfl,h3⟩)
    |(gi_at_call 91;refine(CallsIn.inRound _ (Dx.2 Vr.out)).mono ?_;rintro e z ⟨g,rfl,hc1,R⟩)
    |gi_in)
   obtain⟨S',Y,YS,E,hT⟩:=h3.out;refine⟨⟨_,E,.inr ⟨be,S',by omega,rfl,Y,YS⟩⟩,hT.size,λk q=>hT.block k ?_ (λe=>?_)⟩
   .rcases q with rfl|rfl|rfl|rfl|rfl <;>omega
   .have:=(HSk.out k e).1
    rcases q with rfl|rfl|rfl|rfl|rfl <;>omega
 case done=>
  intro W hB hK;obtain⟨m,r,hE⟩:=hB
  have hl0:1<=ls.length:=by
   cases ls with
   |nil=>exact absurd rfl T
   |cons a t=>simp
  rw[List.length_map]at hE
  rcases hE with⟨h,_⟩|⟨be,S,R,rfl,YR,I⟩
  .omega
  have hcs:=r.cells;have lts:=r.lts
  gi_wp2
  obtain⟨G,WY⟩:∃G,(W.setCell ⟨w.heap.size,0,none⟩ (.pointer (some ⟨be,0,none⟩))).setCell ⟨w.heap.size+1,0,none⟩ (.bool true)=G:=⟨_,rfl⟩;rw[WY]
  have hz5:G.heap.size=W.heap.size:=by rw[<-WY];simp
  have ho5:∀k,k≠w.heap.size->k≠w.heap.size+1->G.heap[k]?=W.heap[k]? :=λk e1 e2=>by
   rw[<-WY];exact(zw _ _ _ _ e2).trans (zw _ _ _ _ e1)
  have h51:G.heap[w.heap.size]?=some (.cells #[.pointer (some ⟨be,0,none⟩)] 27):=by
   rw[<-WY,zw _ _ _ _ (by simp),yc r.r1];rfl
  have h52:G.heap[w.heap.size+1]?=some (.cells #[.bool true] 4):=by
   rw[<-WY,yc ((zw _ _ _ _ (by simp)).trans r.r2)];rfl
  have Od:Below w.heap.size w G:=by
   rw[<-WY];exact(r.low.setCell (p:=⟨w.heap.size,0,none⟩) (aO _) _).setCell (p:=⟨w.heap.size+1,0,none⟩) (by show w.heap.size<=w.heap.size+1;omega) _
  have Xq:G.heap[y.heap.size]?=some (.deferred (some [])):=(ho5 _ (by omega) (by omega)).trans hK
  have hpo:∀k,k≠y.heap.size->(G.putObj y.heap.size (.deferred none)).heap[k]?=G.heap[k]? :=λk e=>World.putObj_heap_other e
  have hx0:(G.putObj y.heap.size (.deferred none)).cell? ⟨w.heap.size,0,none⟩=some (.pointer (some ⟨be,0,none⟩)):=by
   rw[vE ((hpo _ (by omega)).trans h51)];rfl
  have hx1:(G.putObj y.heap.size (.deferred none)).cell? ⟨w.heap.size+1,0,none⟩=some (.bool true):=by
   rw[vE ((hpo _ (by omega)).trans h52)];rfl
  refine⟨by simp,.inl ⟨_,_,rfl,run_takeDeferred Xq,?_⟩⟩;refine⟨.tuple #[.pointer (some ⟨be,0,none⟩),.bool true],by simp[results,Tryz.results42,go_sem,hx0,hx1],be,S,rfl,?_,λk q=>⟨by have:=(I k q).1;omega,?_⟩,?_⟩
  .refine hP _ be S W _ YR (by simp[hz5]) (λk q=>(hpo k (by have:=(I k q).1;omega)).trans (ho5 k (by have:=(I k q).1;omega) (by have:=(I k q).1;omega)))
  .simpa[hz5]using(I k q).2
  .exact Od.trans (belowK_b (w:=w) (aO _) G y.heap.size _ _ (by omega) Xq rfl rfl)
end
section
open Go.Proofs.Tryz Go.Joins
variable{c g:Nat}{S:Nat->Prop}{W:World}{n a b k t v:Int}
structure Sx where
 x:J
 f0:Int
 f1:Int
 L:List O
def PE(st:Sx)(c:Nat)(S:Nat->Prop)(W:World):Prop:=
 ∃bj bm v0 v1 om Sg,az W c bj bm v0 v1 st.f0 st.f1 om Sg st.x st.L st.L/\∀k,S k↔aT bj bm v0 v1 om Sg k
theorem cz(st:Sx)(c:Nat):tV (PE st c):=by
 rintro S W W' ⟨bj,l,p,f,m,o,h,d⟩ i j;exact⟨bj,l,p,f,m,o,h.still i (λk e=>j k ((d k).2 e)),d⟩
abbrev Rn(st:Sx)(c:Nat)(S:Nat->Prop)(W w':World):Prop:=∃S',PE st c S' w'/\(∀k,S' k->(S k∨W.heap.size<=k)/\k<w'.heap.size)/\Turned S W w'
theorem uu{st:Sx}{bj f:Nat}{q m j d:Value}{s l:Option Nat}{p i:Nat->Prop}{r o:World}(w:az o c bj f j d st.f0 st.f1 l i st.x st.L st.L)
  (y:∀k,S k↔aT bj f q m s p k) (u:Below W.heap.size W r) (A:Turned (aT bj f q m s p) r o) (B:∀k,aT bj f j d l i k->aT bj f q m s p k∨r.heap.size<=k):Rn st c S W o:=by
 have hz:=u.size;refine⟨aT bj f j d l i,⟨bj,f,j,d,l,i,w,λ_=>Iff.rfl⟩,λk z=>⟨?_,w.lt z⟩,(Turned.of_below (S:=S) u).trans A (λk _ e=>(y k).2 e)⟩
 rcases B k z with h|h
 .exact .inl ((y k).2 h)
 .exact .inr (by omega)
theorem aI{ns:List Int}(h:W.heap[g]?=some (.cells (ns.map (Value.int .i64)).toArray 3))(j:Nat)(d:ns[j]?=some n):W.cell? ⟨g,0+j,none⟩=some (.int .i64 n):=by
 rw[vE h,Nat.zero_add];simp[d]
theorem Ph{st:Sx}{d:Int}(E:PE st c S W)(p:W.heap[g]?=some (.cells ([a,b,d].map (Value.int .i64)).toArray 3))(o:¬S g)
  (w:0<=a/\a<=9223372036854775807) (B:0<=b/\b<=9223372036854775807) (hd:0<=d/\d<=9223372036854775807):
  Calls prog 92 #[.pointer (some ⟨c,0,none⟩),.agg #[.string ⟨#[102,101,100]⟩,.slice (some ⟨g,0,none⟩) 3 3]] W λe m=>e=.returned (.bool true)/\Rn ⟨{ st.x with late:=d},a,b,st.L⟩ c S W m:=by
 obtain⟨bj,u,z,r,G,y,h,l⟩:=E;have j:=(aD.1 p).1
 have s:g≠c:=λe=>o ((l g).2 (.inr (.inr (by rw[e];exact h.inS))))
 have F:g≠bj:=λe=>o ((l g).2 (.inl (.inl e)))
 refine EK c g 0 3 _ W (λC f=>?_);have i:=(f.block g j).trans p;refine(zQ c bj u z r st.f0 st.f1 G y st.x st.L st.L g 0 3 a b d C (h.below f) w B hd (fO j f.size) (aI i 0 rfl) (aI i 1 rfl) (aI i 2 rfl) s F).mono ?_;rintro e m ⟨rfl,q,A⟩;exact⟨rfl,uu (st:=⟨{ st.x with late:=d},a,b,st.L⟩) q l f A (λk e=>.inl e)⟩
theorem step_end{st:Sx}(i:PE st c S W):
  Calls prog 92 #[.pointer (some ⟨c,0,none⟩),.agg #[.string ⟨#[101,110,100]⟩,.slice (some ⟨g,0,none⟩) 0 0]] W λe j=>e=.returned (.bool true)/\Rn st c S W j:=by
 obtain⟨bj,bm,v0,v1,om,Sg,h,f⟩:=i;refine EL c g 0 0 _ W (λW1 d=>?_);exact uu (h.below d) f d (Turned.of_below (zI _ _)) (λk e=>.inl e)
theorem yB{st:Sx}(C:PE st c S W)(o:O)(f:o.wf)(w:st.L.length<=100000)(p:au o.lk o.lt o.lv=true)(y:au o.rk o.rt o.rv=true)(B:o.hl=true->o.hr=true->o.lk=o.rk)
  (i:World) (d:Below W.heap.size W i):Calls prog 166 #[.pointer (some ⟨c,0,none⟩),vO o] i λe j=>e=.returned (.bool true)/\Rn ⟨st.x,st.f0,st.f1,o::st.L⟩ c S W j:=by
 obtain⟨bj,E,r,m,z,q,h,A⟩:=C;refine(zR c bj E r m st.f0 st.f1 z q st.x st.L o i (h.below d) f w p y B).mono ?_;rintro e j ⟨rfl,fG,qY,l,s,u,F⟩;refine⟨rfl,uu (st:=⟨st.x,st.f0,st.f1,o::st.L⟩) l A d (F.mono ?_) (λk e=>?_)⟩
 .rintro k (e|e|e)
  .exact .inr (.inr (by rw[e];exact h.inS))
  .exact .inr (.inl e)
  .exact .inr (.inr e)
 .rcases e with e|e|e
  .exact .inl (.inl e)
  .exact(s k e).imp (λe=>.inr (.inl e)) id
  .exact(u k e).imp (λe=>.inr (.inr e)) id
theorem Lp(H:lF){st:Sx}(M:PE st c S W)(j:W.heap[g]?=some (.cells ([0,k,t,v,n].map (Value.int .i64)).toArray 3))(K:¬S g)
  (E:ay st.x.R0) (I:st.x.R0.length<300) (p:au k t v=true) (B:0<=n):
  Calls prog 92 #[.pointer (some ⟨c,0,none⟩),.agg #[.string ⟨#[114,111,119]⟩,.slice (some ⟨g,0,none⟩) 5 5]] W λe d=>e=.returned (.bool true)/\Rn ⟨{ st.x with R0:=bT st.x.R0 (aV k (t+1) st.x.R0) ⟨k,t,v,n⟩},st.f0,st.f1,st.L⟩ c S W d:=by
 obtain⟨bj,s,u,q,om,Sg,h,y⟩:=M;have i:=(aD.1 j).1;refine(vK H c bj g 0 0 k t v n (λd=>Rn ⟨{ st.x with R0:=bT st.x.R0 (aV k (t+1) st.x.R0) ⟨k,t,v,n⟩},st.f0,st.f1,st.L⟩ c S W d/\(d.cell? ⟨c,3,none⟩=some (.pointer (some ⟨bj,0,none⟩))/\d.cell? ⟨g,0,none⟩=some (.int .i64 0)/\d.cell? ⟨g,0+4,none⟩=some (.int .i64 n))) W i h.blt (aI j 0 rfl) (aI j 1 rfl) (aI j 2 rfl) (aI j 3 rfl) (aI j 4 rfl) h.cells.2.2.2.1 (λW G=>G.2) (λA f=>?_)).mono (λe d h=>⟨h.1,h.2.1⟩);have r:=h.below f;refine(Pb 0 bj s u q st.x k t v n A r.join (gy _) E I p B).mono ?_;rintro e d ⟨rfl,v',F,C,w⟩;have m:Turned (eP bj s u q) A d:=C.mono (λk e=>e.elim .inl (λe=>.inr (.inr (.inl e))));have z:=r.joined F ⟨rfl,rfl,rfl⟩ m (jg w (.inl rfl));have o:d.heap[g]?=W.heap[g]? :=(m.block g (fO i f.size) (λe=>K ((y g).2 (.inl e)))).trans (f.block g i);have l:=o.trans j;refine⟨rfl,uu (st:=⟨{ st.x with R0:=bT st.x.R0 (aV k (t+1) st.x.R0) ⟨k,t,v,n⟩},st.f0,st.f1,st.L⟩) z y f (m.mono (λk e=>.inl e)) (λk e=>?_),z.cells.2.2.2.1,aI l 0 rfl,aI l 4 rfl⟩
 rcases e with e|e
 .exact(jg w (.inl rfl) k e).imp .inl id
 .exact .inl (.inr e)
theorem Ls(H:lF){st:Sx}(M:PE st c S W)(j:W.heap[g]?=some (.cells ([1,k,t,v,n].map (Value.int .i64)).toArray 3))(K:¬S g)
  (E:ay st.x.R1) (I:st.x.R1.length<300) (p:au k t v=true) (B:0<=n):
  Calls prog 92 #[.pointer (some ⟨c,0,none⟩),.agg #[.string ⟨#[114,111,119]⟩,.slice (some ⟨g,0,none⟩) 5 5]] W λe d=>e=.returned (.bool true)/\Rn ⟨{ st.x with R1:=bT st.x.R1 (aV k (t+1) st.x.R1) ⟨k,t,v,n⟩},st.f0,st.f1,st.L⟩ c S W d:=by
 obtain⟨bj,s,u,q,om,Sg,h,y⟩:=M;have i:=(aD.1 j).1;refine(vK H c bj g 0 1 k t v n (λd=>Rn ⟨{ st.x with R1:=bT st.x.R1 (aV k (t+1) st.x.R1) ⟨k,t,v,n⟩},st.f0,st.f1,st.L⟩ c S W d/\(d.cell? ⟨c,3,none⟩=some (.pointer (some ⟨bj,0,none⟩))/\d.cell? ⟨g,0,none⟩=some (.int .i64 1)/\d.cell? ⟨g,0+4,none⟩=some (.int .i64 n))) W i h.blt (aI j 0 rfl) (aI j 1 rfl) (aI j 2 rfl) (aI j 3 rfl) (aI j 4 rfl) h.cells.2.2.2.1 (λW G=>G.2) (λA f=>?_)).mono (λe d h=>⟨h.1,h.2.1⟩);have r:=h.below f;refine(Pd 0 bj s u q st.x k t v n A r.join (gy _) E I p B).mono ?_;rintro e d ⟨rfl,v',F,C,w⟩;have m:Turned (eP bj s u q) A d:=C.mono (λk e=>e.elim .inl (λe=>.inr (.inr (.inr e))));have z:=r.joined F ⟨rfl,rfl,rfl⟩ m (jg (.inl rfl) w);have o:d.heap[g]?=W.heap[g]? :=(m.block g (fO i f.size) (λe=>K ((y g).2 (.inl e)))).trans (f.block g i);have l:=o.trans j;refine⟨rfl,uu (st:=⟨{ st.x with R1:=bT st.x.R1 (aV k (t+1) st.x.R1) ⟨k,t,v,n⟩},st.f0,st.f1,st.L⟩) z y f (m.mono (λk e=>.inl e)) (λk e=>?_),z.cells.2.2.2.1,aI l 0 rfl,aI l 4 rfl⟩
 rcases e with e|e
 .exact(jg (.inl rfl) w k e).imp .inl id
 .exact .inl (.inr e)
theorem step_marks{st:Sx}(hP:PE st c S W)(H:W.heap[g]?=some (.cells ([a,b].map (Value.int .i64)).toArray 3))(hn:¬S g)(hpl:dn st.x.lo st.x.hi st.x.mode)
  (X:st.x.R0=[]/\st.x.R1=[]) (M:st.x.m0= -1099511627777/\st.x.m1= -1099511627777)
  (ha: -1099511627777<=a/\a<=1099511627776) (Y: -1099511627777<=b/\b<=1099511627776):
  Calls prog 92 #[.pointer (some ⟨c,0,none⟩),.agg #[.string ⟨#[109,97,114,107,115]⟩,.slice (some ⟨g,0,none⟩) 2 2]] W λe w=>e=.returned (.bool true)/\Rn ⟨{ st.x with m0:=a,m1:=b},st.f0,st.f1,st.L⟩ c S W w:=by
 obtain⟨bj,q,T,R,A,z,h,hS⟩:=hP;have Q:=(aD.1 H).1
 have hgn:¬aT bj q T R A z g:=λe=>hn ((hS g).2 e)
 obtain⟨⟨p1,p2⟩,⟨p3,p4⟩,_⟩:=hpl;refine zS c g 0 2 _ W (λW1 r=>?_);have h1:=h.below r;have hg1:=(r.block g Q).trans H
 let xs:Nat->J:=λi=>{ st.x with m0:=if i=0 then st.x.m0 else a,m1:=if i<=1 then st.x.m1 else b}
 let St:Nat->World->Prop:=λi V=>∃f d,az V c bj q f d st.f0 st.f1 A z (xs i) st.L st.L/\Turned (aT bj q T R A z) W1 V/\(f.ownBlock=T.ownBlock/\d.ownBlock=R.ownBlock)/\V.heap[g]?=W.heap[g]?
 refine(Pj c g 0 2 (λi=>if i=0 then a else b) (λ_=> -1099511627777) St W1 ?_ ?_ ?_ ?_ ?_ ?_ ?_).mono ?_
 .exact⟨T,R,h1,Turned.of_below (zI _ _),⟨rfl,rfl⟩,r.block g Q⟩
 .rintro i V ⟨f,d,_,_,_,hq⟩;exact(aD.1 (hq.trans H)).1
 .rintro i V K ⟨f,d,m,u,l,o⟩ Y;exact⟨f,d,m.below Y,u.trans (Turned.of_below (S:=λ_=>False) Y) (λ_ _ e=>e.elim),l,(Y.block g (aD.1 (o.trans H)).1).trans o⟩
 .rintro i j V ⟨f,d,m,u,l,o⟩ hj
  have hj2:j=0∨j=1:=by omega
  rcases hj2 with rfl|rfl
  .exact aI (o.trans H) 0 rfl
  .exact aI (o.trans H) 1 rfl
 .rintro i V hi ⟨f,d,m,u,l,o⟩
  have p:i=0∨i=1:=by omega
  have e1:kW (xs i).m0 (xs i).m1 (i:Int)= -1099511627777:=by
   rcases p with rfl|rfl
   .simp[kW,xs,M.1]
   .simp[kW,xs,M.2]
  have:=jd (s:=(i:Int)) (h:=m);rw[e1]at this;exact this
 .rintro i V hi N ⟨f,d,m,u,l,o⟩
  have p:i=0∨i=1:=by omega
  have fin:∀(K:World) (u0 u1:Value) (x':J),az K c bj q u0 u1 st.f0 st.f1 A z x' st.L st.L->x'=xs (i+1)->Turned (aT bj q f d A z) V K->u0.ownBlock=f.ownBlock->u1.ownBlock=d.ownBlock->St (i+1) K:=by
   intro K u0 u1 x' hE hx hT hu0 Z;subst hx
   have P:Turned (aT bj q T R A z) V K:=by
    refine hT.mono (λk e=>?_);unfold aT eP at e⊢;rw[l.1,l.2]at e;exact e
   exact⟨u0,u1,hE,u.trans P (λ_ _ e=>e),⟨hu0.trans l.1,Z.trans l.2⟩,(P.block g (aD.1 (o.trans H)).1 hgn).trans o⟩
  rcases p with rfl|rfl
  .have U:a≠ -1099511627777:=by simpa using N
   have I:moveE (xs 0).m0 (xs 0).m1 0 a=0:=by
    unfold moveE;rw[if_neg (by decide),if_neg (by omega),if_neg (by simp[kW,xs,M.1];omega)]
   refine(pG c bj q f d st.f0 st.f1 A z (xs 0) { xs 0 with m0:=a,R1:=keepR (λy=>decide (y.t<=a+(xs 0).lo)) (xs 0).R1} st.L st.L 0 a V m ⟨rfl,rfl,rfl⟩ (λW2 G=>?_)).mono ?_
   .refine(AX 0 bj q f d (xs 0) a W2 G I (by simp[xs,X.2]) p1 p2 p3 p4).mono ?_;rintro e w ⟨rfl,v',F,B,C⟩;exact⟨rfl,f,v',F,B.mono (λk e=>e.elim .inl (λe=>e.elim (λe=>.inr (.inl e)) (λe=>.inr (.inr (.inr e))))),rfl,C⟩
   .rintro e w ⟨rfl,u0,u1,F,B,C,j4⟩;exact⟨rfl,fin w u0 u1 _ F (by simp[xs,X.2,keepR]) B C j4⟩
  .have U:b≠ -1099511627777:=by simpa using N
   have I:moveE (xs 1).m0 (xs 1).m1 1 b=0:=by
    unfold moveE;rw[if_neg (by decide),if_neg (by omega),if_neg (by simp[kW,xs,M.2];omega)]
   refine(pG c bj q f d st.f0 st.f1 A z (xs 1) { xs 1 with m1:=b,R0:=keepR (λy=>decide (y.t<=b -(xs 1).hi)) (xs 1).R0} st.L st.L 1 b V m ⟨rfl,rfl,rfl⟩ (λW2 G=>?_)).mono ?_
   .refine(AZ 0 bj q f d (xs 1) b W2 G I (by simp[xs,X.1]) p3 p4).mono ?_;rintro e w ⟨rfl,v',F,B,C⟩;exact⟨rfl,v',d,F,B.mono (λk e=>e.elim .inl (λe=>e.elim (λe=>.inr (.inl e)) (λe=>.inr (.inr (.inl e))))),C,rfl⟩
   .rintro e w ⟨rfl,u0,u1,F,B,C,j4⟩;exact⟨rfl,fin w u0 u1 _ F (by simp[xs,X.1,keepR]) B C j4⟩
 .rintro i V hi I ⟨f,d,m,u,l,o⟩
  have p:i=0∨i=1:=by omega
  have ex:xs i=xs (i+1):=by
   rcases p with rfl|rfl
   .have E:a= -1099511627777:=by simpa using I
    simp[xs,M.1,E]
   .have E:b= -1099511627777:=by simpa using I
    simp[xs,M.2,E]
  rw[ex]at m;exact⟨f,d,m,u,l,o⟩
 .rintro e w ⟨rfl,f,d,m,u,l,o⟩;refine⟨rfl,uu (st:=⟨{ st.x with m0:=a,m1:=b},st.f0,st.f1,st.L⟩) m hS r u (λk e=>.inl ?_)⟩;unfold aT eP at e⊢;rw[l.1,l.2]at e;exact e
end
section
variable{a b:Sx}
abbrev Ln:=ByteArray×List Int
def Pk(p:Ln):List UInt8:=p.1.data.toList++cK p.2
def A8(x:J)(f0 f1:Int)(Z:List O):List Ln:=(wC,[f0,f1,x.late])::(jL,[x.m0,x.m1])::((x.R0.map λy=>(pX,[0,y.k,y.t,y.v,y.n]))++((x.R1.map λy=>(pX,[1,y.k,y.t,y.v,y.n]))++((Z.map λo=>(fu o,dV o))++[(Im,[])])))
def jE(x:J)(f0 f1:Int)(Z:List O):List Ln:=(nI,[x.lo,x.hi,x.mode])::A8 x f0 f1 Z
theorem vL(x:J)(f0 f1:Int)(Z:List O):bN x f0 f1 Z=(jE x f0 f1 Z).flatMap λp=>Pk p++[10]:=by
 have e:∀(p:Ln),Pk p++[10]=dB p.1.data.toList p.2:=λp=>by unfold Pk dB;simp
 simp only[e];unfold bN EM jE A8 iw iy;simp only[List.flatMap_cons,List.flatMap_append,List.flatMap_nil,List.flatMap_map,List.append_nil,List.append_assoc]
theorem Pm(ns:List Int):(10:UInt8)∉cK ns:=by
 unfold cK;rw[List.mem_flatMap];rintro⟨n,_,h⟩;rw[List.mem_cons]at h
 rcases h with h|h
 .exact absurd h (by decide)
 .exact CJ n 10 (by decide) h
theorem X7(p:Ln)(h:(10:UInt8)∉p.1.data.toList):(10:UInt8)∉Pk p:=by
 unfold Pk;rw[List.mem_append];rintro(e|e)
 .exact h e
 .exact Pm _ e
inductive Stp:Sx->Ln->Sx->Prop
 |fed (st:Sx) (a b d:Int):0<=a/\a<=9223372036854775807->0<=b/\b<=9223372036854775807->0<=d/\d<=9223372036854775807->Stp st (wC,[a,b,d]) ⟨{ st.x with late:=d},a,b,st.L⟩
 |marks (st:Sx) (a b:Int):dn st.x.lo st.x.hi st.x.mode->st.x.R0=[]/\st.x.R1=[]->st.x.m0= -1099511627777/\st.x.m1= -1099511627777-> -1099511627777<=a/\a<=1099511627776-> -1099511627777<=b/\b<=1099511627776->Stp st (jL,[a,b]) ⟨{ st.x with m0:=a,m1:=b},st.f0,st.f1,st.L⟩
 |row0 (st:Sx) (k t v n:Int):ay st.x.R0->st.x.R0.length<300->au k t v=true->0<=n/\n<=9223372036854775807->Stp st (pX,[0,k,t,v,n]) ⟨{ st.x with R0:=bT st.x.R0 (aV k (t+1) st.x.R0) ⟨k,t,v,n⟩},st.f0,st.f1,st.L⟩
 |row1 (st:Sx) (k t v n:Int):ay st.x.R1->st.x.R1.length<300->au k t v=true->0<=n/\n<=9223372036854775807->Stp st (pX,[1,k,t,v,n]) ⟨{ st.x with R1:=bT st.x.R1 (aV k (t+1) st.x.R1) ⟨k,t,v,n⟩},st.f0,st.f1,st.L⟩
 |out (st:Sx) (o:O):iK o->st.L.length<=100000->Stp st (fu o,dV o) ⟨st.x,st.f0,st.f1,o::st.L⟩
 |fin (st:Sx):Stp st (Im,[]) st
theorem pJ{k t v:Int}(h:au k t v=true):(-1099511627776<=k/\k<=1099511627776)/\(-1099511627776<=t/\t<=1099511627776)/\(-1099511627776<=v/\v<=1099511627776):=by
 unfold au iG at h;simp at h;omega
theorem yC{n:Int}(h: -1099511627777<=n/\n<=1099511627777):(Lit.int .i64 n).wf=true:=by
 simp[Lit.wf,IntKind.min,IntKind.max,IntKind.signed,IntKind.bits];omega
theorem jB{o:O}(h:iK o):o.wf:=by
 cases h with
 |left k t v h=>
  have:=pJ h
  constructor <;>(apply yC;simp[bn];try omega)
 |right k t v h=>
  have:=pJ h
  constructor <;>(apply yC;simp[bn];try omega)
 |pair k t v t2 v2 h h2=>
  have:=pJ h;have:=pJ h2
  constructor <;>(apply yC;simp;try omega)
theorem Lt(q:lF){st m:Sx}{p:Ln}(u:Stp st p m){be g:Nat}{S:Nat->Prop}{W:World}(i:PE st be S W)(c:W.heap[g]?=some (.cells (p.2.map (Value.int .i64)).toArray 3))(s:¬S g):
  Calls Tryz.prog 92 #[.pointer (some ⟨be,0,none⟩),.agg #[.string p.1,.slice (some ⟨g,0,none⟩) p.2.length p.2.length]] W λe w=>e=.returned (.bool true)/\Rn m be S W w:=by
 have j:=(aD.1 c).1
 cases u with
 |fed a b d ha hb hd=>exact Ph i c s ha hb hd
 |marks a b h1 h2 h3 h4 h5=>exact step_marks i c s h1 h2 h3 h4 h5
 |row0 k t v n h1 h2 h3 h4=>exact Lp q i c s h1 h2 h3 h4.1
 |row1 k t v n h1 h2 h3 h4=>exact Ls q i c s h1 h2 h3 h4.1
 |out o ho hL=>
  have l:=jB ho
  cases ho with
  |left k t v h=>exact CK q be g 0 k t v _ W j (aI c 0 rfl) (aI c 1 rfl) (aI c 2 rfl) (λr f=>yB i (bn 0 k t v) l hL h (show au 0 0 0=true by decide) (λ_ e=>by simp[bn]at e) r f)
  |right k t v h=>exact zT q be g 0 k t v _ W j (aI c 0 rfl) (aI c 1 rfl) (aI c 2 rfl) (λr f=>yB i (bn 1 k t v) l hL (show au 0 0 0=true by decide) h (λe _=>by simp[bn]at e) r f)
  |pair k t v t2 v2 h h2=>exact CL q be g 0 k t v k t2 v2 _ W j (aI c 0 rfl) (aI c 1 rfl) (aI c 2 rfl) (aI c 3 rfl) (aI c 4 rfl) (aI c 5 rfl) (λr f=>yB i ⟨k,k,t,v,k,t2,v2,true,true⟩ l hL h h2 (λ_ _=>rfl) r f)
 |fin=>exact step_end i
def Run:Sx->List Ln->Sx->Prop
 |st,[],st'=>st=st'
 |st,p::ls,st'=>∃s1,Stp st p s1/\Run s1 ls st'
theorem Run.append{c:Sx}{l m:List Ln}(h:Run a l b)(d:Run b m c):Run a (l++m) c:=by
 induction l generalizing a with
 |nil=>cases h;exact d
 |cons p l ih=>
  obtain⟨f,e,g⟩:=h;exact⟨f,e,ih g⟩
theorem Run.seq{l:List Ln}(h:Run a l b):∃f:Nat->Sx,f 0=a/\f l.length=b/\∀i p,l[i]?=some p->Stp (f i) p (f (i+1)):=by
 induction l generalizing a with
 |nil=>exact⟨λ_=>a,rfl,h,λi p e=>by simp at e⟩
 |cons p l ih=>
  obtain⟨s1,c,d⟩:=h;obtain⟨f,f0,f1,f2⟩:=ih d;refine⟨λi=>match i with|0=>a|i+1=>f i,rfl,f1,?_⟩;intro i q e
  cases i with
  |zero=>
   simp at e;subst e;show Stp a p (f 0);rw[f0];exact c
  |succ i=>exact f2 i q (by simpa using e)
theorem EN(S:List D)(y:D)(h:ay (S++[y])):bT S (aV y.k (y.t+1) S) ⟨y.k,y.t,y.v,y.n⟩=S++[y]:=by
 have c:aV y.k (y.t+1) S=S.length:=by
  unfold aV;rw[List.countP_eq_length];intro x d;have:=(List.pairwise_append.1 h).2.2 x d y (by simp);simp only[aX,decide_eq_true_eq];omega
 rw[c];simp[bT]
theorem Lu(x:J)(f0 f1:Int)(L:List O)(T:List D):∀(S:List D),ay (S++T)->(S++T).length<=300->(∀y∈T,au y.k y.t y.v=true/\0<=y.n/\y.n<=9223372036854775807)->Run ⟨{ x with R0:=S},f0,f1,L⟩ (T.map λy=>(pX,[0,y.k,y.t,y.v,y.n])) ⟨{ x with R0:=S++T},f0,f1,L⟩:=by
 induction T with
 |nil=>intro S _ _ _;simp[Run]
 |cons y T ih=>
  intro S d f h
  have e:S++y::T=(S++[y])++T:=by simp
  rw[e]at d f⊢;have c:ay (S++[y]):=(List.pairwise_append.1 d).1;have m:ay S:=(List.pairwise_append.1 c).1;obtain⟨l,i⟩:=h y (by simp);refine⟨⟨{ x with R0:=S++[y]},f0,f1,L⟩,?_,ih (S++[y]) d f (λz j=>h z (by simp[j]))⟩;have g:=Stp.row0 ⟨{ x with R0:=S},f0,f1,L⟩ y.k y.t y.v y.n m (by simp at f⊢;omega) l i;rw[show({ x with R0:=S}:J).R0=S from rfl,EN S y c]at g;exact g
theorem Lv(x:J)(f0 f1:Int)(L:List O)(T:List D):∀(S:List D),ay (S++T)->(S++T).length<=300->(∀y∈T,au y.k y.t y.v=true/\0<=y.n/\y.n<=9223372036854775807)->Run ⟨{ x with R1:=S},f0,f1,L⟩ (T.map λy=>(pX,[1,y.k,y.t,y.v,y.n])) ⟨{ x with R1:=S++T},f0,f1,L⟩:=by
 induction T with
 |nil=>intro S _ _ _;simp[Run]
 |cons y T ih=>
  intro S d f h
  have e:S++y::T=(S++[y])++T:=by simp
  rw[e]at d f⊢;have c:ay (S++[y]):=(List.pairwise_append.1 d).1;have m:ay S:=(List.pairwise_append.1 c).1;obtain⟨l,i⟩:=h y (by simp);refine⟨⟨{ x with R1:=S++[y]},f0,f1,L⟩,?_,ih (S++[y]) d f (λz j=>h z (by simp[j]))⟩;have g:=Stp.row1 ⟨{ x with R1:=S},f0,f1,L⟩ y.k y.t y.v y.n m (by simp at f⊢;omega) l i;rw[show({ x with R1:=S}:J).R1=S from rfl,EN S y c]at g;exact g
theorem Pn(x:J)(f0 f1:Int)(T:List O):∀(L:List O),(∀o∈T,iK o)->L.length+T.length<=100000->Run ⟨x,f0,f1,L⟩ (T.map λo=>(fu o,dV o)) ⟨x,f0,f1,T.reverse++L⟩:=by
 induction T with
 |nil=>intro L _ _;simp[Run]
 |cons o T ih=>
  intro L d c;refine⟨⟨x,f0,f1,o::L⟩,Stp.out _ o (d o (by simp)) (by simp at c⊢;omega),?_⟩;have:=ih (o::L) (λz e=>d z (by simp[e])) (by simp at c⊢;omega);simpa using this
theorem Lx(x:J)(f0 f1:Int)(Z:List O)(d:dn x.lo x.hi x.mode)(c: -1099511627777<=x.m0/\x.m0<=1099511627776)(e: -1099511627777<=x.m1/\x.m1<=1099511627776)(q:0<=x.late/\x.late<=9223372036854775807)
  (l:0<=f0/\f0<=9223372036854775807) (i:0<=f1/\f1<=9223372036854775807) (w:ay x.R0) (m:ay x.R1) (p:x.R0.length<=300) (j:x.R1.length<=300)
  (z:∀y∈x.R0,au y.k y.t y.v=true/\0<=y.n/\y.n<=9223372036854775807) (u:∀y∈x.R1,au y.k y.t y.v=true/\0<=y.n/\y.n<=9223372036854775807) (s:∀o∈Z,iK o) (r:Z.length<=100000):
  Run ⟨⟨x.lo,x.hi,x.mode,-1099511627777,-1099511627777,0,[],[]⟩,0,0,[]⟩ (A8 x f0 f1 Z) ⟨x,f0,f1,Z.reverse⟩:=by
 refine⟨_,Stp.fed _ f0 f1 x.late l i q,_,Stp.marks _ x.m0 x.m1 d ⟨rfl,rfl⟩ ⟨rfl,rfl⟩ c e,?_⟩;have g:=Lu ⟨x.lo,x.hi,x.mode,x.m0,x.m1,x.late,[],[]⟩ f0 f1 [] x.R0 [] (by simpa using w) (by simpa using p) z;have f:=Lv ⟨x.lo,x.hi,x.mode,x.m0,x.m1,x.late,x.R0,[]⟩ f0 f1 [] x.R1 [] (by simpa using m) (by simpa using j) u;have h:=Pn x f0 f1 Z [] s (by simpa using r);rw[List.nil_append]at g f;rw[List.append_nil]at h;exact g.append (f.append (h.append ⟨_,Stp.fin _,rfl⟩))
end
section
open Go.Proofs.Tryz Go.Joins
theorem EO(n:Int)(W:World)(h: -9223372036854775808<=n/\n<=9223372036854775807):Calls prog 161 #[.string (bW (Lib.itoa n))] W λe a=>e=.returned (.tuple #[.int .i64 n,.nilIface])/\Below W.heap.size W a:=by
 have hl:=Lib.itoa_length_le n h.1 h.2;refine(Tryz.strconv_Atoi_ok (bW (Lib.itoa n)) (by show(Lib.itoa n).toArray.size<=_;simp;omega) n (LA n h.1 h.2) W).mono ?_;rintro e a ⟨rfl,rfl|⟨t,rfl⟩⟩
 .exact⟨rfl,zI _ _⟩
 .exact⟨rfl,below_bytesWorld _ _ _ _ (aO _)⟩
theorem Pq:lF:=λg off n c k t v w h a e f d b=>LB g off n c k t v w h a e f d b
theorem J6(hd:List UInt8)(ns:List Int):hd++cK ns=dW hd (ns.map Lib.itoa):=by
 unfold dW cK;rw[List.flatMap_map]
theorem EP(d:UInt8)(ns:List Int):[111,117,116,32,d]++cK ns=dW [111,117,116] ([d]::ns.map Lib.itoa):=by
 unfold dW cK;rw[List.flatMap_cons,List.flatMap_map];rfl
theorem Pt(p:Ln)(x:jN p.1 p.2.length)(i:∀n∈p.2,-9223372036854775808<=n/\n<=9223372036854775807)(j:Nat)(w W:World)(A:xO w)(z:Below w.heap.size w W)(u:nH W j)(v:j<W.heap.size):
  Calls prog 91 #[.string ⟨(Pk p).toArray⟩,.map (some j)] W λe f=>∃g,e=.returned (.tuple #[.agg #[.string p.1,.slice (some ⟨g,0,none⟩) p.2.length p.2.length],.bool true])/\f.heap[g]?=some (.cells (p.2.map (Value.int .i64)).toArray 3)/\W.heap.size<=g/\Below W.heap.size W f:=by
 obtain⟨hd,ns⟩:=p
 have t:∀(s sep:ByteArray) (V:World),Below W.heap.size W V->s.size<4294967281->1<=sep.size->Calls prog 80 #[.string s,.string sep] V λe f=>e=.returned (.slice (some ⟨V.heap.size,0,none⟩) (Lib.countB s sep+1) (Lib.countB s sep+1))/\f=V.alloc (.cells ((Lib.splitB sep 0 (Lib.countB s sep) s).map Value.string).toArray 9):=by
  intro s sep V G B q;obtain⟨m,H⟩:=((A.below z).below G).max;exact Tryz.strings_Split s sep m V B H q
 have r:∀(l:List Int),l.length<=6->(∀n∈l,-9223372036854775808<=n/\n<=9223372036854775807)->(cK l).length<=283:=λl q C=>by
  have:=uw l C;omega
 have plain:∀(c:List UInt8) (k:Nat),jN (bW c) k->1<=k->(32:UInt8)∉c->c≠[111,117,116]->c.length<=10->ns.length=k->Calls prog 91 #[.string ⟨(Pk (bW c,ns)).toArray⟩,.map (some j)] W λe f=>∃g,e=.returned (.tuple #[.agg #[.string (bW c),.slice (some ⟨g,0,none⟩) k k],.bool true])/\f.heap[g]?=some (.cells (ns.map (Value.int .i64)).toArray 3)/\W.heap.size<=g/\Below W.heap.size W f:=by
  intro c k b q o F hl a
  have E:k<=6:=by cases b <;>omega
  have e:Pk (bW c,ns)=dW c (ns.map Lib.itoa):=J6 c ns;rw[e];refine(aae k q ns a i j W u v t (λn V h=>EO n V h)).1 c b o F ?_;rw[<-J6,List.length_append];have:=r ns (by omega) i;omega
 have outs:∀(d:UInt8) (k:Nat),jN (bW [111,117,116,32,d]) k->1<=k->d≠32->ns.length=k->Calls prog 91 #[.string ⟨(Pk (bW [111,117,116,32,d],ns)).toArray⟩,.map (some j)] W λe f=>∃g,e=.returned (.tuple #[.agg #[.string (bW [111,117,116,32,d]),.slice (some ⟨g,0,none⟩) k k],.bool true])/\f.heap[g]?=some (.cells (ns.map (Value.int .i64)).toArray 3)/\W.heap.size<=g/\Below W.heap.size W f:=by
  intro d k b q o a
  have E:k<=6:=by cases b <;>omega
  have e:Pk (bW [111,117,116,32,d],ns)=dW [111,117,116] ([d]::ns.map Lib.itoa):=EP d ns;rw[e];refine(aae k q ns a i j W u v t (λn V h=>EO n V h)).2 d _ rfl o b ?_;rw[<-EP,List.length_append];have:=r ns (by omega) i;simp only[List.length_cons,List.length_nil];omega
 simp only at x;generalize a:ns.length=k at x
 cases x with
 |plan=>exact plain [112,108,97,110] 3 .plan (by omega) (by decide) (by decide) (by decide) a
 |fed=>exact plain [102,101,100] 3 .fed (by omega) (by decide) (by decide) (by decide) a
 |marks=>exact plain [109,97,114,107,115] 2 .marks (by omega) (by decide) (by decide) (by decide) a
 |row=>exact plain [114,111,119] 5 .row (by omega) (by decide) (by decide) (by decide) a
 |left=>exact outs 49 3 .left (by omega) (by decide) a
 |right=>exact outs 50 3 .right (by omega) (by decide) a
 |pair=>exact outs 51 6 .pair (by omega) (by decide) a
 |fin=>
  have y:ns=[]:=nD a;subst y;exact Po j W u v t
theorem Pw(b:ByteArray)(m:b.size<=60000)(P:Nat->(Nat->Prop)->World->Prop)(t:∀be,tV (P be))(w:World)
  (o:Calls prog 42 #[.string b] w λe a=>∃be S,e=.returned (.tuple #[.pointer (some ⟨be,0,none⟩),.bool true])/\P be S a/\(∀k,S k->w.heap.size<=k/\k<a.heap.size)/\Below w.heap.size w a)
  (c:∀be S W,P be S W->Below w.heap.size w W->Calls prog 18 #[.pointer (some ⟨be,0,none⟩)] W λe a=>e=.returned (.tuple #[.string b,.nilIface])/\Below W.heap.size W a):
  Calls prog 8 #[.string b] w λe a=>∃be S,e=.returned (.tuple #[.pointer (some ⟨be,0,none⟩),.nilIface])/\P be S a/\(∀k,S k->w.heap.size<=k/\k<a.heap.size)/\Below w.heap.size w a:=by
 have j:Hid (Calls prog 42 #[.string b] w λe a=>∃be,e=.returned (.tuple #[.pointer (some ⟨be,0,none⟩),.bool true])/\Hid (∃S,P be S a/\(∀k,S k->w.heap.size<=k/\k<a.heap.size)/\Below w.heap.size w a)):=by
  refine o.mono ?_;rintro e a ⟨be,S,rfl,h⟩;exact⟨be,rfl,S,h⟩
 have l:Hid (∀be W,Hid (∃S,P be S W/\(∀k,S k->w.heap.size<=k/\k<W.heap.size)/\Below w.heap.size w W)->Calls prog 18 #[.pointer (some ⟨be,0,none⟩)] W λe a=>e=.returned (.tuple #[.string b,.nilIface])/\Hid (∃S,P be S a/\(∀k,S k->w.heap.size<=k/\k<a.heap.size)/\Below w.heap.size w a)):=by
  intro be W p;obtain⟨S,n,f,d⟩:=p.out;refine(c be S W n d).mono ?_;rintro e a ⟨rfl,g⟩;exact⟨rfl,S,t be S W a n g.size (λk i=>g.block k (f k i).2),λk i=>⟨(f k i).1,fO (f k i).2 g.size⟩,d.trans (g.mono d.size)⟩
 have i0:(b.size:Int)<=60000:=by omega
 clear o c m;go_enter func8,ntmps8
 go_wp2_with (first
  |(go_at_call 18;refine(l.out _ _ f).mono ?_;rintro e w3 ⟨rfl,d⟩)
  |(go_at_call 42;refine j.out.mono ?_;rintro e w2 ⟨be,rfl,f⟩)
  |fail)
 obtain⟨S,r,s,q⟩:=d.out;exact CU (v:= .tuple #[.pointer (some ⟨be,0,none⟩),.nilIface]) (by simp[results,Tryz.results8,go_sem]) rfl ⟨be,S,rfl,r,s,q⟩
structure DI(x:J)(f0 f1:Int):Prop where
 pl:dn x.lo x.hi x.mode
 m0: -1099511627777<=x.m0/\x.m0<=1099511627776
 m1: -1099511627777<=x.m1/\x.m1<=1099511627776
 late:0<=x.late/\x.late<=9223372036854775807
 f0:0<=f0/\f0<=9223372036854775807
 f1:0<=f1/\f1<=9223372036854775807
 s0:ay x.R0
 s1:ay x.R1
 l0:x.R0.length<=300
 l1:x.R1.length<=300
 g0:∀y∈x.R0,au y.k y.t y.v=true/\0<=y.n/\y.n<=9223372036854775807
 g1:∀y∈x.R1,au y.k y.t y.v=true/\0<=y.n/\y.n<=9223372036854775807
theorem DI.sv64{x:J}{f0 f1:Int}(h:DI x f0 f1):SL x:=by
 obtain⟨⟨a1,a2⟩,⟨a3,a4⟩,_,a5⟩:=h.pl;have b0:=h.m0;have b1:=h.m1;have b2:=h.late;refine⟨⟨by omega,by omega⟩,⟨by omega,by omega⟩,⟨by omega,by omega⟩,⟨by omega,by omega⟩,⟨by omega,by omega⟩,⟨by omega,by omega⟩,λy a=>?_,λy a=>?_⟩
 .obtain⟨g,b,c⟩:=h.g0 y a;have:=pJ g;exact⟨⟨by omega,by omega⟩,⟨by omega,by omega⟩,⟨by omega,by omega⟩,⟨by omega,by omega⟩⟩
 .obtain⟨g,b,c⟩:=h.g1 y a;have:=pJ g;exact⟨⟨by omega,by omega⟩,⟨by omega,by omega⟩,⟨by omega,by omega⟩,⟨by omega,by omega⟩⟩
theorem ER{a b c:Int}(ha:In64 a)(hb:In64 b)(hc:In64 c):∀n∈[a,b,c],In64 n:=by
 intro n d;simp only[List.mem_cons,List.mem_nil_iff,or_false]at d
 rcases d with rfl|rfl|rfl <;>assumption
theorem Px(x:J)(f0 f1:Int)(Z:List O)(h:DI x f0 f1)(e:∀o∈Z,iK o):∀p∈jE x f0 f1 Z,jN p.1 p.2.length/\(∀n∈p.2,In64 n)/\(10:UInt8)∉p.1.data.toList:=by
 have a:=h.sv64;intro p d;unfold jE A8 at d;simp only[List.mem_cons,List.mem_append,List.mem_map,List.mem_nil_iff,or_false]at d
 rcases d with rfl|rfl|rfl|⟨y,hy,rfl⟩|⟨y,hy,rfl⟩|⟨o,ho,rfl⟩|rfl
 .exact⟨.plan,ER a.lo a.hi a.mode,show(10:UInt8)∉nI.data.toList by decide⟩
 .exact⟨.fed,ER ⟨by have:=h.f0;omega,h.f0.2⟩ ⟨by have:=h.f1;omega,h.f1.2⟩ a.late,show(10:UInt8)∉wC.data.toList by decide⟩
 .refine⟨.marks,?_,show(10:UInt8)∉jL.data.toList by decide⟩;intro n b;simp only[List.mem_cons,List.mem_nil_iff,or_false]at b
  rcases b with rfl|rfl
  .exact a.m0
  .exact a.m1
 .refine⟨.row,?_,show(10:UInt8)∉pX.data.toList by decide⟩;obtain⟨g,j,f,i⟩:=a.r0 y hy;intro n b;simp only[List.mem_cons,List.mem_nil_iff,or_false]at b
  rcases b with rfl|rfl|rfl|rfl|rfl
  .exact⟨by omega,by omega⟩
  all_goals assumption
 .refine⟨.row,?_,show(10:UInt8)∉pX.data.toList by decide⟩;obtain⟨g,j,f,i⟩:=a.r1 y hy;intro n b;simp only[List.mem_cons,List.mem_nil_iff,or_false]at b
  rcases b with rfl|rfl|rfl|rfl|rfl
  .exact⟨by omega,by omega⟩
  all_goals assumption
 .have c:=yD o (jB (e o ho))
  cases e o ho with
  |left k t v h=>exact⟨.left,c,by simp[fu,bn]⟩
  |right k t v h=>exact⟨.right,c,by simp[fu,bn]⟩
  |pair k t v t2 v2 h h2=>exact⟨.pair,c,by simp[fu]⟩
 .exact⟨.fin,by simp,by decide⟩
theorem xP(x:J)(f0 f1:Int)(Z:List O)(h:DI x f0 f1)(A:∀o∈Z,iK o)(YT:Z.length<=5000)(hO:bJ Z)(G:(bN x f0 f1 Z).length<=60000)(w:World)(K:xO w):
  Calls prog 8 #[.string ⟨(bN x f0 f1 Z).toArray⟩] w λe n=>∃be S,e=.returned (.tuple #[.pointer (some ⟨be,0,none⟩),.nilIface])/\PE ⟨x,f0,f1,Z.reverse⟩ be S n/\(∀k,S k->w.heap.size<=k/\k<n.heap.size)/\Below w.heap.size w n:=by
 have m:=Px x f0 f1 Z h A;obtain⟨f,z,B,E⟩:=(Lx x f0 f1 Z h.pl h.m0 h.m1 h.late h.f0 h.f1 h.s0 h.s1 h.l0 h.l1 h.g0 h.g1 A (by omega)).seq;refine Pw ⟨(bN x f0 f1 Z).toArray⟩ (by show(bN x f0 f1 Z).toArray.size<=_;simpa using G) (PE ⟨x,f0,f1,Z.reverse⟩) (cz _) w ?_ ?_
 .have d:=Pg (λs c w=>Tryz.strings_Index_one s c w) (λs p w L=>Tryz.strings_TrimSuffix s p w L) (λi be S W=>PE (f (i -1)) be S W) (λi be=>cz _ be) (jE x f0 f1 Z) Pk w (by unfold jE;simp)
   (λp b=>X7 p (m p b).2.2) (by rw[<-vL];omega)
   (λi p r W b t M U=>Pt p (m p (mh b)).1 (m p (mh b)).2.1 r w W K t M U)
   (λp g W b t q=>?_) (λi p be S g W hi b t T q hn=>?_)
  .rw[<-vL]at d;refine d.mono ?_;rintro e n ⟨be,S,N,b,Q⟩
   have e1:(jE x f0 f1 Z).length -1=(A8 x f0 f1 Z).length:=by unfold jE;simp
   simp only[e1,B]at b;exact⟨be,S,N,b,Q⟩
  .have l:p=(nI,[x.lo,x.hi,x.mode]):=by
    unfold jE at b;simpa using b.symm
   subst l;have C:=(aD.1 q).1;refine(Py g 0 3 x.lo x.hi x.mode (λbe V=>∃S,PE (f 0) be S V/\(∀k,S k->W.heap.size<=k/\k<V.heap.size)/\Below W.heap.size W V) W C (aI q 0 rfl) (aI q 1 rfl) (aI q 2 rfl) ?_ ?_).mono ?_
   .rintro be V P ⟨S,F,u,v⟩ d;exact⟨S,cz _ be S V P F d.size (λk a=>d.block k (u k a).2),λk a=>⟨(u k a).1,fO (u k a).2 d.size⟩,v.trans (d.mono v.size)⟩
   .intro V I;have Y:=I.size;refine(JM x.lo x.hi x.mode V h.pl).mono ?_;rintro e n ⟨be,bj,r,rfl,y,b1,b2,b3,d⟩;refine⟨be,rfl,⟨aT bj r (.slice none 0 0) (.slice none 0 0) none (λk=>k=be),?_,λk a=>⟨?_,y.lt a⟩,I.trans (d.mono Y)⟩,d⟩
    .rw[z];exact⟨bj,r,_,_,_,_,y,λ_=>Iff.rfl⟩
    .rcases a with(a|a|a|a)|a|a
     .omega
     .omega
     .simp[Value.ownBlock]at a
     .simp[Value.ownBlock]at a
     .cases a
     .have:k=be:=a;omega
   .rintro e n ⟨be,rfl,S,F,u,v⟩;exact⟨be,S,rfl,F,u,v⟩
  .obtain⟨i,rfl⟩:∃j,i=j+1:=⟨i -1,by omega⟩
   have l:(A8 x f0 f1 Z)[i]?=some p:=by
    unfold jE at b;simpa using b
   exact Lt Pq (E i p l) T q hn
 .rintro be S W ⟨bj,r,v0,X,om,Sg,y,hS⟩ t;have H:=A9 be bj r v0 X f0 f1 om Sg x Z.reverse Z.reverse Z W y (K.below t).tab h.sv64 h.l0 h.l1 (λo R=>jB (A o (by simpa using R))) (List.reverse_perm Z).symm hO;rw[if_neg (by rintro(e|e);(simp at e;omega);omega)]at H;exact H
end
section
theorem NR{x:J}{f0 f1:Int}{L Z:List O}{be:Nat}{S:Nat->Prop}{W:World}(l:PE ⟨x,f0,f1,L⟩ be S W)(g:xO W)(a:DI x f0 f1)(h:∀o∈L,iK o)(m:Z.Perm L)(i:bJ Z):
  Calls Tryz.prog 18 #[.pointer (some ⟨be,0,none⟩)] W λe c=>e=.returned (if 5000<L.length∨60000<(bN x f0 f1 Z).length then .tuple #[.string ⟨#[]⟩,.iface 24 (.int .i64 4)]else .tuple #[.string ⟨(bN x f0 f1 Z).toArray⟩,.nilIface])/\Below W.heap.size W c:=by
 obtain⟨bj,n,f,b,p,d,j,hS⟩:=l;exact A9 be bj n f b f0 f1 p d x L L Z W j g.tab a.sv64 a.l0 a.l1 (λo k=>jB (h o k)) m i
end
section
open Go.Proofs.Tryz
variable{st:Sx}{a:Nat}{S:Nat->Prop}{W:World}{x:J}{f0 f1:Int}{L:List O}
theorem dQ(h:PE st a S W):∀k,S k->k<W.heap.size:=by
 obtain⟨bj,bm,v0,v1,om,Sg,h,b⟩:=h
 exact λk e=>h.lt ((b k).1 e)
theorem GH(lo hi mode:Int)(W:World)(h:dn lo hi mode):Calls prog 13 #[.agg #[.int .i64 lo,.int .i64 hi,.int .i64 mode]] W λe b=>∃a S,e=.returned (.tuple #[.pointer (some ⟨a,0,none⟩),.nilIface])/\PE ⟨⟨lo,hi,mode,-1099511627777,-1099511627777,0,[],[]⟩,0,0,[]⟩ a S b/\(∀k,S k->W.heap.size<=k/\k<b.heap.size)/\Below W.heap.size W b:=by
 refine(JM lo hi mode W h).mono ?_;rintro e b ⟨a,bj,d,rfl,c,l1,l2,l3,f⟩;refine⟨a,aT bj d (.slice none 0 0) (.slice none 0 0) none (λk=>k=a),rfl,⟨bj,d,_,_,none,_,c,λ_=>Iff.rfl⟩,λk e=>⟨?_,c.lt e⟩,f⟩
 rcases e with(e|e|e|e)|e|e
 .omega
 .omega
 .cases e
 .cases e
 .cases e
 .omega
theorem NF(r:Rw)(H:PE ⟨x,f0,f1,L⟩ a S W)(j:DF x)(I:au r.k r.t r.v=true)(z:x.m0<r.t)(b:x.m1<r.t+x.hi->x.R0.length<300)(l:G7 L (qc x r))(n:∀c∈qc x r,c.x.wf)(F:L.length<=1000000):
  Calls prog 11 #[.pointer (some ⟨a,0,none⟩),.int .i64 0,.agg #[.int .i64 r.k,.int .i64 r.t,.int .i64 r.v]] W λe g=>∃i S',e=.returned (.tuple #[i,.nilIface])/\g.ownsRow W.heap.size 95 10 i (qc x r).length ((qc x r).flatMap aQ)/\PE ⟨x.fed0 r.k r.t r.v,aZ f0,f1,iE L (qc x r)⟩ a S' g/\eO S S' W g:=by
 obtain⟨bj,p,C,A,K,B,h,y⟩:=H
 have o:(qc x r).length<=1000000:=by
  have f:=pg x.mode 0 r.k r.t r.v (bF r.k (r.t+x.lo) (r.t+x.hi) x.R1);have u:=Ec r.k (r.t+x.lo) (r.t+x.hi) j.s1;have G:=j.l1;show(bU x.mode 0 r.k r.t r.v (bF r.k (r.t+x.lo) (r.t+x.hi) x.R1)).length<=_;omega
 refine(aas a bj p C A f0 f1 K B x (x.fed0 r.k r.t r.v) L (qc x r) r.k r.t r.v 0 _ _ (.inl ⟨rfl,rfl,rfl⟩) W h ⟨rfl,rfl,rfl⟩ (λW E=>aac E I j (.inl ⟨rfl,rfl,rfl,z,b⟩)) l n F o).mono ?_
 .rintro e g ⟨i,s,d,rfl,m⟩;obtain⟨w,q,f,u,G⟩:=m.ex;rw[List.take_length]at f;exact⟨i,aT bj p s d w q,rfl,m.row,⟨bj,p,s,d,w,q,f,λ_=>Iff.rfl⟩,⟨λk e=>⟨(u k e).imp (y k).2 id,f.lt e⟩,m.turn.mono (λk e=>(y k).2 e)⟩⟩
theorem NC(r:Rw)(b:W.cell? ⟨2,0,none⟩=some iD)(q:PE ⟨x,f0,f1,L⟩ a S W)(n:DF x)(u:au r.k r.t r.v=true)(s:r.t<=x.m0):
  Calls prog 11 #[.pointer (some ⟨a,0,none⟩),.int .i64 0,.agg #[.int .i64 r.k,.int .i64 r.t,.int .i64 r.v]] W λe d=>∃S',e=.returned (.tuple #[.slice none 0 0,.iface 24 (.int .i64 10)])/\PE ⟨{ x with late:=bR x.late},aZ f0,f1,L⟩ a S' d/\eO S S' W d:=by
 obtain⟨bj,i,f,c,m,l,h,g⟩:=q;have hlt:=n.late;refine(aad a bj i f c f0 f1 m l x { x with late:=bR x.late} L L r.k r.t r.v 0 _ _ (.inl ⟨rfl,rfl,rfl⟩) W b h ⟨rfl,rfl,rfl⟩ (λW o=>aaC 0 bj i f c x 0 r.k r.t r.v W o u rfl (by simpa[kW]using s) (by omega) (by omega))).mono ?_;rintro e d ⟨rfl,j,p⟩;exact⟨S,rfl,⟨bj,i,f,c,m,l,j,g⟩,λk e=>⟨.inl e,j.lt ((g k).1 e)⟩,p.mono (λk e=>(g k).2 e)⟩
theorem ND(r:Rw)(c:W.cell? ⟨2,0,none⟩=some iD)(u:PE ⟨x,f0,f1,L⟩ a S W)(b:DF x)(w:au r.k r.t r.v=true)(hl:x.m0<r.t)(f:x.m1<r.t+x.hi)(i:300<=x.R0.length):
  Calls prog 11 #[.pointer (some ⟨a,0,none⟩),.int .i64 0,.agg #[.int .i64 r.k,.int .i64 r.t,.int .i64 r.v]] W λe g=>∃S',e=.returned (.tuple #[.slice none 0 0,.iface 24 (.int .i64 12)])/\PE ⟨x,f0,f1,L⟩ a S' g/\eO S S' W g:=by
 obtain⟨bj,l,j,d,q,n,h,p⟩:=u;refine(aab a bj l j d f0 f1 q n x L L 0 12 r.k r.t r.v (by decide) (by decide) W c h (λW s=>aaH 0 bj l j d x 0 r.k r.t r.v W s w b.lo1 b.lo2 b.hi1 b.hi2 (.inl ⟨rfl,by omega,f,i⟩))).mono ?_;rintro e g ⟨rfl,o⟩;have m:=h.below o;exact⟨S,rfl,⟨bj,l,j,d,q,n,m,p⟩,λk e=>⟨.inl e,m.lt ((p k).1 e)⟩,Turned.of_below o⟩
theorem NI(r:Rw)(H:PE ⟨x,f0,f1,L⟩ a S W)(j:DF x)(I:au r.k r.t r.v=true)(z:x.m1<r.t)(b:x.m0<r.t+ -x.lo->x.R1.length<300)(l:G7 L (qd x r))(n:∀c∈qd x r,c.x.wf)(F:L.length<=1000000):
  Calls prog 11 #[.pointer (some ⟨a,0,none⟩),.int .i64 1,.agg #[.int .i64 r.k,.int .i64 r.t,.int .i64 r.v]] W λe g=>∃i S',e=.returned (.tuple #[i,.nilIface])/\g.ownsRow W.heap.size 95 10 i (qd x r).length ((qd x r).flatMap aQ)/\PE ⟨x.fed1 r.k r.t r.v,f0,aZ f1,iE L (qd x r)⟩ a S' g/\eO S S' W g:=by
 obtain⟨bj,p,C,A,K,B,h,y⟩:=H
 have o:(qd x r).length<=1000000:=by
  have f:=pg x.mode 1 r.k r.t r.v (bF r.k (r.t+ -x.hi) (r.t+ -x.lo) x.R0);have u:=Ec r.k (r.t+ -x.hi) (r.t+ -x.lo) j.s0;have G:=j.l0;show(bU x.mode 1 r.k r.t r.v (bF r.k (r.t+ -x.hi) (r.t+ -x.lo) x.R0)).length<=_;omega
 refine(aas a bj p C A f0 f1 K B x (x.fed1 r.k r.t r.v) L (qd x r) r.k r.t r.v 1 _ _ (.inr ⟨rfl,rfl,rfl⟩) W h ⟨rfl,rfl,rfl⟩ (λW E=>aac E I j (.inr ⟨rfl,rfl,rfl,z,b⟩)) l n F o).mono ?_
 .rintro e g ⟨i,s,d,rfl,m⟩;obtain⟨w,q,f,u,G⟩:=m.ex;rw[List.take_length]at f;exact⟨i,aT bj p s d w q,rfl,m.row,⟨bj,p,s,d,w,q,f,λ_=>Iff.rfl⟩,⟨λk e=>⟨(u k e).imp (y k).2 id,f.lt e⟩,m.turn.mono (λk e=>(y k).2 e)⟩⟩
theorem NG(r:Rw)(b:W.cell? ⟨2,0,none⟩=some iD)(q:PE ⟨x,f0,f1,L⟩ a S W)(n:DF x)(u:au r.k r.t r.v=true)(s:r.t<=x.m1):
  Calls prog 11 #[.pointer (some ⟨a,0,none⟩),.int .i64 1,.agg #[.int .i64 r.k,.int .i64 r.t,.int .i64 r.v]] W λe d=>∃S',e=.returned (.tuple #[.slice none 0 0,.iface 24 (.int .i64 10)])/\PE ⟨{ x with late:=bR x.late},f0,aZ f1,L⟩ a S' d/\eO S S' W d:=by
 obtain⟨bj,i,f,c,m,l,h,g⟩:=q;have hlt:=n.late;refine(aad a bj i f c f0 f1 m l x { x with late:=bR x.late} L L r.k r.t r.v 1 _ _ (.inr ⟨rfl,rfl,rfl⟩) W b h ⟨rfl,rfl,rfl⟩ (λW o=>aaC 0 bj i f c x 1 r.k r.t r.v W o u rfl (by simpa[kW]using s) (by omega) (by omega))).mono ?_;rintro e d ⟨rfl,j,p⟩;exact⟨S,rfl,⟨bj,i,f,c,m,l,j,g⟩,λk e=>⟨.inl e,j.lt ((g k).1 e)⟩,p.mono (λk e=>(g k).2 e)⟩
theorem NH(r:Rw)(c:W.cell? ⟨2,0,none⟩=some iD)(u:PE ⟨x,f0,f1,L⟩ a S W)(b:DF x)(w:au r.k r.t r.v=true)(hl:x.m1<r.t)(f:x.m0<r.t+ -x.lo)(i:300<=x.R1.length):
  Calls prog 11 #[.pointer (some ⟨a,0,none⟩),.int .i64 1,.agg #[.int .i64 r.k,.int .i64 r.t,.int .i64 r.v]] W λe g=>∃S',e=.returned (.tuple #[.slice none 0 0,.iface 24 (.int .i64 12)])/\PE ⟨x,f0,f1,L⟩ a S' g/\eO S S' W g:=by
 obtain⟨bj,l,j,d,q,n,h,p⟩:=u;refine(aab a bj l j d f0 f1 q n x L L 1 12 r.k r.t r.v (by decide) (by decide) W c h (λW s=>aaH 0 bj l j d x 1 r.k r.t r.v W s w b.lo1 b.lo2 b.hi1 b.hi2 (.inr ⟨rfl,by omega,f,i⟩))).mono ?_;rintro e g ⟨rfl,o⟩;have m:=h.below o;exact⟨S,rfl,⟨bj,l,j,d,q,n,m,p⟩,λk e=>⟨.inl e,m.lt ((p k).1 e)⟩,Turned.of_below o⟩
theorem NK(t:Int)(v:PE ⟨x,f0,f1,L⟩ a S W)(b:DF x)(hm:x.m0<=t)(ht: -1099511627776<=t/\t<=1099511627776):
  Calls prog 15 #[.pointer (some ⟨a,0,none⟩),.int .i64 0,.int .i64 t] W λe g=>∃S',e=.returned .nilIface/\PE ⟨{ x with m0:=t,R1:=keepR (λy=>decide (y.t<=t+x.lo)) x.R1},f0,f1,L⟩ a S' g/\eO S S' W g:=by
 obtain⟨bj,i,l,p,o,j,h,r⟩:=v
 have s:moveE x.m0 x.m1 0 t=0:=by
  unfold moveE;rw[if_neg (by decide),if_neg (by omega),if_neg (by simp[kW];omega)]
 refine(pG a bj i l p f0 f1 o j x { x with m0:=t,R1:=keepR (λy=>decide (y.t<=t+x.lo)) x.R1} L L 0 t W h ⟨rfl,rfl,rfl⟩ (λW u=>?_)).mono ?_
 .refine(AX 0 bj i l p x t W u s (by have:=b.l1;omega) b.lo1 b.lo2 b.hi1 b.hi2).mono ?_;rintro e g ⟨rfl,v',f,m,n⟩;exact⟨rfl,l,v',f,m.mono (λk e=>e.elim .inl (λe=>e.elim (λe=>.inr (.inl e)) (λe=>.inr (.inr (.inr e))))),rfl,n⟩
 .rintro e g ⟨rfl,q,c,f,m,n,w⟩
  have d:∀k,S k↔aT bj i q c o j k:=λk=>by rw[r k];unfold aT eP;rw[n,w]
  exact⟨S,rfl,⟨bj,i,q,c,o,j,f,d⟩,λk e=>⟨.inl e,f.lt ((d k).1 e)⟩,m.mono (λk e=>(r k).2 e)⟩
theorem NL(t:Int)(v:PE ⟨x,f0,f1,L⟩ a S W)(i:DF x)(hm:x.m1<=t)(ht: -1099511627776<=t/\t<=1099511627776):
  Calls prog 15 #[.pointer (some ⟨a,0,none⟩),.int .i64 1,.int .i64 t] W λe f=>∃S',e=.returned .nilIface/\PE ⟨{ x with m1:=t,R0:=keepR (λy=>decide (y.t<=t -x.hi)) x.R0},f0,f1,L⟩ a S' f/\eO S S' W f:=by
 obtain⟨bj,g,p,j,o,l,h,r⟩:=v
 have s:moveE x.m0 x.m1 1 t=0:=by
  unfold moveE;rw[if_neg (by decide),if_neg (by omega),if_neg (by simp[kW];omega)]
 refine(pG a bj g p j f0 f1 o l x { x with m1:=t,R0:=keepR (λy=>decide (y.t<=t -x.hi)) x.R0} L L 1 t W h ⟨rfl,rfl,rfl⟩ (λW u=>?_)).mono ?_
 .refine(AZ 0 bj g p j x t W u s (by have:=i.l0;omega) i.hi1 i.hi2).mono ?_;rintro e f ⟨rfl,v',d,m,n⟩;exact⟨rfl,v',j,d,m.mono (λk e=>e.elim .inl (λe=>e.elim (λe=>.inr (.inl e)) (λe=>.inr (.inr (.inl e))))),n,rfl⟩
 .rintro e f ⟨rfl,q,b,d,m,n,w⟩
  have c:∀k,S k↔aT bj g q b o l k:=λk=>by rw[r k];unfold aT eP;rw[n,w]
  exact⟨S,rfl,⟨bj,g,q,b,o,l,d,c⟩,λk e=>⟨.inl e,d.lt ((c k).1 e)⟩,m.mono (λk e=>(r k).2 e)⟩
theorem DR{w:World}(f:PE st a S w):Calls prog 25 #[.pointer (some ⟨a,0,none⟩)] w λe b=>e=.returned (.int .i64 st.x.late)/\b=w:=by
 obtain⟨bj,i,j,d,om,Sg,h,g⟩:=f;have H:Hid (Calls prog 67 #[.pointer (some ⟨bj,0,none⟩)] w λe b=>e=.returned (.int .i64 st.x.late)/\b=w):=AV 0 bj i j d st.x w h.join;have hc:=h.cells.2.2.2.1;have hlt:=h.blt;clear h g;go_enter func25,ntmps25
 go_wp2_with (first
  |(go_at_call 67;refine H.out.mono ?_;rintro e b ⟨rfl,c⟩;have c:=c.symm;subst c)
  |fail)
 go_ret;exact⟨rfl,rfl⟩
end
end Go.Proofs.YthfpipieboophaaGreatDoor
