import Derived.RangeFuncNested
import Derived.RangeFuncBound
import Derived.Shelf.RegionOpen
import Derived.Sort.MapsRangeIn
import Derived.LoopNIn
import Derived.LoopIn
import Derived.Deep.AppendLies
import Derived.Test.YthfpipieboophaaGreatDoorZHd
namespace Go.Proofs.YthfpipieboophaaGreatDoor
set_option maxRecDepth 100000
set_option maxHeartbeats 40000000
open Go.RowKit Go.Sort
section
open Go.Proofs.Tryz Go.Joins
variable{D:DataW Unit}{L:List O}{b o m d n:Nat}{f:Option Nat}{w g W:World}
abbrev i64(n:Int):DataW Unit:= .lit (.int .i64 n)
structure Ae(D:DataW Unit)(L:List O):Prop where
 isMap:Maps.IsMap D
 wf:∀x∈L,x.wf
 at_:∀x,x.wf->D.atKey (kL x) (i64 0)=i64 (L.count x)
 has:∀x,x.wf->Maps.has D (kL x)=decide (x∈L)
 keys:∀l,Maps.has D l=true->∃x∈L,l=kL x
theorem RA:Ae (.map []) []:=
 ⟨Maps.isMap_empty,by simp,λx _=>rfl,λx _=>rfl,λl h=>by cases h⟩
theorem isKey(x:O)(h:x.wf):WideAt.IsKeyLit (kL x):=keyed.key (lK x h)
theorem xy{x y:O}(c:x.wf)(a:y.wf)(h:x≠y):kL x≠kL y:=λe=>h (UA c a e)
theorem Ae.put(h:Ae D L)(x:O)(c:x.wf):Ae (D.put (kL x) (i64 (L.count x+1))) (x::L):=by
 refine⟨h.isMap.put _ _,λy a=>?_,λy a=>?_,λy a=>?_,λl i=>?_⟩
 .rcases dM.1 a with rfl|a
  .exact c
  .exact h.wf y a
 .by_cases e:y=x
  .subst e;rw[Maps.atKey_put_same h.isMap (isKey y a)];simp
  .rw[iZ (xy a c e),h.at_ y a,List.count_cons_of_ne (Ne.symm e)]
 .by_cases e:y=x
  .subst e;rw[Maps.has_put_same h.isMap (isKey y a)];simp
  .rw[iY (xy a c e),h.has y a];simp[e]
 .by_cases e:l=kL x
  .exact⟨x,by simp,e⟩
  .rw[iY e]at i;obtain⟨y,a,rfl⟩:=h.keys l i;exact⟨y,by simp[a],rfl⟩
theorem Ae.less(h:Ae D L)(x:O)(j:x.wf)(h2:2<=L.count x):Ae (D.put (kL x) (i64 (L.count x -1))) (L.erase x):=by
 have c:x∈L.erase x:=by rw[<-List.count_pos_iff,List.count_erase_self];omega
 refine⟨h.isMap.put _ _,λy a=>h.wf y (List.mem_of_mem_erase a),λy a=>?_,λy a=>?_,λl i=>?_⟩
 .by_cases e:y=x
  .subst e;rw[Maps.atKey_put_same h.isMap (isKey y a),List.count_erase_self];congr 2;omega
  .rw[iZ (xy a j e),h.at_ y a,List.count_erase_of_ne e]
 .by_cases e:y=x
  .subst e;rw[Maps.has_put_same h.isMap (isKey y a)];simp[c]
  .rw[iY (xy a j e),h.has y a];simp[eY e]
 .by_cases e:l=kL x
  .exact⟨x,c,e⟩
  .rw[iY e]at i;obtain⟨y,a,rfl⟩:=h.keys l i;exact⟨y,(eY (λk=>e (by rw[k]))).2 a,rfl⟩
theorem Ae.del(h:Ae D L)(x:O)(j:x.wf)(k:L.count x=1):Ae (D.del (kL x)) (L.erase x):=by
 have i:x∉L.erase x:=by rw[<-List.count_eq_zero,List.count_erase_self];omega
 refine⟨h.isMap.del _,λy a=>h.wf y (List.mem_of_mem_erase a),λy a=>?_,λy a=>?_,λl c=>?_⟩
 .by_cases e:y=x
  .subst e;rw[Maps.atKey_del_same,List.count_erase_self,k];rfl
  .rw[Maps.atKey_del_other (xy a j e),h.at_ y a,List.count_erase_of_ne e]
 .by_cases e:y=x
  .subst e;rw[Maps.has_del_same];simp[i]
  .rw[Maps.has_del_other (xy a j e),h.has y a];simp[eY e]
 .by_cases e:l=kL x
  .subst e;rw[Maps.has_del_same]at c;cases c
  .rw[Maps.has_del_other e]at c;obtain⟨y,a,rfl⟩:=h.keys l c;exact⟨y,(eY (λp=>e (by rw[p]))).2 a,rfl⟩
theorem Dl(w:World):(zeroValue 3).run prog w=.ok (.int .i64 0) w:=by kernel_rfl
structure aP(w:World)(b o:Nat)(f:Option Nat)(m:Nat)(L:List O):Prop where
 blk:∃cs T,w.heap[b]?=some (.cells cs T)/\cs[o]?=some (.map f)/\cs[o+1]?=some (.int .i64 L.length)
 map:(f=none/\L=[])∨∃d n D,f=some d/\n<=m/\w.ownsMap prog 89 (plainElem (H:=Unit) prog 3) d n D/\Ae D L
structure gX(b o:Nat)(f:Option Nat)(w g:World):Prop where
 os:g.os=w.os
 tape:g.tape=w.tape
 output:g.output=w.output
 size:w.heap.size<=g.heap.size
 block:∀k,k<w.heap.size->k≠b->f≠some k->g.heap[k]?=w.heap[k]?
 this:∀cs T,w.heap[b]?=some (.cells cs T)->∃cs':Array Value,g.heap[b]?=some (.cells cs' T)/\cs'.size=cs.size/\∀i,i≠o->i≠o+1->cs'[i]?=cs[i]?
theorem gX.trans{c:Option Nat}{u v:World}(h:gX b o f u v)(k:gX b o c v w)(x:c=f∨∃j,c=some j/\u.heap.size<=j):gX b o f u w:=
 ⟨k.os.trans h.os,k.tape.trans h.tape,k.output.trans h.output,aH h.size k.size,λj s q r=>(k.block j (aR s h.size) q (by
  rcases x with rfl|⟨i,rfl,hi⟩
  .exact r
  .intro e;cases e;omega)).trans (h.block j s q r),λcs T E=>by
  obtain⟨p,C,y,z⟩:=h.this cs T E;obtain⟨l,t,A,B⟩:=k.this p T C
  exact⟨l,t,A.trans y,λi hi a=>(B i hi a).trans (z i hi a)⟩⟩
theorem gX.of_below(h:Below w.heap.size w g):gX b o f w g:=⟨h.os,h.tape,h.output,h.size,λk c _ _=>h.block k c,λcs _ a=>⟨cs,(h.block b (ax.1 a).1).trans a,rfl,λ_ _ _=>rfl⟩⟩
theorem aP.lt(h:aP w b o f m L):b<w.heap.size:=by
 obtain⟨cs,T,a,_⟩:=h.blk;exact(ax.1 a).1
theorem aP.cells(h:aP w b o f m L):
  w.cell? ⟨b,o,none⟩=some (.map f)/\w.cell? ⟨b,o+1,none⟩=some (.int .i64 L.length)/\w.frozen? ⟨b,o,none⟩=false/\w.frozen? ⟨b,o+1,none⟩=false:=by
 obtain⟨cs,T,a,e,c⟩:=h.blk;refine⟨?_,?_,fV a o,fV a (o+1)⟩
 .rw[fq a];exact e
 .rw[fq a];exact c
theorem aP.wf(h:aP w b o f m L):∀x∈L,x.wf:=by
 rcases h.map with⟨_,rfl⟩|⟨d,n,D,rfl,hn,hown,a⟩
 .simp
 .exact a.wf
theorem aP.ne(h:aP w b o f m L)(i:f=some d):d≠b/\d<w.heap.size:=by
 rcases h.map with⟨j,_⟩|⟨YE,n,D,j,hn,a,hc⟩
 .rw[j]at i;cases i
 .rw[j]at i;cases i;refine⟨λe=>?_,a.lt⟩;obtain⟨es,c,k,_⟩:=a;obtain⟨cs,T,l,_⟩:=h.blk;rw[e,l]at k;cases k
theorem aP.kept(h:aP w b o f m L)(a:g.heap[b]?=w.heap[b]?)(j:∀d,f=some d->g.heap[d]?=w.heap[d]?):aP g b o f m L:=by
 refine⟨?_,?_⟩
 .obtain⟨cs,T,i,e⟩:=h.blk;exact⟨cs,T,a.trans i,e⟩
 rcases h.map with hm|⟨d,n,D,a,hn,hown,hc⟩
 .exact .inl hm
 .right
  obtain⟨l,c,p,k⟩:=hown;exact⟨d,n,D,a,hn,⟨l,c,(j d a).trans p,k⟩,hc⟩
theorem aP.below(h:aP w b o f m L)(a:Below w.heap.size w g):aP g b o f m L:=
 h.kept (a.block _ h.lt) (λ_ e=>a.block _ (h.ne e).2)
theorem lU{i:Nat}{cs:Array Value}{T:TypeId}(h:w.heap[b]?=some (.cells cs T))(u:Value):(w.setCell ⟨b,i,none⟩ u).heap[b]?=some (.cells (cs.setIfInBounds i u) T):=fZ h u
theorem look(a:W.ownsMap prog 89 (plainElem (H:=Unit) prog 3) d n D)(j:Ae D L)(x:O)(i:x.wf):
  (Instr.lookup 101 (.map (some d)) (vO x) false).run prog W=.ok (.int .i64 (L.count x)) W:=by
 obtain⟨c,e,h,_⟩:=a.lookup_int keyed underlying101 underlying3 (Dl _) (lK x i);rw[j.at_ x i]at h
 injection h with h1;injection h1 with _ h2
 rw[e,h2]
theorem entry(h:W.ownsMap prog 89 (plainElem (H:=Unit) prog 3) d n D)(hn:n<1000000000)(x:O)(y:x.wf)(c:Int)(E:(Lit.int .i64 c).wf=true):
  ∃s st v q,(Instr.mapEntry 101 (.map (some d)) (vO x)).run prog W=.ok (.tuple #[s,.int .i64 st]) v/\
   (Instr.entryStore 101 (.map (some d)) (.int .i64 st) (.int .i64 c)).run prog v=.ok () q/\
   q.ownsMap prog 89 (plainElem (H:=Unit) prog 3) d (n+1) (D.put (kL x) (i64 c))/\W.grownBy q (some d):=by
 obtain⟨g,a,j,hg⟩:=h.update keyed underlying101 (by unfold maxLen;omega) (lK x y) (plainElem_int underlying3 E);obtain⟨es,clock,k,F,hs,rfl⟩:=h;obtain⟨s,st,es1,clock1,A,_,C⟩:=WideElems.entry_then_store law underlying101 (λu=>Dl u) k F (lK x y);obtain⟨es',clock',z,t⟩:=C _ (.int .i64 c) (ChangeMaps.heap_setBlock_same k _);refine⟨s,st,_,_,A,z,?_,?_⟩
 .rw[t]at a
  injection a with _ e
  obtain⟨r,B,p,l⟩:=j;refine⟨r,B,?_,l⟩;rw[<-p,<-e,ChangeMaps.heap_setBlock_same (ChangeMaps.heap_setBlock_same k _) _,ChangeMaps.heap_setBlock_same k _]
 .rw[t]at a
  injection a with _ e
  refine⟨rfl,rfl,rfl,by simp[ChangeMaps.setBlock],λi _ hi=>?_⟩;rw[ChangeMaps.heap_setBlock_other (ChangeMaps.heap_setBlock_same k _) _ (λe=>hi (by rw[e])),ChangeMaps.heap_setBlock_other k _ (λe=>hi (by rw[e]))]
theorem qm(i:W.ownsMap prog 89 (plainElem (H:=Unit) prog 3) d n D)(G:Ae D L)(hn:n<1000000000)(x:O)(A:x.wf){S:Value}{y:World}
  (u:(Instr.mapEntry 101 (.map (some d)) (vO x)).run prog W=.ok S y):(Instr.lookup 101 (.map (some d)) (vO x) false).run prog y=.ok (.int .i64 (L.count x)) y:=by
 have h:=lK x A;have K:=look i G x A;have hown0:=i;obtain⟨g,k,p,_⟩:=i.update keyed underlying101 (by unfold maxLen;omega) h (plainElem_int (H:=Unit) (a:=0) underlying3 (by decide));obtain⟨s,clock,l,F,M,N⟩:=i
 rcases keyed.find W h s.toList F.keys with⟨v,z⟩|⟨j,B,v,z,I⟩
 .have E:y=g:=by
   simp[Instr.mapEntry,run_underlying underlying101,MapKept.run_getObj_map l,keyed.check W false h,v,MapKept.run_setObj_map _ l,Result.andThen]at u;simp[Instr.mapUpdate,run_underlying underlying101,MapKept.run_getObj_map l,keyed.check W false h,v,MapKept.run_setObj_map _ l,Result.andThen]at k;rw[<-u.2,<-k]
  have C:(Instr.lookup 101 (.map (some d)) (vO x) false).run prog W=.ok (.int .i64 0) W:=by
   simp[Instr.lookup,run_underlying underlying101,MapKept.run_getObj_map l,keyed.check W _ h,v,Result.andThen]
  have C:(L.count x:Int)=0:=by
   have R:=K.symm.trans C;simpa using R
  subst E;obtain⟨c,r,t,_⟩:=p.lookup_int keyed underlying101 underlying3 (Dl _) h;rw[Maps.atKey_put_same G.isMap (isKey x A)]at t
  have P:c=0:=by simpa using t.symm
  rw[r,P,C]
 .have Q:s[j]?=some B:=by simpa using z
  have E:y.ownsMap prog 89 (plainElem (H:=Unit) prog 3) d n D:=by
   simp[Instr.mapEntry,run_underlying underlying101,MapKept.run_getObj_map l,keyed.check W false h,v,Q,I,keyed.stays W h,MapKept.run_setObj_map _ l,Result.andThen]at u
   have q:s.modify j (λe=>{ e with key:=vO x})=s:=by
    apply Array.ext';rw[Array.toList_modify,ChangeMaps.modify_eq_set _ _ _ _ z]
    have:({ B with key:=vO x}:MapEntry)=B:=by rw[<-I]
    rw[this];exact WideElems.set_self _ _ _ z
   rw[q]at u;refine⟨s,clock,?_,F,M,N⟩;rw[<-u.2];exact ChangeMaps.heap_setBlock_same l _
  exact look E G x A
end
section
open Go.Proofs.Tryz Go.Joins
variable{w c:World}{b o a m n:Nat}{L d:List O}{f:DataW Unit}
theorem Ry(a:Nat)(w:World):(binOp .eql 101 (.map (some a)) (.map none)).run prog w=.ok (.bool false) w:=by kernel_rfl
theorem Rz(w:World):(binOp .eql 101 (.map none) (.map none)).run prog w=.ok (.bool true) w:=by kernel_rfl
theorem aeg(W:World)(x:O)(e:x.wf):(Instr.lookup 101 (.map none) (vO x) false).run prog W=.ok (.int .i64 0) W:=
 Maps.look_nil (w:=W) false keyed underlying101 (Dl _) (lK x e)
theorem Uz(n:Nat)(h:n<1000000000):(Lit.int .i64 (n:Int)).wf=true:=WalkArith.wf_i64 (by omega)
theorem Kt(t:Obj)(h:aP w b o (some a) m L)
  (j:c.ownsMap prog 89 (plainElem (H:=Unit) prog 3) a n f) (z:n<=m+1) (l:(w.alloc t).drew.grownBy c (some a)) (C:Ae f d):
  aP (c.setCell ⟨b,o+1,none⟩ (.int .i64 d.length)) b o (some a) (m+1) d/\gX b o (some a) w (c.setCell ⟨b,o+1,none⟩ (.int .i64 d.length))/\c.cell? ⟨b,o+1,none⟩=some (.int .i64 L.length)/\c.frozen? ⟨b,o+1,none⟩=false:=by
 have p:=(h.ne rfl).1;have u:c.heap[b]?=w.heap[b]? :=(l.block b (by have:=h.lt;simp;omega) (by simp;exact λe=>p e.symm)).trans (gL w t b h.lt);obtain⟨cs,T,v,B,x⟩:=h.blk;have g:=u.trans v;have hi:=(ax.1 x).1;refine⟨⟨⟨_,_,lU g _,?_,?_⟩,.inr ⟨a,n,f,rfl,z,j.setCell p _,C⟩⟩,⟨l.os,l.tape,l.output,?_,λk A s r=>?_,λcs' T' q=>?_⟩,?_,fV g _⟩
 .rw[dR (by omega)];exact B
 .rw[Array.getElem?_setIfInBounds_self_of_lt hi]
 .have:=l.size;simp at this⊢;omega
 .rw[iJ _ _ _ _ (by simpa using s),l.block k (by simp;omega) (λe=>r e.symm)];exact gL w t k A
 .rw[v]at q;cases q;exact⟨_,lU g _,by simp,λi _ y=>dR (λe=>y e.symm)⟩
 .rw[fq g];exact x
theorem Nc(b o a m:Nat)(L:List O)(w:World)(h:aP w b o (some a) m L)(x:O)(q:x.wf)(hm:m<100000000)(hL:L.length<100000000):
  Calls prog 180 #[.pointer (some ⟨b,o,none⟩),vO x] w λe y=>e=.returned (.tuple #[])/\aP y b o (some a) (m+1) (x::L)/\gX b o (some a) w y:=by
 have hc:=h.cells;have hlt:=h.lt
 rcases h.map with⟨r,_⟩|⟨YE,n,D,r,hn,g,j⟩
 .cases r
 cases r;have k:=look ((g.alloc (.cells (ah x).toArray 89)).drew) j x q;have hle:L.count x<=L.length:=List.count_le_length;obtain⟨v0,st,W1,W2,l,p,i,z⟩:=entry ((g.alloc (.cells (ah x).toArray 89)).drew) (by omega) x q (L.count x+1:Nat) (Uz _ (by omega));have A:=qm ((g.alloc (.cells (ah x).toArray 89)).drew) j (by omega) x q l;obtain⟨t,s,c2,f2⟩:=Kt _ h i (by omega) z (j.put x q)
 have v:((L.count x+1:Nat):Int)=(L.count x:Int)+1:=by omega
 rw[v]at p
 have u:(((x::L).length:Nat):Int)=(L.length:Int)+1:=by simp
 rw[u]at t s;have B:Hid _:=t;have C:Hid _:=s;simp only[vO,ah]at k A l p⊢
 have hle':(L.count x:Int)<100000000:=by omega
 have hL':(L.length:Int)<100000000:=by omega
 have hq:=Ry a;clear h g i z t s j v u;go_enter func180,ntmps180;go_wp2
 go_region
 all_goals (try go_wp2)
 all_goals go_end0
 all_goals exact⟨rfl,B.out,C.out⟩
theorem qo(h:aP w b o (some a) m L)
  (j:c.ownsMap prog 89 (plainElem (H:=Unit) prog 3) a n f) (y:n<=m+1) (l:w.drew.grownBy c (some a)) (B:Ae f d):
  aP (c.setCell ⟨b,o+1,none⟩ (.int .i64 d.length)) b o (some a) (m+1) d/\gX b o (some a) w (c.setCell ⟨b,o+1,none⟩ (.int .i64 d.length))/\c.cell? ⟨b,o+1,none⟩=some (.int .i64 L.length)/\c.frozen? ⟨b,o+1,none⟩=false:=by
 have p:=(h.ne rfl).1;have t:c.heap[b]?=w.heap[b]? :=l.block b h.lt (by simp;exact λe=>p e.symm);obtain⟨cs,T,u,A,v⟩:=h.blk;have g:=t.trans u;have hi:=(ax.1 v).1;refine⟨⟨⟨_,_,lU g _,?_,?_⟩,.inr ⟨a,n,f,rfl,y,j.setCell p _,B⟩⟩,⟨l.os,l.tape,l.output,?_,λk z s r=>?_,λcs' T' q=>?_⟩,?_,fV g _⟩
 .rw[dR (by omega)];exact A
 .rw[Array.getElem?_setIfInBounds_self_of_lt hi]
 .have:=l.size;simp at this⊢;omega
 .rw[iJ _ _ _ _ (by simpa using s),l.block k z (λe=>r e.symm)];rfl
 .rw[u]at q;cases q;exact⟨_,lU g _,by simp,λi _ x=>dR (λe=>x e.symm)⟩
 .rw[fq g];exact v
def p9(w:World)(b o:Nat)(x:O):World:=((w.setCell ⟨b,o,none⟩ (.map (some (w.heap.size+1)))).alloc (.cells (ah x).toArray 89)).alloc (.map #[] 0)
theorem Nf(x:O)(h:aP w b o none m L):aP (p9 w b o x) b o (some (w.heap.size+1)) m []/\L=[]/\(∀k,k<w.heap.size->k≠b->(p9 w b o x).heap[k]?=w.heap[k]?)/\(∀cs T,w.heap[b]?=some (.cells cs T)->∃cs':Array Value,(p9 w b o x).heap[b]?=some (.cells cs' T)/\cs'.size=cs.size/\∀i,i≠o->i≠o+1->cs'[i]?=cs[i]?):=by
 have l:=h.lt
 have u:L=[]:=by
  rcases h.map with⟨_,h⟩|⟨_,_,_,h,_⟩
  .exact h
  .cases h
 obtain⟨cs,T,q,t,v⟩:=h.blk;have hi:=(ax.1 t).1;subst u
 have j:(p9 w b o x).heap[b]?=some (.cells (cs.setIfInBounds o (.map (some (w.heap.size+1)))) T):=by
  unfold p9;rw[gL _ _ _ (by simp;omega),gL _ _ _ (by simpa using l),lU q]
 refine⟨⟨⟨_,_,j,?_,?_⟩,.inr ⟨_,0,.map [],rfl,aW _,?_,RA⟩⟩,rfl,λk s p=>?_,λcs' T' g=>?_⟩
 .rw[Array.getElem?_setIfInBounds_self_of_lt hi]
 .rw[dR (by omega)];exact v
 .have:=World.ownsMap_made (H:=Unit) ((w.setCell ⟨b,o,none⟩ (.map (some (w.heap.size+1)))).alloc (.cells (ah x).toArray 89)) prog 89 (plainElem prog 3);unfold p9;simpa using this
 .unfold p9;rw[gL _ _ _ (by simp;omega),gL _ _ _ (by simpa using s),iJ _ _ _ _ (by simpa using p)]
 .rw[q]at g;cases g;exact⟨_,j,by simp,λi r _=>dR (λe=>r e.symm)⟩
theorem Ku(w:World)(b o:Nat)(x:O):(p9 w b o x).heap.size=w.heap.size+1+1:=by unfold p9;simp
theorem Ng(b o m:Nat)(L:List O)(w:World)(h:aP w b o none m L)(x:O)(y:x.wf)(hm:m<100000000):
  Calls prog 180 #[.pointer (some ⟨b,o,none⟩),vO x] w λe C=>e=.returned (.tuple #[])/\aP C b o (some (w.heap.size+1)) (m+1) (x::L)/\gX b o none w C:=by
 have K:=h.cells;have hlt:=h.lt;obtain⟨v,rfl,l,H⟩:=Nf x h;have A:=Ku w b o x
 rcases v.map with⟨r,_⟩|⟨YE,n,D,r,hn,g,p⟩
 .cases r
 cases r;have s:=look g.drew p x y;obtain⟨v0,st,W1,V,u,B,j,F⟩:=entry g.drew (by omega) x y 1 (by decide);have Y:=qm g.drew p (by omega) x y u;obtain⟨I,q,G,f2⟩:=qo (m:=m) v j (by omega) F (p.put x y);have Q:=hid I;have U:Hid (gX b o none w (V.setCell ⟨b,o+1,none⟩ (.int .i64 1))):=⟨q.os,q.tape,q.output,aH (by omega) q.size,λk P t _=>(q.block k (by omega) t (by intro e;cases e;omega)).trans (l k P t),λcs T K=>by obtain⟨c1,W,X,R⟩:=H cs T K;obtain⟨G,M,S,N⟩:=q.this c1 T W;exact⟨G,M,S.trans X,λi r E=>(N i r E).trans (R i r E)⟩⟩;have z:=v.cells;simp only[vO,ah,p9,List.count_nil,Int.natCast_zero]at s Y u B z⊢;have hq:=Rz;have hmm:= @run_makeMap prog;clear h v g j F I q p l A H;go_enter func180,ntmps180;go_wp2
 go_region
 all_goals (try go_wp2)
 all_goals go_end0
 all_goals exact⟨rfl,Q.out,U.out⟩
end
section
open Go.Proofs.Tryz Go.Joins
theorem adp(b o m:Nat)(j:Option Nat)(L:List O)(w:World)(h:aP w b o j m L)(x:O)(i:x.wf)(d:x∉L):
  Calls prog 179 #[.pointer (some ⟨b,o,none⟩),vO x] w λe k=>e=.returned (.iface 24 (.int .i64 8))/\Below w.heap.size w k:=by
 have hc:=h.cells;have hlt:=h.lt;have g:L.count x=0:=List.count_eq_zero.2 d
 have c:(Instr.lookup 101 (.map j) (vO x) false).run prog (w.alloc (.cells (ah x).toArray 89)).drew=.ok (.int .i64 0) (w.alloc (.cells (ah x).toArray 89)).drew:=by
  rcases h.map with⟨rfl,rfl⟩|⟨bm,n,D,rfl,hn,a,f⟩
  .exact aeg _ x i
  .have:=look (a.alloc (.cells (ah x).toArray 89)).drew f x i;rw[g]at this;exact this
 simp only[vO,ah]at c⊢;clear h g;go_enter func179,ntmps179;go_wp2
 go_region
 all_goals (try go_wp2)
 all_goals go_ret
 all_goals exact⟨rfl,(fC _ _).drew⟩
theorem Kz(b o j m:Nat)(L:List O)(w:World)(h:aP w b o (some j) m L)(x:O)(p:x.wf)(v:2<=L.count x)(hm:m<100000000)(E:L.length<100000000):
  Calls prog 179 #[.pointer (some ⟨b,o,none⟩),vO x] w λe A=>e=.returned .nilIface/\aP A b o (some j) (m+1) (L.erase x)/\gX b o (some j) w A:=by
 have hlt:=h.lt;have t:L.count x<=L.length:=List.count_le_length;have i:x∈L:=List.count_pos_iff.1 (by omega);have y:aP ((w.alloc (.cells (ah x).toArray 89)).drew) b o (some j) m L:=h.below ((fC w _).drew);have hc:=h.cells
 rcases h.map with⟨q,_⟩|⟨YE,n,D,q,hn,g,d⟩
 .cases q
 cases q;have a:=(g.alloc (.cells (ah x).toArray 89)).drew;have k:=look a d x p;have C:=look a.drew d x p;obtain⟨v0,st,W1,F,l,s,f,B⟩:=entry a.drew (by omega) x p (L.count x -1:Int) (WalkArith.wf_i64 (by omega));have G:=qm a.drew d (by omega) x p l;obtain⟨u,r,c2,f2⟩:=qo y f (by omega) B (d.less x p v)
 have z:(((L.erase x).length:Nat):Int)=(L.length:Int) -1:=by rw[List.length_erase_of_mem i];omega
 rw[z]at u r;have H:Hid _:=u;have I:Hid (gX b o (some j) w (F.setCell ⟨b,o+1,none⟩ (.int .i64 ((L.length:Int) -1)))):=(gX.of_below ((fC w _).drew)).trans r (.inl rfl);simp only[vO,ah]at k G C l s⊢
 have hle':(L.count x:Int)<100000000:=by omega
 have hle2:2<=(L.count x:Int):=by omega
 have hL':(L.length:Int)<100000000:=by omega
 have hL2:2<=(L.length:Int):=by omega
 clear h y g a f B u r d z v t E i;generalize(L.count x:Int)=c at *;generalize(L.length:Int)=len at *;go_enter func179,ntmps179;go_wp2
 go_region
 all_goals (try go_wp2)
 all_goals go_region
 all_goals (try go_wp2)
 all_goals go_ret
 all_goals exact⟨rfl,H.out,I.out⟩
theorem take_one(b o j m:Nat)(L:List O)(w:World)(h:aP w b o (some j) m L)(x:O)(l:x.wf)(k:L.count x=1)(B:L.length<100000000):
  Calls prog 179 #[.pointer (some ⟨b,o,none⟩),vO x] w λe z=>e=.returned .nilIface/\aP z b o (some j) (m+1) (L.erase x)/\gX b o (some j) w z:=by
 have hlt:=h.lt;have r:L.count x<=L.length:=List.count_le_length;have g:x∈L:=List.count_pos_iff.1 (by omega);have u:aP ((w.alloc (.cells (ah x).toArray 89)).drew) b o (some j) m L:=h.below ((fC w _).drew);have hc:=h.cells
 rcases h.map with⟨p,_⟩|⟨YE,n,D,p,hn,f,i⟩
 .cases p
 cases p;have a:=(f.alloc (.cells (ah x).toArray 89)).drew;have d:=look a i x l;rw[k]at d;obtain⟨y,hd,c,t⟩:=a.drew.drop keyed underlying101 (lK x l) 0;have A:((w.alloc (.cells (ah x).toArray 89)).drew).drew.grownBy y (some j):=t.grown;obtain⟨s,q,c2,f2⟩:=qo u c (by omega) A (i.del x l k)
 have v:(((L.erase x).length:Nat):Int)=(L.length:Int) -1:=by rw[List.length_erase_of_mem g];omega
 rw[v]at s q;have C:Hid _:=s;have E:Hid (gX b o (some j) w (y.setCell ⟨b,o+1,none⟩ (.int .i64 ((L.length:Int) -1)))):=(gX.of_below ((fC w _).drew)).trans q (.inl rfl);simp only[vO,ah]at d hd⊢
 have hL':(L.length:Int)<100000000:=by omega
 have hL2:1<=(L.length:Int):=by omega
 clear h u f a c A s q i v k r B g t;generalize(L.length:Int)=len at *;go_enter func179,ntmps179;go_wp2
 go_region
 all_goals (try go_wp2)
 all_goals go_region
 all_goals (try go_wp2)
 all_goals go_ret
 all_goals exact⟨rfl,C.out,E.out⟩
def vC(x:O)(g:Bool):Value:= .agg #[.int .i64 x.k,.int .i64 x.lk,.int .i64 x.lt,.int .i64 x.lv,.int .i64 x.rk,.int .i64 x.rt,.int .i64 x.rv,.bool x.hl,.bool x.hr,.bool g]
def Moves(w:World)(om fG:Option Nat):Prop:=fG=om∨∃k,fG=some k/\w.heap.size<=k
theorem RD(b o m:Nat)(c:Option Nat)(L:List O)(w:World)(h:aP w b o c m L)(x:O)(j:x.wf)(k:m<100000000)(l:L.length<100000000):
  Calls prog 180 #[.pointer (some ⟨b,o,none⟩),vO x] w λe a=>e=.returned (.tuple #[])/\∃i,aP a b o i (m+1) (x::L)/\gX b o c w a/\Moves w c i:=by
 cases c with
 |none=>exact(Ng b o m L w h x j k).mono λe a ⟨g,d,f⟩=>⟨g,_,d,f,.inr ⟨_,rfl,Nat.le_succ _⟩⟩
 |some bm=>exact(Nc b o bm m L w h x j k l).mono λe a ⟨g,d,f⟩=>⟨g,_,d,f,.inl rfl⟩
theorem Nn(b o m:Nat)(c:Option Nat)(L:List O)(w:World)(h:aP w b o c m L)(x:O)(g:x.wf)(a:x∈L)(i:m<100000000)(f:L.length<100000000):
  Calls prog 179 #[.pointer (some ⟨b,o,none⟩),vO x] w λe d=>e=.returned .nilIface/\aP d b o c (m+1) (L.erase x)/\gX b o c w d:=by
 have hpos:0<L.count x:=List.count_pos_iff.2 a
 cases c with
 |none=>
  rcases h.map with⟨_,rfl⟩|⟨_,_,_,h,_⟩
  .cases a
  .cases h
 |some bm=>
  by_cases h1:L.count x=1
  .exact take_one b o bm m L w h x g h1 f
  .exact Kz b o bm m L w h x g (by omega) i f
theorem KA(b o m:Nat)(f:Option Nat)(L:List O)(w:World)(h:aP w b o f m L)(x:O)(p:x.wf)(q:m<100000000)(u:L.length<100000000):
  Calls prog 107 #[.pointer (some ⟨b,o,none⟩),vC x false] w λe d=>e=.returned .nilIface/\∃c,aP d b o c (m+1) (x::L)/\gX b o f w d/\Moves w f c:=by
 have a:=fC w (.cells #[.int .i64 x.k,.int .i64 x.lk,.int .i64 x.lt,.int .i64 x.lv,.int .i64 x.rk,.int .i64 x.rt,.int .i64 x.rv,.bool x.hl,.bool x.hr,.bool false] 95);have g:=RD b o m f L _ (h.below a) x p q u
 have i:Hid (Calls prog 180 #[.pointer (some ⟨b,o,none⟩),vO x] (w.alloc (.cells #[.int .i64 x.k,.int .i64 x.lk,.int .i64 x.lt,.int .i64 x.lv,.int .i64 x.rk,.int .i64 x.rt,.int .i64 x.rv,.bool x.hl,.bool x.hr,.bool false] 95)) λe d=>e=.returned (.tuple #[])/\∃c,aP d b o c (m+1) (x::L)/\gX b o f w d/\Moves w f c):=
  g.mono λe d ⟨t,c,j,n,s⟩=>⟨t,c,j,(gX.of_below a).trans n (.inl rfl),s.imp id (λ⟨k,r,l⟩=>⟨k,r,by simp at l;omega⟩)⟩
 clear g a h;simp only[vO]at i;simp only[vC];go_enter func107,ntmps107
 go_wp2_with (go_at_call 180;refine Calls.mono (Hid.out i) ?_;rintro e d ⟨rfl,hpost⟩)
 go_ret;exact⟨rfl,hpost⟩
theorem Gn(b o m:Nat)(d:Option Nat)(L:List O)(w:World)(h:aP w b o d m L)(x:O)(n:x.wf)(f:x∈L)(p:m<100000000)(r:L.length<100000000):
  Calls prog 107 #[.pointer (some ⟨b,o,none⟩),vC x true] w λe c=>e=.returned .nilIface/\aP c b o d (m+1) (L.erase x)/\gX b o d w c:=by
 have a:=fC w (.cells #[.int .i64 x.k,.int .i64 x.lk,.int .i64 x.lt,.int .i64 x.lv,.int .i64 x.rk,.int .i64 x.rt,.int .i64 x.rv,.bool x.hl,.bool x.hr,.bool true] 95);have g:=Nn b o m d L _ (h.below a) x n f p r
 have i:Hid (Calls prog 179 #[.pointer (some ⟨b,o,none⟩),vO x] (w.alloc (.cells #[.int .i64 x.k,.int .i64 x.lk,.int .i64 x.lt,.int .i64 x.lv,.int .i64 x.rk,.int .i64 x.rt,.int .i64 x.rv,.bool x.hl,.bool x.hr,.bool true] 95)) λe c=>e=.returned .nilIface/\aP c b o d (m+1) (L.erase x)/\gX b o d w c):=
  g.mono λe c ⟨q,j,l⟩=>⟨q,j,(gX.of_below a).trans l (.inl rfl)⟩
 clear g a h;simp only[vO]at i;simp only[vC];go_enter func107,ntmps107
 go_wp2_with (go_at_call 179;refine Calls.mono (Hid.out i) ?_;rintro e c ⟨rfl,hpost⟩)
 go_ret;exact⟨rfl,hpost⟩
theorem acY(b o m:Nat)(g:Option Nat)(L:List O)(w:World)(h:aP w b o g m L)(x:O)(n:x.wf)(d:x∉L):
  Calls prog 107 #[.pointer (some ⟨b,o,none⟩),vC x true] w λe c=>e=.returned (.iface 24 (.int .i64 8))/\Below w.heap.size w c:=by
 have a:=fC w (.cells #[.int .i64 x.k,.int .i64 x.lk,.int .i64 x.lt,.int .i64 x.lv,.int .i64 x.rk,.int .i64 x.rt,.int .i64 x.rv,.bool x.hl,.bool x.hr,.bool true] 95);have f:=adp b o m g L _ (h.below a) x n d
 have i:Hid (Calls prog 179 #[.pointer (some ⟨b,o,none⟩),vO x] (w.alloc (.cells #[.int .i64 x.k,.int .i64 x.lk,.int .i64 x.lt,.int .i64 x.lv,.int .i64 x.rk,.int .i64 x.rt,.int .i64 x.rv,.bool x.hl,.bool x.hr,.bool true] 95)) λe c=>e=.returned (.iface 24 (.int .i64 8))/\Below w.heap.size w c):=
  f.mono λe c ⟨l,j⟩=>⟨l,a.trans (j.mono (by simp))⟩
 clear f a h;simp only[vO]at i;simp only[vC];go_enter func107,ntmps107
 go_wp2_with (go_at_call 179;refine Calls.mono (Hid.out i) ?_;rintro e c ⟨rfl,hpost⟩)
 go_ret;exact⟨rfl,hpost⟩
end
section
open Go.Proofs.Tryz
variable{d:Nat}{c:Value}{m:List Lit}
theorem wV(h:prog.keyLits (d+1) 3 [c]=some m):∃a,c=.int .i64 a/\(Lit.int .i64 a).wf=true:=by
 unfold Program.keyLits at h;rw[underlying3]at h
 cases c <;>simp at h
 rename_i q a
 exact⟨a,by rw[h.1.1],h.1.2⟩
theorem EH(h:prog.keyLits (d+1) 4 [c]=some m):∃a,c=.bool a:=by
 unfold Program.keyLits at h;rw[underlying4]at h
 cases c <;>simp at h
 rename_i a
 exact⟨a,rfl⟩
theorem J5{c0 c1 e:Value}(h:prog.keyLits (d+2) 37 [c0,c1,e]=some m):∃a b c,c0=.int .i64 a/\c1=.int .i64 b/\e=.int .i64 c/\(Lit.int .i64 a).wf=true/\(Lit.int .i64 b).wf=true/\(Lit.int .i64 c).wf=true:=by
 rw[show d+2=(d+1)+1 from rfl]at h;unfold Program.keyLits at h;rw[underlying37]at h;simp[wJ,cells3]at h
 cases h0:prog.keyLits (d+1) 3 [c0]with
 |none=>simp[h0]at h
 |some l0=>
  cases h1:prog.keyLits (d+1) 3 [c1]with
  |none=>simp[h0,h1]at h
  |some l1=>
   cases h2:prog.keyLits (d+1) 3 [e]with
   |none=>simp[h0,h1,h2]at h
   |some l2=>
    obtain⟨a,rfl,f⟩:=wV h0;obtain⟨b,rfl,g⟩:=wV h1;obtain⟨c,rfl,i⟩:=wV h2;exact⟨a,b,c,rfl,rfl,rfl,f,g,i⟩
theorem XZ{α:Type}{l:List α}(h:l.length=9):∃a b c d e f g i j,l=[a,b,c,d,e,f,g,i,j]:=by
 match l,h with
 |[a,b,c,d,e,f,g,i,j],_=>exact⟨a,b,c,d,e,f,g,i,j,rfl⟩
theorem Ju{v:Value}{l:Lit}(h:keyOf prog 89 v=some l):∃x:O,x.wf/\v=vO x:=by
 unfold keyOf at h;rw[underlying89]at h;simp only[Ag,Bool.true_and]at h
 split at h
 .rename_i hf
  cases v <;>simp[Value.formed,underlying89]at hf
  rename_i cs
  obtain⟨cl⟩:=cs;obtain⟨c0,c1,i,c3,c4,n,u,t,c8,rfl⟩:=XZ (l:=cl) (by simpa[wK]using hf);rw[show prog.types.size+1=(prog.types.size -2+2)+1 by have:2<=prog.types.size:=of_decide_eq_true (by kernel_rfl);omega]at h;generalize prog.types.size -2=d at h;unfold Program.keyLits at h;rw[underlying89]at h;simp[wK,cells3,Ns,wJ,Value.cells]at h
  cases h0:prog.keyLits (d+2) 3 [c0]with
  |none=>simp[h0]at h
  |some l0=>
   cases h1:prog.keyLits (d+2) 37 [c1,i,c3]with
   |none=>simp[h0,h1]at h
   |some l1=>
    cases h2:prog.keyLits (d+2) 37 [c4,n,u]with
    |none=>simp[h0,h1,h2]at h
    |some l2=>
     cases h3:prog.keyLits (d+2) 4 [t]with
     |none=>simp[h0,h1,h2,h3]at h
     |some l3=>
      cases h4:prog.keyLits (d+2) 4 [c8]with
      |none=>simp[h0,h1,h2,h3,h4]at h
      |some l4=>
       obtain⟨k,rfl,q⟩:=wV h0;obtain⟨a,b,c,rfl,rfl,rfl,r,p,w⟩:=J5 h1;obtain⟨s,o,j,rfl,rfl,rfl,e,f,g⟩:=J5 h2;obtain⟨x,rfl⟩:=EH h3;obtain⟨y,rfl⟩:=EH h4;exact⟨⟨k,a,b,c,s,o,j,x,y⟩,⟨q,r,p,w,e,f,g⟩,rfl⟩
 .cases h
end
section
open Go.Proofs.Tryz Go.Maps Go.Shelf
variable{D:DataW Unit}{L:List O}
def Came(L:List O)(left:Lit->Bool)(xs:List O):Prop:=xs.Nodup/\∀x,x∈xs↔x∈L/\left (kL x)=false
theorem Came.start(b:Ae D L):Came L (Maps.has D) []:=
 ⟨List.nodup_nil,λx=>⟨(λh=>by cases h),(λ⟨a,d⟩=>by
  have c:=(b.has x (b.wf x a)).symm.trans d
  simp[a]at c)⟩⟩
theorem Came.step(o:Ae D L){left:Lit->Bool}{xs:List O}(h:Came L left xs){x:O}(k:x.wf)(m:x∈L)(l:left (kL x)=true):
  Came L (λz=>left z && !z.sameKey (kL x)) (xs++[x]):=by
 have f:x∉xs:=λd=>by have:=((h.2 x).1 d).2;rw[l]at this;cases this
 refine⟨?_,λy=>?_⟩
 .rw[List.nodup_append];refine⟨h.1,by simp,λa n b j e=>?_⟩;simp at j;subst j;subst e;exact f n
 .rw[List.mem_append,List.mem_singleton,h.2 y]
  by_cases e:y=x
  .subst e;simp[m,WideAt.sameKey_self (isKey y k)]
  .constructor
   .rintro(⟨c,i⟩|c)
    .exact⟨c,by simp[i]⟩
    .exact absurd c e
   .rintro⟨c,i⟩;refine .inl ⟨c,?_⟩;have g:=xy (o.wf y c) k e;simpa[Maps.sameKey_ne g]using i
theorem keys1_in(F:Fence)(n:Nat)(Nh:F.fn 194)(P:F.round=none)(hn:1<=n)(l Bm b nn:Nat)(A:DataW Unit)(L:List O)(M:Ae A L)(J U:List O->World->Prop)
  (hY:∀pre x W,J pre W->pre.length<Maps.size A->YieldAt F (n -1) prog l #[vO x] W λe h=>
   (e=.returned (.bool true)/\J (pre++[x]) h/\KeepsWalks W h)∨(e=.returned (.bool false)/\U (pre++[x]) h))
  (W:World) (E:AbidesFrom W.heap.size J) (hm:W.cell? ⟨Bm,0,none⟩=some (.map (some b))) (w:W.ownsMap prog 89 (plainElem (H:=Unit) prog 3) b nn A) (h0:J [] W):
  CallsIn F n prog 194 #[.func (.yield l) #[] #[],.pointer (some ⟨Bm,0,none⟩)] W λe h=>(∃v,e=.returned v)/\
   ((∃xs:List O,(xs.Nodup/\∀x,x∈xs↔x∈L)/\J xs h)∨(∃pre:List O,True/\U pre h)):=by
 refine callsIn_of_wp func194 rfl Nh ?_ P;simp only[ntmps194,List.size_toArray,List.length_cons,List.length_nil,Nat.reduceAdd,Nat.reduceSub,Array.replicate_succ,Array.replicate_zero,List.push_toArray,List.append_toArray,List.nil_append,List.cons_append]
 gi_wp2_with (first
  |(gi_at_range;refine wpListIn_range_own _ rfl _ 101 rfl 89 3 keyed underlying101 _ b nn _ rfl w ?_;intro w0 B K hs0)
  |gi_in)
 go_frame
 gi_loopw [3] (λ_ wr=>∃(left:Lit->Bool) (cnt:Nat) (xs:List O),wr.ranges prog 89 (plainElem (H:=Unit) prog 3) b W.heap.size nn A left cnt/\xs.length+cnt<=Maps.size A/\Came L left xs/\J xs wr)
  (λ_ wr=>wr.rangeLeft b W.heap.size)
 case atStart=>
  exact⟨_,_,[],B,by simp,Came.start M,E [] W w0 none h0 K (λr e=>by cases e)⟩
 case round=>
  obtain⟨left,cnt,xs,g,hcs,R,k⟩:=hrel
  gi_wp2_with (first
   |(gi_at_next;refine wpListIn_next_ranges _ rfl _ rfl 89 keyed (plainElem (H:=Unit) prog 3) vO id (λkey V hk=>by obtain⟨x,_,j⟩:=Ju hk;exact⟨x,j⟩) (λv _ _=>⟨v,rfl⟩) b W.heap.size nn _ _ _ rfl g ?_ ?_)
   |gi_in)
  .intro hc0 C
   gi_wp2
   go_end0
   exact⟨⟨_,rfl⟩,.inl ⟨xs,⟨R.1,λx=>by rw[R.2 x,C];simp⟩,k⟩⟩
  .intro x c V yd yp i q a I hv y d N S G T;obtain⟨x',j,Y⟩:=Ju a;obtain rfl:=Ni Y;obtain rfl:V=kL x:=Option.some.inj (a.symm.trans (lK x j))
   have s:x∈L:=by
    have h1:=(M.has x j).symm.trans (Maps.has_true_of_atKey y);simpa using h1
   have o:J xs i:=E xs wr i (some W.heap.size) k S (λr e=>by cases e;exact⟨aC _,g.iter_walk⟩);have z:J xs (i.alloc (.cells (ah x).toArray 89)):=E xs i _ none o (iV _ _ _) (λr e=>by cases e);obtain⟨fn,tmps,assign,body,hy,Z⟩:=hY xs x _ z (by omega);have m:=R.step M j s I;have p:KeepsWalks i (i.alloc (.cells (ah x).toArray 89)):=KeepsWalks.alloc _ _;have HC:Hid _:=m;have HR:=hid d;have X:Hid _:=p;simp only[vO,ah]at T hy Z X;clear G m o z p d y a Y
   gi_wp2
   refine Z.mono ?_;rintro e W3 (⟨rfl,Q,u⟩|⟨rfl,t⟩)
   .have HW:Hid _:=u;clear u
    gi_wp2
    have f:=(HR.out.of_walks X.out).of_walks HW.out
    go_roundw
    case rel=>exact⟨_,q,xs++[x],f,by simp;omega,HC.out,Q⟩
    case measure=>rw[f.left_eq,g.left_eq];exact N
   .gi_wp2
    refine ja (results_none rfl _ _ _) rfl ?_;exact⟨⟨_,rfl⟩,.inr ⟨xs++[x],trivial,t⟩⟩
theorem keys_in(F:Fence)(n:Nat)(a:F.fn 121)(b:F.round=none)(c:Option Nat)(w:World):
  CallsIn F n prog 121 #[.map c] w λe d=>e=.returned (.func (.func 194) #[] #[.pointer (some ⟨w.heap.size,0,none⟩)])/\d=w.alloc (.cells #[.map c] 101):=by
 refine callsIn_of_wp func121 rfl a ?_ b;simp only[ntmps121,List.size_toArray,List.length_cons,List.length_nil,Nat.reduceAdd,Nat.reduceSub,Array.replicate_succ,Array.replicate_zero,List.push_toArray,List.append_toArray,List.nil_append,List.cons_append]
 gi_wp2
 go_ret;exact⟨rfl,rfl⟩
theorem keys_stops(F:Fence)(n:Nat)(u:F.fn 194)(g:F.round=none)(r:1<=n)(e b nn:Nat)(d:DataW Unit)(L:List O)(z:Ae d L)(w:World)(h:e<w.heap.size)
  (v:w.cell? ⟨e,0,none⟩=some (.map (some b))) (a:w.ownsMap prog 89 (plainElem (H:=Unit) prog 3) b nn d):
  SeqStops F n prog 194 #[.pointer (some ⟨e,0,none⟩)] vO (λxs=>xs.Nodup/\∀x,x∈xs↔x∈L) (λ_=>True) (Maps.size d) w:=λl J s W i j _ A k=>by
 have c:W.ownsMap prog 89 (plainElem (H:=Unit) prog 3) b nn d:=by
  have f:=a.lt;obtain⟨m,clock,o,t,q,y⟩:=a;exact⟨m,clock,(i.block b f).trans o,t,q,y⟩
 exact keys1_in F n u g r l e b nn d L z J s A W j ((i.cell (p:=⟨e,0,none⟩) h).trans v) c k
end
section
open Go.Proofs.Tryz Go.Joins Go.Maps Go.Shelf
attribute [local go_sem] Oper.semAt_some
def zO:Value:= .agg #[.int .i64 0,.int .i64 0,.int .i64 0,.int .i64 0,.int .i64 0,.int .i64 0,.int .i64 0,.bool false,.bool false]
theorem xA:(prog.info? 89).map (λi=>(i.zero,i.size,i.bytes))=some (some zO,9,64):=by kernel_rfl
theorem fI(x:O):(ah x).length=9:=rfl
theorem lV(xs:List O):(xs.flatMap ah).length=xs.length*9:=by
 induction xs with
 |nil=>rfl
 |cons a r ih=>rw[List.flatMap_cons,List.length_append,ih,fI,List.length_cons];omega
theorem o7(x:O):∀u∈ah x,u.oneCell'=true:=by
 intro u a;simp[ah]at a;rcases a with rfl|rfl|rfl|rfl|rfl|rfl|rfl|rfl|rfl <;>rfl
def Jr(W:World)(B:Nat)(x:O):Prop:=W.heap[B]?=some (.cells (ah x).toArray 89 (0,0))
theorem Jr.cells{W:World}{B:Nat}{x:O}(h:Jr W B x):W.cell? ⟨B,0,none⟩=some (.int .i64 x.k)/\W.cell? ⟨B,1,none⟩=some (.int .i64 x.lk)/\W.cell? ⟨B,2,none⟩=some (.int .i64 x.lt)/\W.cell? ⟨B,3,none⟩=some (.int .i64 x.lv)/\W.cell? ⟨B,4,none⟩=some (.int .i64 x.rk)/\W.cell? ⟨B,5,none⟩=some (.int .i64 x.rt)/\W.cell? ⟨B,6,none⟩=some (.int .i64 x.rv)/\W.cell? ⟨B,7,none⟩=some (.bool x.hl)/\W.cell? ⟨B,8,none⟩=some (.bool x.hr):=by
 have a:W.heap[B]?=some (.cells (ah x).toArray 89 (0,0)):=h
 refine⟨?_,?_,?_,?_,?_,?_,?_,?_,?_⟩ <;>(rw[fq a];rfl)
theorem appendSeq_in(F:Fence)(n:Nat)(E:F.fn 262)(Nh:F.fn 194)(t:F.round=none)(hn:3<=n)(y N:Nat)(S:List O->Prop)(w:World)(hN:N<=100000000)
  (p:SeqStops F (n -1) prog 194 #[.pointer (some ⟨y,0,none⟩)] vO S (λ_=>True) N w):
  CallsIn F n prog 262 #[.slice none 0 0,.func (.func 194) #[] #[.pointer (some ⟨y,0,none⟩)]] w λe U=>∃v xs,e=.returned v/\S xs/\U.ownsRow w.heap.size 89 9 v xs.length (xs.flatMap ah)/\(v=.slice none 0 0↔xs=[])/\Below w.heap.size w U:=by
 have I:1<=n:=by omega
 obtain⟨i0,hi,H,L,C⟩:=je xA;refine callsIn_of_wp_marks func262 rfl E ?_ t;simp only[ntmps262,List.size_toArray,List.length_cons,List.length_nil,Nat.reduceAdd,Nat.reduceSub,Array.replicate_succ,Array.replicate_zero,List.push_toArray,List.append_toArray,List.nil_append,List.cons_append]
 gi_wp2
 have bO:=Boxed.new w 50 (.slice none 0 0);have m:Below w.heap.size w (w.alloc (.cells #[.slice none 0 0] 50)):=(iL _ w).alloc (aC _) _
 refine wpIn_rangeFunc_ownH t I (gf:=194) (lb:= #[.pointer (some ⟨y,0,none⟩)]) rfl Nh (enters_of func194 (by kernel_rfl) rfl)
  p walksK_t walksK_b m (λ_=>rfl)
  (λpre W=>(∃v,Boxed W w.heap.size 50 v/\W.ownsRow w.heap.size 89 9 v pre.length (pre.flatMap ah)/\(v=.slice none 0 0↔pre=[]))/\Below w.heap.size w W)
  (λ_ _ _=>False)
  (OwnFrom.and (Own.from (holdsRow_own w.heap.size w.heap.size 50 89 9 (λpre=>pre.length) (λpre=>pre.flatMap ah) (λpre v=>v=.slice none 0 0↔pre=[])) _) (ownFrom_below (aC _) (by simp)))
  (λ_ _ _ _ _ M _ _=>M)
  ⟨⟨_,bO,iR _ _ _ _,by simp⟩,m⟩
  (λx B W=>∃Bx,w.heap.size<Bx/\Jr W Bx x/\B={ tmps:= #[.slice none 0 0,.func (.func 194) #[] #[.pointer (some ⟨y,0,none⟩)],.pointer (some ⟨w.heap.size,0,none⟩),undef,.slice none 0 0,.pointer (some ⟨Bx,0,none⟩),.func (.func 194) #[] #[.pointer (some ⟨y,0,none⟩)],vO x,undef,undef,undef,undef,undef],defers:=[]})
  (λx B _ X Y row M hg V=>by
   obtain⟨Bx,I,Z,h3⟩:=M;have i:X.heap[Bx]?=some (.cells (ah x).toArray 89 (0,0)):=Z;refine⟨Bx,I,(hg.block Bx (ax.1 i).1 (λe=>?_)).trans i,h3⟩;obtain⟨o,T,G⟩:=(V Bx e.symm).2
   rw[i]at T;cases T;cases G)
  ?assign ?body ?done ?stop
 case assign=>
  rintro l pre x W K ⟨⟨v,j,a,b⟩,g⟩ u;simp only[vO]at *
  gi_wp2
  exact u _ _ ((KeepsOthers.alloc _ _).from _) (KeepsWalks.alloc _ _) ⟨⟨v,j.alloc _,a.alloc _,b⟩,g.alloc g.size _⟩ ⟨W.heap.size,j.lt,World.alloc_heap_new W _,rfl⟩
 case body=>
  rintro l pre x B W hl ⟨r,V⟩ ⟨⟨v,j,a,b⟩,g⟩ ⟨Bx,hBx,bX,rfl⟩ hlt;have G:=j.cell;have hcx:=bX.cells
  gi_wp2_with (gi_at_builtin;refine wpListIn_append_own _ rfl _ _ 50 rfl w.heap.size 89 i0 zO 9 64 underlying50 hi H L C rfl (by decide) _ _ _ rfl (a.alloc _) ⟨W.heap.size,0,none⟩ 1 1 (ah x) rfl rfl (World.news_of_block (eZ W _)) (o7 x) (by unfold maxLen;omega) (by omega) (by have:=g.size;simp;omega) ?_;intro v' w1 d k _;obtain⟨R,f,rfl⟩:=ownsRow_succ d;obtain⟨s,A,z,q,P⟩:=j.appended (by decide) a g.size (aC _) d k;have hc1:=s.cell;have hf1:=s.frozen)
  have Q:(w1.setCell ⟨w.heap.size,0,none⟩ (.slice (some ⟨R,0,none⟩) (pre.length+1) f)).ownsRow w.heap.size 89 9 (.slice (some ⟨R,0,none⟩) (pre.length+1) f) (pre++[x]).length ((pre++[x]).flatMap ah):=by
   simpa[List.flatMap_append]using z
  exact⟨q.from _,q.walks,⟨_,A,Q,by simp⟩,g.trans P⟩
 case done=>
  rintro D ys W hD hS ⟨⟨v,j,a,b⟩,g⟩ u;have G:=j.cell
  gi_wp2
  refine⟨by simp,.inl ⟨_,_,rfl,run_takeDeferred u,?_⟩⟩;exact⟨_,results_tmp rfl _ _ _,v,ys,rfl,hS,ownsRow_putObj a _ u rfl,b,g.trans (belowK_b (w:=w) (aC _) W D _ _ (by simp at hD;omega) u rfl rfl)⟩
 case stop=>
  rintro D c pre W _ _ h _;exact h.elim
theorem collect_in(F:Fence)(n:Nat)(d:F.fn 192)(c:F.fn 262)(i:F.fn 194)(b:F.round=none)(hn:4<=n)(f N:Nat)(S:List O->Prop)(w:World)(h:N<=100000000)
  (a:SeqStops F (n -1 -1) prog 194 #[.pointer (some ⟨f,0,none⟩)] vO S (λ_=>True) N w):
  CallsIn F n prog 192 #[.func (.func 194) #[] #[.pointer (some ⟨f,0,none⟩)]] w λe g=>∃v xs,e=.returned v/\S xs/\g.ownsRow w.heap.size 89 9 v xs.length (xs.flatMap ah)/\(v=.slice none 0 0↔xs=[])/\Below w.heap.size w g:=by
 have h1:1<=n:=by omega
 refine callsIn_of_wp func192 rfl d ?_ b;simp only[ntmps192,List.size_toArray,List.length_cons,List.length_nil,Nat.reduceAdd,Nat.reduceSub,Array.replicate_succ,Array.replicate_zero,List.push_toArray,List.append_toArray,List.nil_append,List.cons_append]
 gi_wp2_with (gi_at_call 262;refine(appendSeq_in F (n -1) c i b (by omega) f N S w h a).mono ?_;rintro e w' ⟨v,xs,rfl,hpost⟩)
 go_ret;exact⟨v,xs,rfl,hpost⟩
theorem BP(c b nn:Nat)(d:DataW Unit)(L:List O)(j:Ae d L)(w:World)(f:c<w.heap.size)(g:nn<=100000000)
  (i:w.cell? ⟨c,0,none⟩=some (.map (some b))) (a:w.ownsMap prog 89 (plainElem (H:=Unit) prog 3) b nn d):
  Calls prog 192 #[.func (.func 194) #[] #[.pointer (some ⟨c,0,none⟩)]] w λe h=>∃v xs,e=.returned v/\(xs.Nodup/\∀x,x∈xs↔x∈L)/\h.ownsRow w.heap.size 89 9 v xs.length (xs.flatMap ah)/\(v=.slice none 0 0↔xs=[])/\Below w.heap.size w h:=
 (jf (n:=4)).1 (collect_in Fence.wide 4 trivial trivial trivial rfl (by omega) c (Maps.size d) _ w (aH a.size_le g) (keys_stops Fence.wide _ trivial rfl (by omega) c b nn d L j w f i a))
theorem Ky(F:Fence)(n:Nat)(f:F.fn 194)(a:F.round=none)(l b:Nat)(J:List O->World->Prop)(W:World)(c:AbidesFrom W.heap.size J)
  (hm:W.cell? ⟨b,0,none⟩=some (.map none)) (d:J [] W):
  CallsIn F n prog 194 #[.func (.yield l) #[] #[],.pointer (some ⟨b,0,none⟩)] W λe g=>(∃v,e=.returned v)/\J [] g:=by
 refine callsIn_of_wp func194 rfl f ?_ a;simp only[ntmps194,List.size_toArray,List.length_cons,List.length_nil,Nat.reduceAdd,Nat.reduceSub,Array.replicate_succ,Array.replicate_zero,List.push_toArray,List.append_toArray,List.nil_append,List.cons_append];have hrg:=run_range_nilMap (P:=prog) W 101 89 3 underlying101
 have hnx:∀ty,(Instr.next (.pointer (some ⟨W.heap.size,0,none⟩)) false ty).run prog (W.alloc (.mapIter none 0 #[] 0))=_:=λty=>run_next_nilMap _ ty 0 0 #[]
 gi_wp2
 refine wpIn_loop_rounds 1 ?_;rw[roundsIn_succ]
 gi_wp2
 go_end0
 exact⟨⟨_,rfl⟩,c [] W _ none d (iV W _ none) (λr e=>by cases e)⟩
theorem keys_stops_nil(F:Fence)(n:Nat)(f:F.fn 194)(b:F.round=none)(a:Nat)(w:World)(c:a<w.heap.size)(g:w.cell? ⟨a,0,none⟩=some (.map none)):
  SeqStops F n prog 194 #[.pointer (some ⟨a,0,none⟩)] vO (λxs:List O=>xs=[]) (λ_=>True) 0 w:=λl J _ W h d _ _ e=>
 (Ky F n f b l a J W d ((h.cell (p:=⟨a,0,none⟩) c).trans g) e).mono λ_ _ ⟨i,j⟩=>⟨i,.inl ⟨[],rfl,j⟩⟩
theorem Dm(c b o m:Nat)(i:Option Nat)(L:List O)(w:World)(h:aP w b o i m L)(f:c<w.heap.size)(hmm:m<=100000000)(g:w.cell? ⟨c,0,none⟩=some (.map i)):
  Calls prog 192 #[.func (.func 194) #[] #[.pointer (some ⟨c,0,none⟩)]] w λe j=>∃v xs,e=.returned v/\(xs.Nodup/\∀x,x∈xs↔x∈L)/\j.ownsRow w.heap.size 89 9 v xs.length (xs.flatMap ah)/\(v=.slice none 0 0↔xs=[])/\Below w.heap.size w j:=by
 rcases h.map with⟨rfl,rfl⟩|⟨k,n,D,rfl,hn,d,p⟩
 .refine((jf (n:=4)).1 (collect_in Fence.wide 4 trivial trivial trivial rfl (by omega) c 0 _ w (by omega) (keys_stops_nil Fence.wide _ trivial rfl c w f g))).mono ?_;rintro e w' ⟨v,xs,l,rfl,a⟩;exact⟨v,[],l,⟨List.nodup_nil,by simp⟩,a⟩
 .exact BP c k n D L p w f (by omega) g d
end
section
variable{w a:World}
def Gr(w a:World):Prop:=∃q os,a=grow (w.drewN q) os
theorem Gr.refl(w:World):Gr w w:=⟨0,#[],by rw[grow_empty];rfl⟩
theorem Gr.drew(h:Gr w a):Gr w a.drew:=by
 obtain⟨q,os,rfl⟩:=h;exact⟨q+1,os,rfl⟩
theorem Gr.alloc(h:Gr w a)(o:Obj):Gr w (a.alloc o):=by
 obtain⟨q,os,rfl⟩:=h;exact⟨q,os++ #[o],by rw[alloc_eq_grow,grow_grow]⟩
set_option linter.unusedSimpArgs false
theorem PT(k lk lt lv rk rt rv m d lt' g l j f:Int)(h i c b:Bool)(w:World):
  Calls Tryz.prog 122 #[.agg #[.int .i64 k,.int .i64 lk,.int .i64 lt,.int .i64 lv,.int .i64 rk,.int .i64 rt,.int .i64 rv,.bool h,.bool i],.agg #[.int .i64 m,.int .i64 d,.int .i64 lt',.int .i64 g,.int .i64 l,.int .i64 j,.int .i64 f,.bool c,.bool b]] w λe a=>e=.returned (.int .i64 (mq [cu k m,xD h c,mq [cu lk d,cu lt lt',cu lv g],xD i b,mq [cu rk l,cu rt j,cu rv f]]))/\Gr w a:=by
 go_enter Tryz.func122,Tryz.ntmps122;go_wp2
 go_region_held3 (λa=>a.cell? ⟨w.heap.size,0,none⟩=some (.int .i64 k)/\a.cell? ⟨w.heap.size,1,none⟩=some (.int .i64 lk)/\a.cell? ⟨w.heap.size,2,none⟩=some (.int .i64 lt)/\a.cell? ⟨w.heap.size,3,none⟩=some (.int .i64 lv)/\a.cell? ⟨w.heap.size,4,none⟩=some (.int .i64 rk)/\a.cell? ⟨w.heap.size,5,none⟩=some (.int .i64 rt)/\a.cell? ⟨w.heap.size,6,none⟩=some (.int .i64 rv)/\a.cell? ⟨w.heap.size,7,none⟩=some (.bool h)/\a.cell? ⟨w.heap.size,8,none⟩=some (.bool i)/\a.cell? ⟨w.heap.size+1,0,none⟩=some (.int .i64 m)/\a.cell? ⟨w.heap.size+1,1,none⟩=some (.int .i64 d)/\a.cell? ⟨w.heap.size+1,2,none⟩=some (.int .i64 lt')/\a.cell? ⟨w.heap.size+1,3,none⟩=some (.int .i64 g)/\a.cell? ⟨w.heap.size+1,4,none⟩=some (.int .i64 l)/\a.cell? ⟨w.heap.size+1,5,none⟩=some (.int .i64 j)/\a.cell? ⟨w.heap.size+1,6,none⟩=some (.int .i64 f)/\a.cell? ⟨w.heap.size+1,7,none⟩=some (.bool c)/\a.cell? ⟨w.heap.size+1,8,none⟩=some (.bool b)) (first|(go_keep;done)|(simp(disch:=first|omega|(simp only[World.size_alloc];done)|(simp only[World.size_alloc];omega)) only[World.cell?_drew,World.cell?_drewN,World.cell?_alloc_past,World.cell?_alloc_at];simp;done))
  (first|(go_at_call 196;refine(Jz _ _ _).mono ?_;rintro e a ⟨rfl,rfl⟩)|(go_at_call 197;refine(SN _ _ _).mono ?_;rintro e a ⟨rfl,rfl⟩)|(go_at_call 198;refine(Gs _ _ _ _ _ _ _).mono ?_;rintro e a ⟨rfl,rfl⟩)|(go_at_call 195;refine(or5 (cu k m) (xD h c) (mq [cu lk d,cu lt lt',cu lv g]) (xD i b) (mq [cu rk l,cu rt j,cu rv f]) _ _ _ ?_ ?_ ?_ ?_ ?_).mono ?_;(simp(disch:=first|omega|(simp only[World.size_alloc];done)|(simp only[World.size_alloc];omega)) only[World.cell?_drew,World.cell?_drewN,World.cell?_alloc_past,World.cell?_alloc_at];simp);(simp(disch:=first|omega|(simp only[World.size_alloc];done)|(simp only[World.size_alloc];omega)) only[World.cell?_drew,World.cell?_drewN,World.cell?_alloc_past,World.cell?_alloc_at];simp);(simp(disch:=first|omega|(simp only[World.size_alloc];done)|(simp only[World.size_alloc];omega)) only[World.cell?_drew,World.cell?_drewN,World.cell?_alloc_past,World.cell?_alloc_at];simp);(simp(disch:=first|omega|(simp only[World.size_alloc];done)|(simp only[World.size_alloc];omega)) only[World.cell?_drew,World.cell?_drewN,World.cell?_alloc_past,World.cell?_alloc_at];simp);(simp(disch:=first|omega|(simp only[World.size_alloc];done)|(simp only[World.size_alloc];omega)) only[World.cell?_drew,World.cell?_drewN,World.cell?_alloc_past,World.cell?_alloc_at];simp);rintro e a ⟨rfl,rfl⟩))
 all_goals go_wp2
 go_ret;exact⟨rfl,by repeat first|exact Gr.refl _|refine Gr.drew ?_|refine Gr.alloc ?_ _⟩
theorem RB(x y:O)(w:World):Calls Tryz.prog 122 #[vO x,vO y] w λe a=>e=.returned (.int .i64 (cO x y))/\Gr w a:=
 PT x.k x.lk x.lt x.lv x.rk x.rt x.rv y.k y.lk y.lt y.lv y.rk y.rt y.rv x.hl x.hr y.hl y.hr w
end
section
open Go.Maps Go.Shelf
def bJ(Z:List O):Prop:=Z.Pairwise λx y=>cO x y<=0
def ql:Prop:=∀(Bm b o m:Nat) (om:Option Nat) (L:List O) (w:World),aP w b o om m L->L.length<=1000000->Bm<w.heap.size->m<=100000000->w.cell? ⟨Bm,0,none⟩=some (.map om)->
  Calls Tryz.prog 120 #[.func (.func 194) #[] #[.pointer (some ⟨Bm,0,none⟩)],.func (.func 122) #[] #[]] w λe W'=>∃v xs,e=.returned v/\xs.Nodup/\(∀x,x∈xs↔x∈L)/\bJ xs/\xs.length<=100000000/\W'.ownsRow w.heap.size 89 9 v xs.length (xs.flatMap ah)/\Below w.heap.size w W'
theorem Dj:∀(xs L:List O),xs.Nodup->(∀x∈xs,x∈L)->xs.length<=L.length
 |[],_,_,_=>by simp
 |a::r,L,hnd,hs=>by
  obtain⟨g,f⟩:=List.nodup_cons.1 hnd;have d:a∈L:=hs a (by simp);have:=Dj r (L.erase a) f (λx c=>(eY (a:=x) (b:=a) (λe=>g (by rw[<-e];exact c))).2 (hs x (by simp[c])));rw[List.length_erase_of_mem d]at this;have hpos:0<L.length:=List.length_pos_of_mem d;simp;omega
theorem flat_get(xs:List O)(k j:Nat)(x:O)(b:xs[k]?=some x)(hj:j<9):(xs.flatMap ah)[k*9+j]?=(ah x)[j]? :=by
 induction xs generalizing k with
 |nil=>simp at b
 |cons a r ih=>
  rw[List.flatMap_cons]
  cases k with
  |zero=>
   simp at b;subst b;rw[eB (by rw[fI];omega)];simp
  |succ k=>
   simp at b;rw[dK (by rw[fI];omega),fI,show(k+1)*9+j -9=k*9+j by omega];exact ih k b
structure Xf(w:World)(gk ck n:Nat)(xs:List O)(Bx:Nat)(x:O)(Z:List O)(v:Value)(W:World):Prop where
 below:Below w.heap.size w W
 row:W.ownsRow w.heap.size 89 9 v Z.length (Z.flatMap ah)
 ks:W.ownsRow w.heap.size 89 9 (.slice (some ⟨gk,0,none⟩) n ck) n (xs.flatMap ah)
 box:Jr W Bx x
 ne1:v.ownBlock≠some gk
 ne2:v.ownBlock≠some Bx
theorem Xf.step{w W f:World}{l m n Bx:Nat}{xs Z:List O}{x:O}{v c:Value}{o:Obj}(h:Xf w l m n xs Bx x Z v W)
  (b:f.ownsRow w.heap.size 89 9 c (Z.length+1) (Z.flatMap ah++ah x)) (j:(W.alloc o).grownBy f v.ownBlock) (a:c.ownBlock=v.ownBlock∨c.ownBlock=some (W.alloc o).heap.size):
  Xf w l m n xs Bx x (Z++[x]) c f:=by
 have q:=h.below.size;have i:Bx<W.heap.size:=(ax.1 (show W.heap[Bx]?=some _ from h.box)).1
 have iU:l<W.heap.size:=by
  have p:=h.ks.2
  rcases p with⟨d,_⟩|⟨g,cap,cur,d,_,r,_⟩
  .cases d
  .cases d;exact(ax.1 r).1
 refine⟨(h.below.alloc q _).grown j (by simp;omega) (λk e=>?_),by simpa[List.flatMap_append]using b,(h.ks.alloc _).kept j (.inr (by simpa[Value.ownBlock]using λe=>h.ne1 e.symm)),?_,?_,?_⟩
 .rcases h.row.2 with⟨rfl,_⟩|⟨g,cap,cur,rfl,d,_⟩
  .simp[Value.ownBlock]at e
  .simp[Value.ownBlock]at e;omega
 .have s:W.heap[Bx]?=some (.cells (ah x).toArray 89 (0,0)):=h.box;exact(j.block Bx (by simp;omega) (λe=>h.ne2 e.symm)).trans ((gL W o Bx i).trans s)
 .rcases a with e|e
  .rw[e];exact h.ne1
  .rw[e];simp;omega
 .rcases a with e|e
  .rw[e];exact h.ne2
  .rw[e];simp;omega
def Zk(xs L:List O)(k:Nat):List O:=(xs.take k).flatMap λx=>List.replicate (L.count x) x
theorem Js(xs L:List O)(k:Nat)(x:O)(h:xs[k]?=some x):Zk xs L (k+1)=Zk xs L k++List.replicate (L.count x) x:=by
 unfold Zk;rw[List.take_add_one,h];simp[List.flatMap_append]
theorem M9(xs L:List O)(j:xs.Nodup)(c:∀x,x∈xs↔x∈L)(y:O):(Zk xs L xs.length).count y=L.count y:=by
 unfold Zk;rw[List.take_length]
 have key:∀(zs:List O),zs.Nodup->(zs.flatMap λx=>List.replicate (L.count x) x).count y=if y∈zs then L.count y else 0:=by
  intro zs
  induction zs with
  |nil=>simp
  |cons a r ih=>
   intro b;obtain⟨i,f⟩:=List.nodup_cons.1 b;rw[List.flatMap_cons,List.count_append,ih f]
   by_cases e:y=a
   .subst e;simp[i]
   .have:List.count y (List.replicate (L.count a) a)=0:=by
     rw[List.count_eq_zero];intro g;exact e (List.eq_of_mem_replicate g)
    rw[this];simp[e]
 rw[key xs j]
 by_cases h:y∈xs
 .simp[h]
 .rw[if_neg h];exact(List.count_eq_zero.2 (λd=>h ((c y).2 d))).symm
theorem Jt(xs L:List O)(b:xs.Nodup)(a:∀x,x∈xs↔x∈L):(Zk xs L xs.length).Perm L:=List.perm_iff_count.2 (M9 xs L b a)
theorem Na(xs L:List O)(h:bJ xs):bJ (Zk xs L xs.length):=by
 unfold Zk bJ;rw[List.take_length,List.pairwise_flatMap];refine⟨λa _=>?_,h.imp λ{a b} c=>?_⟩
 .rw[List.pairwise_replicate];exact .inr (by rw[(wI a a).2 rfl];omega)
 .intro x e y d;rw[List.eq_of_mem_replicate e,List.eq_of_mem_replicate d];exact c
theorem Xg(xs L:List O)(b:xs.Nodup)(a:∀x,x∈xs↔x∈L)(k:Nat):(Zk xs L k).length<=L.length:=by
 have h:=(Jt xs L b a).length_eq
 have:(Zk xs L k).length<=(Zk xs L xs.length).length:=by
  unfold Zk;rw[List.take_length];have:xs=xs.take k++xs.drop k:=(List.take_append_drop k xs).symm
  conv=>rhs;rw[this]
  rw[List.flatMap_append,List.length_append];omega
 omega
end
section
open Go.Proofs.Tryz Go.Joins Go.Maps Go.Shelf
variable{base n:Nat}{W:World}
theorem aL{w b:World}{e:TypeId}{size:Nat}{v:Value}{xs:List Value}(h:w.ownsRow base e size v n xs)(a:Below w.heap.size w b):b.ownsRow base e size v n xs:=
 h.kept (row:=none) ⟨a.os,a.tape,a.output,a.size,λk c _=>a.block k c⟩ (by cases h':v.ownBlock with|none=>exact .inl rfl|some g=>exact .inr (by simp))
theorem bZ(g o:Nat):(⟨g,0,none⟩:Addr).add o=⟨g,o,none⟩:=by
 unfold Addr.add;split
 .rename_i h;rw[h]
 .simp
theorem nQ{gs d:Nat}{xs:List O}(h:W.ownsRow base 89 9 (.slice (some ⟨gs,0,none⟩) n d) n (xs.flatMap ah))(k:Nat)(x:O)(c:xs[k]?=some x):
  W.cell? ⟨gs,k*9,none⟩=some (.int .i64 x.k)/\W.cell? ⟨gs,k*9+1,none⟩=some (.int .i64 x.lk)/\W.cell? ⟨gs,k*9+2,none⟩=some (.int .i64 x.lt)/\W.cell? ⟨gs,k*9+3,none⟩=some (.int .i64 x.lv)/\W.cell? ⟨gs,k*9+4,none⟩=some (.int .i64 x.rk)/\W.cell? ⟨gs,k*9+5,none⟩=some (.int .i64 x.rt)/\W.cell? ⟨gs,k*9+6,none⟩=some (.int .i64 x.rv)/\W.cell? ⟨gs,k*9+7,none⟩=some (.bool x.hl)/\W.cell? ⟨gs,k*9+8,none⟩=some (.bool x.hr):=by
 have key:=λ(j:Nat) (v:Value) (a:j<9) (b:(ah x)[j]?=some v)=>h.cells (g:=gs) rfl (k*9+j) v ((flat_get xs k j x c a).trans b)
 simp only[bZ]at key;exact⟨key 0 _ (by omega) rfl,key 1 _ (by omega) rfl,key 2 _ (by omega) rfl,key 3 _ (by omega) rfl,key 4 _ (by omega) rfl,key 5 _ (by omega) rfl,key 6 _ (by omega) rfl,key 7 _ (by omega) rfl,key 8 _ (by omega) rfl⟩
theorem Np{b o m:Nat}{d:Option Nat}{L:List O}(h:aP W b o d m L)(x:O)(e:x.wf):(Instr.lookup 101 (.map d) (vO x) false).run prog W=.ok (.int .i64 (L.count x)) W:=by
 rcases h.map with⟨rfl,rfl⟩|⟨bm,n,D,rfl,hn,a,c⟩
 .exact Maps.look_nil (w:=W) false keyed underlying101 (Dl _) (lK x e)
 .exact look a c x e
theorem RG(HS:ql)(b o m:Nat)(F:Option Nat)(L:List O)(w:World)(h:aP w b o F m L)(hm:m<=100000000)(hL:L.length<=1000000):
  Calls prog 68 #[.pointer (some ⟨b,o,none⟩)] w λe w'=>∃v Z,e=.returned v/\Z.Perm L/\bJ Z/\w'.ownsRow w.heap.size 89 9 v Z.length (Z.flatMap ah)/\Below w.heap.size w w':=by
 obtain⟨i0,hi,K,R,P⟩:=je xA;have hc:=h.cells;have Y:=hid h;have I:=h.lt;clear h;go_enter func68,ntmps68
 go_wp2_with (first
  |(refine wpList_make_own _ rfl _ _ 50 rfl w.heap.size 89 i0 zO 9 underlying50 hi K R .i64 .i64 _ L.length rfl rfl rfl (by rw[P];omega) (by unfold maxLen;omega) (aC _) ?_;intro X xB N;have r:Below w.heap.size w X:=(iL _ w).grown N (aC _) (λk e=>by cases e);have hc1:=(Y.out.below r).cells)
  |(go_at_call 121;refine((jf (n:=1)).1 (keys_in Fence.wide 1 trivial rfl F _)).mono ?_;rintro e w2 ⟨rfl,rfl⟩)
  |fail)
 have z:Below w.heap.size w (X.alloc (.cells #[.map F] 101)):=r.alloc r.size _;have q:=xB.alloc (.cells #[.map F] 101);have hz1':=r.size
 have hgw1:w.heap.size<X.heap.size:=by
  rcases xB.2 with⟨p,_⟩|⟨g,cap,cur,p,_,V,_⟩
  .cases p
  .cases p;exact(ax.1 V).1
 refine(HS X.heap.size b o m F L _ (Y.out.below z) hL (by simp) hm (by simp)).mono ?_;rintro e w3 ⟨v,xs,rfl,t,d,Gp,hxl,a,A⟩;have S:Below w.heap.size w w3:=z.trans (A.mono (by simp;omega));have l:w3.ownsRow w.heap.size 89 9 (.slice (some ⟨w.heap.size,0,none⟩) 0 L.length) 0 []:=aL q A;have HP:Hid ((Zk xs L xs.length).Perm L/\bJ (Zk xs L xs.length)):=⟨Jt xs L t d,Na xs L Gp⟩;have HZ:Hid (∀k,(Zk xs L k).length<=L.length):=Xg xs L t d
 have HW:Hid (∀x∈xs,x.wf):=λx B=>Y.out.wf x ((d x).1 B)
 rcases ownsRow_forms a with⟨rfl,h0⟩|⟨gs,T,rfl⟩
 .have hx0:xs=[]:=di h0;subst hx0;clear a Gp d t;go_wp2;refine wp_loop_rounds 1 ?_;rw[rounds_succ];go_wp2;go_ret;exact⟨_,[],rfl,HP.out.1,HP.out.2,l,S⟩
 .have hgs:w.heap.size<gs:=by
   rcases a.2 with⟨p,_⟩|⟨g,cap,cur,p,h5,V,_⟩
   .cases p
   .cases p;simp at h5;omega
  have Nq:w3.ownsRow w.heap.size 89 9 (.slice (some ⟨gs,0,none⟩) xs.length T) xs.length (xs.flatMap ah):=ownsRow_le a (by simp;omega);clear a Gp d t xB q N r z A hc1;have hz3:=S.size;have HK:=hid Nq;have HR:=hid l;have HB3:=hid S;clear Nq l S;go_wp2
  go_loopg [3,18] xs.length (λg v i wr=>∃k:Nat,k<=xs.length/\g=xs.length -k/\i=.int .i64 k/\Below w.heap.size w wr/\wr.ownsRow w.heap.size 89 9 v (Zk xs L k).length ((Zk xs L k).flatMap ah)/\wr.ownsRow w.heap.size 89 9 (.slice (some ⟨gs,0,none⟩) xs.length T) xs.length (xs.flatMap ah)/\v.ownBlock≠some gs)
  case atStart=>
   exact⟨0,aW _,rfl,rfl,HB3.out,HR.out,HK.out,by simp[Value.ownBlock];omega⟩
  case round=>
   obtain⟨k,hk,xC,rfl,E,f,a,s⟩:=hrel;have HG:=hid xC;clear xC;have Jw:=hid E;have Bo:=hid f;have HKr:=hid a;have HN:=hid s
   by_cases I:k<xs.length
   .obtain⟨x,B⟩:∃x,xs[k]?=some x:=⟨_,aO I⟩;have hq:=nQ a k x B;have hwf:x.wf:=HW.out x (cZ B);have UC:=Y.out.below E;have TZ:aP (wr.alloc (.cells (ah x).toArray 89)).drew b o F m L:=UC.below ((fC _ _).drew);have u:=Np TZ x hwf;have hcb:=UC.cells;have RH:=E.size
    have Q:b<wr.heap.size:=by omega
    have h1:(0:Int)<=(k:Int):=by omega
    have h2:(k:Int)<(xs.length:Int):=by omega
    have U:Hid (Xf w gs T xs.length xs wr.heap.size x (Zk xs L k) u3 (wr.alloc (.cells (ah x).toArray 89)).drew):=
     ⟨(E.alloc RH _).drew,f.alloc _,a.alloc _,World.alloc_heap_new wr _,s,λe=>by
      rcases f.2 with⟨p,_⟩|⟨g,cap,cur,p,_,V,_⟩
      .rw[p]at e;cases e
      .rw[p]at e;have:=(ax.1 V).1
       simp[Value.ownBlock]at e;omega⟩
    simp only[vO,ah]at u U;clear E f a s UC TZ;go_wp2
    go_region
    all_goals (try go_wp2)
    have hcl:(L.count x:Int)<=1000000:=by have:L.count x<=L.length:=List.count_le_length;omega
    clear u hq hcb Q;generalize hcx:L.count x=c at hcl;have HC:=hid hcx;clear hcx
    have HZk:Hid ((Zk xs L k).length+c<=1000000):=by
     have C:=HZ.out (k+1);rw[Js xs L k x B,List.length_append,List.length_replicate,HC.out]at C;exact aH C hL
    clear RH Jw Bo HKr HN;revert U;generalize(wr.alloc (.cells #[.int .i64 x.k,.int .i64 x.lk,.int .i64 x.lt,.int .i64 x.lv,.int .i64 x.rk,.int .i64 x.rt,.int .i64 x.rv,.bool x.hl,.bool x.hr] 89)).drew=w5;generalize wr.heap.size=Bx;intro U
    go_loopg [3,28] c (λg v j wi=>∃jn:Nat,jn<=c/\g=c -jn/\j=.int .i64 jn/\Xf w gs T xs.length xs Bx x (Zk xs L k++List.replicate jn x) v wi)
    case atStart=>exact⟨0,aW _,rfl,rfl,by simpa using U.out⟩
    case round=>
     obtain⟨jn,hj,M,rfl,G⟩:=hrel;have Zg:Hid _:=M;clear M;have Xj:=hid G
     by_cases hjl:jn<c
     .have hbx:=G.box.cells
      have abU:(jn:Int)<(c:Int):=by omega
      have hlen:(Zk xs L k++List.replicate jn x).length<=1000000:=by have:=HZk.out;rw[List.length_append,List.length_replicate];omega
      have Ua:=G.row;have hszI:=G.below.size;have HR4:=hid Ua;clear G Ua
      go_wp2_with (first|(at_builtin;refine wpList_append_own_at _ rfl _ _ 50 rfl w.heap.size 89 i0 zO 9 64 underlying50 hi K R P rfl (by decide) _ _ _ rfl (HR4.out.alloc _) ⟨wr.heap.size,0,none⟩ 1 1 (ah x) rfl rfl (World.news_of_block (eZ wr _)) (o7 x) (by unfold maxLen;omega) (by omega) (by simp;omega) ?_;intro v' w6 y Gq _ qa)|fail)
      go_roundg (c -(jn+1))
      case measure=>have:=Zg.out;omega
      case rel=>exact⟨jn+1,by omega,rfl,by go_num,by rw[List.replicate_succ',<-List.append_assoc];exact Xj.out.step y Gq qa⟩
     .have C:jn=c:=by omega
      have hge:¬((jn:Int)<(c:Int)):=by omega
      clear G;go_wp2
      go_roundg (xs.length -(k+1))
      case measure=>have:=HG.out;omega
      case rel=>
       have H:=Xj.out;rw[C,<-HC.out,<-Js xs L k x B]at H;exact⟨k+1,by omega,rfl,by go_num,H.below,H.row,H.ks,H.ne1⟩
   .clear E f a s
    have C:k=xs.length:=by omega
    have hge:¬((k:Int)<(xs.length:Int)):=by omega
    go_wp2;go_ret;exact⟨_,rfl,Zk xs L xs.length,HP.out.1,HP.out.2,by rw[<-C];exact Bo.out,Jw.out⟩
end
end Go.Proofs.YthfpipieboophaaGreatDoor
