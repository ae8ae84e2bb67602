import Derived.RangeFuncNested
import Derived.RangeFuncBound
import Derived.Shelf.RegionOpen
import Derived.Sort.MapsRangeIn
import Derived.LoopNIn
import Derived.LoopIn
import Derived.Deep.AppendLies
import Derived.Test.YthfpipieboophaaGreatDoorZHd
namespace Go.Proofs.YthfpipieboophaaGreatDoor
set_option maxRecDepth 100000
set_option maxHeartbeats 40000000
open Go.RowKit Go.Sort
section
open Go.Proofs.Tryz Go.Joins
variable{D:DataW Unit}{L:List O}{b o m d n:Nat}{f:Option Nat}{w g W:World}
abbrev i64(n:Int):DataW Unit:= .lit (.int .i64 n)
structure Ae(D:DataW Unit)(L:List O):Prop where
 isMap:Maps.IsMap D
 wf:∀x∈L,x.wf
 at_:∀x,x.wf->D.atKey (kL x) (i64 0)=i64 (L.count x)
 has:∀x,x.wf->Maps.has D (kL x)=decide (x∈L)
 keys:∀l,Maps.has D l=true->∃x∈L,l=kL x
theorem RA:Ae (.map []) []:=
 ⟨Maps.isMap_empty,by simp,λx _=>rfl,λx _=>rfl,λl h=>by cases h⟩
theorem isKey(x:O)(h:x.wf):WideAt.IsKeyLit (kL x):=keyed.key (lK x h)
theorem xy{x y:O}(c:x.wf)(a:y.wf)(h:x≠y):kL x≠kL y:=λe=>h (UA c a e)
theorem Ae.put(h:Ae D L)(x:O)(c:x.wf):Ae (D.put (kL x) (i64 (L.count x+1))) (x::L):=by
 refine⟨h.isMap.put _ _,λy a=>?_,λy a=>?_,λy a=>?_,λl i=>?_⟩
 .rcases qh.1 a with rfl|a
  .exact c
  .exact h.wf y a
 .by_cases e:y=x
  .subst e;rw[Maps.atKey_put_same h.isMap (isKey y a)];simp
  .rw[Cr (xy a c e),h.at_ y a,List.count_cons_of_ne (Ne.symm e)]
 .by_cases e:y=x
  .subst e;rw[Maps.has_put_same h.isMap (isKey y a)];simp
  .rw[BB (xy a c e),h.has y a];simp[e]
 .by_cases e:l=kL x
  .exact⟨x,by simp,e⟩
  .rw[BB e]at i;obtain⟨y,a,rfl⟩:=h.keys l i;exact⟨y,by simp[a],rfl⟩
theorem Ae.less(h:Ae D L)(x:O)(j:x.wf)(h2:2<=L.count x):Ae (D.put (kL x) (i64 (L.count x -1))) (L.erase x):=by
 have c:x∈L.erase x:=by rw[<-List.count_pos_iff,List.count_erase_self];omega
 refine⟨h.isMap.put _ _,λy a=>h.wf y (List.mem_of_mem_erase a),λy a=>?_,λy a=>?_,λl i=>?_⟩
 .by_cases e:y=x
  .subst e;rw[Maps.atKey_put_same h.isMap (isKey y a),List.count_erase_self];congr 2;omega
  .rw[Cr (xy a j e),h.at_ y a,List.count_erase_of_ne e]
 .by_cases e:y=x
  .subst e;rw[Maps.has_put_same h.isMap (isKey y a)];simp[c]
  .rw[BB (xy a j e),h.has y a];simp[vv e]
 .by_cases e:l=kL x
  .exact⟨x,c,e⟩
  .rw[BB e]at i;obtain⟨y,a,rfl⟩:=h.keys l i;exact⟨y,(vv (λk=>e (by rw[k]))).2 a,rfl⟩
theorem Ae.del(h:Ae D L)(x:O)(j:x.wf)(k:L.count x=1):Ae (D.del (kL x)) (L.erase x):=by
 have i:x∉L.erase x:=by rw[<-List.count_eq_zero,List.count_erase_self];omega
 refine⟨h.isMap.del _,λy a=>h.wf y (List.mem_of_mem_erase a),λy a=>?_,λy a=>?_,λl c=>?_⟩
 .by_cases e:y=x
  .subst e;rw[Maps.atKey_del_same,List.count_erase_self,k];rfl
  .rw[Maps.atKey_del_other (xy a j e),h.at_ y a,List.count_erase_of_ne e]
 .by_cases e:y=x
  .subst e;rw[Maps.has_del_same];simp[i]
  .rw[Maps.has_del_other (xy a j e),h.has y a];simp[vv e]
 .by_cases e:l=kL x
  .subst e;rw[Maps.has_del_same]at c;cases c
  .rw[Maps.has_del_other e]at c;obtain⟨y,a,rfl⟩:=h.keys l c;exact⟨y,(vv (λp=>e (by rw[p]))).2 a,rfl⟩
theorem Dl(w:World):(zeroValue 3).run prog w=.ok (.int .i64 0) w:=by kernel_rfl
structure aP(w:World)(b o:Nat)(f:Option Nat)(m:Nat)(L:List O):Prop where
 blk:∃cs T,w.heap[b]?=some (.cells cs T)/\cs[o]?=some (.map f)/\cs[o+1]?=some (.int .i64 L.length)
 map:(f=none/\L=[])∨∃d n D,f=some d/\n<=m/\w.ownsMap prog 89 (plainElem (H:=Unit) prog 3) d n D/\Ae D L
structure gX(b o:Nat)(f:Option Nat)(w g:World):Prop where
 os:g.os=w.os
 tape:g.tape=w.tape
 output:g.output=w.output
 size:w.heap.size<=g.heap.size
 block:∀k,k<w.heap.size->k≠b->f≠some k->g.heap[k]?=w.heap[k]?
 this:∀cs T,w.heap[b]?=some (.cells cs T)->∃cs':Array Value,g.heap[b]?=some (.cells cs' T)/\cs'.size=cs.size/\∀i,i≠o->i≠o+1->cs'[i]?=cs[i]?
theorem gX.refl(b o:Nat)(f:Option Nat)(w:World):gX b o f w w:=⟨rfl,rfl,rfl,aO _,λ_ _ _ _=>rfl,λcs _ h=>⟨cs,h,rfl,λ_ _ _=>rfl⟩⟩
theorem gX.trans{l:Option Nat}{u v:World}(h:gX b o f u v)(k:gX b o l v w)(C:l=f∨∃j,l=some j/\u.heap.size<=j):gX b o f u w:=
 ⟨k.os.trans h.os,k.tape.trans h.tape,k.output.trans h.output,di h.size k.size,λj r s q=>(k.block j (fO r h.size) s (by
  rcases C with rfl|⟨i,rfl,hi⟩
  .exact q
  .intro e;cases e;omega)).trans (h.block j r s q),λcs T E=>by
  obtain⟨c,t,y,z⟩:=h.this cs T E;obtain⟨p,A,B,x⟩:=k.this c T t
  exact⟨p,A,B.trans y,λi hi a=>(x i hi a).trans (z i hi a)⟩⟩
theorem gX.of_below(h:Below w.heap.size w g):gX b o f w g:=⟨h.os,h.tape,h.output,h.size,λk c _ _=>h.block k c,λcs _ a=>⟨cs,(h.block b (aD.1 a).1).trans a,rfl,λ_ _ _=>rfl⟩⟩
theorem gX.below{B:Nat}(h:gX b o f w g)(hB:B<=w.heap.size)(hb:B<=b)(a:∀k,f=some k->B<=k):Below B w g:=
 ⟨h.os,h.tape,h.output,h.size,λk hk=>h.block k (by omega) (by omega) (λe=>by have:=a k e;omega)⟩
theorem aP.lt(h:aP w b o f m L):b<w.heap.size:=by
 obtain⟨cs,T,a,_⟩:=h.blk;exact(aD.1 a).1
theorem aP.cells(h:aP w b o f m L):
  w.cell? ⟨b,o,none⟩=some (.map f)/\w.cell? ⟨b,o+1,none⟩=some (.int .i64 L.length)/\w.frozen? ⟨b,o,none⟩=false/\w.frozen? ⟨b,o+1,none⟩=false:=by
 obtain⟨cs,T,a,c,e⟩:=h.blk;refine⟨?_,?_,x9 a o,x9 a (o+1)⟩
 .rw[vE a];exact c
 .rw[vE a];exact e
theorem aP.wf(h:aP w b o f m L):∀x∈L,x.wf:=by
 rcases h.map with⟨_,rfl⟩|⟨d,n,D,rfl,hn,hown,a⟩
 .simp
 .exact a.wf
theorem aP.ne(h:aP w b o f m L)(i:f=some d):d≠b/\d<w.heap.size:=by
 rcases h.map with⟨j,_⟩|⟨YE,n,D,j,hn,a,hc⟩
 .rw[j]at i;cases i
 .rw[j]at i;cases i;refine⟨λe=>?_,a.lt⟩;obtain⟨es,c,k,_⟩:=a;obtain⟨cs,T,l,_⟩:=h.blk;rw[e,l]at k;cases k
theorem aP.kept(h:aP w b o f m L)(a:g.heap[b]?=w.heap[b]?)(e:∀d,f=some d->g.heap[d]?=w.heap[d]?):aP g b o f m L:=by
 refine⟨?_,?_⟩
 .obtain⟨cs,T,l,i⟩:=h.blk;exact⟨cs,T,a.trans l,i⟩
 rcases h.map with hm|⟨d,n,D,a,hn,hown,hc⟩
 .exact .inl hm
 .right
  obtain⟨p,c,j,k⟩:=hown;exact⟨d,n,D,a,hn,⟨p,c,(e d a).trans j,k⟩,hc⟩
theorem aP.below(h:aP w b o f m L)(a:Below w.heap.size w g):aP g b o f m L:=
 h.kept (a.block _ h.lt) (λ_ e=>a.block _ (h.ne e).2)
theorem aP.mono{a:Nat}(h:aP w b o f m L)(c:m<=a):aP w b o f a L:=by
 refine⟨h.blk,?_⟩
 rcases h.map with hx|⟨d,n,D,h1,hn,hown,hc⟩
 .exact .inl hx
 .exact .inr ⟨d,n,D,h1,di hn c,hown,hc⟩
theorem lU{i:Nat}{cs:Array Value}{T:TypeId}(h:w.heap[b]?=some (.cells cs T))(u:Value):(w.setCell ⟨b,i,none⟩ u).heap[b]?=some (.cells (cs.setIfInBounds i u) T):=yc h u
theorem look(e:W.ownsMap prog 89 (plainElem (H:=Unit) prog 3) d n D)(j:Ae D L)(x:O)(i:x.wf):
  (Instr.lookup 101 (.map (some d)) (vO x) false).run prog W=.ok (.int .i64 (L.count x)) W:=by
 obtain⟨c,h,a,_⟩:=e.lookup_int keyed underlying101 underlying3 (Dl _) (lK x i);rw[j.at_ x i]at a
 injection a with h1;injection h1 with _ h2
 rw[h,h2]
theorem entry(h:W.ownsMap prog 89 (plainElem (H:=Unit) prog 3) d n D)(hn:n<1000000000)(x:O)(v:x.wf)(c:Int)(E:(Lit.int .i64 c).wf=true):
  ∃r st y p,(Instr.mapEntry 101 (.map (some d)) (vO x)).run prog W=.ok (.tuple #[r,.int .i64 st]) y/\
   (Instr.entryStore 101 (.map (some d)) (.int .i64 st) (.int .i64 c)).run prog y=.ok () p/\
   p.ownsMap prog 89 (plainElem (H:=Unit) prog 3) d (n+1) (D.put (kL x) (i64 c))/\W.grownBy p (some d):=by
 obtain⟨g,a,j,hg⟩:=h.update keyed underlying101 (by unfold maxLen;omega) (lK x v) (plainElem_int underlying3 E);obtain⟨es,clock,k,F,hs,rfl⟩:=h;obtain⟨r,st,es1,clock1,z,_,A⟩:=WideElems.entry_then_store law underlying101 (λu=>Dl u) k F (lK x v);obtain⟨es',clock',C,t⟩:=A _ (.int .i64 c) (ChangeMaps.heap_setBlock_same k _);refine⟨r,st,_,_,z,C,?_,?_⟩
 .rw[t]at a
  injection a with _ e
  obtain⟨s,B,l,q⟩:=j;refine⟨s,B,?_,q⟩;rw[<-l,<-e,ChangeMaps.heap_setBlock_same (ChangeMaps.heap_setBlock_same k _) _,ChangeMaps.heap_setBlock_same k _]
 .rw[t]at a
  injection a with _ e
  refine⟨rfl,rfl,rfl,by simp[ChangeMaps.setBlock],λi _ hi=>?_⟩;rw[ChangeMaps.heap_setBlock_other (ChangeMaps.heap_setBlock_same k _) _ (λe=>hi (by rw[e])),ChangeMaps.heap_setBlock_other k _ (λe=>hi (by rw[e]))]
theorem qm(i:W.ownsMap prog 89 (plainElem (H:=Unit) prog 3) d n D)(G:Ae D L)(hn:n<1000000000)(x:O)(z:x.wf){N:Value}{y:World}
  (u:(Instr.mapEntry 101 (.map (some d)) (vO x)).run prog W=.ok N y):(Instr.lookup 101 (.map (some d)) (vO x) false).run prog y=.ok (.int .i64 (L.count x)) y:=by
 have h:=lK x z;have R:=look i G x z;have hown0:=i;obtain⟨g,k,q,_⟩:=i.update keyed underlying101 (by unfold maxLen;omega) h (plainElem_int (H:=Unit) (a:=0) underlying3 (by decide));obtain⟨v,clock,l,F,M,K⟩:=i
 rcases keyed.find W h v.toList F.keys with⟨s,A⟩|⟨j,B,s,A,I⟩
 .have E:y=g:=by
   simp[Instr.mapEntry,run_underlying underlying101,MapKept.run_getObj_map l,keyed.check W false h,s,MapKept.run_setObj_map _ l,Result.andThen]at u;simp[Instr.mapUpdate,run_underlying underlying101,MapKept.run_getObj_map l,keyed.check W false h,s,MapKept.run_setObj_map _ l,Result.andThen]at k;rw[<-u.2,<-k]
  have C:(Instr.lookup 101 (.map (some d)) (vO x) false).run prog W=.ok (.int .i64 0) W:=by
   simp[Instr.lookup,run_underlying underlying101,MapKept.run_getObj_map l,keyed.check W _ h,s,Result.andThen]
  have C:(L.count x:Int)=0:=by
   have Q:=R.symm.trans C;simpa using Q
  subst E;obtain⟨c,t,r,_⟩:=q.lookup_int keyed underlying101 underlying3 (Dl _) h;rw[Maps.atKey_put_same G.isMap (isKey x z)]at r
  have S:c=0:=by simpa using r.symm
  rw[t,S,C]
 .have P:v[j]?=some B:=by simpa using A
  have E:y.ownsMap prog 89 (plainElem (H:=Unit) prog 3) d n D:=by
   simp[Instr.mapEntry,run_underlying underlying101,MapKept.run_getObj_map l,keyed.check W false h,s,P,I,keyed.stays W h,MapKept.run_setObj_map _ l,Result.andThen]at u
   have p:v.modify j (λe=>{ e with key:=vO x})=v:=by
    apply Array.ext';rw[Array.toList_modify,ChangeMaps.modify_eq_set _ _ _ _ A]
    have:({ B with key:=vO x}:MapEntry)=B:=by rw[<-I]
    rw[this];exact WideElems.set_self _ _ _ A
   rw[p]at u;refine⟨v,clock,?_,F,M,K⟩;rw[<-u.2];exact ChangeMaps.heap_setBlock_same l _
  exact look E G x z
end
section
open Go.Proofs.Tryz Go.Joins
variable{w c:World}{b o a m n:Nat}{L d:List O}{f:DataW Unit}
theorem Ry(a:Nat)(w:World):(binOp .eql 101 (.map (some a)) (.map none)).run prog w=.ok (.bool false) w:=by kernel_rfl
theorem Rz(w:World):(binOp .eql 101 (.map none) (.map none)).run prog w=.ok (.bool true) w:=by kernel_rfl
theorem Uz(n:Nat)(h:n<1000000000):(Lit.int .i64 (n:Int)).wf=true:=WalkArith.wf_i64 (by omega)
theorem Kt(t:Obj)(h:aP w b o (some a) m L)
  (j:c.ownsMap prog 89 (plainElem (H:=Unit) prog 3) a n f) (B:n<=m+1) (l:(w.alloc t).drew.grownBy c (some a)) (y:Ae f d):
  aP (c.setCell ⟨b,o+1,none⟩ (.int .i64 d.length)) b o (some a) (m+1) d/\gX b o (some a) w (c.setCell ⟨b,o+1,none⟩ (.int .i64 d.length))/\c.cell? ⟨b,o+1,none⟩=some (.int .i64 L.length)/\c.frozen? ⟨b,o+1,none⟩=false:=by
 have p:=(h.ne rfl).1;have r:c.heap[b]?=w.heap[b]? :=(l.block b (by have:=h.lt;simp;omega) (by simp;exact λe=>p e.symm)).trans (zk w t b h.lt);obtain⟨cs,T,x,A,v⟩:=h.blk;have g:=r.trans x;have hi:=(aD.1 v).1;refine⟨⟨⟨_,_,lU g _,?_,?_⟩,.inr ⟨a,n,f,rfl,B,j.setCell p _,y⟩⟩,⟨l.os,l.tape,l.output,?_,λk C s u=>?_,λcs' T' q=>?_⟩,?_,x9 g _⟩
 .rw[rO (by omega)];exact A
 .rw[Array.getElem?_setIfInBounds_self_of_lt hi]
 .have:=l.size;simp at this⊢;omega
 .rw[zw _ _ _ _ (by simpa using s),l.block k (by simp;omega) (λe=>u e.symm)];exact zk w t k C
 .rw[x]at q;cases q;exact⟨_,lU g _,by simp,λi _ z=>rO (λe=>z e.symm)⟩
 .rw[vE g];exact v
theorem Nc(b o a m:Nat)(L:List O)(w:World)(h:aP w b o (some a) m L)(x:O)(q:x.wf)(hm:m<100000000)(hL:L.length<100000000):
  Calls prog 180 #[.pointer (some ⟨b,o,none⟩),vO x] w λe y=>e=.returned (.tuple #[])/\aP y b o (some a) (m+1) (x::L)/\gX b o (some a) w y:=by
 have hc:=h.cells;have hlt:=h.lt
 rcases h.map with⟨s,_⟩|⟨YE,n,D,s,hn,g,j⟩
 .cases s
 cases s;have k:=look ((g.alloc (.cells (ah x).toArray 89)).drew) j x q;have hle:L.count x<=L.length:=List.count_le_length;obtain⟨v0,st,W1,W2,l,p,i,z⟩:=entry ((g.alloc (.cells (ah x).toArray 89)).drew) (by omega) x q (L.count x+1:Nat) (Uz _ (by omega));have A:=qm ((g.alloc (.cells (ah x).toArray 89)).drew) j (by omega) x q l;obtain⟨t,r,c2,f2⟩:=Kt _ h i (by omega) z (j.put x q)
 have u:((L.count x+1:Nat):Int)=(L.count x:Int)+1:=by omega
 rw[u]at p
 have v:(((x::L).length:Nat):Int)=(L.length:Int)+1:=by simp
 rw[v]at t r;have C:Hid _:=t;have B:Hid _:=r;simp only[vO,ah]at k A l p⊢
 have hle':(L.count x:Int)<100000000:=by omega
 have hL':(L.length:Int)<100000000:=by omega
 have hq:=Ry a;clear h g i z t r j u v;go_enter func180,ntmps180;go_wp2
 go_region
 all_goals (try go_wp2)
 all_goals go_end0
 all_goals exact⟨rfl,C.out,B.out⟩
theorem qo(h:aP w b o (some a) m L)
  (j:c.ownsMap prog 89 (plainElem (H:=Unit) prog 3) a n f) (A:n<=m+1) (l:w.drew.grownBy c (some a)) (x:Ae f d):
  aP (c.setCell ⟨b,o+1,none⟩ (.int .i64 d.length)) b o (some a) (m+1) d/\gX b o (some a) w (c.setCell ⟨b,o+1,none⟩ (.int .i64 d.length))/\c.cell? ⟨b,o+1,none⟩=some (.int .i64 L.length)/\c.frozen? ⟨b,o+1,none⟩=false:=by
 have p:=(h.ne rfl).1;have r:c.heap[b]?=w.heap[b]? :=l.block b h.lt (by simp;exact λe=>p e.symm);obtain⟨cs,T,v,z,u⟩:=h.blk;have g:=r.trans v;have hi:=(aD.1 u).1;refine⟨⟨⟨_,_,lU g _,?_,?_⟩,.inr ⟨a,n,f,rfl,A,j.setCell p _,x⟩⟩,⟨l.os,l.tape,l.output,?_,λk B s t=>?_,λcs' T' q=>?_⟩,?_,x9 g _⟩
 .rw[rO (by omega)];exact z
 .rw[Array.getElem?_setIfInBounds_self_of_lt hi]
 .have:=l.size;simp at this⊢;omega
 .rw[zw _ _ _ _ (by simpa using s),l.block k B (λe=>t e.symm)];rfl
 .rw[v]at q;cases q;exact⟨_,lU g _,by simp,λi _ y=>rO (λe=>y e.symm)⟩
 .rw[vE g];exact u
def p9(w:World)(b o:Nat)(x:O):World:=((w.setCell ⟨b,o,none⟩ (.map (some (w.heap.size+1)))).alloc (.cells (ah x).toArray 89)).alloc (.map #[] 0)
theorem Nf(x:O)(h:aP w b o none m L):aP (p9 w b o x) b o (some (w.heap.size+1)) m []/\L=[]/\(∀k,k<w.heap.size->k≠b->(p9 w b o x).heap[k]?=w.heap[k]?)/\(∀cs T,w.heap[b]?=some (.cells cs T)->∃cs':Array Value,(p9 w b o x).heap[b]?=some (.cells cs' T)/\cs'.size=cs.size/\∀i,i≠o->i≠o+1->cs'[i]?=cs[i]?):=by
 have l:=h.lt
 have u:L=[]:=by
  rcases h.map with⟨_,h⟩|⟨_,_,_,h,_⟩
  .exact h
  .cases h
 obtain⟨cs,T,q,t,r⟩:=h.blk;have hi:=(aD.1 t).1;subst u
 have g:(p9 w b o x).heap[b]?=some (.cells (cs.setIfInBounds o (.map (some (w.heap.size+1)))) T):=by
  unfold p9;rw[zk _ _ _ (by simp;omega),zk _ _ _ (by simpa using l),lU q]
 refine⟨⟨⟨_,_,g,?_,?_⟩,.inr ⟨_,0,.map [],rfl,gy _,?_,RA⟩⟩,rfl,λk v p=>?_,λcs' T' j=>?_⟩
 .rw[Array.getElem?_setIfInBounds_self_of_lt hi]
 .rw[rO (by omega)];exact r
 .have:=World.ownsMap_made (H:=Unit) ((w.setCell ⟨b,o,none⟩ (.map (some (w.heap.size+1)))).alloc (.cells (ah x).toArray 89)) prog 89 (plainElem prog 3);unfold p9;simpa using this
 .unfold p9;rw[zk _ _ _ (by simp;omega),zk _ _ _ (by simpa using v),zw _ _ _ _ (by simpa using p)]
 .rw[q]at j;cases j;exact⟨_,g,by simp,λi s _=>rO (λe=>s e.symm)⟩
theorem Ku(w:World)(b o:Nat)(x:O):(p9 w b o x).heap.size=w.heap.size+1+1:=by unfold p9;simp
theorem Ng(b o m:Nat)(L:List O)(w:World)(h:aP w b o none m L)(x:O)(y:x.wf)(hm:m<100000000):
  Calls prog 180 #[.pointer (some ⟨b,o,none⟩),vO x] w λe G=>e=.returned (.tuple #[])/\aP G b o (some (w.heap.size+1)) (m+1) (x::L)/\gX b o none w G:=by
 have K:=h.cells;have hlt:=h.lt;obtain⟨v,rfl,l,H⟩:=Nf x h;have B:=Ku w b o x
 rcases v.map with⟨r,_⟩|⟨YE,n,D,r,hn,g,p⟩
 .cases r
 cases r;have s:=look g.drew p x y;obtain⟨v0,st,W1,W,t,A,j,I⟩:=entry g.drew (by omega) x y 1 (by decide);have P:=qm g.drew p (by omega) x y t;obtain⟨E,q,F,f2⟩:=qo (m:=m) v j (by omega) I (p.put x y);have X:=hid E;have Q:Hid (gX b o none w (W.setCell ⟨b,o+1,none⟩ (.int .i64 1))):=⟨q.os,q.tape,q.output,di (by omega) q.size,λk Y u _=>(q.block k (by omega) u (by intro e;cases e;omega)).trans (l k Y u),λcs T K=>by obtain⟨c1,R,V,U⟩:=H cs T K;obtain⟨F,M,S,N⟩:=q.this c1 T R;exact⟨F,M,S.trans V,λi r C=>(N i r C).trans (U i r C)⟩⟩;have z:=v.cells;simp only[vO,ah,p9,List.count_nil,Int.natCast_zero]at s P t A z⊢;have hq:=Rz;have hmm:= @run_makeMap prog;clear h v g j I E q p l B H;go_enter func180,ntmps180;go_wp2
 go_region
 all_goals (try go_wp2)
 all_goals go_end0
 all_goals exact⟨rfl,X.out,Q.out⟩
end
section
open Go.Proofs.Tryz Go.Joins
theorem Kz(b o p m:Nat)(L:List O)(w:World)(h:aP w b o (some p) m L)(x:O)(j:x.wf)(z:2<=L.count x)(hm:m<100000000)(F:L.length<100000000):
  Calls prog 179 #[.pointer (some ⟨b,o,none⟩),vO x] w λe A=>e=.returned .nilIface/\aP A b o (some p) (m+1) (L.erase x)/\gX b o (some p) w A:=by
 have hlt:=h.lt;have t:L.count x<=L.length:=List.count_le_length;have i:x∈L:=List.count_pos_iff.1 (by omega);have v:aP ((w.alloc (.cells (ah x).toArray 89)).drew) b o (some p) m L:=h.below ((wh w _).drew);have hc:=h.cells
 rcases h.map with⟨r,_⟩|⟨YE,n,D,r,hn,g,f⟩
 .cases r
 cases r;have a:=(g.alloc (.cells (ah x).toArray 89)).drew;have k:=look a f x j;have G:=look a.drew f x j;obtain⟨v0,st,W1,H,l,u,d,B⟩:=entry a.drew (by omega) x j (L.count x -1:Int) (WalkArith.wf_i64 (by omega));have C:=qm a.drew f (by omega) x j l;obtain⟨s,q,c2,f2⟩:=qo v d (by omega) B (f.less x j z)
 have y:(((L.erase x).length:Nat):Int)=(L.length:Int) -1:=by rw[List.length_erase_of_mem i];omega
 rw[y]at s q;have I:Hid _:=s;have E:Hid (gX b o (some p) w (H.setCell ⟨b,o+1,none⟩ (.int .i64 ((L.length:Int) -1)))):=(gX.of_below ((wh w _).drew)).trans q (.inl rfl);simp only[vO,ah]at k C G l u⊢
 have hle':(L.count x:Int)<100000000:=by omega
 have hle2:2<=(L.count x:Int):=by omega
 have hL':(L.length:Int)<100000000:=by omega
 have hL2:2<=(L.length:Int):=by omega
 clear h v g a d B s q f y z t F i;generalize(L.count x:Int)=c at *;generalize(L.length:Int)=len at *;go_enter func179,ntmps179;go_wp2
 go_region
 all_goals (try go_wp2)
 all_goals go_region
 all_goals (try go_wp2)
 all_goals go_ret
 all_goals exact⟨rfl,I.out,E.out⟩
theorem take_one(b o j m:Nat)(L:List O)(w:World)(h:aP w b o (some j) m L)(x:O)(k:x.wf)(q:L.count x=1)(C:L.length<100000000):
  Calls prog 179 #[.pointer (some ⟨b,o,none⟩),vO x] w λe y=>e=.returned .nilIface/\aP y b o (some j) (m+1) (L.erase x)/\gX b o (some j) w y:=by
 have hlt:=h.lt;have s:L.count x<=L.length:=List.count_le_length;have f:x∈L:=List.count_pos_iff.1 (by omega);have t:aP ((w.alloc (.cells (ah x).toArray 89)).drew) b o (some j) m L:=h.below ((wh w _).drew);have hc:=h.cells
 rcases h.map with⟨p,_⟩|⟨YE,n,D,p,hn,d,i⟩
 .cases p
 cases p;have a:=(d.alloc (.cells (ah x).toArray 89)).drew;have g:=look a i x k;rw[q]at g;obtain⟨v,hd,c,z⟩:=a.drew.drop keyed underlying101 (lK x k) 0;have A:((w.alloc (.cells (ah x).toArray 89)).drew).drew.grownBy v (some j):=z.grown;obtain⟨r,l,c2,f2⟩:=qo t c (by omega) A (i.del x k q)
 have u:(((L.erase x).length:Nat):Int)=(L.length:Int) -1:=by rw[List.length_erase_of_mem f];omega
 rw[u]at r l;have E:Hid _:=r;have B:Hid (gX b o (some j) w (v.setCell ⟨b,o+1,none⟩ (.int .i64 ((L.length:Int) -1)))):=(gX.of_below ((wh w _).drew)).trans l (.inl rfl);simp only[vO,ah]at g hd⊢
 have hL':(L.length:Int)<100000000:=by omega
 have hL2:1<=(L.length:Int):=by omega
 clear h t d a c A r l i u q s C f z;generalize(L.length:Int)=len at *;go_enter func179,ntmps179;go_wp2
 go_region
 all_goals (try go_wp2)
 all_goals go_region
 all_goals (try go_wp2)
 all_goals go_ret
 all_goals exact⟨rfl,E.out,B.out⟩
def vC(x:O)(g:Bool):Value:= .agg #[.int .i64 x.k,.int .i64 x.lk,.int .i64 x.lt,.int .i64 x.lv,.int .i64 x.rk,.int .i64 x.rt,.int .i64 x.rv,.bool x.hl,.bool x.hr,.bool g]
def Moves(w:World)(om fG:Option Nat):Prop:=fG=om∨∃k,fG=some k/\w.heap.size<=k
theorem RD(b o m:Nat)(c:Option Nat)(L:List O)(w:World)(h:aP w b o c m L)(x:O)(j:x.wf)(i:m<100000000)(l:L.length<100000000):
  Calls prog 180 #[.pointer (some ⟨b,o,none⟩),vO x] w λe a=>e=.returned (.tuple #[])/\∃k,aP a b o k (m+1) (x::L)/\gX b o c w a/\Moves w c k:=by
 cases c with
 |none=>exact(Ng b o m L w h x j i).mono λe a ⟨d,f,g⟩=>⟨d,_,f,g,.inr ⟨_,rfl,Nat.le_succ _⟩⟩
 |some bm=>exact(Nc b o bm m L w h x j i l).mono λe a ⟨d,f,g⟩=>⟨d,_,f,g,.inl rfl⟩
theorem Nn(b o m:Nat)(c:Option Nat)(L:List O)(w:World)(h:aP w b o c m L)(x:O)(g:x.wf)(a:x∈L)(i:m<100000000)(d:L.length<100000000):
  Calls prog 179 #[.pointer (some ⟨b,o,none⟩),vO x] w λe f=>e=.returned .nilIface/\aP f b o c (m+1) (L.erase x)/\gX b o c w f:=by
 have hpos:0<L.count x:=List.count_pos_iff.2 a
 cases c with
 |none=>
  rcases h.map with⟨_,rfl⟩|⟨_,_,_,h,_⟩
  .cases a
  .cases h
 |some bm=>
  by_cases h1:L.count x=1
  .exact take_one b o bm m L w h x g h1 d
  .exact Kz b o bm m L w h x g (by omega) i d
theorem KA(b o m:Nat)(f:Option Nat)(L:List O)(w:World)(h:aP w b o f m L)(x:O)(p:x.wf)(j:m<100000000)(r:L.length<100000000):
  Calls prog 107 #[.pointer (some ⟨b,o,none⟩),vC x false] w λe c=>e=.returned .nilIface/\∃d,aP c b o d (m+1) (x::L)/\gX b o f w c/\Moves w f d:=by
 have a:=wh w (.cells #[.int .i64 x.k,.int .i64 x.lk,.int .i64 x.lt,.int .i64 x.lv,.int .i64 x.rk,.int .i64 x.rt,.int .i64 x.rv,.bool x.hl,.bool x.hr,.bool false] 95);have g:=RD b o m f L _ (h.below a) x p j r
 have i:Hid (Calls prog 180 #[.pointer (some ⟨b,o,none⟩),vO x] (w.alloc (.cells #[.int .i64 x.k,.int .i64 x.lk,.int .i64 x.lt,.int .i64 x.lv,.int .i64 x.rk,.int .i64 x.rt,.int .i64 x.rv,.bool x.hl,.bool x.hr,.bool false] 95)) λe c=>e=.returned (.tuple #[])/\∃d,aP c b o d (m+1) (x::L)/\gX b o f w c/\Moves w f d):=
  g.mono λe c ⟨l,d,q,s,n⟩=>⟨l,d,q,(gX.of_below a).trans s (.inl rfl),n.imp id (λ⟨k,t,u⟩=>⟨k,t,by simp at u;omega⟩)⟩
 clear g a h;simp only[vO]at i;simp only[vC];go_enter func107,ntmps107
 go_wp2_with (go_at_call 180;refine Calls.mono (Hid.out i) ?_;rintro e c ⟨rfl,hpost⟩)
 go_ret;exact⟨rfl,hpost⟩
theorem Gn(b o m:Nat)(d:Option Nat)(L:List O)(w:World)(h:aP w b o d m L)(x:O)(n:x.wf)(f:x∈L)(j:m<100000000)(q:L.length<100000000):
  Calls prog 107 #[.pointer (some ⟨b,o,none⟩),vC x true] w λe c=>e=.returned .nilIface/\aP c b o d (m+1) (L.erase x)/\gX b o d w c:=by
 have a:=wh w (.cells #[.int .i64 x.k,.int .i64 x.lk,.int .i64 x.lt,.int .i64 x.lv,.int .i64 x.rk,.int .i64 x.rt,.int .i64 x.rv,.bool x.hl,.bool x.hr,.bool true] 95);have g:=Nn b o m d L _ (h.below a) x n f j q
 have i:Hid (Calls prog 179 #[.pointer (some ⟨b,o,none⟩),vO x] (w.alloc (.cells #[.int .i64 x.k,.int .i64 x.lk,.int .i64 x.lt,.int .i64 x.lv,.int .i64 x.rk,.int .i64 x.rt,.int .i64 x.rv,.bool x.hl,.bool x.hr,.bool true] 95)) λe c=>e=.returned .nilIface/\aP c b o d (m+1) (L.erase x)/\gX b o d w c):=
  g.mono λe c ⟨l,p,r⟩=>⟨l,p,(gX.of_below a).trans r (.inl rfl)⟩
 clear g a h;simp only[vO]at i;simp only[vC];go_enter func107,ntmps107
 go_wp2_with (go_at_call 179;refine Calls.mono (Hid.out i) ?_;rintro e c ⟨rfl,hpost⟩)
 go_ret;exact⟨rfl,hpost⟩
end
section
open Go.Proofs.Tryz
variable{d:Nat}{c:Value}{m:List Lit}
theorem wV(h:prog.keyLits (d+1) 3 [c]=some m):∃a,c=.int .i64 a/\(Lit.int .i64 a).wf=true:=by
 unfold Program.keyLits at h;rw[underlying3]at h
 cases c <;>simp at h
 rename_i q a
 exact⟨a,by rw[h.1.1],h.1.2⟩
theorem EH(h:prog.keyLits (d+1) 4 [c]=some m):∃a,c=.bool a:=by
 unfold Program.keyLits at h;rw[underlying4]at h
 cases c <;>simp at h
 rename_i a
 exact⟨a,rfl⟩
theorem J5{c0 c1 e:Value}(h:prog.keyLits (d+2) 37 [c0,c1,e]=some m):∃a b c,c0=.int .i64 a/\c1=.int .i64 b/\e=.int .i64 c/\(Lit.int .i64 a).wf=true/\(Lit.int .i64 b).wf=true/\(Lit.int .i64 c).wf=true:=by
 rw[show d+2=(d+1)+1 from rfl]at h;unfold Program.keyLits at h;rw[underlying37]at h;simp[wJ,cells3]at h
 cases h0:prog.keyLits (d+1) 3 [c0]with
 |none=>simp[h0]at h
 |some l0=>
  cases h1:prog.keyLits (d+1) 3 [c1]with
  |none=>simp[h0,h1]at h
  |some l1=>
   cases h2:prog.keyLits (d+1) 3 [e]with
   |none=>simp[h0,h1,h2]at h
   |some l2=>
    obtain⟨a,rfl,g⟩:=wV h0;obtain⟨b,rfl,f⟩:=wV h1;obtain⟨c,rfl,i⟩:=wV h2;exact⟨a,b,c,rfl,rfl,rfl,g,f,i⟩
theorem XZ{α:Type}{l:List α}(h:l.length=9):∃a b c d e f g i j,l=[a,b,c,d,e,f,g,i,j]:=by
 match l,h with
 |[a,b,c,d,e,f,g,i,j],_=>exact⟨a,b,c,d,e,f,g,i,j,rfl⟩
theorem Ju{v:Value}{l:Lit}(h:keyOf prog 89 v=some l):∃x:O,x.wf/\v=vO x:=by
 unfold keyOf at h;rw[underlying89]at h;simp only[Ag,Bool.true_and]at h
 split at h
 .rename_i hf
  cases v <;>simp[Value.formed,underlying89]at hf
  rename_i cs
  obtain⟨cl⟩:=cs;obtain⟨c0,c1,n,c3,c4,i,u,j,c8,rfl⟩:=XZ (l:=cl) (by simpa[wK]using hf);rw[show prog.types.size+1=(prog.types.size -2+2)+1 by have:2<=prog.types.size:=of_decide_eq_true (by kernel_rfl);omega]at h;generalize prog.types.size -2=d at h;unfold Program.keyLits at h;rw[underlying89]at h;simp[wK,cells3,Ns,wJ,Value.cells]at h
  cases h0:prog.keyLits (d+2) 3 [c0]with
  |none=>simp[h0]at h
  |some l0=>
   cases h1:prog.keyLits (d+2) 37 [c1,n,c3]with
   |none=>simp[h0,h1]at h
   |some l1=>
    cases h2:prog.keyLits (d+2) 37 [c4,i,u]with
    |none=>simp[h0,h1,h2]at h
    |some l2=>
     cases h3:prog.keyLits (d+2) 4 [j]with
     |none=>simp[h0,h1,h2,h3]at h
     |some l3=>
      cases h4:prog.keyLits (d+2) 4 [c8]with
      |none=>simp[h0,h1,h2,h3,h4]at h
      |some l4=>
       obtain⟨k,rfl,w⟩:=wV h0;obtain⟨a,b,c,rfl,rfl,rfl,r,s,o⟩:=J5 h1;obtain⟨p,t,q,rfl,rfl,rfl,e,g,f⟩:=J5 h2;obtain⟨x,rfl⟩:=EH h3;obtain⟨y,rfl⟩:=EH h4;exact⟨⟨k,a,b,c,p,t,q,x,y⟩,⟨w,r,s,o,e,g,f⟩,rfl⟩
 .cases h
end
section
open Go.Proofs.Tryz Go.Maps Go.Shelf
variable{D:DataW Unit}{L:List O}
def Came(L:List O)(left:Lit->Bool)(xs:List O):Prop:=xs.Nodup/\∀x,x∈xs↔x∈L/\left (kL x)=false
theorem Came.start(b:Ae D L):Came L (Maps.has D) []:=
 ⟨List.nodup_nil,λx=>⟨(λh=>by cases h),(λ⟨a,c⟩=>by
  have d:=(b.has x (b.wf x a)).symm.trans c
  simp[a]at d)⟩⟩
theorem Came.step(o:Ae D L){left:Lit->Bool}{xs:List O}(h:Came L left xs){x:O}(j:x.wf)(l:x∈L)(n:left (kL x)=true):
  Came L (λz=>left z && !z.sameKey (kL x)) (xs++[x]):=by
 have g:x∉xs:=λd=>by have:=((h.2 x).1 d).2;rw[n]at this;cases this
 refine⟨?_,λy=>?_⟩
 .rw[List.nodup_append];refine⟨h.1,by simp,λa m b k e=>?_⟩;simp at k;subst k;subst e;exact g m
 .rw[List.mem_append,List.mem_singleton,h.2 y]
  by_cases e:y=x
  .subst e;simp[l,WideAt.sameKey_self (isKey y j)]
  .constructor
   .rintro(⟨c,f⟩|c)
    .exact⟨c,by simp[f]⟩
    .exact absurd c e
   .rintro⟨c,f⟩;refine .inl ⟨c,?_⟩;have i:=xy (o.wf y c) j e;simpa[Maps.sameKey_ne i]using f
theorem keys1_in(F:Fence)(n:Nat)(Nh:F.fn 194)(Q:F.round=none)(hn:1<=n)(l Bm b nn:Nat)(s:DataW Unit)(L:List O)(P:Ae s L)(J X:List O->World->Prop)
  (hY:∀pre x W,J pre W->pre.length<Maps.size s->YieldAt F (n -1) prog l #[vO x] W λe h=>
   (e=.returned (.bool true)/\J (pre++[x]) h/\KeepsWalks W h)∨(e=.returned (.bool false)/\X (pre++[x]) h))
  (W:World) (C:AbidesFrom W.heap.size J) (hm:W.cell? ⟨Bm,0,none⟩=some (.map (some b))) (j:W.ownsMap prog 89 (plainElem (H:=Unit) prog 3) b nn s) (h0:J [] W):
  CallsIn F n prog 194 #[.func (.yield l) #[] #[],.pointer (some ⟨Bm,0,none⟩)] W λe h=>(∃v,e=.returned v)/\
   ((∃xs:List O,(xs.Nodup/\∀x,x∈xs↔x∈L)/\J xs h)∨(∃pre:List O,True/\X pre h)):=by
 refine callsIn_of_wp func194 rfl Nh ?_ Q;simp only[ntmps194,List.size_toArray,List.length_cons,List.length_nil,Nat.reduceAdd,Nat.reduceSub,Array.replicate_succ,Array.replicate_zero,List.push_toArray,List.append_toArray,List.nil_append,List.cons_append]
 gi_wp2_with (first
  |(gi_at_range;refine wpListIn_range_own _ rfl _ 101 rfl 89 3 keyed underlying101 _ b nn _ rfl j ?_;intro w0 B R hs0)
  |gi_in)
 go_frame
 gi_loopw [3] (λ_ wr=>∃(left:Lit->Bool) (cnt:Nat) (xs:List O),wr.ranges prog 89 (plainElem (H:=Unit) prog 3) b W.heap.size nn s left cnt/\xs.length+cnt<=Maps.size s/\Came L left xs/\J xs wr)
  (λ_ wr=>wr.rangeLeft b W.heap.size)
 case atStart=>
  exact⟨_,_,[],B,by simp,Came.start P,C [] W w0 none h0 R (λr e=>by cases e)⟩
 case round=>
  obtain⟨left,cnt,xs,g,hcs,K,y⟩:=hrel
  gi_wp2_with (first
   |(gi_at_next;refine wpListIn_next_ranges _ rfl _ rfl 89 keyed (plainElem (H:=Unit) prog 3) vO id (λkey U hk=>by obtain⟨x,_,k⟩:=Ju hk;exact⟨x,k⟩) (λv _ _=>⟨v,rfl⟩) b W.heap.size nn _ _ _ rfl g ?_ ?_)
   |gi_in)
  .intro hc0 G
   gi_wp2
   go_end0
   exact⟨⟨_,rfl⟩,.inl ⟨xs,⟨K.1,λx=>by rw[K.2 x,G];simp⟩,y⟩⟩
  .intro x c U yd yp i o a E hv q d N S I M;obtain⟨x',k,V⟩:=Ju a;obtain rfl:=Ni V;obtain rfl:U=kL x:=Option.some.inj (a.symm.trans (lK x k))
   have m:x∈L:=by
    have h1:=(P.has x k).symm.trans (Maps.has_true_of_atKey q);simpa using h1
   have w:J xs i:=C xs wr i (some W.heap.size) y S (λr e=>by cases e;exact⟨aO _,g.iter_walk⟩);have p:J xs (i.alloc (.cells (ah x).toArray 89)):=C xs i _ none w (AB _ _ _) (λr e=>by cases e);obtain⟨fn,tmps,assign,body,hy,Z⟩:=hY xs x _ p (by omega);have A:=K.step P k m E;have t:KeepsWalks i (i.alloc (.cells (ah x).toArray 89)):=KeepsWalks.alloc _ _;have HC:Hid _:=A;have HR:=hid d;have Y:Hid _:=t;simp only[vO,ah]at M hy Z Y;clear I A w p t d q a V
   gi_wp2
   refine Z.mono ?_;rintro e W3 (⟨rfl,T,z⟩|⟨rfl,u⟩)
   .have HW:Hid _:=z;clear z
    gi_wp2
    have f:=(HR.out.of_walks Y.out).of_walks HW.out
    go_roundw
    case rel=>exact⟨_,o,xs++[x],f,by simp;omega,HC.out,T⟩
    case measure=>rw[f.left_eq,g.left_eq];exact N
   .gi_wp2
    refine CU (results_none rfl _ _ _) rfl ?_;exact⟨⟨_,rfl⟩,.inr ⟨xs++[x],trivial,u⟩⟩
theorem keys_in(F:Fence)(n:Nat)(a:F.fn 121)(b:F.round=none)(c:Option Nat)(w:World):
  CallsIn F n prog 121 #[.map c] w λe d=>e=.returned (.func (.func 194) #[] #[.pointer (some ⟨w.heap.size,0,none⟩)])/\d=w.alloc (.cells #[.map c] 101):=by
 refine callsIn_of_wp func121 rfl a ?_ b;simp only[ntmps121,List.size_toArray,List.length_cons,List.length_nil,Nat.reduceAdd,Nat.reduceSub,Array.replicate_succ,Array.replicate_zero,List.push_toArray,List.append_toArray,List.nil_append,List.cons_append]
 gi_wp2
 go_ret;exact⟨rfl,rfl⟩
theorem keys_stops(F:Fence)(n:Nat)(s:F.fn 194)(g:F.round=none)(y:1<=n)(d b nn:Nat)(e:DataW Unit)(L:List O)(A:Ae e L)(w:World)(f:d<w.heap.size)
  (o:w.cell? ⟨d,0,none⟩=some (.map (some b))) (a:w.ownsMap prog 89 (plainElem (H:=Unit) prog 3) b nn e):
  SeqStops F n prog 194 #[.pointer (some ⟨d,0,none⟩)] vO (λxs=>xs.Nodup/\∀x,x∈xs↔x∈L) (λ_=>True) (Maps.size e) w:=λl J v W i k _ z r=>by
 have c:W.ownsMap prog 89 (plainElem (H:=Unit) prog 3) b nn e:=by
  have h:=a.lt;obtain⟨t,clock,u,m,q,j⟩:=a;exact⟨t,clock,(i.block b h).trans u,m,q,j⟩
 exact keys1_in F n s g y l d b nn e L A J v z W k ((i.cell (p:=⟨d,0,none⟩) f).trans o) c r
end
section
open Go.Proofs.Tryz Go.Joins Go.Maps Go.Shelf
attribute [local go_sem] Oper.semAt_some
def zO:Value:= .agg #[.int .i64 0,.int .i64 0,.int .i64 0,.int .i64 0,.int .i64 0,.int .i64 0,.int .i64 0,.bool false,.bool false]
theorem xA:(prog.info? 89).map (λi=>(i.zero,i.size,i.bytes))=some (some zO,9,64):=by kernel_rfl
theorem fI(x:O):(ah x).length=9:=rfl
theorem lV(xs:List O):(xs.flatMap ah).length=xs.length*9:=by
 induction xs with
 |nil=>rfl
 |cons a r ih=>rw[List.flatMap_cons,List.length_append,ih,fI,List.length_cons];omega
theorem o7(x:O):∀u∈ah x,u.oneCell'=true:=by
 intro u a;simp[ah]at a;rcases a with rfl|rfl|rfl|rfl|rfl|rfl|rfl|rfl|rfl <;>rfl
def Jr(W:World)(B:Nat)(x:O):Prop:=W.heap[B]?=some (.cells (ah x).toArray 89 (0,0))
theorem Jr.cells{W:World}{B:Nat}{x:O}(h:Jr W B x):W.cell? ⟨B,0,none⟩=some (.int .i64 x.k)/\W.cell? ⟨B,1,none⟩=some (.int .i64 x.lk)/\W.cell? ⟨B,2,none⟩=some (.int .i64 x.lt)/\W.cell? ⟨B,3,none⟩=some (.int .i64 x.lv)/\W.cell? ⟨B,4,none⟩=some (.int .i64 x.rk)/\W.cell? ⟨B,5,none⟩=some (.int .i64 x.rt)/\W.cell? ⟨B,6,none⟩=some (.int .i64 x.rv)/\W.cell? ⟨B,7,none⟩=some (.bool x.hl)/\W.cell? ⟨B,8,none⟩=some (.bool x.hr):=by
 have a:W.heap[B]?=some (.cells (ah x).toArray 89 (0,0)):=h
 refine⟨?_,?_,?_,?_,?_,?_,?_,?_,?_⟩ <;>(rw[vE a];rfl)
theorem appendSeq_in(F:Fence)(n:Nat)(A:F.fn 262)(Nh:F.fn 194)(s:F.round=none)(hn:3<=n)(q N:Nat)(S:List O->Prop)(w:World)(hN:N<=100000000)
  (m:SeqStops F (n -1) prog 194 #[.pointer (some ⟨q,0,none⟩)] vO S (λ_=>True) N w):
  CallsIn F n prog 262 #[.slice none 0 0,.func (.func 194) #[] #[.pointer (some ⟨q,0,none⟩)]] w λe R=>∃v xs,e=.returned v/\S xs/\R.ownsRow w.heap.size 89 9 v xs.length (xs.flatMap ah)/\(v=.slice none 0 0↔xs=[])/\Below w.heap.size w R:=by
 have E:1<=n:=by omega
 obtain⟨i0,hi,L,M,Q⟩:=Dw xA;refine callsIn_of_wp_marks func262 rfl A ?_ s;simp only[ntmps262,List.size_toArray,List.length_cons,List.length_nil,Nat.reduceAdd,Nat.reduceSub,Array.replicate_succ,Array.replicate_zero,List.push_toArray,List.append_toArray,List.nil_append,List.cons_append]
 gi_wp2
 have bO:=Boxed.new w 50 (.slice none 0 0);have t:Below w.heap.size w (w.alloc (.cells #[.slice none 0 0] 50)):=(zI _ w).alloc (aO _) _
 refine wpIn_rangeFunc_ownH s E (gf:=194) (lb:= #[.pointer (some ⟨q,0,none⟩)]) rfl Nh (enters_of func194 (by kernel_rfl) rfl)
  m walksK_t walksK_b t (λ_=>rfl)
  (λpre W=>(∃v,Boxed W w.heap.size 50 v/\W.ownsRow w.heap.size 89 9 v pre.length (pre.flatMap ah)/\(v=.slice none 0 0↔pre=[]))/\Below w.heap.size w W)
  (λ_ _ _=>False)
  (OwnFrom.and (Own.from (holdsRow_own w.heap.size w.heap.size 50 89 9 (λpre=>pre.length) (λpre=>pre.flatMap ah) (λpre v=>v=.slice none 0 0↔pre=[])) _) (ownFrom_below (aO _) (by simp)))
  (λ_ _ _ _ _ G _ _=>G)
  ⟨⟨_,bO,Ak _ _ _ _,by simp⟩,t⟩
  (λx H W=>∃Bx,w.heap.size<Bx/\Jr W Bx x/\H={ tmps:= #[.slice none 0 0,.func (.func 194) #[] #[.pointer (some ⟨q,0,none⟩)],.pointer (some ⟨w.heap.size,0,none⟩),undef,.slice none 0 0,.pointer (some ⟨Bx,0,none⟩),.func (.func 194) #[] #[.pointer (some ⟨q,0,none⟩)],vO x,undef,undef,undef,undef,undef],defers:=[]})
  (λx H _ X Y row G hg T=>by
   obtain⟨Bx,E,h2,h3⟩:=G;have j:X.heap[Bx]?=some (.cells (ah x).toArray 89 (0,0)):=h2;refine⟨Bx,E,(hg.block Bx (aD.1 j).1 (λe=>?_)).trans j,h3⟩;obtain⟨o,V,C⟩:=(T Bx e.symm).2
   rw[j]at V;cases V;cases C)
  ?assign ?body ?done ?stop
 case assign=>
  rintro l pre x W K ⟨⟨v,i,a,b⟩,g⟩ p;simp only[vO]at *
  gi_wp2
  exact p _ _ ((KeepsOthers.alloc _ _).from _) (KeepsWalks.alloc _ _) ⟨⟨v,i.alloc _,a.alloc _,b⟩,g.alloc g.size _⟩ ⟨W.heap.size,i.lt,World.alloc_heap_new W _,rfl⟩
 case body=>
  rintro l pre x H W hl ⟨r,T⟩ ⟨⟨v,i,a,b⟩,g⟩ ⟨Bx,hBx,bX,rfl⟩ hlt;have C:=i.cell;have hcx:=bX.cells
  gi_wp2_with (gi_at_builtin;refine wpListIn_append_own _ rfl _ _ 50 rfl w.heap.size 89 i0 zO 9 64 underlying50 hi L M Q rfl (by decide) _ _ _ rfl (a.alloc _) ⟨W.heap.size,0,none⟩ 1 1 (ah x) rfl rfl (World.news_of_block (vw W _)) (o7 x) (by unfold maxLen;omega) (by omega) (by have:=g.size;simp;omega) ?_;intro v' w1 d k _;obtain⟨U,f,rfl⟩:=ownsRow_succ d;obtain⟨y,B,P,u,z⟩:=i.appended (by decide) a g.size (aO _) d k;have hc1:=y.cell;have hf1:=y.frozen)
  have I:(w1.setCell ⟨w.heap.size,0,none⟩ (.slice (some ⟨U,0,none⟩) (pre.length+1) f)).ownsRow w.heap.size 89 9 (.slice (some ⟨U,0,none⟩) (pre.length+1) f) (pre++[x]).length ((pre++[x]).flatMap ah):=by
   simpa[List.flatMap_append]using P
  exact⟨u.from _,u.walks,⟨_,B,I,by simp⟩,g.trans z⟩
 case done=>
  rintro D ys W Z hS ⟨⟨v,i,a,b⟩,g⟩ p;have C:=i.cell
  gi_wp2
  refine⟨by simp,.inl ⟨_,_,rfl,run_takeDeferred p,?_⟩⟩;exact⟨_,results_tmp rfl _ _ _,v,ys,rfl,hS,ownsRow_putObj a _ p rfl,b,g.trans (belowK_b (w:=w) (aO _) W D _ _ (by simp at Z;omega) p rfl rfl)⟩
 case stop=>
  rintro D c pre W _ _ h _;exact h.elim
theorem collect_in(F:Fence)(n:Nat)(f:F.fn 192)(d:F.fn 262)(h:F.fn 194)(a:F.round=none)(hn:4<=n)(c N:Nat)(S:List O->Prop)(w:World)(i:N<=100000000)
  (b:SeqStops F (n -1 -1) prog 194 #[.pointer (some ⟨c,0,none⟩)] vO S (λ_=>True) N w):
  CallsIn F n prog 192 #[.func (.func 194) #[] #[.pointer (some ⟨c,0,none⟩)]] w λe g=>∃v xs,e=.returned v/\S xs/\g.ownsRow w.heap.size 89 9 v xs.length (xs.flatMap ah)/\(v=.slice none 0 0↔xs=[])/\Below w.heap.size w g:=by
 have h1:1<=n:=by omega
 refine callsIn_of_wp func192 rfl f ?_ a;simp only[ntmps192,List.size_toArray,List.length_cons,List.length_nil,Nat.reduceAdd,Nat.reduceSub,Array.replicate_succ,Array.replicate_zero,List.push_toArray,List.append_toArray,List.nil_append,List.cons_append]
 gi_wp2_with (gi_at_call 262;refine(appendSeq_in F (n -1) d h a (by omega) c N S w i b).mono ?_;rintro e w' ⟨v,xs,rfl,hpost⟩)
 go_ret;exact⟨v,xs,rfl,hpost⟩
theorem BP(c b nn:Nat)(d:DataW Unit)(L:List O)(j:Ae d L)(w:World)(f:c<w.heap.size)(g:nn<=100000000)
  (i:w.cell? ⟨c,0,none⟩=some (.map (some b))) (a:w.ownsMap prog 89 (plainElem (H:=Unit) prog 3) b nn d):
  Calls prog 192 #[.func (.func 194) #[] #[.pointer (some ⟨c,0,none⟩)]] w λe h=>∃v xs,e=.returned v/\(xs.Nodup/\∀x,x∈xs↔x∈L)/\h.ownsRow w.heap.size 89 9 v xs.length (xs.flatMap ah)/\(v=.slice none 0 0↔xs=[])/\Below w.heap.size w h:=
 (Dx (n:=4)).1 (collect_in Fence.wide 4 trivial trivial trivial rfl (by omega) c (Maps.size d) _ w (di a.size_le g) (keys_stops Fence.wide _ trivial rfl (by omega) c b nn d L j w f i a))
theorem Ky(F:Fence)(n:Nat)(g:F.fn 194)(a:F.round=none)(l b:Nat)(J:List O->World->Prop)(W:World)(c:AbidesFrom W.heap.size J)
  (hm:W.cell? ⟨b,0,none⟩=some (.map none)) (f:J [] W):
  CallsIn F n prog 194 #[.func (.yield l) #[] #[],.pointer (some ⟨b,0,none⟩)] W λe d=>(∃v,e=.returned v)/\J [] d:=by
 refine callsIn_of_wp func194 rfl g ?_ a;simp only[ntmps194,List.size_toArray,List.length_cons,List.length_nil,Nat.reduceAdd,Nat.reduceSub,Array.replicate_succ,Array.replicate_zero,List.push_toArray,List.append_toArray,List.nil_append,List.cons_append];have hrg:=run_range_nilMap (P:=prog) W 101 89 3 underlying101
 have hnx:∀ty,(Instr.next (.pointer (some ⟨W.heap.size,0,none⟩)) false ty).run prog (W.alloc (.mapIter none 0 #[] 0))=_:=λty=>run_next_nilMap _ ty 0 0 #[]
 gi_wp2
 refine wpIn_loop_rounds 1 ?_;rw[roundsIn_succ]
 gi_wp2
 go_end0
 exact⟨⟨_,rfl⟩,c [] W _ none f (AB W _ none) (λr e=>by cases e)⟩
theorem keys_stops_nil(F:Fence)(n:Nat)(g:F.fn 194)(c:F.round=none)(a:Nat)(w:World)(b:a<w.heap.size)(e:w.cell? ⟨a,0,none⟩=some (.map none)):
  SeqStops F n prog 194 #[.pointer (some ⟨a,0,none⟩)] vO (λxs:List O=>xs=[]) (λ_=>True) 0 w:=λl J _ W i d _ _ f=>
 (Ky F n g c l a J W d ((i.cell (p:=⟨a,0,none⟩) b).trans e) f).mono λ_ _ ⟨h,j⟩=>⟨h,.inl ⟨[],rfl,j⟩⟩
theorem Dm(c b o m:Nat)(j:Option Nat)(L:List O)(w:World)(h:aP w b o j m L)(d:c<w.heap.size)(hmm:m<=100000000)(i:w.cell? ⟨c,0,none⟩=some (.map j)):
  Calls prog 192 #[.func (.func 194) #[] #[.pointer (some ⟨c,0,none⟩)]] w λe g=>∃v xs,e=.returned v/\(xs.Nodup/\∀x,x∈xs↔x∈L)/\g.ownsRow w.heap.size 89 9 v xs.length (xs.flatMap ah)/\(v=.slice none 0 0↔xs=[])/\Below w.heap.size w g:=by
 rcases h.map with⟨rfl,rfl⟩|⟨l,n,D,rfl,hn,f,p⟩
 .refine((Dx (n:=4)).1 (collect_in Fence.wide 4 trivial trivial trivial rfl (by omega) c 0 _ w (by omega) (keys_stops_nil Fence.wide _ trivial rfl c w d i))).mono ?_;rintro e w' ⟨v,xs,k,rfl,a⟩;exact⟨v,[],k,⟨List.nodup_nil,by simp⟩,a⟩
 .exact BP c l n D L p w d (by omega) i f
end
section
variable{w a:World}
def Gr(w a:World):Prop:=∃q os,a=grow (w.drewN q) os
theorem Gr.refl(w:World):Gr w w:=⟨0,#[],by rw[grow_empty];rfl⟩
theorem Gr.drew(h:Gr w a):Gr w a.drew:=by
 obtain⟨q,os,rfl⟩:=h;exact⟨q+1,os,rfl⟩
theorem Gr.alloc(h:Gr w a)(o:Obj):Gr w (a.alloc o):=by
 obtain⟨q,os,rfl⟩:=h;exact⟨q,os++ #[o],by rw[alloc_eq_grow,grow_grow]⟩
set_option linter.unusedSimpArgs false
theorem PT(k lk lt lv rk rt rv m b lt' g h i f:Int)(j l d c:Bool)(w:World):
  Calls Tryz.prog 122 #[.agg #[.int .i64 k,.int .i64 lk,.int .i64 lt,.int .i64 lv,.int .i64 rk,.int .i64 rt,.int .i64 rv,.bool j,.bool l],.agg #[.int .i64 m,.int .i64 b,.int .i64 lt',.int .i64 g,.int .i64 h,.int .i64 i,.int .i64 f,.bool d,.bool c]] w λe a=>e=.returned (.int .i64 (mq [cu k m,xD j d,mq [cu lk b,cu lt lt',cu lv g],xD l c,mq [cu rk h,cu rt i,cu rv f]]))/\Gr w a:=by
 go_enter Tryz.func122,Tryz.ntmps122;go_wp2
 go_region_held3 (λa=>a.cell? ⟨w.heap.size,0,none⟩=some (.int .i64 k)/\a.cell? ⟨w.heap.size,1,none⟩=some (.int .i64 lk)/\a.cell? ⟨w.heap.size,2,none⟩=some (.int .i64 lt)/\a.cell? ⟨w.heap.size,3,none⟩=some (.int .i64 lv)/\a.cell? ⟨w.heap.size,4,none⟩=some (.int .i64 rk)/\a.cell? ⟨w.heap.size,5,none⟩=some (.int .i64 rt)/\a.cell? ⟨w.heap.size,6,none⟩=some (.int .i64 rv)/\a.cell? ⟨w.heap.size,7,none⟩=some (.bool j)/\a.cell? ⟨w.heap.size,8,none⟩=some (.bool l)/\a.cell? ⟨w.heap.size+1,0,none⟩=some (.int .i64 m)/\a.cell? ⟨w.heap.size+1,1,none⟩=some (.int .i64 b)/\a.cell? ⟨w.heap.size+1,2,none⟩=some (.int .i64 lt')/\a.cell? ⟨w.heap.size+1,3,none⟩=some (.int .i64 g)/\a.cell? ⟨w.heap.size+1,4,none⟩=some (.int .i64 h)/\a.cell? ⟨w.heap.size+1,5,none⟩=some (.int .i64 i)/\a.cell? ⟨w.heap.size+1,6,none⟩=some (.int .i64 f)/\a.cell? ⟨w.heap.size+1,7,none⟩=some (.bool d)/\a.cell? ⟨w.heap.size+1,8,none⟩=some (.bool c)) (first|(go_keep;done)|(simp(disch:=first|omega|(simp only[World.size_alloc];done)|(simp only[World.size_alloc];omega)) only[World.cell?_drew,World.cell?_drewN,World.cell?_alloc_past,World.cell?_alloc_at];simp;done))
  (first|(go_at_call 196;refine(Jz _ _ _).mono ?_;rintro e a ⟨rfl,rfl⟩)|(go_at_call 197;refine(SN _ _ _).mono ?_;rintro e a ⟨rfl,rfl⟩)|(go_at_call 198;refine(Gs _ _ _ _ _ _ _).mono ?_;rintro e a ⟨rfl,rfl⟩)|(go_at_call 195;refine(or5 (cu k m) (xD j d) (mq [cu lk b,cu lt lt',cu lv g]) (xD l c) (mq [cu rk h,cu rt i,cu rv f]) _ _ _ ?_ ?_ ?_ ?_ ?_).mono ?_;(simp(disch:=first|omega|(simp only[World.size_alloc];done)|(simp only[World.size_alloc];omega)) only[World.cell?_drew,World.cell?_drewN,World.cell?_alloc_past,World.cell?_alloc_at];simp);(simp(disch:=first|omega|(simp only[World.size_alloc];done)|(simp only[World.size_alloc];omega)) only[World.cell?_drew,World.cell?_drewN,World.cell?_alloc_past,World.cell?_alloc_at];simp);(simp(disch:=first|omega|(simp only[World.size_alloc];done)|(simp only[World.size_alloc];omega)) only[World.cell?_drew,World.cell?_drewN,World.cell?_alloc_past,World.cell?_alloc_at];simp);(simp(disch:=first|omega|(simp only[World.size_alloc];done)|(simp only[World.size_alloc];omega)) only[World.cell?_drew,World.cell?_drewN,World.cell?_alloc_past,World.cell?_alloc_at];simp);(simp(disch:=first|omega|(simp only[World.size_alloc];done)|(simp only[World.size_alloc];omega)) only[World.cell?_drew,World.cell?_drewN,World.cell?_alloc_past,World.cell?_alloc_at];simp);rintro e a ⟨rfl,rfl⟩))
 all_goals go_wp2
 go_ret;exact⟨rfl,by repeat first|exact Gr.refl _|refine Gr.drew ?_|refine Gr.alloc ?_ _⟩
theorem RB(x y:O)(w:World):Calls Tryz.prog 122 #[vO x,vO y] w λe a=>e=.returned (.int .i64 (cO x y))/\Gr w a:=
 PT x.k x.lk x.lt x.lv x.rk x.rt x.rv y.k y.lk y.lt y.lv y.rk y.rt y.rv x.hl x.hr y.hl y.hr w
end
section
open Go.Maps Go.Shelf
def bJ(Z:List O):Prop:=Z.Pairwise λx y=>cO x y<=0
def ql:Prop:=∀(Bm b o m:Nat) (om:Option Nat) (L:List O) (w:World),aP w b o om m L->L.length<=1000000->Bm<w.heap.size->m<=100000000->w.cell? ⟨Bm,0,none⟩=some (.map om)->
  Calls Tryz.prog 120 #[.func (.func 194) #[] #[.pointer (some ⟨Bm,0,none⟩)],.func (.func 122) #[] #[]] w λe W'=>∃v xs,e=.returned v/\xs.Nodup/\(∀x,x∈xs↔x∈L)/\bJ xs/\xs.length<=100000000/\W'.ownsRow w.heap.size 89 9 v xs.length (xs.flatMap ah)/\Below w.heap.size w W'
theorem Dj:∀(xs L:List O),xs.Nodup->(∀x∈xs,x∈L)->xs.length<=L.length
 |[],_,_,_=>by simp
 |a::r,L,hnd,hs=>by
  obtain⟨f,g⟩:=List.nodup_cons.1 hnd;have c:a∈L:=hs a (by simp);have:=Dj r (L.erase a) g (λx d=>(vv (a:=x) (b:=a) (λe=>f (by rw[<-e];exact d))).2 (hs x (by simp[d])));rw[List.length_erase_of_mem c]at this;have hpos:0<L.length:=List.length_pos_of_mem c;simp;omega
theorem flat_get(xs:List O)(k j:Nat)(x:O)(b:xs[k]?=some x)(hj:j<9):(xs.flatMap ah)[k*9+j]?=(ah x)[j]? :=by
 induction xs generalizing k with
 |nil=>simp at b
 |cons a r ih=>
  rw[List.flatMap_cons]
  cases k with
  |zero=>
   simp at b;subst b;rw[sZ (by rw[fI];omega)];simp
  |succ k=>
   simp at b;rw[pY (by rw[fI];omega),fI,show(k+1)*9+j -9=k*9+j by omega];exact ih k b
structure Xf(w:World)(gk ck n:Nat)(xs:List O)(Bx:Nat)(x:O)(Z:List O)(v:Value)(W:World):Prop where
 below:Below w.heap.size w W
 row:W.ownsRow w.heap.size 89 9 v Z.length (Z.flatMap ah)
 ks:W.ownsRow w.heap.size 89 9 (.slice (some ⟨gk,0,none⟩) n ck) n (xs.flatMap ah)
 box:Jr W Bx x
 ne1:v.ownBlock≠some gk
 ne2:v.ownBlock≠some Bx
theorem Xf.step{w W d:World}{f l n Bx:Nat}{xs Z:List O}{x:O}{v v':Value}{o:Obj}(h:Xf w f l n xs Bx x Z v W)
  (b:d.ownsRow w.heap.size 89 9 v' (Z.length+1) (Z.flatMap ah++ah x)) (i:(W.alloc o).grownBy d v.ownBlock) (a:v'.ownBlock=v.ownBlock∨v'.ownBlock=some (W.alloc o).heap.size):
  Xf w f l n xs Bx x (Z++[x]) v' d:=by
 have p:=h.below.size;have j:Bx<W.heap.size:=(aD.1 (show W.heap[Bx]?=some _ from h.box)).1
 have iU:f<W.heap.size:=by
  have q:=h.ks.2
  rcases q with⟨c,_⟩|⟨g,cap,cur,c,_,r,_⟩
  .cases c
  .cases c;exact(aD.1 r).1
 refine⟨(h.below.alloc p _).grown i (by simp;omega) (λk e=>?_),by simpa[List.flatMap_append]using b,(h.ks.alloc _).kept i (.inr (by simpa[Value.ownBlock]using λe=>h.ne1 e.symm)),?_,?_,?_⟩
 .rcases h.row.2 with⟨rfl,_⟩|⟨g,cap,cur,rfl,c,_⟩
  .simp[Value.ownBlock]at e
  .simp[Value.ownBlock]at e;omega
 .have m:W.heap[Bx]?=some (.cells (ah x).toArray 89 (0,0)):=h.box;exact(i.block Bx (by simp;omega) (λe=>h.ne2 e.symm)).trans ((zk W o Bx j).trans m)
 .rcases a with e|e
  .rw[e];exact h.ne1
  .rw[e];simp;omega
 .rcases a with e|e
  .rw[e];exact h.ne2
  .rw[e];simp;omega
def Zk(xs L:List O)(k:Nat):List O:=(xs.take k).flatMap λx=>List.replicate (L.count x) x
theorem Js(xs L:List O)(k:Nat)(x:O)(h:xs[k]?=some x):Zk xs L (k+1)=Zk xs L k++List.replicate (L.count x) x:=by
 unfold Zk;rw[List.take_add_one,h];simp[List.flatMap_append]
theorem M9(xs L:List O)(g:xs.Nodup)(d:∀x,x∈xs↔x∈L)(y:O):(Zk xs L xs.length).count y=L.count y:=by
 unfold Zk;rw[List.take_length]
 have key:∀(zs:List O),zs.Nodup->(zs.flatMap λx=>List.replicate (L.count x) x).count y=if y∈zs then L.count y else 0:=by
  intro zs
  induction zs with
  |nil=>simp
  |cons a r ih=>
   intro b;obtain⟨f,c⟩:=List.nodup_cons.1 b;rw[List.flatMap_cons,List.count_append,ih c]
   by_cases e:y=a
   .subst e;simp[f]
   .have:List.count y (List.replicate (L.count a) a)=0:=by
     rw[List.count_eq_zero];intro i;exact e (List.eq_of_mem_replicate i)
    rw[this];simp[e]
 rw[key xs g]
 by_cases h:y∈xs
 .simp[h]
 .rw[if_neg h];exact(List.count_eq_zero.2 (λj=>h ((d y).2 j))).symm
theorem Jt(xs L:List O)(a:xs.Nodup)(b:∀x,x∈xs↔x∈L):(Zk xs L xs.length).Perm L:=List.perm_iff_count.2 (M9 xs L a b)
theorem Na(xs L:List O)(h:bJ xs):bJ (Zk xs L xs.length):=by
 unfold Zk bJ;rw[List.take_length,List.pairwise_flatMap];refine⟨λa _=>?_,h.imp λ{a b} c=>?_⟩
 .rw[List.pairwise_replicate];exact .inr (by rw[(wI a a).2 rfl];omega)
 .intro x e y d;rw[List.eq_of_mem_replicate e,List.eq_of_mem_replicate d];exact c
theorem Xg(xs L:List O)(a:xs.Nodup)(b:∀x,x∈xs↔x∈L)(k:Nat):(Zk xs L k).length<=L.length:=by
 have h:=(Jt xs L a b).length_eq
 have:(Zk xs L k).length<=(Zk xs L xs.length).length:=by
  unfold Zk;rw[List.take_length];have:xs=xs.take k++xs.drop k:=(List.take_append_drop k xs).symm
  conv=>rhs;rw[this]
  rw[List.flatMap_append,List.length_append];omega
 omega
end
section
open Go.Proofs.Tryz Go.Joins Go.Maps Go.Shelf
variable{base n:Nat}{W:World}
theorem aL{w b:World}{e:TypeId}{size:Nat}{v:Value}{xs:List Value}(h:w.ownsRow base e size v n xs)(a:Below w.heap.size w b):b.ownsRow base e size v n xs:=
 h.kept (row:=none) ⟨a.os,a.tape,a.output,a.size,λk c _=>a.block k c⟩ (by cases h':v.ownBlock with|none=>exact .inl rfl|some g=>exact .inr (by simp))
theorem bZ(g o:Nat):(⟨g,0,none⟩:Addr).add o=⟨g,o,none⟩:=by
 unfold Addr.add;split
 .rename_i h;rw[h]
 .simp
theorem nQ{gs a:Nat}{xs:List O}(h:W.ownsRow base 89 9 (.slice (some ⟨gs,0,none⟩) n a) n (xs.flatMap ah))(k:Nat)(x:O)(d:xs[k]?=some x):
  W.cell? ⟨gs,k*9,none⟩=some (.int .i64 x.k)/\W.cell? ⟨gs,k*9+1,none⟩=some (.int .i64 x.lk)/\W.cell? ⟨gs,k*9+2,none⟩=some (.int .i64 x.lt)/\W.cell? ⟨gs,k*9+3,none⟩=some (.int .i64 x.lv)/\W.cell? ⟨gs,k*9+4,none⟩=some (.int .i64 x.rk)/\W.cell? ⟨gs,k*9+5,none⟩=some (.int .i64 x.rt)/\W.cell? ⟨gs,k*9+6,none⟩=some (.int .i64 x.rv)/\W.cell? ⟨gs,k*9+7,none⟩=some (.bool x.hl)/\W.cell? ⟨gs,k*9+8,none⟩=some (.bool x.hr):=by
 have key:=λ(j:Nat) (v:Value) (b:j<9) (c:(ah x)[j]?=some v)=>h.cells (g:=gs) rfl (k*9+j) v ((flat_get xs k j x d b).trans c)
 simp only[bZ]at key;exact⟨key 0 _ (by omega) rfl,key 1 _ (by omega) rfl,key 2 _ (by omega) rfl,key 3 _ (by omega) rfl,key 4 _ (by omega) rfl,key 5 _ (by omega) rfl,key 6 _ (by omega) rfl,key 7 _ (by omega) rfl,key 8 _ (by omega) rfl⟩
theorem Np{b o m:Nat}{e:Option Nat}{L:List O}(h:aP W b o e m L)(x:O)(d:x.wf):(Instr.lookup 101 (.map e) (vO x) false).run prog W=.ok (.int .i64 (L.count x)) W:=by
 rcases h.map with⟨rfl,rfl⟩|⟨bm,n,D,rfl,hn,a,c⟩
 .exact Maps.look_nil (w:=W) false keyed underlying101 (Dl _) (lK x d)
 .exact look a c x d
theorem RG(HS:ql)(b o m:Nat)(F:Option Nat)(L:List O)(w:World)(h:aP w b o F m L)(hm:m<=100000000)(hL:L.length<=1000000):
  Calls prog 68 #[.pointer (some ⟨b,o,none⟩)] w λe w'=>∃v Z,e=.returned v/\Z.Perm L/\bJ Z/\w'.ownsRow w.heap.size 89 9 v Z.length (Z.flatMap ah)/\Below w.heap.size w w':=by
 obtain⟨i0,hi,I,N,Q⟩:=Dw xA;have hc:=h.cells;have X:=hid h;have M:=h.lt;clear h;go_enter func68,ntmps68
 go_wp2_with (first
  |(refine wpList_make_own _ rfl _ _ 50 rfl w.heap.size 89 i0 zO 9 underlying50 hi I N .i64 .i64 _ L.length rfl rfl rfl (by rw[Q];omega) (by unfold maxLen;omega) (aO _) ?_;intro U xB H;have r:Below w.heap.size w U:=(zI _ w).grown H (aO _) (λk e=>by cases e);have hc1:=(X.out.below r).cells)
  |(go_at_call 121;refine((Dx (n:=1)).1 (keys_in Fence.wide 1 trivial rfl F _)).mono ?_;rintro e w2 ⟨rfl,rfl⟩)
  |fail)
 have z:Below w.heap.size w (U.alloc (.cells #[.map F] 101)):=r.alloc r.size _;have p:=xB.alloc (.cells #[.map F] 101);have hz1':=r.size
 have hgw1:w.heap.size<U.heap.size:=by
  rcases xB.2 with⟨q,_⟩|⟨g,cap,cur,q,_,V,_⟩
  .cases q
  .cases q;exact(aD.1 V).1
 refine(HS U.heap.size b o m F L _ (X.out.below z) hL (by simp) hm (by simp)).mono ?_;rintro e w3 ⟨v,xs,rfl,s,d,Gp,hxl,a,y⟩;have Dn:Below w.heap.size w w3:=z.trans (y.mono (by simp;omega));have l:w3.ownsRow w.heap.size 89 9 (.slice (some ⟨w.heap.size,0,none⟩) 0 L.length) 0 []:=aL p y;have T:Hid ((Zk xs L xs.length).Perm L/\bJ (Zk xs L xs.length)):=⟨Jt xs L s d,Na xs L Gp⟩;have HZ:Hid (∀k,(Zk xs L k).length<=L.length):=Xg xs L s d
 have HW:Hid (∀x∈xs,x.wf):=λx B=>X.out.wf x ((d x).1 B)
 rcases ownsRow_forms a with⟨rfl,h0⟩|⟨gs,S,rfl⟩
 .have hx0:xs=[]:=nD h0;subst hx0;clear a Gp d s;go_wp2;refine wp_loop_rounds 1 ?_;rw[rounds_succ];go_wp2;go_ret;exact⟨_,[],rfl,T.out.1,T.out.2,l,Dn⟩
 .have hgs:w.heap.size<gs:=by
   rcases a.2 with⟨q,_⟩|⟨g,cap,cur,q,h5,V,_⟩
   .cases q
   .cases q;simp at h5;omega
  have Nq:w3.ownsRow w.heap.size 89 9 (.slice (some ⟨gs,0,none⟩) xs.length S) xs.length (xs.flatMap ah):=ownsRow_le a (by simp;omega);clear a Gp d s xB p H r z y hc1;have hz3:=Dn.size;have HK:=hid Nq;have HR:=hid l;have HB3:=hid Dn;clear Nq l Dn;go_wp2
  go_loopg [3,18] xs.length (λg v i wr=>∃k:Nat,k<=xs.length/\g=xs.length -k/\i=.int .i64 k/\Below w.heap.size w wr/\wr.ownsRow w.heap.size 89 9 v (Zk xs L k).length ((Zk xs L k).flatMap ah)/\wr.ownsRow w.heap.size 89 9 (.slice (some ⟨gs,0,none⟩) xs.length S) xs.length (xs.flatMap ah)/\v.ownBlock≠some gs)
  case atStart=>
   exact⟨0,gy _,rfl,rfl,HB3.out,HR.out,HK.out,by simp[Value.ownBlock];omega⟩
  case round=>
   obtain⟨k,hk,xC,rfl,G,f,a,t⟩:=hrel;have HG:=hid xC;clear xC;have Jw:=hid G;have Bo:=hid f;have HKr:=hid a;have HN:=hid t
   by_cases M:k<xs.length
   .obtain⟨x,B⟩:∃x,xs[k]?=some x:=⟨_,dK M⟩;have hq:=nQ a k x B;have hwf:x.wf:=HW.out x (mh B);have UC:=X.out.below G;have TZ:aP (wr.alloc (.cells (ah x).toArray 89)).drew b o F m L:=UC.below ((wh _ _).drew);have u:=Np TZ x hwf;have hcb:=UC.cells;have RH:=G.size
    have K:b<wr.heap.size:=by omega
    have h1:(0:Int)<=(k:Int):=by omega
    have h2:(k:Int)<(xs.length:Int):=by omega
    have Y:Hid (Xf w gs S xs.length xs wr.heap.size x (Zk xs L k) u3 (wr.alloc (.cells (ah x).toArray 89)).drew):=
     ⟨(G.alloc RH _).drew,f.alloc _,a.alloc _,World.alloc_heap_new wr _,t,λe=>by
      rcases f.2 with⟨q,_⟩|⟨g,cap,cur,q,_,V,_⟩
      .rw[q]at e;cases e
      .rw[q]at e;have:=(aD.1 V).1
       simp[Value.ownBlock]at e;omega⟩
    simp only[vO,ah]at u Y;clear G f a t UC TZ;go_wp2
    go_region
    all_goals (try go_wp2)
    have hcl:(L.count x:Int)<=1000000:=by have:L.count x<=L.length:=List.count_le_length;omega
    clear u hq hcb K;generalize hcx:L.count x=c at hcl;have HC:=hid hcx;clear hcx
    have HZk:Hid ((Zk xs L k).length+c<=1000000):=by
     have E:=HZ.out (k+1);rw[Js xs L k x B,List.length_append,List.length_replicate,HC.out]at E;exact di E hL
    clear RH Jw Bo HKr HN;revert Y;generalize(wr.alloc (.cells #[.int .i64 x.k,.int .i64 x.lk,.int .i64 x.lt,.int .i64 x.lv,.int .i64 x.rk,.int .i64 x.rt,.int .i64 x.rv,.bool x.hl,.bool x.hr] 89)).drew=w5;generalize wr.heap.size=Bx;intro Y
    go_loopg [3,28] c (λg v j wi=>∃jn:Nat,jn<=c/\g=c -jn/\j=.int .i64 jn/\Xf w gs S xs.length xs Bx x (Zk xs L k++List.replicate jn x) v wi)
    case atStart=>exact⟨0,gy _,rfl,rfl,by simpa using Y.out⟩
    case round=>
     obtain⟨jn,hj,R,rfl,C⟩:=hrel;have Zg:Hid _:=R;clear R;have Xj:=hid C
     by_cases hjl:jn<c
     .have hbx:=C.box.cells
      have abU:(jn:Int)<(c:Int):=by omega
      have hlen:(Zk xs L k++List.replicate jn x).length<=1000000:=by have:=HZk.out;rw[List.length_append,List.length_replicate];omega
      have Ua:=C.row;have hszI:=C.below.size;have HR4:=hid Ua;clear C Ua
      go_wp2_with (first|(at_builtin;refine wpList_append_own_at _ rfl _ _ 50 rfl w.heap.size 89 i0 zO 9 64 underlying50 hi I N Q rfl (by decide) _ _ _ rfl (HR4.out.alloc _) ⟨wr.heap.size,0,none⟩ 1 1 (ah x) rfl rfl (World.news_of_block (vw wr _)) (o7 x) (by unfold maxLen;omega) (by omega) (by simp;omega) ?_;intro v' w6 A Gq _ qa)|fail)
      go_roundg (c -(jn+1))
      case measure=>have:=Zg.out;omega
      case rel=>exact⟨jn+1,by omega,rfl,by go_num,by rw[List.replicate_succ',<-List.append_assoc];exact Xj.out.step A Gq qa⟩
     .have E:jn=c:=by omega
      have hge:¬((jn:Int)<(c:Int)):=by omega
      clear C;go_wp2
      go_roundg (xs.length -(k+1))
      case measure=>have:=HG.out;omega
      case rel=>
       have P:=Xj.out;rw[E,<-HC.out,<-Js xs L k x B]at P;exact⟨k+1,by omega,rfl,by go_num,P.below,P.row,P.ks,P.ne1⟩
   .clear G f a t
    have E:k=xs.length:=by omega
    have hge:¬((k:Int)<(xs.length:Int)):=by omega
    go_wp2;go_ret;exact⟨_,rfl,Zk xs L xs.length,T.out.1,T.out.2,by rw[<-E];exact Bo.out,Jw.out⟩
end
end Go.Proofs.YthfpipieboophaaGreatDoor
