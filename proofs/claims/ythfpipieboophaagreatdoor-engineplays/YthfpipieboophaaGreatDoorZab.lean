import Derived.Maps.OwnOps
import Derived.RangeFuncNested
import Derived.RangeFuncBound
import Derived.RangeFuncCalls
import Derived.RangeFuncLeaves
import Derived.RangeFuncStops
import Derived.Shelf.Abstract
import Derived.Shelf.RegionOpen
import Derived.Sort.MapsRangeIn
import Derived.OwnWalkIn
import Derived.TacticsInMore
import Derived.RegionIn
import Derived.LoopNIn
import Derived.LoopIn
import Derived.RangeFuncBox
import Derived.Maps.AppendAt
import Derived.Deep.AppendLies
import Derived.Sort.Grow
import Derived.Test.YthfpipieboophaaGreatDoorZaa
namespace Go.Proofs.YthfpipieboophaaGreatDoor
set_option maxRecDepth 100000
set_option maxHeartbeats 40000000
open Go.RowKit Go.Sort
section
open Go.Proofs.Tryz Go.Joins
variable {D:DataW Unit} {L:List O} {b o m bm n:Nat} {om:Option Nat} {w w' W:World}
abbrev i64 (n:Int):DataW Unit:= .lit (.int .i64 n)
structure Ae (D:DataW Unit) (L:List O):Prop where
 isMap:Maps.IsMap D
 wf:∀x∈L,x.wf
 at_:∀x,x.wf->D.atKey (kL x) (i64 0)=i64 (L.count x)
 has:∀x,x.wf->Maps.has D (kL x)=decide (x∈L)
 keys:∀l,Maps.has D l=true->∃x∈L,l=kL x
theorem RA:Ae (.map []) []:=
 ⟨Maps.isMap_empty,by simp,fun x _=>rfl,fun x _=>rfl,fun l h=>by cases h⟩
theorem isKey (x:O) (h:x.wf):WideAt.IsKeyLit (kL x):=keyed.key (lK x h)
theorem xy {x y:O} (hx:x.wf) (hy:y.wf) (h:x≠y):kL x≠kL y:=fun e=>h (UA hx hy e)
theorem Ae.put (h:Ae D L) (x:O) (hx:x.wf):Ae (D.put (kL x) (i64 (L.count x+1))) (x::L):=by
 refine⟨h.isMap.put _ _,fun y hy=> ?_,fun y hy=> ?_,fun y hy=> ?_,fun l hl=> ?_⟩
 ·rcases List.mem_cons.1 hy with rfl | hy
  ·exact hx
  ·exact h.wf y hy
 ·by_cases e:y=x
  ·subst e;rw[Maps.atKey_put_same h.isMap (isKey y hy)];simp
  ·rw[Maps.atKey_put_other (xy hy hx e),h.at_ y hy,List.count_cons_of_ne (Ne.symm e)]
 ·by_cases e:y=x
  ·subst e;rw[Maps.has_put_same h.isMap (isKey y hy)];simp
  ·rw[Maps.has_put_other (xy hy hx e),h.has y hy];simp[e]
 ·by_cases e:l=kL x
  ·exact⟨x,by simp,e⟩
  ·rw[Maps.has_put_other e] at hl;obtain⟨y,hy,rfl⟩:=h.keys l hl;exact⟨y,by simp[hy],rfl⟩
theorem Ae.less (h:Ae D L) (x:O) (hx:x.wf) (h2:2<=L.count x):Ae (D.put (kL x) (i64 (L.count x -1))) (L.erase x):=by
 have hmem:x∈L.erase x:=by rw[<-List.count_pos_iff,List.count_erase_self];omega
 refine⟨h.isMap.put _ _,fun y hy=>h.wf y (List.mem_of_mem_erase hy),fun y hy=> ?_,fun y hy=> ?_,fun l hl=> ?_⟩
 ·by_cases e:y=x
  ·subst e;rw[Maps.atKey_put_same h.isMap (isKey y hy),List.count_erase_self];congr 2;omega
  ·rw[Maps.atKey_put_other (xy hy hx e),h.at_ y hy,List.count_erase_of_ne e]
 ·by_cases e:y=x
  ·subst e;rw[Maps.has_put_same h.isMap (isKey y hy)];simp[hmem]
  ·rw[Maps.has_put_other (xy hy hx e),h.has y hy];simp[List.mem_erase_of_ne e]
 ·by_cases e:l=kL x
  ·exact⟨x,hmem,e⟩
  ·rw[Maps.has_put_other e] at hl;obtain⟨y,hy,rfl⟩:=h.keys l hl;exact⟨y,(List.mem_erase_of_ne (fun e'=>e (by rw[e']))).2 hy,rfl⟩
theorem Ae.del (h:Ae D L) (x:O) (hx:x.wf) (h1:L.count x=1):Ae (D.del (kL x)) (L.erase x):=by
 have hno:x∉L.erase x:=by rw[<-List.count_eq_zero,List.count_erase_self];omega
 refine⟨h.isMap.del _,fun y hy=>h.wf y (List.mem_of_mem_erase hy),fun y hy=> ?_,fun y hy=> ?_,fun l hl=> ?_⟩
 ·by_cases e:y=x
  ·subst e;rw[Maps.atKey_del_same,List.count_erase_self,h1];rfl
  ·rw[Maps.atKey_del_other (xy hy hx e),h.at_ y hy,List.count_erase_of_ne e]
 ·by_cases e:y=x
  ·subst e;rw[Maps.has_del_same];simp[hno]
  ·rw[Maps.has_del_other (xy hy hx e),h.has y hy];simp[List.mem_erase_of_ne e]
 ·by_cases e:l=kL x
  ·subst e;rw[Maps.has_del_same] at hl;cases hl
  ·rw[Maps.has_del_other e] at hl;obtain⟨y,hy,rfl⟩:=h.keys l hl;exact⟨y,(List.mem_erase_of_ne (fun e'=>e (by rw[e']))).2 hy,rfl⟩
theorem Dl (w:World):(zeroValue 3).run prog w= .ok (.int .i64 0) w:=by kernel_rfl
structure aP (w:World) (b o:Nat) (om:Option Nat) (m:Nat) (L:List O):Prop where
 blk:∃cs T,w.heap[b]? =some (.cells cs T)∧cs[o]? =some (.map om)∧cs[o+1]? =some (.int .i64 L.length)
 map:(om=none∧L=[])∨∃bm n D,om=some bm∧n<=m∧w.ownsMap prog 89 (plainElem (H:=Unit) prog 3) bm n D∧Ae D L
structure gX (b o:Nat) (om:Option Nat) (w w':World):Prop where
 os:w'.os=w.os
 tape:w'.tape=w.tape
 output:w'.output=w.output
 size:w.heap.size<=w'.heap.size
 block:∀k,k < w.heap.size->k≠b->om≠some k->w'.heap[k]? =w.heap[k]?
 this:∀cs T,w.heap[b]? =some (.cells cs T)->∃cs':Array Value,w'.heap[b]? =some (.cells cs' T)∧cs'.size=cs.size∧∀i,i≠o->i≠o+1->cs'[i]? =cs[i]?
theorem gX.refl (b o:Nat) (om:Option Nat) (w:World):gX b o om w w:=⟨rfl,rfl,rfl,Nat.le_refl _,fun _ _ _ _=>rfl,fun cs _ h=>⟨cs,h,rfl,fun _ _ _=>rfl⟩⟩
theorem gX.trans {fG:Option Nat} {u v:World} (h:gX b o om u v) (k:gX b o fG v w) (ho:fG=om∨∃j,fG=some j∧u.heap.size<=j):gX b o om u w:=
 ⟨k.os.trans h.os,k.tape.trans h.tape,k.output.trans h.output,Nat.le_trans h.size k.size,fun j hj hb hm=>(k.block j (Nat.lt_of_lt_of_le hj h.size) hb (by
  rcases ho with rfl | ⟨i,rfl,hi⟩
  ·exact hm
  ·intro e;cases e;omega)).trans (h.block j hj hb hm),fun cs T hc=>by
  obtain⟨cs1,h1,h2,h3⟩:=h.this cs T hc;obtain⟨cs2,k1,k2,k3⟩:=k.this cs1 T h1
  exact⟨cs2,k1,k2.trans h2,fun i hi hi2=>(k3 i hi hi2).trans (h3 i hi hi2)⟩⟩
theorem gX.of_below (h:Below w.heap.size w w'):gX b o om w w':=⟨h.os,h.tape,h.output,h.size,fun k hk _ _=>h.block k hk,fun cs _ hc=>⟨cs,(h.block b (Array.getElem?_eq_some_iff.1 hc).1).trans hc,rfl,fun _ _ _=>rfl⟩⟩
theorem gX.below {B:Nat} (h:gX b o om w w') (hB:B<=w.heap.size) (hb:B<=b) (ho:∀k,om=some k->B<=k):Below B w w':=
 ⟨h.os,h.tape,h.output,h.size,fun k hk=>h.block k (by omega) (by omega) (fun e=>by have :=ho k e;omega)⟩
theorem aP.lt (h:aP w b o om m L):b < w.heap.size:=by
 obtain⟨cs,T,h1,_⟩:=h.blk;exact(Array.getElem?_eq_some_iff.1 h1).1
theorem aP.cells (h:aP w b o om m L):
  w.cell? ⟨b,o,none⟩=some (.map om)∧w.cell? ⟨b,o+1,none⟩=some (.int .i64 L.length)∧w.frozen? ⟨b,o,none⟩=false∧w.frozen? ⟨b,o+1,none⟩=false:=by
 obtain⟨cs,T,h1,h2,h3⟩:=h.blk;refine⟨?_,?_,unfrozen_of_block h1 o,unfrozen_of_block h1 (o+1)⟩
 ·rw[cell_of_block h1];exact h2
 ·rw[cell_of_block h1];exact h3
theorem aP.wf (h:aP w b o om m L):∀x∈L,x.wf:=by
 rcases h.map with⟨_,rfl⟩ | ⟨bm,n,D,rfl,hn,hown,hc⟩
 ·simp
 ·exact hc.wf
theorem aP.ne (h:aP w b o om m L) (ho:om=some bm):bm≠b∧bm < w.heap.size:=by
 rcases h.map with⟨h1,_⟩ | ⟨YE,n,D,h1,hn,hown,hc⟩
 ·rw[h1] at ho;cases ho
 ·rw[h1] at ho;cases ho;refine⟨fun e=> ?_,hown.lt⟩;obtain⟨es,c,hb,_⟩:=hown;obtain⟨cs,T,g1,_⟩:=h.blk;rw[e,g1] at hb;cases hb
theorem aP.kept (h:aP w b o om m L) (h1:w'.heap[b]? =w.heap[b]?) (h2:∀bm,om=some bm->w'.heap[bm]? =w.heap[bm]?):aP w' b o om m L:=by
 refine⟨?_,?_⟩
 ·obtain⟨cs,T,g1,g2⟩:=h.blk;exact⟨cs,T,h1.trans g1,g2⟩
 rcases h.map with hm | ⟨bm,n,D,h1,hn,hown,hc⟩
 ·exact .inl hm
 ·right
  obtain⟨es,c,hb,hr⟩:=hown;exact⟨bm,n,D,h1,hn,⟨es,c,(h2 bm h1).trans hb,hr⟩,hc⟩
theorem aP.below (h:aP w b o om m L) (hb:Below w.heap.size w w'):aP w' b o om m L:=
 h.kept (hb.block _ h.lt) (fun _ e=>hb.block _ (h.ne e).2)
theorem aP.mono {m':Nat} (h:aP w b o om m L) (hm:m<=m'):aP w b o om m' L:=by
 refine⟨h.blk,?_⟩
 rcases h.map with hx | ⟨bm,n,D,h1,hn,hown,hc⟩
 ·exact .inl hx
 ·exact .inr ⟨bm,n,D,h1,Nat.le_trans hn hm,hown,hc⟩
theorem lU {i:Nat} {cs:Array Value} {T:TypeId} (h:w.heap[b]? =some (.cells cs T)) (u:Value):(w.setCell ⟨b,i,none⟩ u).heap[b]? =some (.cells (cs.setIfInBounds i u) T):=block_setCell h u
theorem look (hown:W.ownsMap prog 89 (plainElem (H:=Unit) prog 3) bm n D) (hc:Ae D L) (x:O) (hx:x.wf):
  (Instr.lookup 101 (.map (some bm)) (vO x) false).run prog W= .ok (.int .i64 (L.count x)) W:=by
 obtain⟨c,hrun,hat,_⟩:=hown.lookup_int keyed underlying101 underlying3 (Dl _) (lK x hx);rw[hc.at_ x hx] at hat
 injection hat with h1;injection h1 with _ h2
 rw[hrun,h2]
theorem entry (hown:W.ownsMap prog 89 (plainElem (H:=Unit) prog 3) bm n D) (hn:n < 1000000000) (x:O) (hx:x.wf) (c:Int) (hc:(Lit.int .i64 c).wf=true):
  ∃v0 st W1 W2,(Instr.mapEntry 101 (.map (some bm)) (vO x)).run prog W= .ok (.tuple #[v0,.int .i64 st]) W1∧
   (Instr.entryStore 101 (.map (some bm)) (.int .i64 st) (.int .i64 c)).run prog W1= .ok () W2∧
   W2.ownsMap prog 89 (plainElem (H:=Unit) prog 3) bm (n+1) (D.put (kL x) (i64 c))∧W.grownBy W2 (some bm):=by
 obtain⟨w',hrun',hown',hg⟩:=hown.update keyed underlying101 (by unfold maxLen;omega) (lK x hx) (plainElem_int underlying3 hc);obtain⟨es,clock,hb,F,hs,rfl⟩:=hown;obtain⟨v0,st,es1,clock1,h1,_,h3⟩:=WideElems.entry_then_store law underlying101 (fun u=>Dl u) hb F (lK x hx);obtain⟨es',clock',h4,h5⟩:=h3 _ (.int .i64 c) (ChangeMaps.heap_setBlock_same hb _);refine⟨v0,st,_,_,h1,h4,?_,?_⟩
 ·rw[h5] at hrun'
  injection hrun' with _ e
  obtain⟨es2,c2,hb2,hr2⟩:=hown';refine⟨es2,c2,?_,hr2⟩;rw[<-hb2,<-e,ChangeMaps.heap_setBlock_same (ChangeMaps.heap_setBlock_same hb _) _,ChangeMaps.heap_setBlock_same hb _]
 ·rw[h5] at hrun'
  injection hrun' with _ e
  refine⟨rfl,rfl,rfl,by simp[ChangeMaps.setBlock],fun i _ hi=> ?_⟩;rw[ChangeMaps.heap_setBlock_other (ChangeMaps.heap_setBlock_same hb _) _ (fun e=>hi (by rw[e])),ChangeMaps.heap_setBlock_other hb _ (fun e=>hi (by rw[e]))]
theorem qm (hown:W.ownsMap prog 89 (plainElem (H:=Unit) prog 3) bm n D) (hc:Ae D L) (hn:n < 1000000000) (x:O) (hx:x.wf) {v0:Value} {W1:World}
  (he:(Instr.mapEntry 101 (.map (some bm)) (vO x)).run prog W= .ok v0 W1):(Instr.lookup 101 (.map (some bm)) (vO x) false).run prog W1= .ok (.int .i64 (L.count x)) W1:=by
 have hkey:=lK x hx;have hl:=look hown hc x hx;have hown0:=hown;obtain⟨w',hrun',hown',_⟩:=hown.update keyed underlying101 (by unfold maxLen;omega) hkey (plainElem_int (H:=Unit) (a:=0) underlying3 (by decide));obtain⟨es,clock,hb,F,hs,hD⟩:=hown
 rcases keyed.find W hkey es.toList F.keys with⟨h1,h2⟩ | ⟨j,e0,h1,h2,h3⟩
 ·have e1:W1=w':=by
   simp[Instr.mapEntry,run_underlying underlying101,MapKept.run_getObj_map hb,keyed.check W false hkey,h1,MapKept.run_setObj_map _ hb,Result.andThen] at he;simp[Instr.mapUpdate,run_underlying underlying101,MapKept.run_getObj_map hb,keyed.check W false hkey,h1,MapKept.run_setObj_map _ hb,Result.andThen] at hrun';rw[<-he.2,<-hrun']
  have h0:(Instr.lookup 101 (.map (some bm)) (vO x) false).run prog W= .ok (.int .i64 0) W:=by
   simp[Instr.lookup,run_underlying underlying101,MapKept.run_getObj_map hb,keyed.check W _ hkey,h1,Result.andThen]
  have h0:(L.count x:Int)=0:=by
   have h7:=hl.symm.trans h0;simpa using h7
  subst e1;obtain⟨c,hrun,hat,_⟩:=hown'.lookup_int keyed underlying101 underlying3 (Dl _) hkey;rw[Maps.atKey_put_same hc.isMap (isKey x hx)] at hat
  have h6:c=0:=by simpa using hat.symm
  rw[hrun,h6,h0]
 ·have hj:es[j]? =some e0:=by simpa using h2
  have e1:W1.ownsMap prog 89 (plainElem (H:=Unit) prog 3) bm n D:=by
   simp[Instr.mapEntry,run_underlying underlying101,MapKept.run_getObj_map hb,keyed.check W false hkey,h1,hj,h3,keyed.stays W hkey,MapKept.run_setObj_map _ hb,Result.andThen] at he
   have hsame:es.modify j (fun e=>{ e with key:=vO x})=es:=by
    apply Array.ext';rw[Array.toList_modify,ChangeMaps.modify_eq_set _ _ _ _ h2]
    have :({ e0 with key:=vO x}:MapEntry)=e0:=by rw[<-h3]
    rw[this];exact WideElems.set_self _ _ _ h2
   rw[hsame] at he;refine⟨es,clock,?_,F,hs,hD⟩;rw[<-he.2];exact ChangeMaps.heap_setBlock_same hb _
  exact look e1 hc x hx
end
section
open Go.Proofs.Tryz Go.Joins
variable {w w2:World} {b o bm m n:Nat} {L L':List O} {D':DataW Unit}
theorem Ry (bm:Nat) (w:World):(binOp .eql 101 (.map (some bm)) (.map none)).run prog w= .ok (.bool false) w:=by kernel_rfl
theorem Rz (w:World):(binOp .eql 101 (.map none) (.map none)).run prog w= .ok (.bool true) w:=by kernel_rfl
theorem Uz (n:Nat) (h:n < 1000000000):(Lit.int .i64 (n:Int)).wf=true:=WalkArith.wf_i64 (by omega)
theorem Kt (ob:Obj) (h:aP w b o (some bm) m L)
  (hown2:w2.ownsMap prog 89 (plainElem (H:=Unit) prog 3) bm n D') (hn:n<=m+1) (hg:(w.alloc ob).drew.grownBy w2 (some bm)) (hc:Ae D' L'):
  aP (w2.setCell ⟨b,o+1,none⟩ (.int .i64 L'.length)) b o (some bm) (m+1) L'∧gX b o (some bm) w (w2.setCell ⟨b,o+1,none⟩ (.int .i64 L'.length))∧w2.cell? ⟨b,o+1,none⟩=some (.int .i64 L.length)∧w2.frozen? ⟨b,o+1,none⟩=false:=by
 have hne:=(h.ne rfl).1;have hb1:w2.heap[b]? =w.heap[b]? :=(hg.block b (by have :=h.lt;simp;omega) (by simp;exact fun e=>hne e.symm)).trans (Below.heap_alloc w ob b h.lt);obtain⟨cs,T,g1,g2,g3⟩:=h.blk;have hb2:=hb1.trans g1;have hi:=(Array.getElem?_eq_some_iff.1 g3).1;refine⟨⟨⟨_,_,lU hb2 _,?_,?_⟩,.inr ⟨bm,n,D',rfl,hn,hown2.setCell hne _,hc⟩⟩,⟨hg.os,hg.tape,hg.output,?_,fun k hk hkb hkm=> ?_,fun cs' T' hc'=> ?_⟩,?_,unfrozen_of_block hb2 _⟩
 ·rw[Array.getElem?_setIfInBounds_ne (by omega)];exact g2
 ·rw[Array.getElem?_setIfInBounds_self_of_lt hi]
 ·have :=hg.size;simp at this⊢;omega
 ·rw[Below.heap_setCell _ _ _ _ (by simpa using hkb),hg.block k (by simp;omega) (fun e=>hkm e.symm)];exact Below.heap_alloc w ob k hk
 ·rw[g1] at hc';cases hc';exact⟨_,lU hb2 _,by simp,fun i _ h2=>Array.getElem?_setIfInBounds_ne (fun e=>h2 e.symm)⟩
 ·rw[cell_of_block hb2];exact g3
theorem Nc (b o bm m:Nat) (L:List O) (w:World) (h:aP w b o (some bm) m L) (x:O) (hx:x.wf) (hm:m < 100000000) (hL:L.length < 100000000):
  Calls prog 180 #[.pointer (some ⟨b,o,none⟩),vO x] w fun e w'=>e= .returned (.tuple #[])∧aP w' b o (some bm) (m+1) (x::L)∧gX b o (some bm) w w':=by
 have hc:=h.cells;have hlt:=h.lt
 rcases h.map with⟨h0,_⟩ | ⟨YE,n,D,h0,hn,hown,hcn⟩
 ·cases h0
 cases h0;have hrun:=look ((hown.alloc (.cells (ah x).toArray 89)).drew) hcn x hx;have hle:L.count x<=L.length:=List.count_le_length;obtain⟨v0,st,W1,W2,he1,he2,hown2,hg⟩:=entry ((hown.alloc (.cells (ah x).toArray 89)).drew) (by omega) x hx (L.count x+1:Nat) (Uz _ (by omega));have q8:=qm ((hown.alloc (.cells (ah x).toArray 89)).drew) hcn (by omega) x hx he1;obtain⟨hB,hK,c2,f2⟩:=Kt _ h hown2 (by omega) hg (hcn.put x hx)
 have e1:((L.count x+1:Nat):Int)=(L.count x:Int)+1:=by omega
 rw[e1] at he2
 have e2:(((x::L).length:Nat):Int)=(L.length:Int)+1:=by simp
 rw[e2] at hB hK;have HB:Hid _:=hB;have HK:Hid _:=hK;simp only[vO,ah] at hrun q8 he1 he2⊢
 have hle':(L.count x:Int) < 100000000:=by omega
 have hL':(L.length:Int) < 100000000:=by omega
 have hq:=Ry bm;clear h hown hown2 hg hB hK hcn e1 e2;go_enter func180,ntmps180;go_wp2
 go_region
 all_goals (try go_wp2)
 all_goals go_end0
 all_goals exact⟨rfl,HB.out,HK.out⟩
theorem qo (h:aP w b o (some bm) m L)
  (hown2:w2.ownsMap prog 89 (plainElem (H:=Unit) prog 3) bm n D') (hn:n<=m+1) (hg:w.drew.grownBy w2 (some bm)) (hc:Ae D' L'):
  aP (w2.setCell ⟨b,o+1,none⟩ (.int .i64 L'.length)) b o (some bm) (m+1) L'∧gX b o (some bm) w (w2.setCell ⟨b,o+1,none⟩ (.int .i64 L'.length))∧w2.cell? ⟨b,o+1,none⟩=some (.int .i64 L.length)∧w2.frozen? ⟨b,o+1,none⟩=false:=by
 have hne:=(h.ne rfl).1;have hb1:w2.heap[b]? =w.heap[b]? :=hg.block b h.lt (by simp;exact fun e=>hne e.symm);obtain⟨cs,T,g1,g2,g3⟩:=h.blk;have hb2:=hb1.trans g1;have hi:=(Array.getElem?_eq_some_iff.1 g3).1;refine⟨⟨⟨_,_,lU hb2 _,?_,?_⟩,.inr ⟨bm,n,D',rfl,hn,hown2.setCell hne _,hc⟩⟩,⟨hg.os,hg.tape,hg.output,?_,fun k hk hkb hkm=> ?_,fun cs' T' hc'=> ?_⟩,?_,unfrozen_of_block hb2 _⟩
 ·rw[Array.getElem?_setIfInBounds_ne (by omega)];exact g2
 ·rw[Array.getElem?_setIfInBounds_self_of_lt hi]
 ·have :=hg.size;simp at this⊢;omega
 ·rw[Below.heap_setCell _ _ _ _ (by simpa using hkb),hg.block k hk (fun e=>hkm e.symm)];rfl
 ·rw[g1] at hc';cases hc';exact⟨_,lU hb2 _,by simp,fun i _ h2=>Array.getElem?_setIfInBounds_ne (fun e=>h2 e.symm)⟩
 ·rw[cell_of_block hb2];exact g3
def p9 (w:World) (b o:Nat) (x:O):World:=((w.setCell ⟨b,o,none⟩ (.map (some (w.heap.size+1)))).alloc (.cells (ah x).toArray 89)).alloc (.map #[] 0)
theorem Nf (x:O) (h:aP w b o none m L):aP (p9 w b o x) b o (some (w.heap.size+1)) m []∧L=[]∧(∀k,k < w.heap.size->k≠b->(p9 w b o x).heap[k]? =w.heap[k]?)∧(∀cs T,w.heap[b]? =some (.cells cs T)->∃cs':Array Value,(p9 w b o x).heap[b]? =some (.cells cs' T)∧cs'.size=cs.size∧∀i,i≠o->i≠o+1->cs'[i]? =cs[i]?):=by
 have hlt:=h.lt
 have hL:L=[]:=by
  rcases h.map with⟨_,h⟩ | ⟨_,_,_,h,_⟩
  ·exact h
  ·cases h
 obtain⟨cs,T,g1,g2,g3⟩:=h.blk;have hi:=(Array.getElem?_eq_some_iff.1 g2).1;subst hL
 have hb2:(p9 w b o x).heap[b]? =some (.cells (cs.setIfInBounds o (.map (some (w.heap.size+1)))) T):=by
  unfold p9;rw[Below.heap_alloc _ _ _ (by simp;omega),Below.heap_alloc _ _ _ (by simpa using hlt),lU g1]
 refine⟨⟨⟨_,_,hb2,?_,?_⟩,.inr ⟨_,0,.map [],rfl,Nat.zero_le _,?_,RA⟩⟩,rfl,fun k hk hkb=> ?_,fun cs' T' hc'=> ?_⟩
 ·rw[Array.getElem?_setIfInBounds_self_of_lt hi]
 ·rw[Array.getElem?_setIfInBounds_ne (by omega)];exact g3
 ·have :=World.ownsMap_made (H:=Unit) ((w.setCell ⟨b,o,none⟩ (.map (some (w.heap.size+1)))).alloc (.cells (ah x).toArray 89)) prog 89 (plainElem prog 3);unfold p9;simpa using this
 ·unfold p9;rw[Below.heap_alloc _ _ _ (by simp;omega),Below.heap_alloc _ _ _ (by simpa using hk),Below.heap_setCell _ _ _ _ (by simpa using hkb)]
 ·rw[g1] at hc';cases hc';exact⟨_,hb2,by simp,fun i h2 _=>Array.getElem?_setIfInBounds_ne (fun e=>h2 e.symm)⟩
theorem Ku (w:World) (b o:Nat) (x:O):(p9 w b o x).heap.size=w.heap.size+1+1:=by unfold p9;simp
theorem Ng (b o m:Nat) (L:List O) (w:World) (h:aP w b o none m L) (x:O) (hx:x.wf) (hm:m < 100000000):
  Calls prog 180 #[.pointer (some ⟨b,o,none⟩),vO x] w fun e w'=>e= .returned (.tuple #[])∧aP w' b o (some (w.heap.size+1)) (m+1) (x::L)∧gX b o none w w':=by
 have hc:=h.cells;have hlt:=h.lt;obtain⟨h0,rfl,hkeep,TY⟩:=Nf x h;have hsz:=Ku w b o x
 rcases h0.map with⟨h1,_⟩ | ⟨YE,n,D,h1,hn,hown,hcn⟩
 ·cases h1
 cases h1;have hrun:=look hown.drew hcn x hx;obtain⟨v0,st,W1,W2,he1,he2,hown2,hg⟩:=entry hown.drew (by omega) x hx 1 (by decide);have q8:=qm hown.drew hcn (by omega) x hx he1;obtain⟨hB,hK,c2,f2⟩:=qo (m:=m) h0 hown2 (by omega) hg (hcn.put x hx);have HB:=hid hB;have HK:Hid (gX b o none w (W2.setCell ⟨b,o+1,none⟩ (.int .i64 1))):=⟨hK.os,hK.tape,hK.output,Nat.le_trans (by omega) hK.size,fun k hk hkb _=>(hK.block k (by omega) hkb (by intro e;cases e;omega)).trans (hkeep k hk hkb),fun cs T hc=>by obtain⟨c1,a1,a2,a3⟩:=TY cs T hc;obtain⟨c2,b1,b2,b3⟩:=hK.this c1 T a1;exact⟨c2,b1,b2.trans a2,fun i h1 h2=>(b3 i h1 h2).trans (a3 i h1 h2)⟩⟩;have hc0:=h0.cells;simp only[vO,ah,p9,List.count_nil,Int.natCast_zero] at hrun q8 he1 he2 hc0⊢;have hq:=Rz;have hmm:= @run_makeMap prog;clear h h0 hown hown2 hg hB hK hcn hkeep hsz TY;go_enter func180,ntmps180;go_wp2
 go_region
 all_goals (try go_wp2)
 all_goals go_end0
 all_goals exact⟨rfl,HB.out,HK.out⟩
end
section
open Go.Proofs.Tryz Go.Joins
theorem Kz (b o bm m:Nat) (L:List O) (w:World) (h:aP w b o (some bm) m L) (x:O) (hx:x.wf) (h2:2<=L.count x) (hm:m < 100000000) (hL:L.length < 100000000):
  Calls prog 179 #[.pointer (some ⟨b,o,none⟩),vO x] w fun e w'=>e= .returned .nilIface∧aP w' b o (some bm) (m+1) (L.erase x)∧gX b o (some bm) w w':=by
 have hlt:=h.lt;have hle:L.count x<=L.length:=List.count_le_length;have hmem:x∈L:=List.count_pos_iff.1 (by omega);have h':aP ((w.alloc (.cells (ah x).toArray 89)).drew) b o (some bm) m L:=h.below ((below_alloc1 w _).drew);have hc:=h.cells
 rcases h.map with⟨h0,_⟩ | ⟨YE,n,D,h0,hn,hown,hcn⟩
 ·cases h0
 cases h0;have hown':=(hown.alloc (.cells (ah x).toArray 89)).drew;have hrun:=look hown' hcn x hx;have Xi:=look hown'.drew hcn x hx;obtain⟨v0,st,W1,W2,he1,he2,hown2,hg⟩:=entry hown'.drew (by omega) x hx (L.count x -1:Int) (WalkArith.wf_i64 (by omega));have q8:=qm hown'.drew hcn (by omega) x hx he1;obtain⟨hB,hK,c2,f2⟩:=qo h' hown2 (by omega) hg (hcn.less x hx h2)
 have e2:(((L.erase x).length:Nat):Int)=(L.length:Int) -1:=by rw[List.length_erase_of_mem hmem];omega
 rw[e2] at hB hK;have HB:Hid _:=hB;have HK:Hid (gX b o (some bm) w (W2.setCell ⟨b,o+1,none⟩ (.int .i64 ((L.length:Int) -1)))):=(gX.of_below ((below_alloc1 w _).drew)).trans hK (.inl rfl);simp only[vO,ah] at hrun q8 Xi he1 he2⊢
 have hle':(L.count x:Int) < 100000000:=by omega
 have hle2:2<=(L.count x:Int):=by omega
 have hL':(L.length:Int) < 100000000:=by omega
 have hL2:2<=(L.length:Int):=by omega
 clear h h' hown hown' hown2 hg hB hK hcn e2 h2 hle hL hmem;generalize (L.count x:Int)=c at *;generalize (L.length:Int)=len at *;go_enter func179,ntmps179;go_wp2
 go_region
 all_goals (try go_wp2)
 all_goals go_region
 all_goals (try go_wp2)
 all_goals go_ret
 all_goals exact⟨rfl,HB.out,HK.out⟩
theorem take_one (b o bm m:Nat) (L:List O) (w:World) (h:aP w b o (some bm) m L) (x:O) (hx:x.wf) (h2:L.count x=1) (hL:L.length < 100000000):
  Calls prog 179 #[.pointer (some ⟨b,o,none⟩),vO x] w fun e w'=>e= .returned .nilIface∧aP w' b o (some bm) (m+1) (L.erase x)∧gX b o (some bm) w w':=by
 have hlt:=h.lt;have hle:L.count x<=L.length:=List.count_le_length;have hmem:x∈L:=List.count_pos_iff.1 (by omega);have h':aP ((w.alloc (.cells (ah x).toArray 89)).drew) b o (some bm) m L:=h.below ((below_alloc1 w _).drew);have hc:=h.cells
 rcases h.map with⟨h0,_⟩ | ⟨YE,n,D,h0,hn,hown,hcn⟩
 ·cases h0
 cases h0;have hown':=(hown.alloc (.cells (ah x).toArray 89)).drew;have hrun:=look hown' hcn x hx;rw[h2] at hrun;obtain⟨W2,hd,hown2,ht⟩:=hown'.drew.drop keyed underlying101 (lK x hx) 0;have hg:((w.alloc (.cells (ah x).toArray 89)).drew).drew.grownBy W2 (some bm):=ht.grown;obtain⟨hB,hK,c2,f2⟩:=qo h' hown2 (by omega) hg (hcn.del x hx h2)
 have e2:(((L.erase x).length:Nat):Int)=(L.length:Int) -1:=by rw[List.length_erase_of_mem hmem];omega
 rw[e2] at hB hK;have HB:Hid _:=hB;have HK:Hid (gX b o (some bm) w (W2.setCell ⟨b,o+1,none⟩ (.int .i64 ((L.length:Int) -1)))):=(gX.of_below ((below_alloc1 w _).drew)).trans hK (.inl rfl);simp only[vO,ah] at hrun hd⊢
 have hL':(L.length:Int) < 100000000:=by omega
 have hL2:1<=(L.length:Int):=by omega
 clear h h' hown hown' hown2 hg hB hK hcn e2 h2 hle hL hmem ht;generalize (L.length:Int)=len at *;go_enter func179,ntmps179;go_wp2
 go_region
 all_goals (try go_wp2)
 all_goals go_region
 all_goals (try go_wp2)
 all_goals go_ret
 all_goals exact⟨rfl,HB.out,HK.out⟩
def vC (x:O) (g:Bool):Value:= .agg #[.int .i64 x.k,.int .i64 x.lk,.int .i64 x.lt,.int .i64 x.lv,.int .i64 x.rk,.int .i64 x.rt,.int .i64 x.rv,.bool x.hl,.bool x.hr,.bool g]
def Moves (w:World) (om fG:Option Nat):Prop:=fG=om∨∃k,fG=some k∧w.heap.size<=k
theorem RD (b o m:Nat) (om:Option Nat) (L:List O) (w:World) (h:aP w b o om m L) (x:O) (hx:x.wf) (hm:m < 100000000) (hL:L.length < 100000000):
  Calls prog 180 #[.pointer (some ⟨b,o,none⟩),vO x] w fun e w'=>e= .returned (.tuple #[])∧∃fG,aP w' b o fG (m+1) (x::L)∧gX b o om w w'∧Moves w om fG:=by
 cases om with
 | none=>exact(Ng b o m L w h x hx hm).mono fun e w' ⟨h1,h2,h3⟩=>⟨h1,_,h2,h3,.inr ⟨_,rfl,Nat.le_succ _⟩⟩
 | some bm=>exact(Nc b o bm m L w h x hx hm hL).mono fun e w' ⟨h1,h2,h3⟩=>⟨h1,_,h2,h3,.inl rfl⟩
theorem Nn (b o m:Nat) (om:Option Nat) (L:List O) (w:World) (h:aP w b o om m L) (x:O) (hx:x.wf) (hmem:x∈L) (hm:m < 100000000) (hL:L.length < 100000000):
  Calls prog 179 #[.pointer (some ⟨b,o,none⟩),vO x] w fun e w'=>e= .returned .nilIface∧aP w' b o om (m+1) (L.erase x)∧gX b o om w w':=by
 have hpos:0 < L.count x:=List.count_pos_iff.2 hmem
 cases om with
 | none=>
  rcases h.map with⟨_,rfl⟩ | ⟨_,_,_,h,_⟩
  ·cases hmem
  ·cases h
 | some bm=>
  by_cases h1:L.count x=1
  ·exact take_one b o bm m L w h x hx h1 hL
  ·exact Kz b o bm m L w h x hx (by omega) hm hL
theorem KA (b o m:Nat) (om:Option Nat) (L:List O) (w:World) (h:aP w b o om m L) (x:O) (hx:x.wf) (hm:m < 100000000) (hL:L.length < 100000000):
  Calls prog 107 #[.pointer (some ⟨b,o,none⟩),vC x false] w fun e w'=>e= .returned .nilIface∧∃fG,aP w' b o fG (m+1) (x::L)∧gX b o om w w'∧Moves w om fG:=by
 have hbel:=below_alloc1 w (.cells #[.int .i64 x.k,.int .i64 x.lk,.int .i64 x.lt,.int .i64 x.lv,.int .i64 x.rk,.int .i64 x.rt,.int .i64 x.rv,.bool x.hl,.bool x.hr,.bool false] 95);have hp:=RD b o m om L _ (h.below hbel) x hx hm hL
 have HP:Hid (Calls prog 180 #[.pointer (some ⟨b,o,none⟩),vO x] (w.alloc (.cells #[.int .i64 x.k,.int .i64 x.lk,.int .i64 x.lt,.int .i64 x.lv,.int .i64 x.rk,.int .i64 x.rt,.int .i64 x.rv,.bool x.hl,.bool x.hr,.bool false] 95)) fun e w'=>e= .returned (.tuple #[])∧∃fG,aP w' b o fG (m+1) (x::L)∧gX b o om w w'∧Moves w om fG):=
  hp.mono fun e w' ⟨h1,fG,h2,h3,h4⟩=>⟨h1,fG,h2,(gX.of_below hbel).trans h3 (.inl rfl),h4.imp id (fun⟨k,e1,e2⟩=>⟨k,e1,by simp at e2;omega⟩)⟩
 clear hp hbel h;simp only[vO] at HP;simp only[vC];go_enter func107,ntmps107
 go_wp2_with (go_at_call 180;refine Calls.mono (Hid.out HP) ?_;rintro e w' ⟨rfl,hpost⟩)
 go_ret;exact⟨rfl,hpost⟩
theorem Gn (b o m:Nat) (om:Option Nat) (L:List O) (w:World) (h:aP w b o om m L) (x:O) (hx:x.wf) (hmem:x∈L) (hm:m < 100000000) (hL:L.length < 100000000):
  Calls prog 107 #[.pointer (some ⟨b,o,none⟩),vC x true] w fun e w'=>e= .returned .nilIface∧aP w' b o om (m+1) (L.erase x)∧gX b o om w w':=by
 have hbel:=below_alloc1 w (.cells #[.int .i64 x.k,.int .i64 x.lk,.int .i64 x.lt,.int .i64 x.lv,.int .i64 x.rk,.int .i64 x.rt,.int .i64 x.rv,.bool x.hl,.bool x.hr,.bool true] 95);have hp:=Nn b o m om L _ (h.below hbel) x hx hmem hm hL
 have HP:Hid (Calls prog 179 #[.pointer (some ⟨b,o,none⟩),vO x] (w.alloc (.cells #[.int .i64 x.k,.int .i64 x.lk,.int .i64 x.lt,.int .i64 x.lv,.int .i64 x.rk,.int .i64 x.rt,.int .i64 x.rv,.bool x.hl,.bool x.hr,.bool true] 95)) fun e w'=>e= .returned .nilIface∧aP w' b o om (m+1) (L.erase x)∧gX b o om w w'):=
  hp.mono fun e w' ⟨h1,h2,h3⟩=>⟨h1,h2,(gX.of_below hbel).trans h3 (.inl rfl)⟩
 clear hp hbel h;simp only[vO] at HP;simp only[vC];go_enter func107,ntmps107
 go_wp2_with (go_at_call 179;refine Calls.mono (Hid.out HP) ?_;rintro e w' ⟨rfl,hpost⟩)
 go_ret;exact⟨rfl,hpost⟩
end
section
open Go.Proofs.Tryz
variable {d:Nat} {c:Value} {ls:List Lit}
theorem wV (h:prog.keyLits (d+1) 3 [c]=some ls):∃a,c= .int .i64 a∧(Lit.int .i64 a).wf=true:=by
 unfold Program.keyLits at h;rw[underlying3] at h
 cases c <;>simp at h
 rename_i q a
 exact⟨a,by rw[h.1.1],h.1.2⟩
theorem EH (h:prog.keyLits (d+1) 4 [c]=some ls):∃a,c= .bool a:=by
 unfold Program.keyLits at h;rw[underlying4] at h
 cases c <;>simp at h
 rename_i a
 exact⟨a,rfl⟩
theorem J5 {c0 c1 c2:Value} (h:prog.keyLits (d+2) 37 [c0,c1,c2]=some ls):∃a b c,c0= .int .i64 a∧c1= .int .i64 b∧c2= .int .i64 c∧(Lit.int .i64 a).wf=true∧(Lit.int .i64 b).wf=true∧(Lit.int .i64 c).wf=true:=by
 rw[show d+2=(d+1)+1 from rfl] at h;unfold Program.keyLits at h;rw[underlying37] at h;simp[wJ,cells3] at h
 cases h0:prog.keyLits (d+1) 3 [c0] with
 | none=>simp[h0] at h
 | some l0=>
  cases h1:prog.keyLits (d+1) 3 [c1] with
  | none=>simp[h0,h1] at h
  | some l1=>
   cases h2:prog.keyLits (d+1) 3 [c2] with
   | none=>simp[h0,h1,h2] at h
   | some l2=>
    obtain⟨a,rfl,ha⟩:=wV h0;obtain⟨b,rfl,hb⟩:=wV h1;obtain⟨c,rfl,hc⟩:=wV h2;exact⟨a,b,c,rfl,rfl,rfl,ha,hb,hc⟩
theorem XZ {α:Type} {l:List α} (h:l.length=9):∃a b c d e f g i j,l=[a,b,c,d,e,f,g,i,j]:=by
 match l,h with
 | [a,b,c,d,e,f,g,i,j],_=>exact⟨a,b,c,d,e,f,g,i,j,rfl⟩
theorem Ju {v:Value} {l:Lit} (h:keyOf prog 89 v=some l):∃x:O,x.wf∧v=vO x:=by
 unfold keyOf at h;rw[underlying89] at h;simp only[Ag,Bool.true_and] at h
 split at h
 ·rename_i hf
  cases v <;>simp[Value.formed,underlying89] at hf
  rename_i cs
  obtain⟨cl⟩:=cs;obtain⟨c0,c1,c2,c3,c4,c5,c6,c7,c8,rfl⟩:=XZ (l:=cl) (by simpa[wK] using hf);rw[show prog.types.size+1=(prog.types.size -2+2)+1 by have :2<=prog.types.size:=of_decide_eq_true (by kernel_rfl);omega] at h;generalize prog.types.size -2=d at h;unfold Program.keyLits at h;rw[underlying89] at h;simp[wK,cells3,Ns,wJ,Value.cells] at h
  cases h0:prog.keyLits (d+2) 3 [c0] with
  | none=>simp[h0] at h
  | some l0=>
   cases h1:prog.keyLits (d+2) 37 [c1,c2,c3] with
   | none=>simp[h0,h1] at h
   | some l1=>
    cases h2:prog.keyLits (d+2) 37 [c4,c5,c6] with
    | none=>simp[h0,h1,h2] at h
    | some l2=>
     cases h3:prog.keyLits (d+2) 4 [c7] with
     | none=>simp[h0,h1,h2,h3] at h
     | some l3=>
      cases h4:prog.keyLits (d+2) 4 [c8] with
      | none=>simp[h0,h1,h2,h3,h4] at h
      | some l4=>
       obtain⟨k,rfl,hk⟩:=wV h0;obtain⟨a,b,c,rfl,rfl,rfl,ha,hb,hc⟩:=J5 h1;obtain⟨a',b',c',rfl,rfl,rfl,ha',hb',hc'⟩:=J5 h2;obtain⟨x,rfl⟩:=EH h3;obtain⟨y,rfl⟩:=EH h4;exact⟨⟨k,a,b,c,a',b',c',x,y⟩,⟨hk,ha,hb,hc,ha',hb',hc'⟩,rfl⟩
 ·cases h
end
section
open Go.Proofs.Tryz Go.Maps Go.Shelf
variable {D:DataW Unit} {L:List O}
def Came (L:List O) (left:Lit->Bool) (xs:List O):Prop:=xs.Nodup∧∀x,x∈xs↔x∈L∧left (kL x)=false
theorem Came.start (hc:Ae D L):Came L (Maps.has D) []:=
 ⟨List.nodup_nil,fun x=>⟨(fun h=>by cases h),(fun⟨h1,h2⟩=>by
  have h3:=(hc.has x (hc.wf x h1)).symm.trans h2
  simp[h1] at h3)⟩⟩
theorem Came.step (hc:Ae D L) {left:Lit->Bool} {xs:List O} (h:Came L left xs) {x:O} (hx:x.wf) (hm:x∈L) (hl:left (kL x)=true):
  Came L (fun z=>left z && !z.sameKey (kL x)) (xs++[x]):=by
 have hno:x∉xs:=fun hx'=>by have :=((h.2 x).1 hx').2;rw[hl] at this;cases this
 refine⟨?_,fun y=> ?_⟩
 ·rw[List.nodup_append];refine⟨h.1,by simp,fun a ha b hb e=> ?_⟩;simp at hb;subst hb;subst e;exact hno ha
 ·rw[List.mem_append,List.mem_singleton,h.2 y]
  by_cases e:y=x
  ·subst e;simp[hm,WideAt.sameKey_self (isKey y hx)]
  ·constructor
   ·rintro(⟨h1,h2⟩ | h1)
    ·exact⟨h1,by simp[h2]⟩
    ·exact absurd h1 e
   ·rintro⟨h1,h2⟩;refine .inl ⟨h1,?_⟩;have hne:=xy (hc.wf y h1) hx e;simpa[Maps.sameKey_ne hne] using h2
theorem keys1_in (F:Fence) (n:Nat) (Nh:F.fn 194) (hro:F.round=none) (hn:1<=n) (l Bm b nn:Nat) (D0:DataW Unit) (L:List O) (hc:Ae D0 L) (J Jx:List O->World->Prop)
  (hY:∀pre x W,J pre W->pre.length < Maps.size D0->YieldAt F (n -1) prog l #[vO x] W fun e W'=>
   (e= .returned (.bool true)∧J (pre++[x]) W'∧KeepsWalks W W')∨(e= .returned (.bool false)∧Jx (pre++[x]) W'))
  (W:World) (hJ:AbidesFrom W.heap.size J) (hm:W.cell? ⟨Bm,0,none⟩=some (.map (some b))) (hown:W.ownsMap prog 89 (plainElem (H:=Unit) prog 3) b nn D0) (h0:J [] W):
  CallsIn F n prog 194 #[.func (.yield l) #[] #[],.pointer (some ⟨Bm,0,none⟩)] W fun e W'=>(∃v,e= .returned v)∧
   ((∃xs:List O,(xs.Nodup∧∀x,x∈xs↔x∈L)∧J xs W')∨(∃pre:List O,True∧Jx pre W')):=by
 refine callsIn_of_wp func194 rfl Nh ?_ hro;simp only[ntmps194,List.size_toArray,List.length_cons,List.length_nil,Nat.reduceAdd,Nat.reduceSub,Array.replicate_succ,Array.replicate_zero,List.push_toArray,List.append_toArray,List.nil_append,List.cons_append]
 gi_wp2_with (first
  | (gi_at_range;refine wpListIn_range_own _ rfl _ 101 rfl 89 3 keyed underlying101 _ b nn _ rfl hown ?_;intro w0 hrg0 hg0 hs0)
  | gi_in)
 go_frame
 gi_loopw [3] (fun _ wr=>∃(left:Lit->Bool) (cnt:Nat) (xs:List O),wr.ranges prog 89 (plainElem (H:=Unit) prog 3) b W.heap.size nn D0 left cnt∧xs.length+cnt<=Maps.size D0∧Came L left xs∧J xs wr)
  (fun _ wr=>wr.rangeLeft b W.heap.size)
 case atStart=>
  exact⟨_,_,[],hrg0,by simp,Came.start hc,hJ [] W w0 none h0 hg0 (fun r e=>by cases e)⟩
 case round=>
  obtain⟨left,cnt,xs,hrg,hcs,hC,hJs⟩:=hrel
  gi_wp2_with (first
   | (gi_at_next;refine wpListIn_next_ranges _ rfl _ rfl 89 keyed (plainElem (H:=Unit) prog 3) vO id (fun key kl hk=>by obtain⟨x,_,hx⟩:=Ju hk;exact⟨x,hx⟩) (fun v _ _=>⟨v,rfl⟩) b W.heap.size nn _ _ _ rfl hrg ?_ ?_)
   | gi_in)
  ·intro hc0 hl0
   gi_wp2
   go_end0
   exact⟨⟨_,rfl⟩,.inl ⟨xs,⟨hC.1,fun x=>by rw[hC.2 x,hl0];simp⟩,hJs⟩⟩
  ·intro x c kl yd yp w2 cnt2 hkey hlk hv hat hrg2 hlt hg2 hs2 hen;obtain⟨x',hx,ex⟩:=Ju hkey;obtain rfl:=Ni ex;obtain rfl:kl=kL x:=Option.some.inj (hkey.symm.trans (lK x hx))
   have hmem:x∈L:=by
    have h1:=(hc.has x hx).symm.trans (Maps.has_true_of_atKey hat);simpa using h1
   have hJ2:J xs w2:=hJ xs wr w2 (some W.heap.size) hJs hg2 (fun r e=>by cases e;exact⟨Nat.le_refl _,hrg.iter_walk⟩);have hJ3:J xs (w2.alloc (.cells (ah x).toArray 89)):=hJ xs w2 _ none hJ2 (World.grownBy_alloc _ _ _) (fun r e=>by cases e);obtain⟨fn,tmps,assign,body,hy,hR⟩:=hY xs x _ hJ3 (by omega);have hC2:=hC.step hc hx hmem hlk;have hk0:KeepsWalks w2 (w2.alloc (.cells (ah x).toArray 89)):=KeepsWalks.alloc _ _;have HC:Hid _:=hC2;have HR:=hid hrg2;have HK:Hid _:=hk0;simp only[vO,ah] at hen hy hR HK;clear hs2 hC2 hJ2 hJ3 hk0 hrg2 hat hkey ex
   gi_wp2
   refine hR.mono ?_;rintro e W3 (⟨rfl,hJ4,hk3⟩ | ⟨rfl,hJx3⟩)
   ·have HW:Hid _:=hk3;clear hk3
    gi_wp2
    have hrg3:=(HR.out.of_walks HK.out).of_walks HW.out
    go_roundw
    case rel=>exact⟨_,cnt2,xs++[x],hrg3,by simp;omega,HC.out,hJ4⟩
    case measure=>rw[hrg3.left_eq,hrg.left_eq];exact hlt
   ·gi_wp2
    refine bodyPost_ret (results_none rfl _ _ _) rfl ?_;exact⟨⟨_,rfl⟩,.inr ⟨xs++[x],trivial,hJx3⟩⟩
theorem keys_in (F:Fence) (n:Nat) (h37:F.fn 121) (hro:F.round=none) (mb:Option Nat) (w:World):
  CallsIn F n prog 121 #[.map mb] w fun e w'=>e= .returned (.func (.func 194) #[] #[.pointer (some ⟨w.heap.size,0,none⟩)])∧w'=w.alloc (.cells #[.map mb] 101):=by
 refine callsIn_of_wp func121 rfl h37 ?_ hro;simp only[ntmps121,List.size_toArray,List.length_cons,List.length_nil,Nat.reduceAdd,Nat.reduceSub,Array.replicate_succ,Array.replicate_zero,List.push_toArray,List.append_toArray,List.nil_append,List.cons_append]
 gi_wp2
 go_ret;exact⟨rfl,rfl⟩
theorem keys_stops (F:Fence) (n:Nat) (Nh:F.fn 194) (hro:F.round=none) (hn:1<=n) (Bm b nn:Nat) (D0:DataW Unit) (L:List O) (hc:Ae D0 L) (w:World) (hBm:Bm < w.heap.size)
  (hm:w.cell? ⟨Bm,0,none⟩=some (.map (some b))) (hown:w.ownsMap prog 89 (plainElem (H:=Unit) prog 3) b nn D0):
  SeqStops F n prog 194 #[.pointer (some ⟨Bm,0,none⟩)] vO (fun xs=>xs.Nodup∧∀x,x∈xs↔x∈L) (fun _=>True) (Maps.size D0) w:=fun l J Jx W hW hJ _ hY h0=>by
 have hown':W.ownsMap prog 89 (plainElem (H:=Unit) prog 3) b nn D0:=by
  have hbl:=hown.lt;obtain⟨es,clock,hb,Ft,hs,hD⟩:=hown;exact⟨es,clock,(hW.block b hbl).trans hb,Ft,hs,hD⟩
 exact keys1_in F n Nh hro hn l Bm b nn D0 L hc J Jx hY W hJ ((hW.cell (p:=⟨Bm,0,none⟩) hBm).trans hm) hown' h0
end
section
open Go.Proofs.Tryz Go.Joins Go.Maps Go.Shelf
attribute [local go_sem] Oper.semAt_some
def zO:Value:= .agg #[.int .i64 0,.int .i64 0,.int .i64 0,.int .i64 0,.int .i64 0,.int .i64 0,.int .i64 0,.bool false,.bool false]
theorem xA:(prog.info? 89).map (fun i=>(i.zero,i.size,i.bytes))=some (some zO,9,64):=by kernel_rfl
theorem fI (x:O):(ah x).length=9:=rfl
theorem lV (xs:List O):(xs.flatMap ah).length=xs.length * 9:=by
 induction xs with
 | nil=>rfl
 | cons a r ih=>rw[List.flatMap_cons,List.length_append,ih,fI,List.length_cons];omega
theorem o7 (x:O):∀u∈ah x,u.oneCell'=true:=by
 intro u hu;simp[ah] at hu;rcases hu with rfl | rfl | rfl | rfl | rfl | rfl | rfl | rfl | rfl <;>rfl
def Jr (W:World) (B:Nat) (x:O):Prop:=W.heap[B]? =some (.cells (ah x).toArray 89 (0,0))
theorem Jr.cells {W:World} {B:Nat} {x:O} (h:Jr W B x):W.cell? ⟨B,0,none⟩=some (.int .i64 x.k)∧W.cell? ⟨B,1,none⟩=some (.int .i64 x.lk)∧W.cell? ⟨B,2,none⟩=some (.int .i64 x.lt)∧W.cell? ⟨B,3,none⟩=some (.int .i64 x.lv)∧W.cell? ⟨B,4,none⟩=some (.int .i64 x.rk)∧W.cell? ⟨B,5,none⟩=some (.int .i64 x.rt)∧W.cell? ⟨B,6,none⟩=some (.int .i64 x.rv)∧W.cell? ⟨B,7,none⟩=some (.bool x.hl)∧W.cell? ⟨B,8,none⟩=some (.bool x.hr):=by
 have h':W.heap[B]? =some (.cells (ah x).toArray 89 (0,0)):=h
 refine⟨?_,?_,?_,?_,?_,?_,?_,?_,?_⟩ <;>(rw[cell_of_block h'];rfl)
theorem appendSeq_in (F:Fence) (n:Nat) (h43:F.fn 262) (Nh:F.fn 194) (hro:F.round=none) (hn:3<=n) (Bm N:Nat) (S:List O->Prop) (w:World) (hN:N<=100000000)
  (hseq:SeqStops F (n -1) prog 194 #[.pointer (some ⟨Bm,0,none⟩)] vO S (fun _=>True) N w):
  CallsIn F n prog 262 #[.slice none 0 0,.func (.func 194) #[] #[.pointer (some ⟨Bm,0,none⟩)]] w fun e W'=>∃v xs,e= .returned v∧S xs∧W'.ownsRow w.heap.size 89 9 v xs.length (xs.flatMap ah)∧(v= .slice none 0 0↔xs=[])∧Below w.heap.size w W':=by
 have h1:1<=n:=by omega
 obtain⟨i0,hi,hz0,hz1,hz2⟩:=info_parts xA;refine callsIn_of_wp_marks func262 rfl h43 ?_ hro;simp only[ntmps262,List.size_toArray,List.length_cons,List.length_nil,Nat.reduceAdd,Nat.reduceSub,Array.replicate_succ,Array.replicate_zero,List.push_toArray,List.append_toArray,List.nil_append,List.cons_append]
 gi_wp2
 have bO:=Boxed.new w 50 (.slice none 0 0);have hB0:Below w.heap.size w (w.alloc (.cells #[.slice none 0 0] 50)):=(Below.refl _ w).alloc (Nat.le_refl _) _
 refine wpIn_rangeFunc_ownH hro h1 (gf:=194) (lb:= #[.pointer (some ⟨Bm,0,none⟩)]) rfl Nh (enters_of func194 (by kernel_rfl) rfl)
  hseq walksK_t walksK_b hB0 (fun _=>rfl)
  (fun pre W=>(∃v,Boxed W w.heap.size 50 v∧W.ownsRow w.heap.size 89 9 v pre.length (pre.flatMap ah)∧(v= .slice none 0 0↔pre=[]))∧Below w.heap.size w W)
  (fun _ _ _=>False)
  (OwnFrom.and (Own.from (holdsRow_own w.heap.size w.heap.size 50 89 9 (fun pre=>pre.length) (fun pre=>pre.flatMap ah) (fun pre v=>v= .slice none 0 0↔pre=[])) _) (ownFrom_below (Nat.le_refl _) (by simp)))
  (fun _ _ _ _ _ hs _ _=>hs)
  ⟨⟨_,bO,World.ownsRow_nil _ _ _ _,by simp⟩,hB0⟩
  (fun x a' W=>∃Bx,w.heap.size < Bx∧Jr W Bx x∧a'={ tmps:= #[.slice none 0 0,.func (.func 194) #[] #[.pointer (some ⟨Bm,0,none⟩)],.pointer (some ⟨w.heap.size,0,none⟩),undef,.slice none 0 0,.pointer (some ⟨Bx,0,none⟩),.func (.func 194) #[] #[.pointer (some ⟨Bm,0,none⟩)],vO x,undef,undef,undef,undef,undef],defers:=[]})
  (fun x a' _ X Y row hs hg hr=>by
   obtain⟨Bx,h1,h2,h3⟩:=hs;have h2':X.heap[Bx]? =some (.cells (ah x).toArray 89 (0,0)):=h2;refine⟨Bx,h1,(hg.block Bx (Array.getElem?_eq_some_iff.1 h2').1 (fun e=> ?_)).trans h2',h3⟩;obtain⟨o,ho,hc⟩:=(hr Bx e.symm).2
   rw[h2'] at ho;cases ho;cases hc)
  ?assign ?body ?done ?stop
 case assign=>
  rintro l pre x W K ⟨⟨v,hv,hrow,hnil⟩,hB⟩ hK;simp only[vO] at *
  gi_wp2
  exact hK _ _ ((KeepsOthers.alloc _ _).from _) (KeepsWalks.alloc _ _) ⟨⟨v,hv.alloc _,hrow.alloc _,hnil⟩,hB.alloc hB.size _⟩ ⟨W.heap.size,hv.lt,World.alloc_heap_new W _,rfl⟩
 case body=>
  rintro l pre x a' W hl ⟨r,hr⟩ ⟨⟨v,hv,hrow,hnil⟩,hB⟩ ⟨Bx,hBx,bX,rfl⟩ hlt;have hc:=hv.cell;have hcx:=bX.cells
  gi_wp2_with (gi_at_builtin;refine wpListIn_append_own _ rfl _ _ 50 rfl w.heap.size 89 i0 zO 9 64 underlying50 hi hz0 hz1 hz2 rfl (by decide) _ _ _ rfl (hrow.alloc _) ⟨W.heap.size,0,none⟩ 1 1 (ah x) rfl rfl (World.news_of_block (heap_alloc_new W _)) (o7 x) (by unfold maxLen;omega) (by omega) (by have :=hB.size;simp;omega) ?_;intro v' w1 hown' hgrow _;obtain⟨g',cap',rfl⟩:=ownsRow_succ hown';obtain⟨hv1,hv2,hr2,hk2,hb2⟩:=hv.appended (by decide) hrow hB.size (Nat.le_refl _) hown' hgrow;have hc1:=hv1.cell;have hf1:=hv1.frozen)
  have hr3:(w1.setCell ⟨w.heap.size,0,none⟩ (.slice (some ⟨g',0,none⟩) (pre.length+1) cap')).ownsRow w.heap.size 89 9 (.slice (some ⟨g',0,none⟩) (pre.length+1) cap') (pre++[x]).length ((pre++[x]).flatMap ah):=by
   simpa[List.flatMap_append] using hr2
  exact⟨hk2.from _,hk2.walks,⟨_,hv2,hr3,by simp⟩,hB.trans hb2⟩
 case done=>
  rintro D ys W hD hS ⟨⟨v,hv,hrow,hnil⟩,hB⟩ hK;have hc:=hv.cell
  gi_wp2
  refine⟨by simp,.inl ⟨_,_,rfl,run_takeDeferred hK,?_⟩⟩;exact⟨_,results_tmp rfl _ _ _,v,ys,rfl,hS,ownsRow_putObj hrow _ hK rfl,hnil,hB.trans (belowK_b (w:=w) (Nat.le_refl _) W D _ _ (by simp at hD;omega) hK rfl rfl)⟩
 case stop=>
  rintro D c pre W _ _ h _;exact h.elim
theorem collect_in (F:Fence) (n:Nat) (h40:F.fn 192) (h43:F.fn 262) (Nh:F.fn 194) (hro:F.round=none) (hn:4<=n) (Bm N:Nat) (S:List O->Prop) (w:World) (hN:N<=100000000)
  (hseq:SeqStops F (n -1 -1) prog 194 #[.pointer (some ⟨Bm,0,none⟩)] vO S (fun _=>True) N w):
  CallsIn F n prog 192 #[.func (.func 194) #[] #[.pointer (some ⟨Bm,0,none⟩)]] w fun e W'=>∃v xs,e= .returned v∧S xs∧W'.ownsRow w.heap.size 89 9 v xs.length (xs.flatMap ah)∧(v= .slice none 0 0↔xs=[])∧Below w.heap.size w W':=by
 have h1:1<=n:=by omega
 refine callsIn_of_wp func192 rfl h40 ?_ hro;simp only[ntmps192,List.size_toArray,List.length_cons,List.length_nil,Nat.reduceAdd,Nat.reduceSub,Array.replicate_succ,Array.replicate_zero,List.push_toArray,List.append_toArray,List.nil_append,List.cons_append]
 gi_wp2_with (gi_at_call 262;refine(appendSeq_in F (n -1) h43 Nh hro (by omega) Bm N S w hN hseq).mono ?_;rintro e w' ⟨v,xs,rfl,hpost⟩)
 go_ret;exact⟨v,xs,rfl,hpost⟩
theorem BP (Bm b nn:Nat) (D0:DataW Unit) (L:List O) (hc:Ae D0 L) (w:World) (hBm:Bm < w.heap.size) (hnn:nn<=100000000)
  (hm:w.cell? ⟨Bm,0,none⟩=some (.map (some b))) (hown:w.ownsMap prog 89 (plainElem (H:=Unit) prog 3) b nn D0):
  Calls prog 192 #[.func (.func 194) #[] #[.pointer (some ⟨Bm,0,none⟩)]] w fun e W'=>∃v xs,e= .returned v∧(xs.Nodup∧∀x,x∈xs↔x∈L)∧W'.ownsRow w.heap.size 89 9 v xs.length (xs.flatMap ah)∧(v= .slice none 0 0↔xs=[])∧Below w.heap.size w W':=
 (callsIn_wide (n:=4)).1 (collect_in Fence.wide 4 trivial trivial trivial rfl (by omega) Bm (Maps.size D0) _ w (Nat.le_trans hown.size_le hnn) (keys_stops Fence.wide _ trivial rfl (by omega) Bm b nn D0 L hc w hBm hm hown))
theorem Ky (F:Fence) (n:Nat) (Nh:F.fn 194) (hro:F.round=none) (l Bm:Nat) (J:List O->World->Prop) (W:World) (hJ:AbidesFrom W.heap.size J)
  (hm:W.cell? ⟨Bm,0,none⟩=some (.map none)) (h0:J [] W):
  CallsIn F n prog 194 #[.func (.yield l) #[] #[],.pointer (some ⟨Bm,0,none⟩)] W fun e W'=>(∃v,e= .returned v)∧J [] W':=by
 refine callsIn_of_wp func194 rfl Nh ?_ hro;simp only[ntmps194,List.size_toArray,List.length_cons,List.length_nil,Nat.reduceAdd,Nat.reduceSub,Array.replicate_succ,Array.replicate_zero,List.push_toArray,List.append_toArray,List.nil_append,List.cons_append];have hrg:=run_range_nilMap (P:=prog) W 101 89 3 underlying101
 have hnx:∀ty,(Instr.next (.pointer (some ⟨W.heap.size,0,none⟩)) false ty).run prog (W.alloc (.mapIter none 0 #[] 0))=_:=fun ty=>run_next_nilMap _ ty 0 0 #[]
 gi_wp2
 refine wpIn_loop_rounds 1 ?_;rw[roundsIn_succ]
 gi_wp2
 go_end0
 exact⟨⟨_,rfl⟩,hJ [] W _ none h0 (World.grownBy_alloc W _ none) (fun r e=>by cases e)⟩
theorem keys_stops_nil (F:Fence) (n:Nat) (Nh:F.fn 194) (hro:F.round=none) (Bm:Nat) (w:World) (hBm:Bm < w.heap.size) (hm:w.cell? ⟨Bm,0,none⟩=some (.map none)):
  SeqStops F n prog 194 #[.pointer (some ⟨Bm,0,none⟩)] vO (fun xs:List O=>xs=[]) (fun _=>True) 0 w:=fun l J _ W hW hJ _ _ h0=>
 (Ky F n Nh hro l Bm J W hJ ((hW.cell (p:=⟨Bm,0,none⟩) hBm).trans hm) h0).mono fun _ _ ⟨he,hj⟩=>⟨he,.inl ⟨[],rfl,hj⟩⟩
theorem Dm (Bm b o m:Nat) (om:Option Nat) (L:List O) (w:World) (h:aP w b o om m L) (hBm:Bm < w.heap.size) (hmm:m<=100000000) (hm:w.cell? ⟨Bm,0,none⟩=some (.map om)):
  Calls prog 192 #[.func (.func 194) #[] #[.pointer (some ⟨Bm,0,none⟩)]] w fun e W'=>∃v xs,e= .returned v∧(xs.Nodup∧∀x,x∈xs↔x∈L)∧W'.ownsRow w.heap.size 89 9 v xs.length (xs.flatMap ah)∧(v= .slice none 0 0↔xs=[])∧Below w.heap.size w W':=by
 rcases h.map with⟨rfl,rfl⟩ | ⟨bm,n,D,rfl,hn,hown,hc⟩
 ·refine((callsIn_wide (n:=4)).1 (collect_in Fence.wide 4 trivial trivial trivial rfl (by omega) Bm 0 _ w (by omega) (keys_stops_nil Fence.wide _ trivial rfl Bm w hBm hm))).mono ?_;rintro e w' ⟨v,xs,he,rfl,hrest⟩;exact⟨v,[],he,⟨List.nodup_nil,by simp⟩,hrest⟩
 ·exact BP Bm bm n D L hc w hBm (by omega) hm hown
end
section
variable {w w':World}
def Gr (w w':World):Prop:=∃q os,w'=grow (w.drewN q) os
theorem Gr.refl (w:World):Gr w w:=⟨0,#[],by rw[grow_empty];rfl⟩
theorem Gr.drew (h:Gr w w'):Gr w w'.drew:=by
 obtain⟨q,os,rfl⟩:=h;exact⟨q+1,os,rfl⟩
theorem Gr.alloc (h:Gr w w') (o:Obj):Gr w (w'.alloc o):=by
 obtain⟨q,os,rfl⟩:=h;exact⟨q,os++ #[o],by rw[alloc_eq_grow,grow_grow]⟩
set_option linter.unusedSimpArgs false
theorem PT (k lk lt lv rk rt rv k' lk' lt' Un SV SX rv':Int) (hl hr hl' hr':Bool) (w:World):
  Calls Tryz.prog 122 #[.agg #[.int .i64 k,.int .i64 lk,.int .i64 lt,.int .i64 lv,.int .i64 rk,.int .i64 rt,.int .i64 rv,.bool hl,.bool hr],.agg #[.int .i64 k',.int .i64 lk',.int .i64 lt',.int .i64 Un,.int .i64 SV,.int .i64 SX,.int .i64 rv',.bool hl',.bool hr']] w fun e w'=>e= .returned (.int .i64 (mq [cu k k',xD hl hl',mq [cu lk lk',cu lt lt',cu lv Un],xD hr hr',mq [cu rk SV,cu rt SX,cu rv rv']]))∧Gr w w':=by
 go_enter Tryz.func122,Tryz.ntmps122;go_wp2
 go_region_held3 (fun w'=>w'.cell? ⟨w.heap.size,0,none⟩=some (.int .i64 k)∧w'.cell? ⟨w.heap.size,1,none⟩=some (.int .i64 lk)∧w'.cell? ⟨w.heap.size,2,none⟩=some (.int .i64 lt)∧w'.cell? ⟨w.heap.size,3,none⟩=some (.int .i64 lv)∧w'.cell? ⟨w.heap.size,4,none⟩=some (.int .i64 rk)∧w'.cell? ⟨w.heap.size,5,none⟩=some (.int .i64 rt)∧w'.cell? ⟨w.heap.size,6,none⟩=some (.int .i64 rv)∧w'.cell? ⟨w.heap.size,7,none⟩=some (.bool hl)∧w'.cell? ⟨w.heap.size,8,none⟩=some (.bool hr)∧w'.cell? ⟨w.heap.size+1,0,none⟩=some (.int .i64 k')∧w'.cell? ⟨w.heap.size+1,1,none⟩=some (.int .i64 lk')∧w'.cell? ⟨w.heap.size+1,2,none⟩=some (.int .i64 lt')∧w'.cell? ⟨w.heap.size+1,3,none⟩=some (.int .i64 Un)∧w'.cell? ⟨w.heap.size+1,4,none⟩=some (.int .i64 SV)∧w'.cell? ⟨w.heap.size+1,5,none⟩=some (.int .i64 SX)∧w'.cell? ⟨w.heap.size+1,6,none⟩=some (.int .i64 rv')∧w'.cell? ⟨w.heap.size+1,7,none⟩=some (.bool hl')∧w'.cell? ⟨w.heap.size+1,8,none⟩=some (.bool hr')) (first | (go_keep;done) | (simp(disch:=first | omega | (simp only[World.size_alloc];done) | (simp only[World.size_alloc];omega)) only[World.cell?_drew,World.cell?_drewN,World.cell?_alloc_past,World.cell?_alloc_at];simp;done))
  (first | (go_at_call 196;refine(Jz _ _ _).mono ?_;rintro e w' ⟨rfl,rfl⟩) | (go_at_call 197;refine(SN _ _ _).mono ?_;rintro e w' ⟨rfl,rfl⟩) | (go_at_call 198;refine(Gs _ _ _ _ _ _ _).mono ?_;rintro e w' ⟨rfl,rfl⟩) | (go_at_call 195;refine(or5 (cu k k') (xD hl hl') (mq [cu lk lk',cu lt lt',cu lv Un]) (xD hr hr') (mq [cu rk SV,cu rt SX,cu rv rv']) _ _ _ ?_ ?_ ?_ ?_ ?_).mono ?_;(simp(disch:=first | omega | (simp only[World.size_alloc];done) | (simp only[World.size_alloc];omega)) only[World.cell?_drew,World.cell?_drewN,World.cell?_alloc_past,World.cell?_alloc_at];simp);(simp(disch:=first | omega | (simp only[World.size_alloc];done) | (simp only[World.size_alloc];omega)) only[World.cell?_drew,World.cell?_drewN,World.cell?_alloc_past,World.cell?_alloc_at];simp);(simp(disch:=first | omega | (simp only[World.size_alloc];done) | (simp only[World.size_alloc];omega)) only[World.cell?_drew,World.cell?_drewN,World.cell?_alloc_past,World.cell?_alloc_at];simp);(simp(disch:=first | omega | (simp only[World.size_alloc];done) | (simp only[World.size_alloc];omega)) only[World.cell?_drew,World.cell?_drewN,World.cell?_alloc_past,World.cell?_alloc_at];simp);(simp(disch:=first | omega | (simp only[World.size_alloc];done) | (simp only[World.size_alloc];omega)) only[World.cell?_drew,World.cell?_drewN,World.cell?_alloc_past,World.cell?_alloc_at];simp);rintro e w' ⟨rfl,rfl⟩))
 all_goals go_wp2
 go_ret;exact⟨rfl,by repeat first | exact Gr.refl _ | refine Gr.drew ?_ | refine Gr.alloc ?_ _⟩
theorem RB (x y:O) (w:World):Calls Tryz.prog 122 #[vO x,vO y] w fun e w'=>e= .returned (.int .i64 (cO x y))∧Gr w w':=
 PT x.k x.lk x.lt x.lv x.rk x.rt x.rv y.k y.lk y.lt y.lv y.rk y.rt y.rv x.hl x.hr y.hl y.hr w
end
section
open Go.Maps Go.Shelf
def bJ (Z:List O):Prop:=Z.Pairwise fun x y=>cO x y<=0
def ql:Prop:=∀(Bm b o m:Nat) (om:Option Nat) (L:List O) (w:World),aP w b o om m L->L.length<=1000000->Bm < w.heap.size->m<=100000000->w.cell? ⟨Bm,0,none⟩=some (.map om)->
  Calls Tryz.prog 120 #[.func (.func 194) #[] #[.pointer (some ⟨Bm,0,none⟩)],.func (.func 122) #[] #[]] w fun e W'=>∃v xs,e= .returned v∧xs.Nodup∧(∀x,x∈xs↔x∈L)∧bJ xs∧xs.length<=100000000∧W'.ownsRow w.heap.size 89 9 v xs.length (xs.flatMap ah)∧Below w.heap.size w W'
theorem Dj:∀(xs L:List O),xs.Nodup->(∀x∈xs,x∈L)->xs.length<=L.length
 | [],_,_,_=>by simp
 | a::r,L,hnd,hs=>by
  obtain⟨h1,h2⟩:=List.nodup_cons.1 hnd;have ha:a∈L:=hs a (by simp);have :=Dj r (L.erase a) h2 (fun x hx=>(List.mem_erase_of_ne (a:=x) (b:=a) (fun e=>h1 (by rw[<-e];exact hx))).2 (hs x (by simp[hx])));rw[List.length_erase_of_mem ha] at this;have hpos:0 < L.length:=List.length_pos_of_mem ha;simp;omega
theorem flat_get (xs:List O) (k j:Nat) (x:O) (hx:xs[k]? =some x) (hj:j < 9):(xs.flatMap ah)[k * 9+j]? =(ah x)[j]? :=by
 induction xs generalizing k with
 | nil=>simp at hx
 | cons a r ih=>
  rw[List.flatMap_cons]
  cases k with
  | zero=>
   simp at hx;subst hx;rw[List.getElem?_append_left (by rw[fI];omega)];simp
  | succ k=>
   simp at hx;rw[List.getElem?_append_right (by rw[fI];omega),fI,show(k+1) * 9+j -9=k * 9+j by omega];exact ih k hx
structure Xf (w:World) (gk ck n:Nat) (xs:List O) (Bx:Nat) (x:O) (Z:List O) (v:Value) (W:World):Prop where
 below:Below w.heap.size w W
 row:W.ownsRow w.heap.size 89 9 v Z.length (Z.flatMap ah)
 ks:W.ownsRow w.heap.size 89 9 (.slice (some ⟨gk,0,none⟩) n ck) n (xs.flatMap ah)
 box:Jr W Bx x
 ne1:v.ownBlock≠some gk
 ne2:v.ownBlock≠some Bx
theorem Xf.step {w W w1:World} {gk ck n Bx:Nat} {xs Z:List O} {x:O} {v v':Value} {o:Obj} (h:Xf w gk ck n xs Bx x Z v W)
  (hown':w1.ownsRow w.heap.size 89 9 v' (Z.length+1) (Z.flatMap ah++ah x)) (hg:(W.alloc o).grownBy w1 v.ownBlock) (hloc:v'.ownBlock=v.ownBlock∨v'.ownBlock=some (W.alloc o).heap.size):
  Xf w gk ck n xs Bx x (Z++[x]) v' w1:=by
 have hs:=h.below.size;have hBx:Bx < W.heap.size:=(Array.getElem?_eq_some_iff.1 (show W.heap[Bx]? =some _ from h.box)).1
 have iU:gk < W.heap.size:=by
  have h2:=h.ks.2
  rcases h2 with⟨h3,_⟩ | ⟨g,cap,cur,h3,_,h4,_⟩
  ·cases h3
  ·cases h3;exact(Array.getElem?_eq_some_iff.1 h4).1
 refine⟨(h.below.alloc hs _).grown hg (by simp;omega) (fun k e=> ?_),by simpa[List.flatMap_append] using hown',(h.ks.alloc _).kept hg (.inr (by simpa[Value.ownBlock] using fun e=>h.ne1 e.symm)),?_,?_,?_⟩
 ·rcases h.row.2 with⟨rfl,_⟩ | ⟨g,cap,cur,rfl,h3,_⟩
  ·simp[Value.ownBlock] at e
  ·simp[Value.ownBlock] at e;omega
 ·have h5:W.heap[Bx]? =some (.cells (ah x).toArray 89 (0,0)):=h.box;exact(hg.block Bx (by simp;omega) (fun e=>h.ne2 e.symm)).trans ((Below.heap_alloc W o Bx hBx).trans h5)
 ·rcases hloc with e | e
  ·rw[e];exact h.ne1
  ·rw[e];simp;omega
 ·rcases hloc with e | e
  ·rw[e];exact h.ne2
  ·rw[e];simp;omega
def Zk (xs L:List O) (k:Nat):List O:=(xs.take k).flatMap fun x=>List.replicate (L.count x) x
theorem Js (xs L:List O) (k:Nat) (x:O) (h:xs[k]? =some x):Zk xs L (k+1)=Zk xs L k++List.replicate (L.count x) x:=by
 unfold Zk;rw[List.take_add_one,h];simp[List.flatMap_append]
theorem M9 (xs L:List O) (hn:xs.Nodup) (hm:∀x,x∈xs↔x∈L) (y:O):(Zk xs L xs.length).count y=L.count y:=by
 unfold Zk;rw[List.take_length]
 have key:∀(zs:List O),zs.Nodup->(zs.flatMap fun x=>List.replicate (L.count x) x).count y=if y∈zs then L.count y else 0:=by
  intro zs
  induction zs with
  | nil=>simp
  | cons a r ih=>
   intro hnd;obtain⟨h1,h2⟩:=List.nodup_cons.1 hnd;rw[List.flatMap_cons,List.count_append,ih h2]
   by_cases e:y=a
   ·subst e;simp[h1]
   ·have :List.count y (List.replicate (L.count a) a)=0:=by
     rw[List.count_eq_zero];intro hh;exact e (List.eq_of_mem_replicate hh)
    rw[this];simp[e]
 rw[key xs hn]
 by_cases h:y∈xs
 ·simp[h]
 ·rw[if_neg h];exact(List.count_eq_zero.2 (fun h'=>h ((hm y).2 h'))).symm
theorem Jt (xs L:List O) (hn:xs.Nodup) (hm:∀x,x∈xs↔x∈L):(Zk xs L xs.length).Perm L:=List.perm_iff_count.2 (M9 xs L hn hm)
theorem Na (xs L:List O) (h:bJ xs):bJ (Zk xs L xs.length):=by
 unfold Zk bJ;rw[List.take_length,List.pairwise_flatMap];refine⟨fun a _=> ?_,h.imp fun {a b} hab=> ?_⟩
 ·rw[List.pairwise_replicate];exact .inr (by rw[(wI a a).2 rfl];omega)
 ·intro x hx y hy;rw[List.eq_of_mem_replicate hx,List.eq_of_mem_replicate hy];exact hab
theorem Xg (xs L:List O) (hn:xs.Nodup) (hm:∀x,x∈xs↔x∈L) (k:Nat):(Zk xs L k).length<=L.length:=by
 have h:=(Jt xs L hn hm).length_eq
 have :(Zk xs L k).length<=(Zk xs L xs.length).length:=by
  unfold Zk;rw[List.take_length];have :xs=xs.take k++xs.drop k:=(List.take_append_drop k xs).symm
  conv=>rhs;rw[this]
  rw[List.flatMap_append,List.length_append];omega
 omega
end
section
open Go.Proofs.Tryz Go.Joins Go.Maps Go.Shelf
variable {base n:Nat} {W:World}
theorem aL {w w':World} {e:TypeId} {size:Nat} {v:Value} {xs:List Value} (h:w.ownsRow base e size v n xs) (hb:Below w.heap.size w w'):w'.ownsRow base e size v n xs:=
 h.kept (row:=none) ⟨hb.os,hb.tape,hb.output,hb.size,fun k hk _=>hb.block k hk⟩ (by cases h':v.ownBlock with | none=>exact .inl rfl | some g=>exact .inr (by simp))
theorem bZ (g o:Nat):(⟨g,0,none⟩:Addr).add o=⟨g,o,none⟩:=by
 unfold Addr.add;split
 ·rename_i h;rw[h]
 ·simp
theorem nQ {gs ck:Nat} {xs:List O} (h:W.ownsRow base 89 9 (.slice (some ⟨gs,0,none⟩) n ck) n (xs.flatMap ah)) (k:Nat) (x:O) (hx:xs[k]? =some x):
  W.cell? ⟨gs,k * 9,none⟩=some (.int .i64 x.k)∧W.cell? ⟨gs,k * 9+1,none⟩=some (.int .i64 x.lk)∧W.cell? ⟨gs,k * 9+2,none⟩=some (.int .i64 x.lt)∧W.cell? ⟨gs,k * 9+3,none⟩=some (.int .i64 x.lv)∧W.cell? ⟨gs,k * 9+4,none⟩=some (.int .i64 x.rk)∧W.cell? ⟨gs,k * 9+5,none⟩=some (.int .i64 x.rt)∧W.cell? ⟨gs,k * 9+6,none⟩=some (.int .i64 x.rv)∧W.cell? ⟨gs,k * 9+7,none⟩=some (.bool x.hl)∧W.cell? ⟨gs,k * 9+8,none⟩=some (.bool x.hr):=by
 have key:=fun(j:Nat) (v:Value) (hj:j < 9) (hv:(ah x)[j]? =some v)=>h.cells (g:=gs) rfl (k * 9+j) v ((flat_get xs k j x hx hj).trans hv)
 simp only[bZ] at key;exact⟨key 0 _ (by omega) rfl,key 1 _ (by omega) rfl,key 2 _ (by omega) rfl,key 3 _ (by omega) rfl,key 4 _ (by omega) rfl,key 5 _ (by omega) rfl,key 6 _ (by omega) rfl,key 7 _ (by omega) rfl,key 8 _ (by omega) rfl⟩
theorem Np {b o m:Nat} {om:Option Nat} {L:List O} (h:aP W b o om m L) (x:O) (hx:x.wf):(Instr.lookup 101 (.map om) (vO x) false).run prog W= .ok (.int .i64 (L.count x)) W:=by
 rcases h.map with⟨rfl,rfl⟩ | ⟨bm,n,D,rfl,hn,hown,hcn⟩
 ·exact Maps.look_nil (w:=W) false keyed underlying101 (Dl _) (lK x hx)
 ·exact look hown hcn x hx
theorem RG (HS:ql) (b o m:Nat) (om:Option Nat) (L:List O) (w:World) (h:aP w b o om m L) (hm:m<=100000000) (hL:L.length<=1000000):
  Calls prog 68 #[.pointer (some ⟨b,o,none⟩)] w fun e w'=>∃v Z,e= .returned v∧Z.Perm L∧bJ Z∧w'.ownsRow w.heap.size 89 9 v Z.length (Z.flatMap ah)∧Below w.heap.size w w':=by
 obtain⟨i0,hi,hz0,hz1,hz2⟩:=info_parts xA;have hc:=h.cells;have HB:=hid h;have hlt:=h.lt;clear h;go_enter func68,ntmps68
 go_wp2_with (first
  | (refine wpList_make_own _ rfl _ _ 50 rfl w.heap.size 89 i0 zO 9 underlying50 hi hz0 hz1 .i64 .i64 _ L.length rfl rfl rfl (by rw[hz2];omega) (by unfold maxLen;omega) (Nat.le_refl _) ?_;intro w1 xB hg1;have hb1:Below w.heap.size w w1:=(Below.refl _ w).grown hg1 (Nat.le_refl _) (fun k e=>by cases e);have hc1:=(HB.out.below hb1).cells)
  | (go_at_call 121;refine((callsIn_wide (n:=1)).1 (keys_in Fence.wide 1 trivial rfl om _)).mono ?_;rintro e w2 ⟨rfl,rfl⟩)
  | fail)
 have hb2:Below w.heap.size w (w1.alloc (.cells #[.map om] 101)):=hb1.alloc hb1.size _;have hrow2:=xB.alloc (.cells #[.map om] 101);have hz1':=hb1.size
 have hgw1:w.heap.size < w1.heap.size:=by
  rcases xB.2 with⟨h3,_⟩ | ⟨g,cap,cur,h3,_,h4,_⟩
  ·cases h3
  ·cases h3;exact(Array.getElem?_eq_some_iff.1 h4).1
 refine(HS w1.heap.size b o m om L _ (HB.out.below hb2) hL (by simp) hm (by simp)).mono ?_;rintro e w3 ⟨v,xs,rfl,hnd,hmem,Gp,hxl,hks,hb3⟩;have Dn:Below w.heap.size w w3:=hb2.trans (hb3.mono (by simp;omega));have hrow3:w3.ownsRow w.heap.size 89 9 (.slice (some ⟨w.heap.size,0,none⟩) 0 L.length) 0 []:=aL hrow2 hb3;have HP:Hid ((Zk xs L xs.length).Perm L∧bJ (Zk xs L xs.length)):=⟨Jt xs L hnd hmem,Na xs L Gp⟩;have HZ:Hid (∀k,(Zk xs L k).length<=L.length):=Xg xs L hnd hmem
 have HW:Hid (∀x∈xs,x.wf):=fun x hx=>HB.out.wf x ((hmem x).1 hx)
 rcases ownsRow_forms hks with⟨rfl,h0⟩ | ⟨gs,ck,rfl⟩
 ·have hx0:xs=[]:=List.eq_nil_of_length_eq_zero h0;subst hx0;clear hks Gp hmem hnd;go_wp2;refine wp_loop_rounds 1 ?_;rw[rounds_succ];go_wp2;go_ret;exact⟨_,[],rfl,HP.out.1,HP.out.2,hrow3,Dn⟩
 ·have hgs:w.heap.size < gs:=by
   rcases hks.2 with⟨h3,_⟩ | ⟨g,cap,cur,h3,h5,h4,_⟩
   ·cases h3
   ·cases h3;simp at h5;omega
  have Nq:w3.ownsRow w.heap.size 89 9 (.slice (some ⟨gs,0,none⟩) xs.length ck) xs.length (xs.flatMap ah):=ownsRow_le hks (by simp;omega);clear hks Gp hmem hnd xB hrow2 hg1 hb1 hb2 hb3 hc1;have hz3:=Dn.size;have HK:=hid Nq;have HR:=hid hrow3;have HB3:=hid Dn;clear Nq hrow3 Dn;go_wp2
  go_loopg [3,18] xs.length (fun g v i wr=>∃k:Nat,k<=xs.length∧g=xs.length -k∧i= .int .i64 k∧Below w.heap.size w wr∧wr.ownsRow w.heap.size 89 9 v (Zk xs L k).length ((Zk xs L k).flatMap ah)∧wr.ownsRow w.heap.size 89 9 (.slice (some ⟨gs,0,none⟩) xs.length ck) xs.length (xs.flatMap ah)∧v.ownBlock≠some gs)
  case atStart=>
   exact⟨0,Nat.zero_le _,rfl,rfl,HB3.out,HR.out,HK.out,by simp[Value.ownBlock];omega⟩
  case round=>
   obtain⟨k,hk,xC,rfl,hB,hrow,hks,hne⟩:=hrel;have HG:=hid xC;clear xC;have Jw:=hid hB;have Bo:=hid hrow;have HKr:=hid hks;have HN:=hid hne
   by_cases hlt:k < xs.length
   ·obtain⟨x,hx⟩:∃x,xs[k]? =some x:=⟨_,List.getElem?_eq_getElem hlt⟩;have hq:=nQ hks k x hx;have hwf:x.wf:=HW.out x (List.mem_of_getElem? hx);have UC:=HB.out.below hB;have TZ:aP (wr.alloc (.cells (ah x).toArray 89)).drew b o om m L:=UC.below ((below_alloc1 _ _).drew);have hrun:=Np TZ x hwf;have hcb:=UC.cells;have RH:=hB.size
    have hblt:b < wr.heap.size:=by omega
    have h1:(0:Int)<=(k:Int):=by omega
    have h2:(k:Int) < (xs.length:Int):=by omega
    have HI:Hid (Xf w gs ck xs.length xs wr.heap.size x (Zk xs L k) u3 (wr.alloc (.cells (ah x).toArray 89)).drew):=
     ⟨(hB.alloc RH _).drew,hrow.alloc _,hks.alloc _,World.alloc_heap_new wr _,hne,fun e=>by
      rcases hrow.2 with⟨h3,_⟩ | ⟨g,cap,cur,h3,_,h4,_⟩
      ·rw[h3] at e;cases e
      ·rw[h3] at e;have :=(Array.getElem?_eq_some_iff.1 h4).1
       simp[Value.ownBlock] at e;omega⟩
    simp only[vO,ah] at hrun HI;clear hB hrow hks hne UC TZ;go_wp2
    go_region
    all_goals (try go_wp2)
    have hcl:(L.count x:Int)<=1000000:=by have :L.count x<=L.length:=List.count_le_length;omega
    clear hrun hq hcb hblt;generalize hcx:L.count x=c at hcl;have HC:=hid hcx;clear hcx
    have HZk:Hid ((Zk xs L k).length+c<=1000000):=by
     have e1:=HZ.out (k+1);rw[Js xs L k x hx,List.length_append,List.length_replicate,HC.out] at e1;exact Nat.le_trans e1 hL
    clear RH Jw Bo HKr HN;revert HI;generalize (wr.alloc (.cells #[.int .i64 x.k,.int .i64 x.lk,.int .i64 x.lt,.int .i64 x.lv,.int .i64 x.rk,.int .i64 x.rt,.int .i64 x.rv,.bool x.hl,.bool x.hr] 89)).drew=w5;generalize wr.heap.size=Bx;intro HI
    go_loopg [3,28] c (fun g v j wi=>∃jn:Nat,jn<=c∧g=c -jn∧j= .int .i64 jn∧Xf w gs ck xs.length xs Bx x (Zk xs L k++List.replicate jn x) v wi)
    case atStart=>exact⟨0,Nat.zero_le _,rfl,rfl,by simpa using HI.out⟩
    case round=>
     obtain⟨jn,hj,hg3,rfl,hI⟩:=hrel;have Zg:Hid _:=hg3;clear hg3;have Xj:=hid hI
     by_cases hjl:jn < c
     ·have hbx:=hI.box.cells
      have abU:(jn:Int) < (c:Int):=by omega
      have hlen:(Zk xs L k++List.replicate jn x).length<=1000000:=by have :=HZk.out;rw[List.length_append,List.length_replicate];omega
      have Ua:=hI.row;have hszI:=hI.below.size;have HR4:=hid Ua;clear hI Ua
      go_wp2_with (first | (at_builtin;refine wpList_append_own_at _ rfl _ _ 50 rfl w.heap.size 89 i0 zO 9 64 underlying50 hi hz0 hz1 hz2 rfl (by decide) _ _ _ rfl (HR4.out.alloc _) ⟨wr.heap.size,0,none⟩ 1 1 (ah x) rfl rfl (World.news_of_block (heap_alloc_new wr _)) (o7 x) (by unfold maxLen;omega) (by omega) (by simp;omega) ?_;intro v' w6 hown6 Gq _ qa) | fail)
      go_roundg (c -(jn+1))
      case measure=>have :=Zg.out;omega
      case rel=>exact⟨jn+1,by omega,rfl,by go_num,by rw[List.replicate_succ',<-List.append_assoc];exact Xj.out.step hown6 Gq qa⟩
     ·have e1:jn=c:=by omega
      have hge:¬((jn:Int) < (c:Int)):=by omega
      clear hI;go_wp2
      go_roundg (xs.length -(k+1))
      case measure=>have :=HG.out;omega
      case rel=>
       have hz:=Xj.out;rw[e1,<-HC.out,<-Js xs L k x hx] at hz;exact⟨k+1,by omega,rfl,by go_num,hz.below,hz.row,hz.ks,hz.ne1⟩
   ·clear hB hrow hks hne
    have e1:k=xs.length:=by omega
    have hge:¬((k:Int) < (xs.length:Int)):=by omega
    go_wp2;go_ret;exact⟨_,rfl,Zk xs L xs.length,HP.out.1,HP.out.2,by rw[<-e1];exact Bo.out,Jw.out⟩
end
end Go.Proofs.YthfpipieboophaaGreatDoor
