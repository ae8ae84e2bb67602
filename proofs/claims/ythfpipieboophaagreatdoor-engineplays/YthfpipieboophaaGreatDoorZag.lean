import Derived.Shelf.Spec.SlicesInsert
import Derived.Lib.AppendZerosOnto
import Derived.Laws.NewBlocks
import Derived.Deep.DeepAppendWide
import Derived.Laws.BitsLemmas
import Derived.Test.YthfpipieboophaaGreatDoorZaf
namespace Go.Proofs.YthfpipieboophaaGreatDoor
set_option maxRecDepth 100000
set_option maxHeartbeats 40000000
open Go.Joins Go.Shelf Go.RowKit
section
open Go.Proofs.Tryz
variable {W:World} {base g n cap size:Nat} {e:TypeId} {xs:List Value}
theorem nk {P:Program} (w:World) (dT sT ty elem:TypeId) (k:Nat) (b o dLen dCap:Nat) (a:Addr) (sLen sCap:Nat) (cs:List Value)
  (hu:P.underlying dT=some (.slice elem)) (hs:(P.info? elem).map (·.size)=some k) (hn:cs.length=Nat.min sLen dLen * k)
  (hsrc:∀j v,cs[j]? =some v->w.cell? (a.add j)=some v) (hc:∀j,j < cs.length->(w.cell? ⟨b,o+j,none⟩).isSome=true) (hf:∀j,j < cs.length->w.frozen? ⟨b,o+j,none⟩=false) (h1:∀v∈cs,v.oneCell'=true):
  (Builtin.copy_ #[dT,sT] ty #[.slice (some ⟨b,o,none⟩) dLen dCap,.slice (some a) sLen sCap]).run P w= .ok (goInt (Nat.min sLen dLen)) (w.setCells b o cs):=by
 have hl:=run_loadCells_list (P:=P) w a cs hsrc;have hst:=run_storeCells_cells (P:=P) b o cs 0 w (by simpa using hc) (by simpa using hf) h1
 cases hq:P.info? elem with
 | none=>simp[hq] at hs
 | some i=>
  have hi:i.size=k:=by simpa[hq] using hs
  rw[hn] at hl;simp only[Nat.add_zero] at hst;simp[Builtin.copy_,run_underlying hu,Builtin.lenOf,Builtin.firstCells,sizeOf,typeInfo,hq,hi,hl,hst]
theorem xq:(prog.info? 130).map (·.size)=some 4:=by kernel_rfl
theorem xu (vs:List Value):∀(xs:List Value) (o:Nat),o+vs.length<=xs.length->ni xs o vs=xs.take o++vs++xs.drop (o+vs.length):=by
 induction vs with
 | nil=>intro xs o h;simp[ni]
 | cons v r ih=>
  intro xs o h
  have h':o+1+r.length<=(xs.set o v).length:=by simp at h⊢;omega
  rw[ni,ih (xs.set o v) (o+1) h']
  have e1:(xs.set o v).take (o+1)=xs.take o++[v]:=by
   rw[List.take_add_one,List.take_set_of_le (Nat.le_refl _),List.getElem?_set_self (by simp at h;omega)];rfl
  have e2:(xs.set o v).drop (o+1+r.length)=xs.drop (o+(v::r).length):=by
   rw[List.drop_set_of_lt (by omega)];congr 1;simp;omega
  rw[e1,e2];simp
def bT (R:List D) (i:Nat) (x:D):List D:=R.take i++x::R.drop i
theorem xK (R:List D) (i:Nat) (x:D):(bT R i x).length=R.length+1:=by simp[bT];omega
theorem za (M:List D) (i:Nat):(M.drop i).flatMap ak=(M.flatMap ak).drop (i * 4):=by
 induction M generalizing i with
 | nil=>simp
 | cons a r ih=>
  cases i with
  | zero=>simp
  | succ i=>
   rw[List.drop_succ_cons,List.flatMap_cons,ih,List.drop_append,bS,List.drop_eq_nil_of_le (show(ak a).length<=(i+1) * 4 by rw[bS];omega),List.nil_append,show(i+1) * 4 -4=i * 4 by omega]
theorem MO (R:List D) (i:Nat) (x:D) (hi:i<=R.length) (xs:List Value) (hl:xs.length=(R.length+1) * 4) (ht:xs.take (R.length * 4)=R.flatMap ak):
  ni (ni xs ((i+1) * 4) ((R.drop i).flatMap ak)) (i * 4) (ak x)=(bT R i x).flatMap ak:=by
 have hd:((R.drop i).flatMap ak).length=(R.length -i) * 4:=by rw[gG,List.length_drop]
 have h1:ni xs ((i+1) * 4) ((R.drop i).flatMap ak)=xs.take ((i+1) * 4)++(R.drop i).flatMap ak:=by
  rw[xu _ _ _ (by rw[hd,hl];omega),hd,List.drop_eq_nil_of_le (show xs.length<=(i+1) * 4+(R.length -i) * 4 by rw[hl];omega),List.append_nil]
 have hlt:(xs.take ((i+1) * 4)).length=(i+1) * 4:=by rw[List.length_take,hl];omega
 rw[h1,xu _ _ _ (by rw[bS,List.length_append,hlt];omega),bS]
 have e1:(xs.take ((i+1) * 4)++(R.drop i).flatMap ak).take (i * 4)=(R.take i).flatMap ak:=by
  rw[List.take_append_of_le_length (by rw[hlt];omega),List.take_take,Nat.min_eq_left (by omega),qU,<-ht,List.take_take,Nat.min_eq_left (by omega)]
 have e2:(xs.take ((i+1) * 4)++(R.drop i).flatMap ak).drop (i * 4+4)=(R.drop i).flatMap ak:=by
  rw[show i * 4+4=(i+1) * 4 by omega,List.drop_append_of_le_length (by rw[hlt];omega),List.drop_eq_nil_of_le (by rw[hlt];omega),List.nil_append]
 rw[e1,e2];simp[bT]
theorem Jf (h:W.ownsRow base e size (.slice (some ⟨g,0,none⟩) n cap) n xs) (m:Nat) (hm:m<=cap) (hnm:n<=m):
  ∃ys,W.ownsRow base e size (.slice (some ⟨g,0,none⟩) m cap) m ys∧ys.take (n * size)=xs:=by
 rcases h.2 with⟨h1,_⟩ | ⟨g',cap',cur,h1,hb,hg,h2,h3,h4,h5⟩
 ·cases h1
 ·cases h1;have hx:m * size<=cap * size:=Nat.mul_le_mul_right _ hm;have hy:n * size<=m * size:=Nat.mul_le_mul_right _ hnm;exact⟨cur.toList.take (m * size),⟨by rw[List.length_take,Array.length_toList,h4];omega,.inr ⟨g,cap,cur,rfl,hb,hg,hm,h3,h4,rfl⟩⟩,by rw[List.take_take,Nat.min_eq_left hy,h5]⟩
theorem uT (h:W.ownsRow base e size (.slice (some ⟨g,0,none⟩) n cap) n xs):∃cur,W.heap[g]? =some (.cells cur e (0,0))∧cur.size=cap * size:=by
 rcases h.2 with⟨h1,_⟩ | ⟨g',cap',cur,h1,hb,hg,h2,h3,h4,h5⟩
 ·cases h1
 ·cases h1;exact⟨cur,hg,h4⟩
theorem Jg (base bv:Nat) (vs:Value) (R:List D) (x:D) (w:World) (h:w.ownsRow base 130 4 vs R.length (R.flatMap ak)) (hR:R.length<=100000) (hb:base<=w.heap.size)
  (hbv:w.heap[bv]? =some (.cells #[.int .i64 x.k,.int .i64 x.t,.int .i64 x.v,.int .i64 x.n] 130)):
  Calls prog 173 #[vs,.int .i64 R.length,.slice (some ⟨bv,0,none⟩) 1 1] w fun e w'=>∃v',e= .returned v'∧w'.ownsRow base 130 4 v' (R.length+1) ((bT R R.length x).flatMap ak)∧w.grownBy w' vs.ownBlock∧(v'.ownBlock=vs.ownBlock∨v'.ownBlock=some w.heap.size):=by
 obtain⟨i0,hi,hz0,hz1,hz2⟩:=info_parts xm;have HO:=hid h;have HW:Hid (∀j u,(ak x)[j]? =some u->w.cell? ((⟨bv,0,none⟩:Addr).add j)=some u):=World.news_of_block hbv
 have i1:(R.length:Int)<=100000:=by omega
 have i2:(0:Int)<=(R.length:Int):=by omega
 rcases ownsRow_forms h with⟨rfl,h0⟩ | ⟨gs,ck,rfl⟩
 ·obtain rfl:R=[]:=List.eq_nil_of_length_eq_zero h0;clear h;go_enter func173,ntmps173
  go_wp2_with (first
   | (refine wpList_append_lies _ rfl _ _ _ rfl base 130 i0 zD 4 32 underlying67 hi hz0 hz1 hz2 rfl (by omega) (.slice none 0 0) 0 [] rfl HO.out ⟨bv,0,none⟩ 1 1 (ak x) rfl rfl HW.out (mo x) (by omega) (by unfold maxLen;omega) (by omega) hb _ rfl ?_;intro g1 oL w1 hown1 hgrow1 wF hlt1)
   | fail)
  go_ret;exact⟨_,rfl,by simpa[bT] using hown1,hgrow1,wF.elim (fun e=>Or.inl e.symm) (fun e=>Or.inr (by rw[e];rfl))⟩
 ·have hck:R.length<=ck:=by
   rcases h.2 with⟨h1,_⟩ | ⟨g',cap',cur,h1,_,_,h2,_⟩
   ·cases h1
   ·cases h1;exact h2
  obtain⟨A,hA⟩:∃A:Addr,(if ck=R.length then some (⟨gs,0,none⟩:Addr) else some ⟨gs,R.length * 4,none⟩)=some A:=by
   by_cases e:ck=R.length
   ·exact⟨⟨gs,0,none⟩,by simp[e]⟩
   ·exact⟨⟨gs,R.length * 4,none⟩,by simp[e]⟩
  clear h;go_enter func173,ntmps173
  go_wp2_with (first
   | (refine wpList_append_lies _ rfl _ _ _ rfl base 130 i0 zD 4 32 underlying67 hi hz0 hz1 hz2 rfl (by omega) (.slice (some ⟨gs,0,none⟩) R.length ck) R.length (R.flatMap ak) rfl HO.out ⟨bv,0,none⟩ 1 1 (ak x) rfl rfl HW.out (mo x) (by omega) (by unfold maxLen;omega) (by omega) hb _ rfl ?_;intro g1 oL w1 hown1 hgrow1 wF hlt1)
   | fail)
  go_ret;exact⟨_,rfl,by simpa[bT,List.flatMap_append] using hown1,hgrow1,wF.elim (fun e=>Or.inl e.symm) (fun e=>Or.inr (by rw[e];rfl))⟩
end
section
open Go.Proofs.Tryz
theorem sizeOf100 (w:World):(Go.sizeOf 130).run prog w= .ok 4 w:=by kernel_rfl
theorem FY (base bv gs ck i:Nat) (R:List D) (x:D) (w:World) (h:w.ownsRow base 130 4 (.slice (some ⟨gs,0,none⟩) R.length ck) R.length (R.flatMap ak)) (hR:R.length<=100000) (hi:i < R.length) (hroom:R.length+1<=ck)
  (hbv:w.heap[bv]? =some (.cells #[.int .i64 x.k,.int .i64 x.t,.int .i64 x.v,.int .i64 x.n] 130)) (hne:bv≠gs):
  Calls prog 173 #[.slice (some ⟨gs,0,none⟩) R.length ck,.int .i64 i,.slice (some ⟨bv,0,none⟩) 1 1] w fun e w'=>e= .returned (.slice (some ⟨gs,0,none⟩) (R.length+1) ck)∧w'.ownsRow base 130 4 (.slice (some ⟨gs,0,none⟩) (R.length+1) ck) (R.length+1) ((bT R i x).flatMap ak)∧w.grownBy w' (some gs):=by
 obtain⟨cur,WG,hcs⟩:=uT h
 have hck:ck<=maxLen:=by
  rcases h.2 with⟨h1,_⟩ | ⟨g',cap',cur',h1,_,_,_,h3,_⟩
  ·cases h1
  ·cases h1;exact h3
 have Vt:(ck:Int)<=9223372036854775807:=by unfold maxLen at hck;omega
 obtain⟨ys,hys,Ru⟩:=Jf h (R.length+1) hroom (by omega)
 have hcell:∀j u,(R.flatMap ak)[j]? =some u->w.cell? ⟨gs,j,none⟩=some u:=fun j u hu=>by
  have :=h.cells (g:=gs) rfl j u hu
  rwa [bZ] at this
 have hsp:∀j,j < (R.length+1) * 4->(w.cell? ⟨gs,j,none⟩).isSome=true∧w.frozen? ⟨gs,j,none⟩=false:=fun j hj=>by
  have hl:j < ys.length:=by rw[hys.1];exact hj
  have hc:=hys.cells (g:=gs) rfl j _ (List.getElem?_eq_getElem hl);rw[bZ] at hc;exact⟨by rw[hc];rfl,unfrozen_of_block WG j⟩
 have hov:∀lb cb,(callFunc 245 #[.slice (some ⟨bv,0,none⟩) 1 1,.slice (some ⟨gs,(i+1) * 4,none⟩) lb cb]).run prog w= .ok (.value (.bool false)) w:=fun lb cb=>by
  rw[run_callFunc_extern func245 (by kernel_rfl) (by kernel_rfl) (by kernel_rfl) (e:=Extern.SlicesOverlaps.overlaps #[67,67] #[4]) (by kernel_rfl),
   Lib.run_overlaps_apart w 67 4 130 underlying67 4 sizeOf100 ⟨bv,0,none⟩ ⟨gs,(i+1) * 4,none⟩ 1 1 lb cb hne 130 130 4 (ck * 4) (by simp[World.shape?,hbv]) (by simp[World.shape?,WG,hcs]) (by omega) (unfrozen_of_block hbv 0) (unfrozen_of_block hbv 4)]
  rfl
 have hdl:((R.drop i).flatMap ak).length=(R.length -i) * 4:=by rw[gG,List.length_drop]
 have hcp1:∀ty dc sc,(Builtin.copy_ #[67,67] ty #[.slice (some ⟨gs,(i+1) * 4,none⟩) (R.length -i) dc,.slice (some ⟨gs,i * 4,none⟩) (R.length+1 -i) sc]).run prog w.drew= .ok (goInt (Nat.min (R.length+1 -i) (R.length -i))) (w.drew.setCells gs ((i+1) * 4) ((R.drop i).flatMap ak)):=fun ty dc sc=>
  nk w.drew _ _ ty 130 4 gs ((i+1) * 4) (R.length -i) dc ⟨gs,i * 4,none⟩ (R.length+1 -i) sc ((R.drop i).flatMap ak) underlying67 xq (by rw[hdl];simp only[Nat.min_def];split <;>omega)
   (fun j v hj=>by rw[Addr.add_lit];exact hcell (i * 4+j) v (by rwa [za,List.getElem?_drop] at hj))
   (fun j hj=>(hsp _ (by rw[hdl] at hj;omega)).1) (fun j hj=>(hsp _ (by rw[hdl] at hj;omega)).2) (uQ _)
 obtain⟨W1,hW1⟩:∃W1,W1=w.drew.setCells gs ((i+1) * 4) ((R.drop i).flatMap ak):=⟨_,rfl⟩
 have Rv:W1.ownsRow base 130 4 (.slice (some ⟨gs,0,none⟩) (R.length+1) ck) (R.length+1) (ni ys ((i+1) * 4) ((R.drop i).flatMap ak)):=by rw[hW1];exact gH _ _ hys.drew
 have hG1:w.grownBy W1 (some gs):=by rw[hW1];exact kV _ _ ⟨rfl,rfl,rfl,Nat.le_refl _,fun _ _ _=>rfl⟩
 have hsp1:∀j,j < (R.length+1) * 4->(W1.cell? ⟨gs,j,none⟩).isSome=true∧W1.frozen? ⟨gs,j,none⟩=false:=fun j hj=>by
  obtain⟨c1,hc1,_⟩:=uT Rv
  have hl:j < (ni ys ((i+1) * 4) ((R.drop i).flatMap ak)).length:=by rw[Rv.1];exact hj
  have hc:=Rv.cells (g:=gs) rfl j _ (List.getElem?_eq_getElem hl);rw[bZ] at hc;exact⟨by rw[hc];rfl,unfrozen_of_block hc1 j⟩
 have QY:W1.heap[bv]? =some (.cells #[.int .i64 x.k,.int .i64 x.t,.int .i64 x.v,.int .i64 x.n] 130):=(hG1.block bv (Array.getElem?_eq_some_iff.1 hbv).1 (fun e=>hne (by cases e;rfl))).trans hbv
 have hcp2:∀ty dc,(Builtin.copy_ #[67,67] ty #[.slice (some ⟨gs,i * 4,none⟩) (R.length+1 -i) dc,.slice (some ⟨bv,0,none⟩) 1 1]).run prog W1= .ok (goInt (Nat.min 1 (R.length+1 -i))) (W1.setCells gs (i * 4) (ak x)):=fun ty dc=>
  nk W1 _ _ ty 130 4 gs (i * 4) (R.length+1 -i) dc ⟨bv,0,none⟩ 1 1 (ak x) underlying67 xq (by rw[bS];simp only[Nat.min_def];split <;>omega)
   (World.news_of_block QY) (fun j hj=>(hsp1 _ (by rw[bS] at hj;omega)).1) (fun j hj=>(hsp1 _ (by rw[bS] at hj;omega)).2) (mo x)
 have HE:Hid ((W1.setCells gs (i * 4) (ak x)).ownsRow base 130 4 (.slice (some ⟨gs,0,none⟩) (R.length+1) ck) (R.length+1) ((bT R i x).flatMap ak)∧w.grownBy (W1.setCells gs (i * 4) (ak x)) (some gs)):=by
  refine⟨?_,kV _ _ hG1⟩;have :=gH (ak x) (i * 4) Rv;rw[MO R i x (by omega) ys hys.1 Ru] at this;exact this
 rw[<-hW1] at hcp1
 have i1:(0:Int)<=(i:Int):=by omega
 have i2:(i:Int)<=(R.length:Int):=by omega
 have i3:(R.length:Int)<=100000:=by omega
 have i4:((i:Int)==(R.length:Int))=false:=by rw[beq_eq_false_iff_ne];omega
 have i4':¬((i:Int)=(R.length:Int)):=by omega
 have i5:¬((ck:Int) < (R.length:Int)+1):=by omega
 have i6:(R.length:Int)+1<=(ck:Int):=by omega
 have hw1:IntKind.i64.wrap ((i:Int)+1)=(i:Int)+1:=by rw[IntKind.wrap_i64];omega
 have htn:((i:Int)+1).toNat=i+1:=by omega
 have htl:((R.length:Int)+1).toNat=R.length+1:=by omega
 have hb1:(0:Int)<=(i:Int)+1:=by omega
 have hb2:(i:Int)+1<=(R.length:Int)+1:=by omega
 have hb3:(i:Int)<=(R.length:Int)+1:=by omega
 have c1:¬(ck=i+1):=by omega
 have c2:¬(ck=i):=by omega
 have c3:i<=R.length:=by omega
 clear hsp hsp1 hcell Rv hG1 QY hys Ru WG hW1 h hbv;go_enter func173,ntmps173
 go_wp2_with (simp only[hov])
 go_region_law (refine step_copy_runI rfl _ _ 67 67 rfl _ _ (by simp[Act.eval,Act.put]) (by simp[Act.eval,Act.put]) (hcp1 _ _ _) ?_)
 all_goals go_wp2_with (first | (refine wpList_copy_runI _ rfl _ _ 67 67 rfl _ _ rfl rfl (hcp2 _ _) ?_) | fail)
 all_goals go_ret
 all_goals exact⟨rfl,HE.out.1,HE.out.2⟩
end
section
open Go.Proofs.Tryz Go.Lib
theorem Jh (R:List D) (i:Nat) (x:D) (hi:i<=R.length) (zs:List Value) (hl:zs.length=(R.length+1 -i) * 4):
  ni (ni ((R.take i).flatMap ak++zs) (i * 4) (ak x)) ((i+1) * 4) ((R.drop i).flatMap ak)=(bT R i x).flatMap ak:=by
 have hd:((R.drop i).flatMap ak).length=(R.length -i) * 4:=by rw[gG,List.length_drop]
 have ht:((R.take i).flatMap ak).length=i * 4:=by rw[gG,List.length_take,Nat.min_eq_left hi]
 have h1:ni ((R.take i).flatMap ak++zs) (i * 4) (ak x)=(R.take i).flatMap ak++ak x++zs.drop 4:=by
  rw[xu _ _ _ (by rw[bS,List.length_append,ht,hl];omega),bS,List.take_append_of_le_length (by rw[ht];exact Nat.le_refl _),List.take_of_length_le (by rw[ht];exact Nat.le_refl _),List.drop_append,ht,List.drop_eq_nil_of_le (show((R.take i).flatMap ak).length<=i * 4+4 by rw[ht];omega),List.nil_append,show i * 4+4 -i * 4=4 by omega]
 have ha:((R.take i).flatMap ak++ak x).length=(i+1) * 4:=by rw[List.length_append,ht,bS];omega
 rw[h1,xu _ _ _ (by rw[hd,List.length_append,ha,List.length_drop,hl];omega),List.take_append_of_le_length (by rw[ha];exact Nat.le_refl _),List.take_of_length_le (by rw[ha];exact Nat.le_refl _),List.drop_eq_nil_of_le (show((R.take i).flatMap ak++ak x++zs.drop 4).length<=(i+1) * 4+((R.drop i).flatMap ak).length by rw[List.length_append,ha,List.length_drop,hl,hd];omega),List.append_nil];simp[bT,List.append_assoc]
theorem FZ (base bv gs ck i:Nat) (R:List D) (x:D) (w:World) (h:w.ownsRow base 130 4 (.slice (some ⟨gs,0,none⟩) R.length ck) R.length (R.flatMap ak)) (hR:R.length<=100000) (hi:i < R.length) (hroom:ck < R.length+1) (hbase:base<=w.heap.size)
  (hbv:w.heap[bv]? =some (.cells #[.int .i64 x.k,.int .i64 x.t,.int .i64 x.v,.int .i64 x.n] 130)):
  Calls prog 173 #[.slice (some ⟨gs,0,none⟩) R.length ck,.int .i64 i,.slice (some ⟨bv,0,none⟩) 1 1] w fun e w'=>∃G,e= .returned (.slice (some ⟨w.heap.size,0,none⟩) (R.length+1) G)∧w'.ownsRow base 130 4 (.slice (some ⟨w.heap.size,0,none⟩) (R.length+1) G) (R.length+1) ((bT R i x).flatMap ak)∧w.grownBy w' none:=by
 obtain⟨i0,hi0,hz0,hzs,hzb⟩:=info_parts xm
 have hck:R.length<=ck:=by
  rcases h.2 with⟨h1,_⟩ | ⟨g',cap',cur',h1,_,_,h2,_⟩
  ·cases h1
  ·cases h1;exact h2
 have hgs:gs < w.heap.size:=(h.lt gs rfl).2
 have hcell:∀j u,(R.flatMap ak)[j]? =some u->w.cell? ⟨gs,j,none⟩=some u:=fun j u hu=>by
  have :=h.cells (g:=gs) rfl j u hu
  rwa [bZ] at this
 have hkk:(R.length:Int)+1 -(i:Int)=((R.length+1 -i:Nat):Int):=by omega
 have hik:i+(R.length+1 -i)=R.length+1:=by omega
 have hold:(Builtin.firstCells i0.size i (.slice (some ⟨gs,0,none⟩) i ck)).run prog w.drew= .ok ((R.take i).flatMap ak).toArray w.drew:=by
  rw[hzs]
  exact run_firstCells_some w.drew 4 i ⟨gs,0,none⟩ i ck ((R.take i).flatMap ak) (by rw[gG,List.length_take];congr 1;omega) (fun j v hj=>by
   rw[bZ];rw[qU] at hj;have hj2:=(List.getElem?_eq_some_iff.1 hj).1;rw[List.length_take] at hj2;rw[List.getElem?_take_of_lt (by omega)] at hj
   exact hcell j v hj)
 obtain⟨G,hG⟩:∃G,G=grownCap w (R.length+1) ck 130:=⟨_,rfl⟩;obtain⟨W1,hW1⟩:∃W1,W1=w.drew.alloc (.cells (((R.take i).flatMap ak).toArray++Builtin.zeroCells zD.cells (R.length+1 -i)++Builtin.zeroCells zD.cells (G -(R.length+1))) 130):=⟨_,rfl⟩
 have hrz:∀ty,(Builtin.append_ #[67,3] ty #[.slice (some ⟨gs,0,none⟩) i ck,.int .i64 ((R.length:Int)+1 -(i:Int))]).run prog w= .ok (.slice (some ⟨w.heap.size,0,none⟩) (R.length+1) G) W1:=fun ty=>by
  have h:=Lib.run_append_grow_zeros w 67 3 ty 130 i0 zD .i64 .i64 underlying67 underlying3 hi0 hz0 (some ⟨gs,0,none⟩) i ck ((R.take i).flatMap ak) hold (R.length+1 -i) (by omega) (by rw[hzs];omega) (by omega) (by omega) (by rw[hzb];omega) (by rw[hzb,hik];exact growslice_fits_wide hroom (by omega));rw[hik] at h;rw[hkk,hW1,hG];exact h
 have hGn:R.length+1<=G:=by rw[hG];exact grownCap_ge w _ _ _
 have hGm:G<=maxLen:=by rw[hG];exact grownCap_le_maxLen w (R.length+1) ck 130 (by unfold maxLen;omega)
 have hzl:=C8 (R.length+1 -i)
 have Rv:W1.ownsRow base 130 4 (.slice (some ⟨w.heap.size,0,none⟩) (R.length+1) G) (R.length+1) ((R.take i).flatMap ak++(Builtin.zeroCells zD.cells (R.length+1 -i)).toList):=by
  have ht:((R.take i).flatMap ak).length=i * 4:=by rw[gG,List.length_take,Nat.min_eq_left (by omega)]
  refine⟨by rw[List.length_append,ht,hzl];omega,.inr ⟨w.heap.size,G,_,rfl,hbase,by rw[hW1];exact heap_alloc_new w.drew _,hGn,hGm,?_,?_⟩⟩
  ·have z1:(Builtin.zeroCells zD.cells (R.length+1 -i)).size=(R.length+1 -i) * 4:=by rw[<-Array.length_toList];exact hzl
   have z2:(Builtin.zeroCells zD.cells (G -(R.length+1))).size=(G -(R.length+1)) * 4:=by rw[<-Array.length_toList];exact C8 _
   rw[Array.size_append,Array.size_append,List.size_toArray,ht,z1,z2];omega
  ·have hA:((R.take i).flatMap ak++(Builtin.zeroCells zD.cells (R.length+1 -i)).toList).length=(R.length+1) * 4:=by rw[List.length_append,ht,hzl];omega
   rw[Array.toList_append,Array.toList_append,List.toList_toArray,List.take_append_of_le_length (by rw[hA];exact Nat.le_refl _),List.take_of_length_le (by rw[hA];exact Nat.le_refl _)]
 have hG1:w.grownBy W1 none:=by rw[hW1];exact⟨rfl,rfl,rfl,by simp,fun k hk _=>Below.heap_alloc _ _ _ hk⟩
 have there:∀{W:World} {xs:List Value},W.ownsRow base 130 4 (.slice (some ⟨w.heap.size,0,none⟩) (R.length+1) G) (R.length+1) xs->∀j,j < (R.length+1) * 4->(W.cell? ⟨w.heap.size,j,none⟩).isSome=true∧W.frozen? ⟨w.heap.size,j,none⟩=false:=fun {W xs} hO j hj=>by
  obtain⟨c1,hc1,_⟩:=uT hO
  have hl:j < xs.length:=by rw[hO.1];exact hj
  have hc:=hO.cells (g:=w.heap.size) rfl j _ (List.getElem?_eq_getElem hl);rw[bZ] at hc;exact⟨by rw[hc];rfl,unfrozen_of_block hc1 j⟩
 have hbw:bv < w.heap.size:=(Array.getElem?_eq_some_iff.1 hbv).1;have QY:W1.heap[bv]? =some (.cells #[.int .i64 x.k,.int .i64 x.t,.int .i64 x.v,.int .i64 x.n] 130):=(hG1.block bv hbw (by simp)).trans hbv;obtain⟨W2,hW2⟩:∃W2,W2=W1.setCells w.heap.size (i * 4) (ak x):=⟨_,rfl⟩
 have hcpA:∀ty dc,(Builtin.copy_ #[67,67] ty #[.slice (some ⟨w.heap.size,i * 4,none⟩) (R.length+1 -i) dc,.slice (some ⟨bv,0,none⟩) 1 1]).run prog W1= .ok (goInt (Nat.min 1 (R.length+1 -i))) W2:=fun ty dc=>by
  rw[hW2]
  exact nk W1 _ _ ty 130 4 w.heap.size (i * 4) (R.length+1 -i) dc ⟨bv,0,none⟩ 1 1 (ak x) underlying67 xq (by rw[bS];simp only[Nat.min_def];split <;>omega)
   (World.news_of_block QY) (fun j hj=>(there Rv _ (by rw[bS] at hj;omega)).1) (fun j hj=>(there Rv _ (by rw[bS] at hj;omega)).2) (mo x)
 have hO2:W2.ownsRow base 130 4 (.slice (some ⟨w.heap.size,0,none⟩) (R.length+1) G) (R.length+1) (ni ((R.take i).flatMap ak++(Builtin.zeroCells zD.cells (R.length+1 -i)).toList) (i * 4) (ak x)):=by rw[hW2];exact gH _ _ Rv
 have hG2:W1.grownBy W2 (some w.heap.size):=by rw[hW2];exact kV _ _ ⟨rfl,rfl,rfl,Nat.le_refl _,fun _ _ _=>rfl⟩
 have hdl:((R.drop i).flatMap ak).length=(R.length -i) * 4:=by rw[gG,List.length_drop]
 have QX:W2.heap[gs]? =w.heap[gs]? :=(hG2.block gs (Nat.lt_of_lt_of_le hgs hG1.size) (by simp;omega)).trans (hG1.block gs hgs (by simp));obtain⟨W3,hW3⟩:∃W3,W3=W2.drew.setCells w.heap.size ((i+1) * 4) ((R.drop i).flatMap ak):=⟨_,rfl⟩
 have hcpB:∀ty dc sc,(Builtin.copy_ #[67,67] ty #[.slice (some ⟨w.heap.size,(i+1) * 4,none⟩) (R.length -i) dc,.slice (some ⟨gs,i * 4,none⟩) (R.length -i) sc]).run prog W2.drew= .ok (goInt (Nat.min (R.length -i) (R.length -i))) W3:=fun ty dc sc=>by
  rw[hW3]
  exact nk W2.drew _ _ ty 130 4 w.heap.size ((i+1) * 4) (R.length -i) dc ⟨gs,i * 4,none⟩ (R.length -i) sc ((R.drop i).flatMap ak) underlying67 xq (by rw[hdl];simp only[Nat.min_def];split <;>omega)
   (fun j v hj=>by
    rw[Addr.add_lit];have :=hcell (i * 4+j) v (by rwa [za,List.getElem?_drop] at hj);rw[<-this]
    exact World.cell?_of_block QX)
   (fun j hj=>(there hO2 _ (by rw[hdl] at hj;omega)).1) (fun j hj=>(there hO2 _ (by rw[hdl] at hj;omega)).2) (uQ _)
 have HE:Hid (W3.ownsRow base 130 4 (.slice (some ⟨w.heap.size,0,none⟩) (R.length+1) G) (R.length+1) ((bT R i x).flatMap ak)∧w.grownBy W3 none):=by
  have h3:=gH ((R.drop i).flatMap ak) ((i+1) * 4) hO2.drew;rw[Jh R i x (by omega) _ hzl] at h3
  have hg3:W1.grownBy W3 (some w.heap.size):=by rw[hW3];exact kV _ _ (hG2.trans ⟨rfl,rfl,rfl,Nat.le_refl _,fun _ _ _=>rfl⟩)
  refine⟨by rw[hW3];exact h3,⟨hg3.os.trans hG1.os,hg3.tape.trans hG1.tape,hg3.output.trans hG1.output,Nat.le_trans hG1.size hg3.size,fun k hk hn=>(hg3.block k (Nat.lt_of_lt_of_le hk hG1.size) (by simp;omega)).trans (hG1.block k hk hn)⟩⟩
 have hG63:(G:Int)<=9223372036854775807:=by unfold maxLen at hGm;omega
 have i1:(0:Int)<=(i:Int):=by omega
 have i2:(i:Int)<=(R.length:Int):=by omega
 have i3:(R.length:Int)<=100000:=by omega
 have i4:((i:Int)==(R.length:Int))=false:=by rw[beq_eq_false_iff_ne];omega
 have i4':¬((i:Int)=(R.length:Int)):=by omega
 have i5:(ck:Int) < (R.length:Int)+1:=by omega
 have i6:(i:Int)<=(R.length:Int)+1:=by omega
 have hw1:IntKind.i64.wrap ((i:Int)+1)=(i:Int)+1:=by rw[IntKind.wrap_i64];omega
 have htn:((i:Int)+1).toNat=i+1:=by omega
 have hb1:(0:Int)<=(i:Int)+1:=by omega
 have hb2:(i:Int)+1<=(R.length:Int)+1:=by omega
 have c1:¬(G=i+1):=by omega
 have c2:¬(G=i):=by omega
 have c3:i<=R.length:=by omega
 have c4:¬(ck=i):=by omega
 have c5:i<=ck:=by omega
 clear hcell Rv hG1 QY hO2 hG2 hW1 hW2 hW3 h hbv there hold QX hG hik hkk;go_enter func173,ntmps173
 go_wp2_with (first
  | (refine Lib.wpList_append_run _ rfl _ _ _ _ rfl _ _ rfl rfl _ _ (hrz _) ?_)
  | (refine wpList_copy_runI _ rfl _ _ 67 67 rfl _ _ rfl rfl (hcpA _ _) ?_)
  | fail)
 go_region_law (refine step_copy_runI rfl _ _ 67 67 rfl _ _ (by simp[Act.eval,Act.put]) (by simp[Act.eval,Act.put]) (hcpB _ _ _) ?_)
 all_goals go_wp2
 all_goals go_ret
 all_goals exact⟨G,rfl,HE.out.1,HE.out.2⟩
end
section
open Go.Proofs.Tryz
theorem zb (n low high:Int) (b1 b2:Addr) (w:World) (c1:w.cell? b1=some (.int .i64 low)) (c2:w.cell? b2=some (.int .i64 high)):
  Calls prog 242 #[.int .i64 n,.pointer (some b1),.pointer (some b2)] w fun e w'=>e= .returned (.bool (iG low high n))∧w'=w:=by
 by_cases h1:low<=n
 ·go_enter func242,ntmps242;go_wp2;go_ret;exact⟨aN (by simp[iG,h1]),rfl⟩
 ·go_enter func242,ntmps242;go_wp2;go_ret;exact⟨aN (by simp[iG];omega),rfl⟩
theorem qV (low high:Int) (w:World):
  Calls prog 169 #[.int .i64 low,.int .i64 high] w fun e w'=>e= .returned (.func (.func 242) #[] #[.pointer (some ⟨w.heap.size,0,none⟩),.pointer (some ⟨w.heap.size+1,0,none⟩)])∧w'=(w.alloc (.cells #[.int .i64 low] 3)).alloc (.cells #[.int .i64 high] 3):=by
 go_enter func169,ntmps169;go_wp2;go_ret;exact⟨rfl,rfl⟩
theorem iN (k t v:Int) (w:World):
  Calls prog 96 #[.agg #[.int .i64 k,.int .i64 t,.int .i64 v]] w fun e w'=>e= .returned (.bool (au k t v))∧Below w.heap.size w w':=by
 cases h1:iG (-1099511627776) 1099511627776 k
 ·go_enter func96,ntmps96
  go_wp2_with (first | (go_at_call 242;go_must (refine(zb _ (-1099511627776) 1099511627776 _ _ _ ?_ ?_).mono ?_;(go_simp);(go_simp);rintro e w' ⟨rfl,rfl⟩)) | (go_at_call 169;refine(qV _ _ _).mono ?_;rintro e w' ⟨rfl,rfl⟩))
  go_ret;exact⟨aN (by simp[au,h1]),(below_alloc3 _ _ _ _)⟩
 ·cases h2:iG (-1099511627776) 1099511627776 t
  ·go_enter func96,ntmps96
   go_wp2_with (first | (go_at_call 242;go_must (refine(zb _ (-1099511627776) 1099511627776 _ _ _ ?_ ?_).mono ?_;(go_simp);(go_simp);rintro e w' ⟨rfl,rfl⟩)) | (go_at_call 169;refine(qV _ _ _).mono ?_;rintro e w' ⟨rfl,rfl⟩))
   go_ret;exact⟨aN (by simp[au,h1,h2]),(below_alloc3 _ _ _ _)⟩
  ·go_enter func96,ntmps96
   go_wp2_with (first | (go_at_call 242;go_must (refine(zb _ (-1099511627776) 1099511627776 _ _ _ ?_ ?_).mono ?_;(go_simp);(go_simp);rintro e w' ⟨rfl,rfl⟩)) | (go_at_call 169;refine(qV _ _ _).mono ?_;rintro e w' ⟨rfl,rfl⟩))
   go_ret;exact⟨aN (by simp[au,h1,h2]),(below_alloc3 _ _ _ _)⟩
theorem Ji (base bv i:Nat) (vs:Value) (R:List D) (x:D) (w:World) (h:w.ownsRow base 130 4 vs R.length (R.flatMap ak)) (hR:R.length<=100000) (hi:i<=R.length) (hbase:base<=w.heap.size)
  (hbv:w.heap[bv]? =some (.cells #[.int .i64 x.k,.int .i64 x.t,.int .i64 x.v,.int .i64 x.n] 130)) (hne:vs.ownBlock≠some bv):
  Calls prog 173 #[vs,.int .i64 i,.slice (some ⟨bv,0,none⟩) 1 1] w fun e w'=>∃v',e= .returned v'∧w'.ownsRow base 130 4 v' (R.length+1) ((bT R i x).flatMap ak)∧w.grownBy w' vs.ownBlock∧(v'.ownBlock=vs.ownBlock∨v'.ownBlock=some w.heap.size):=by
 by_cases e:i=R.length
 ·subst e;exact Jg base bv vs R x w h hR hbase hbv
 ·obtain⟨gs,ck,rfl⟩:=ownsRow_form h (by omega)
  by_cases hroom:R.length+1<=ck
  ·refine(FY base bv gs ck i R x w h hR (by omega) hroom hbv (fun e=>hne (by rw[e];rfl))).mono ?_;rintro e w' ⟨rfl,h1,h2⟩;exact⟨_,rfl,h1,h2,Or.inl rfl⟩
  ·refine(FZ base bv gs ck i R x w h hR (by omega) (by omega) hbase hbv).mono ?_;rintro e w' ⟨G,rfl,h1,h2⟩;exact⟨_,rfl,h1,⟨h2.os,h2.tape,h2.output,h2.size,fun k hk _=>h2.block k hk (by simp)⟩,Or.inr rfl⟩
end
section
theorem iq {W:World} {B:Nat} {k t v:Int} (h:W.heap[B]? =some (.cells #[.int .i64 k,.int .i64 t,.int .i64 v] 37)):W.cell? ⟨B,0,none⟩=some (.int .i64 k)∧W.cell? ⟨B,1,none⟩=some (.int .i64 t)∧W.cell? ⟨B,2,none⟩=some (.int .i64 v):=by
 refine⟨?_,?_,?_⟩ <;>(rw[cell_of_block h];rfl)
end
section
variable {w W:World} {k t v:Int}
theorem uk {n:Int} (h0: -9223372036854775808<=n) (h1:n<=9223372036854775807):IntKind.i64.wrap n=n:=by rw[IntKind.wrap_i64];omega
def QZ:Op:= .load 67 (.tmp 27)
abbrev Db (k t v met:Int):Obj:= .cells #[.int .i64 k,.int .i64 t,.int .i64 v,.int .i64 met] 130
theorem Jj {B:Nat} {w1:World} (h:Below B w w1):Below B w w1.drew:=⟨h.os,h.tape,h.output,h.size,h.block⟩
structure fF (w:World) (k t v:Int) (W:World):Prop where
 low:Below w.heap.size w W
 box:W.heap[w.heap.size]? =some (.cells #[.int .i64 k,.int .i64 t,.int .i64 v] 37)
theorem fF.go {W':World} (h:fF w k t v W) (hb:Below W.heap.size W W'):fF w k t v W':=
 ⟨h.low.trans (hb.mono h.low.size),(hb.block _ (Array.getElem?_eq_some_iff.1 h.box).1).trans h.box⟩
theorem fF.cells (h:fF w k t v W):W.cell? ⟨w.heap.size,0,none⟩=some (.int .i64 k)∧W.cell? ⟨w.heap.size,1,none⟩=some (.int .i64 t)∧W.cell? ⟨w.heap.size,2,none⟩=some (.int .i64 v):=iq h.box
theorem fF.rows (h:fF w k t v W) {base b o:Nat} {v0:Value} {R:List D} (hS:bB w base b o v0 R):W.cell? ⟨b,o,none⟩=some v0:=(hS.below h.low).cell.1
theorem lD (base b o:Nat) (v0:Value) (R:List D) (k t v met:Int) (w:World) (h:bB w base b o v0 R) (hs:ay R) (hR:R.length < 300) (hbase:base<=w.heap.size) (hg:au k t v=true) (hm:0<=met):
  Calls Tryz.prog 104 #[.pointer (some ⟨b,o,none⟩),.agg #[.int .i64 k,.int .i64 t,.int .i64 v],.int .i64 met] w fun e w'=>e= .returned .nilIface∧∃v',bB w' base b o v' (bT R (aV k (t+1) R) ⟨k,t,v,met⟩)∧l8 b o v' v0.ownBlock w w'∧(v'.ownBlock=v0.ownBlock∨∃g,v'.ownBlock=some g∧w.heap.size<=g):=by
 have hgo:=iN k t v (w.alloc (.cells #[.int .i64 k,.int .i64 t,.int .i64 v] 37));rw[hg] at hgo;have HA:=hid h;have hlt:=h.lt
 have hwr:IntKind.i64.wrap (t+1)=t+1:=by
  simp[au,iG] at hg;exact uk (by omega) (by omega)
 have HF:Hid (∀W,fF w k t v W->Calls Tryz.prog 171 #[.pointer (some ⟨b,o,none⟩),.int .i64 k,.int .i64 (IntKind.i64.wrap (t+1))] W fun e w'=>e= .returned (.int .i64 (aV k (t+1) R))∧fF w k t v w'∧Below W.heap.size W w'):=by
  intro W hW;rw[hwr];refine(BG base b o v0 R k (t+1) W (h.below hW.low) hs (by omega)).mono ?_;rintro e w' ⟨rfl,hb⟩;exact⟨rfl,hW.go hb,hb⟩
 have HI:Hid (∀W bv,fF w k t v W->W.heap[bv]? =some (Db k t v met)->w.heap.size<=bv->Calls Tryz.prog 173 #[v0,.int .i64 (aV k (t+1) R),.slice (some ⟨bv,0,none⟩) 1 1] W fun e w'=>∃v',e= .returned v'∧(w'.cell? ⟨b,o,none⟩=some v0∧w'.frozen? ⟨b,o,none⟩=false)∧(w'.cell? ⟨w.heap.size,0,none⟩=some (.int .i64 k)∧w'.cell? ⟨w.heap.size,1,none⟩=some (.int .i64 t)∧w'.cell? ⟨w.heap.size,2,none⟩=some (.int .i64 v))∧(∃oa n c,v'= .slice oa n c)∧
   Hid (bB (w'.setCell ⟨b,o,none⟩ v') base b o v' (bT R (aV k (t+1) R) ⟨k,t,v,met⟩)∧l8 b o v' v0.ownBlock w (w'.setCell ⟨b,o,none⟩ v')∧(v'.ownBlock=v0.ownBlock∨∃g,v'.ownBlock=some g∧w.heap.size<=g))):=by
  intro W bv hW hbv hle;refine(Ji base bv (aV k (t+1) R) v0 R ⟨k,t,v,met⟩ W (h.below hW.low).row (by omega) (QW _ _ _) (Nat.le_trans hbase hW.low.size) hbv (fun e=>by have :=(h.row.lt _ e).2;omega)).mono ?_;rintro e w' ⟨v',rfl,h1,h2,h3⟩;have hcell:w'.heap[b]? =w.heap[b]? :=(grown_of hW.low h2).block b hlt (fun e=>h.own e.symm)
  have hne:v'.ownBlock≠some b:=by
   rcases h3 with h3 | h3
   ·rw[h3];exact h.own
   ·rw[h3];intro e;cases e;have :=hW.low.size;omega
  have hbx:=iq ((h2.block w.heap.size (Array.getElem?_eq_some_iff.1 hW.box).1 (fun e=>by have :=(h.row.lt _ e.symm).2;omega)).trans hW.box);obtain⟨oa,c,e⟩:=jq h1;refine⟨v',rfl,⟨(World.cell?_of_block (w:=w) (a:=⟨b,o,none⟩) hcell).trans h.cell.1,(World.frozen?_of_block (w:=w) (a:=⟨b,o,none⟩) hcell).trans h.cell.2⟩,hbx,⟨oa,_,c,e⟩,?_⟩;have hst:=vX h (R':=bT R (aV k (t+1) R) ⟨k,t,v,met⟩) (by rw[xK];exact h1) hne (grown_of hW.low h2);exact⟨hst.1,hst.2,h3.imp id (fun e=>⟨_,e,hW.low.size⟩)⟩
 obtain⟨oa,cv,rfl⟩:=h.form
 have i1:¬(300:Int)<=(R.length:Int):=by omega
 have i2:¬(met < 0):=by omega
 clear h hs hwr;generalize hp:aV k (t+1) R=p at *;clear hp;go_enter Tryz.func104,Tryz.ntmps104
 go_wp2_with (go_at_call 96;refine hgo.mono ?_;rintro e w1 ⟨rfl,hb1⟩;have A1:Hid (fF w k t v w1):=(show fF w k t v w1 from⟨(below_alloc1 w _).trans (hb1.mono (by simp)),(hb1.block _ (by simp)).trans (heap_alloc_new _ _)⟩);have hc1:=A1.out.rows HA.out;clear hb1)
 clear hgo;have A2:Hid (fF w k t v w1.drew):=(show fF w k t v w1.drew from⟨Jj A1.out.low,A1.out.box⟩);have A3:Hid (fF w k t v (w1.drew.alloc (Db k t v met))∧(w1.drew.alloc (Db k t v met)).heap[w1.heap.size]? =some (Db k t v met)):=⟨A2.out.go (below_alloc1 _ _),heap_alloc_new _ _⟩;have hc3:(w1.drew.alloc (Db k t v met)).cell? ⟨b,o,none⟩=some (.slice oa R.length cv):=A3.out.1.rows HA.out;have hc2:=A2.out.rows HA.out;have hx1:=A1.out.cells;have hl1:w.heap.size<=w1.heap.size:=A1.out.low.size
 have hq1:b < w1.heap.size:=by omega
 have hq2:¬(b=w1.heap.size):=by omega
 have hne1:¬(b=w.heap.size):=by omega
 have hne2:¬(w.heap.size=b):=by omega
 have hml:QZ=Op.load 67 (.tmp 27):=rfl;rw[<-hml]
 go_region_held3 (fun W=>W.cell? ⟨w.heap.size,0,none⟩=some (.int .i64 k)∧W.cell? ⟨w.heap.size,1,none⟩=some (.int .i64 t)∧W.cell? ⟨w.heap.size,2,none⟩=some (.int .i64 v)) (first | (go_keep;done) | fail) (first
  | (go_at_call 171;refine(HF.out _ A2.out).mono ?_;rintro e w2 ⟨rfl,h2,h3⟩;have A4:Hid (fF w k t v w2∧fF w k t v (w2.alloc (Db k t v met))∧(w2.alloc (Db k t v met)).heap[w2.heap.size]? =some (Db k t v met)):=⟨h2,h2.go (below_alloc1 _ _),heap_alloc_new _ _⟩;have hx4:=h2.cells;have hc4:=h2.rows HA.out;have hc5:=A4.out.2.1.rows HA.out;have hl4:=h2.low.size;have hq3:b < w2.heap.size:=Nat.lt_of_lt_of_le hlt hl4;have hq4:¬(b=w2.heap.size):=Nat.ne_of_lt hq3;clear h2 h3)
  | (go_at_call 171;refine(HF.out _ A3.out.1).mono ?_;rintro e w2 ⟨rfl,h2,h3⟩;have A4:Hid (fF w k t v w2∧w2.heap[w1.heap.size]? =some (Db k t v met)):=⟨h2,(h3.block _ (by simp)).trans A3.out.2⟩;have hx4:=h2.cells;have hc4:=h2.rows HA.out;clear h2 h3)
  | (go_at_call 173;refine(HI.out _ _ A4.out.2.1 A4.out.2.2 hl4).mono ?_;rintro e w5 ⟨v5,rfl,hc6,hx6,⟨o5,n5,c5,rfl⟩,H5⟩)
  | (go_at_call 173;refine(HI.out _ _ A4.out.1 A4.out.2 hl1).mono ?_;rintro e w5 ⟨v5,rfl,hc6,hx6,⟨o5,n5,c5,rfl⟩,H5⟩)
  | fail)
 all_goals (go_wp2;go_ret;exact⟨rfl,_,H5.out⟩)
end
end Go.Proofs.YthfpipieboophaaGreatDoor
