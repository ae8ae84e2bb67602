import Derived.Test.YthfpipieboophaaGreatDoorZGru
import Derived.Test.YthfpipieboophaaGreatDoorZad
namespace Go.Proofs.YthfpipieboophaaGreatDoor
set_option maxRecDepth 100000
set_option maxHeartbeats 40000000
open Go.RowKit Go.Sort
section
open Go.Proofs.Tryz Go.Maps Go.Shelf
def vOf (k:Int):Option Tl->Value
 | none=> .tuple #[.agg #[.int .i64 0,.int .i64 0,.int .i64 0,.int .i64 0,.int .i64 0,.bool false],.iface 24 (.int .i64 8)]
 | some τ=> .tuple #[vG k τ,.nilIface]
theorem OT {D:DataW Value} {aO:Int->Nat×Nat} {G:Int->Option Tl} {w:World} {bm n:Nat} (hd:wB D aO G) (hown:w.ownsMap prog 3 gR bm n D):
  (intKeys D).Nodup∧∀k,k∈intKeys D↔(G k).isSome=true:=by
 obtain⟨es,rfl,hp,hk⟩:=hown.entries fJ
 have hint:∀p∈es,∃k τ,p.1=gi k∧G k=some τ:=fun p hp'=>by
  obtain⟨k,τ,e,h⟩:=hd.keys p.1 (List.any_eq_true.2 ⟨p,hp',WideAt.sameKey_self (hk p hp')⟩);exact⟨k,τ,e,h⟩
 refine⟨?_,fun k=> ?_⟩
 ·unfold intKeys;rw[List.Nodup,List.pairwise_map];refine List.Pairwise.imp_of_mem ?_ hp;intro p q h1 h2 hne e;obtain⟨k1,_,e1,_⟩:=hint p h1;obtain⟨k2,_,e2,_⟩:=hint q h2;rw[e1,e2] at e hne;exact hne (by rw[show k1=k2 from e])
 ·unfold intKeys;rw[List.mem_map]
  constructor
  ·rintro⟨p,hp',e⟩;obtain⟨k1,τ,e1,h1⟩:=hint p hp';rw[e1] at e;rw[<-show k1=k from e,h1];rfl
  ·intro h;obtain⟨τ,hτ⟩:=Option.isSome_iff_exists.1 h;have h1:=hd.has k (hd.wf k τ hτ);rw[hτ] at h1;obtain⟨p,hp',e⟩:=List.any_eq_true.1 h1;refine⟨p,hp',?_⟩;rw[WideAt.sameKey_eq e];rfl
theorem Tryz.sortsG (m:Nat):AnyZI.SortsIn prog Tryz.sortedG_ren Fence.wide m:=
 ⟨fun blk off cap ss W hH hblk hsz=>callsIn_wide.2 (AnyM.slices_Sort_int Tryz.sortG blk off cap ss W hH hblk hsz),
 fun p cap W=>callsIn_wide.2 (AnyM.slices_Sort_int_none Tryz.sortG p cap W)⟩
theorem OU (mb:Option Nat) (W:World):Calls prog 129 #[.map mb] W fun e w'=>e= .returned (.func (.func 211) #[] #[.pointer (some ⟨W.heap.size,0,none⟩)])∧w'=W.alloc (.cells #[.map mb] 104):=
 (callsIn_wide (n:=5)).1 (AnyZI.keys_in Tryz.keysG Fence.wide 5 trivial rfl mb W)
theorem EB (Bm b o m:Nat) (om:Option Nat) (aO:Int->Nat×Nat) (G:Int->Option Tl) (W:World) (h:CB W b o om aO m G) (hm:m<=100000000) (hBm:Bm < W.heap.size) (hc:W.cell? ⟨Bm,0,none⟩=some (.map om)):
  Calls prog 128 #[.func (.func 211) #[] #[.pointer (some ⟨Bm,0,none⟩)]] W fun e W'=>∃(v:Value) (ks:List Int),e= .returned v∧ks.Pairwise (fun x y=>x < y)∧(∀k,k∈ks↔(G k).isSome=true)∧ks.length<=m∧W'.ownsRow W.heap.size 3 1 v ks.length (ks.map encZ)∧Below W.heap.size W W':=by
 rcases h.map with⟨rfl,rfl⟩ | ⟨bm,n,D,rfl,hM⟩
 ·have hseq:SeqGives Fence.wide 2 prog 211 #[.pointer (some ⟨Bm,0,none⟩)] encZ (fun ss:List Int=>ss=[]) 0 W:=
   AnyZI.keys_gives_nil (ρ:=Tryz.keysG_ren) { Tryz.keysG with} Fence.wide _ trivial rfl Bm W hBm hc
  have cS:=AnyZI.sorted_in Tryz.sortedG Fence.wide 5 trivial trivial trivial trivial rfl (by omega) (Tryz.sortsG _) (enters_of func131 (by kernel_rfl) rfl) 211 #[.pointer (some ⟨Bm,0,none⟩)] trivial (enters_of func211 (by kernel_rfl) rfl) _ 0 (Nat.zero_le _) (by omega) W hseq;refine((callsIn_wide (n:=5)).1 cS).mono ?_;rintro e w' ⟨v,ss,rfl,rfl,hrow,hnil,hb⟩;exact⟨v,[],rfl,List.Pairwise.nil,fun k=>by simp,by simp,by have h2:w'.ownsRow W.heap.size 3 1 v 0 (([].mergeSort (fun x y=>decide (x<=y))).map encZ):=hrow;simpa using h2,hb⟩
 ·have hle:=hM.own.size_le;have hnm:=hM.le
  have hseq:SeqGives Fence.wide 2 prog 211 #[.pointer (some ⟨Bm,0,none⟩)] encZ (fun ss=>ss.Perm (intKeys D)) (Maps.size D) W:=
   AnyZI.keys_gives (ρ:=Tryz.keysG_ren) { Tryz.keysG with} Fence.wide _ trivial rfl (by omega) Bm bm n D W hBm hc hM.own
  have cS:=AnyZI.sorted_in Tryz.sortedG Fence.wide 5 trivial trivial trivial trivial rfl (by omega) (Tryz.sortsG _) (enters_of func131 (by kernel_rfl) rfl) 211 #[.pointer (some ⟨Bm,0,none⟩)] trivial (enters_of func211 (by kernel_rfl) rfl) _ (Maps.size D) (by unfold maxLen;omega) (by omega) W hseq;refine((callsIn_wide (n:=5)).1 cS).mono ?_;rintro e w' ⟨v,ss,rfl,hp,hrow,hnil,hb⟩;obtain⟨hnd,hmem⟩:=OT hM.dat hM.own;have hps:(ss.mergeSort (fun x y=>decide (x<=y))).Perm ss:=List.mergeSort_perm ss _;have hso:(ss.mergeSort (fun x y=>decide (x<=y))).Pairwise (fun x y=>decide (x<=y)=true):=List.pairwise_mergeSort (fun a b c h1 h2=>by simp at *;omega) (fun a b=>by simp;omega) ss;have ZI:(ss.mergeSort (fun x y=>decide (x<=y))).Nodup:=(hps.trans hp).nodup_iff.2 hnd;have hlen:(ss.mergeSort (fun x y=>decide (x<=y))).length=ss.length:=hps.length_eq
  have hsz:(intKeys D).length<=n:=by
   obtain⟨es,rfl,_,_⟩:=hM.own.entries fJ;simpa[intKeys,Maps.size] using hle
  refine⟨v,_,rfl,?_,fun k=>by rw[(hps.trans hp).mem_iff];exact hmem k,by rw[hlen,hp.length_eq];omega,by rw[hlen];exact hrow,hb⟩
  refine(hso.and ZI).imp fun {x y} h=> ?_
  have h1:x<=y:=by simpa using h.1
  have h2:x≠y:=h.2;omega
end
section
open Go.Proofs.Tryz Go.Joins Go.Maps Go.Shelf
variable {w W:World} {base n gs ck:Nat} {v:Value} {ks:List Int} {G:Int->Option Tl}
def fZ (k:Int) (τ:Tl):List Value:=[.int .i64 k,.int .i64 τ.c,.int .i64 τ.s,.int .i64 (lo τ.R),.int .i64 (hi τ.R),.bool (some? τ.R)]
def gE (G:Int->Option Tl) (k:Int):List Value:=fZ k ((G k).getD τ0)
def zG:Value:= .agg #[.int .i64 0,.int .i64 0,.int .i64 0,.int .i64 0,.int .i64 0,.bool false]
theorem OD:(prog.info? 140).map (fun i=>(i.zero,i.size,i.bytes))=some (some zG,6,48):=by kernel_rfl
theorem yo (k:Int) (τ:Tl):∀u∈fZ k τ,u.oneCell'=true:=by
 intro u hu;simp[fZ] at hu;rcases hu with rfl | rfl | rfl | rfl | rfl | rfl <;>rfl
theorem dA {w':World} {e:TypeId} {size:Nat} {xs:List Value} (h:w.ownsRow base e size v n xs) (hb:Below w.heap.size w w'):w'.ownsRow base e size v n xs:=
 h.kept (row:=none) ⟨hb.os,hb.tape,hb.output,hb.size,fun k hk _=>hb.block k hk⟩ (by cases h':v.ownBlock with | none=>exact .inl rfl | some g=>exact .inr (by simp))
theorem JV (g o:Nat):(⟨g,0,none⟩:Addr).add o=⟨g,o,none⟩:=by
 unfold Addr.add;split
 ·rename_i h;rw[h]
 ·simp
theorem Cy (h:W.ownsRow base 3 1 (.slice (some ⟨gs,0,none⟩) n ck) n (ks.map encZ)) (k:Nat) (x:Int) (hx:ks[k]? =some x):W.cell? ⟨gs,k,none⟩=some (.int .i64 x):=by
 have :=h.cells (g:=gs) rfl k (encZ x) (by simp[hx]);simpa[JV,encZ] using this
theorem OV {b o m:Nat} {om:Option Nat} {aO:Int->Nat×Nat} (h:CB w b o om aO m G):∃N:Nat,N<=m∧(Builtin.len_ #[104] 3 #[.map om]).run prog w= .ok (.int .i64 N) w:=by
 rcases h.map with⟨rfl,rfl⟩ | ⟨bm,n,D,rfl,hM⟩
 ·exact⟨0,Nat.zero_le _,by kernel_rfl⟩
 ·exact⟨Maps.size D,Nat.le_trans hM.own.size_le hM.le,hM.own.len underlying104 3⟩
structure Ga (w:World) (gs ck:Nat) (ks:List Int) (G:Int->Option Tl) (k:Nat) (v:Value) (W:World):Prop where
 below:Below w.heap.size w W
 row:W.ownsRow w.heap.size 140 6 v k ((ks.take k).flatMap (gE G))
 keys:W.ownsRow w.heap.size 3 1 (.slice (some ⟨gs,0,none⟩) ks.length ck) ks.length (ks.map encZ)
 ne:v.ownBlock≠some gs
theorem Ga.step {w5 w6:World} {k:Nat} {v':Value} {o:Obj} (h:Ga w gs ck ks G k v W) (hb:Below W.heap.size W w5) {x:Int} (hx:ks[k]? =some x)
  (hown:w6.ownsRow w.heap.size 140 6 v' (k+1) ((ks.take k).flatMap (gE G)++gE G x)) (hg:(w5.alloc o).grownBy w6 v.ownBlock) (hloc:v'.ownBlock=v.ownBlock∨v'.ownBlock=some (w5.alloc o).heap.size):Ga w gs ck ks G (k+1) v' w6:=by
 have hs:=h.below.size;have hs5:=hb.size
 have hgs:gs < W.heap.size:=by
  rcases h.keys.2 with⟨h3,_⟩ | ⟨g,cap,cur,h3,_,h4,_⟩
  ·cases h3
  ·cases h3;exact(Array.getElem?_eq_some_iff.1 h4).1
 have hk5:w5.ownsRow w.heap.size 3 1 (.slice (some ⟨gs,0,none⟩) ks.length ck) ks.length (ks.map encZ):=dA h.keys hb;have hb5:Below w.heap.size w w5:=h.below.trans (hb.mono hs);refine⟨(hb5.alloc (by omega) o).grown hg (by simp;omega) (fun j e=> ?_),?_,(hk5.alloc o).kept hg (.inr (by simpa[Value.ownBlock] using fun e=>h.ne e.symm)),?_⟩
 ·rcases h.row.2 with⟨rfl,_⟩ | ⟨g,cap,cur,rfl,h3,_⟩
  ·simp[Value.ownBlock] at e
  ·simp[Value.ownBlock] at e;omega
 ·rw[List.take_add_one,hx,List.flatMap_append];simpa using hown
 ·rcases hloc with e | e
  ·rw[e];exact h.ne
  ·rw[e];simp;omega
theorem Og (b o m:Nat) (S:Nat->Prop) (G:Int->Option Tl) (w:World) (h:lu w b o m S G) (hm:m<=1000000):
  Calls prog 72 #[.pointer (some ⟨b,o,none⟩)] w fun e w'=>∃(v:Value) (ks:List Int),e= .returned v∧ks.Pairwise (fun x y=>x < y)∧(∀k,k∈ks↔(G k).isSome=true)∧ks.length<=m∧w'.ownsRow w.heap.size 140 6 v ks.length (ks.flatMap (gE G))∧Below w.heap.size w w':=by
 obtain⟨i0,hi0,hz0,hz1,hz2⟩:=info_parts OD;obtain⟨om,aO,hg,hS,hlt⟩:=h;have hc:=hg.cell;have hblt:=hg.blt;obtain⟨N,hN,hlen⟩:=OV hg;have HG:=hid hg;clear hg hS hlt;go_enter func72,ntmps72
 go_wp2_with (first
  | (refine wpList_make_own _ rfl _ _ 74 rfl w.heap.size 140 i0 zG 6 underlying74 hi0 hz0 hz1 .i64 .i64 _ N rfl rfl rfl (by rw[hz2];omega) (by unfold maxLen;omega) (Nat.le_refl _) ?_;intro w1 xB hg1;have hb1:Below w.heap.size w w1:=(Below.refl _ w).grown hg1 (Nat.le_refl _) (fun k e=>by cases e);have hc1:=(HG.out.below hb1).cell)
  | (go_at_call 129;refine(OU om _).mono ?_;rintro e w2 ⟨rfl,rfl⟩)
  | fail)
 have hb2:Below w.heap.size w (w1.alloc (.cells #[.map om] 104)):=hb1.alloc hb1.size _;have hrow2:=xB.alloc (.cells #[.map om] 104);have hz1':=hb1.size
 have hgw1:w.heap.size < w1.heap.size:=by
  rcases xB.2 with⟨h3,_⟩ | ⟨g,cap,cur,h3,_,h4,_⟩
  ·cases h3
  ·cases h3;exact(Array.getElem?_eq_some_iff.1 h4).1
 refine(EB w1.heap.size b o m om aO G _ (HG.out.below hb2) (by omega) (by simp) (by simp)).mono ?_;rintro e w3 ⟨v,ks,rfl,Gp,hmem,hkl,hks,hb3⟩;have Dn:Below w.heap.size w w3:=hb2.trans (hb3.mono (by simp;omega));have hrow3:w3.ownsRow w.heap.size 140 6 (.slice (some ⟨w.heap.size,0,none⟩) 0 N) 0 []:=dA hrow2 hb3;have HP:Hid (ks.Pairwise (fun x y=>x < y)∧(∀k,k∈ks↔(G k).isSome=true)∧ks.length<=m):=⟨Gp,hmem,hkl⟩
 rcases ownsRow_forms hks with⟨rfl,h0⟩ | ⟨gs,ck,rfl⟩
 ·have hx0:ks=[]:=List.eq_nil_of_length_eq_zero h0;subst hx0;clear hks Gp hmem;go_wp2;refine wp_loop_rounds 1 ?_;rw[rounds_succ];go_wp2;go_ret;exact⟨_,[],rfl,HP.out.1,HP.out.2.1,HP.out.2.2,hrow3,Dn⟩
 ·have hgs:w.heap.size < gs:=by
   rcases hks.2 with⟨h3,_⟩ | ⟨g,cap,cur,h3,h5,h4,_⟩
   ·cases h3
   ·cases h3;simp at h5;omega
  have Nq:w3.ownsRow w.heap.size 3 1 (.slice (some ⟨gs,0,none⟩) ks.length ck) ks.length (ks.map encZ):=ownsRow_le hks (by simp;omega);have HA:Hid (Ga w gs ck ks G 0 (.slice (some ⟨w.heap.size,0,none⟩) 0 N) w3):=⟨Dn,hrow3,Nq,by simp[Value.ownBlock];omega⟩
  have hkm:ks.length<=1000000:=by omega
  clear hks Gp hmem xB hrow2 hg1 hb1 hb2 hb3 hc1 Nq hrow3 Dn hkl;go_wp2
  go_loopg [3,19] ks.length (fun g v i wr=>∃k:Nat,k<=ks.length∧g=ks.length -k∧i= .int .i64 k∧Hid (Ga w gs ck ks G k v wr))
  case atStart=>
   exact⟨0,Nat.zero_le _,rfl,rfl,HA.out⟩
  case round=>
   obtain⟨k,hk,xC,rfl,HR⟩:=hrel;have HGk:=hid xC;clear xC
   by_cases hlt:k < ks.length
   ·obtain⟨x,hx⟩:∃x,ks[k]? =some x:=⟨_,List.getElem?_eq_getElem hlt⟩;have hR:=HR.out;have hq:=Cy hR.keys k x hx;have hsm:(G x).isSome=true:=(HP.out.2.1 x).1 (List.mem_of_getElem? hx);obtain⟨τ,hτ⟩:=Option.isSome_iff_exists.1 hsm;have hgw:=HG.out.below hR.below
    obtain⟨bm,n,D,hom,hM⟩:∃bm n D,om=some bm∧fe wr b bm aO m G n D:=by
     rcases hgw.map with⟨_,rfl⟩ | h
     ·cases hτ
     ·exact h
    have hlk:=hM.look1 rfl (hM.dat.wf x τ hτ) hτ;rw[<-hom] at hlk;have hcb:=hgw.cell;have hgr:Hid (Calls prog 130 #[tp (aO x).1,.int .i64 x] wr fun e w'=>e= .returned (vG x τ)∧Below wr.heap.size wr w'):=Lf _ _ m τ wr (hM.tals x τ hτ) x;have RH:=hR.below.size;have hbr:=hR.below;have XR:=hR.row
    have HE:Hid (gE G x=fZ x τ):=by show gE G x=fZ x τ;unfold gE;rw[hτ];rfl
    have h1:(0:Int)<=(k:Int):=by omega
    have h2:(k:Int) < (ks.length:Int):=by omega
    clear hM hgw hR hsm hτ hom;generalize (aO x).1=t at *
    go_wp2_with (first
     | (go_at_call 130;refine Calls.mono (Hid.out hgr) ?_;rintro e w5 ⟨rfl,hb5⟩;simp only[vG])
     | (at_builtin;refine wpList_append_own_at _ rfl _ _ 74 rfl w.heap.size 140 i0 zG 6 48 underlying74 hi0 hz0 hz1 hz2 rfl (by decide) _ _ _ rfl ((dA XR hb5).alloc _) ⟨w5.heap.size,0,none⟩ 1 1 (fZ x τ) rfl rfl (World.news_of_block (World.alloc_heap_new w5 _)) (yo x τ) (by unfold maxLen;omega) (by omega) (by have :=hb5.size;simp;omega) ?_;intro v' w6 hown6 Gq _ qa)
     | fail)
    go_roundg (ks.length -(k+1))
    case measure=>have :=HGk.out;omega
    case rel=>exact⟨k+1,by omega,rfl,by go_num,HR.out.step hb5 hx (by rw[HE.out];exact hown6) Gq qa⟩
   ·have e1:k=ks.length:=by omega
    have hge:¬((k:Int) < (ks.length:Int)):=by omega
    go_wp2;go_ret;have hR:=HR.out;have hrow:=hR.row;rw[e1,List.take_length] at hrow;exact⟨_,rfl,ks,HP.out.1,HP.out.2.1,HP.out.2.2,hrow,hR.below⟩
end
section
variable {τ τ':Tl} {b m:Nat} {M L L':List O} {x:O} {k:Int} {w:World} {G G':Int->Option Tl}
def bD:List O->Tl
 | []=>τ0
 | x::M=>bE (bD M) x
def gK (L:List O) (k:Int):List O:=L.filter fun o=>o.k==k
def bK (L:List O) (k:Int):Option Tl:=if gK L k=[] then none else some (bD (gK L k))
structure vF (τ τ':Tl):Prop where
 c:τ.c=τ'.c
 s:τ.s=τ'.s
 R:τ.R.Perm τ'.R
theorem vF.refl (τ:Tl):vF τ τ:=⟨rfl,rfl,List.Perm.refl _⟩
theorem vF.symm (h:vF τ τ'):vF τ' τ:=⟨h.c.symm,h.s.symm,h.R.symm⟩
theorem vF.trans {a b c:Tl} (h:vF a b) (k:vF b c):vF a c:=⟨h.c.trans k.c,h.s.trans k.s,h.R.trans k.R⟩
theorem vF.put (h:vF τ τ') (x:O):vF (bE τ x) (bE τ' x):=by
 refine⟨by simp[bE,h.c],by simp[bE,h.s],?_⟩
 cases hr:x.hr <;>simp[bE,hr,h.R]
theorem vF.take (h:vF τ τ') (x:O):vF (gP τ x) (gP τ' x):=by
 refine⟨by simp[gP,h.c],by simp[gP,h.s],?_⟩;cases hr:x.hr
 ·simpa[gP,hr] using h.R
 ·simpa[gP,hr] using h.R.erase x.rv
theorem Lh (n:Int):wrap64 (wrap64 n)=wrap64 n:=by unfold wrap64;omega
theorem NT (M:List O):wrap64 (bD M).s=(bD M).s:=by
 induction M with
 | nil=>show wrap64 0=0;unfold wrap64;omega
 | cons x M ih=>
  show wrap64 (bE (bD M) x).s=(bE (bD M) x).s;cases hl:x.hl
  ·simpa[bE,hl] using ih
  ·simp[bE,hl,Lh]
theorem OW (τ:Tl) (x y:O):vF (bE (bE τ x) y) (bE (bE τ y) x):=by
 refine⟨by simp[bE],?_,?_⟩
 ·cases hx:x.hl <;>cases hy:y.hl <;>simp[bE,hx,hy]
  unfold wrap64;omega
 ·cases hx:x.hr <;>cases hy:y.hr <;>simp[bE,hx,hy]
  exact List.Perm.swap _ _ _
theorem rQ {M':List O} (h:M.Perm M'):vF (bD M) (bD M'):=by
 induction h with
 | nil=>exact vF.refl _
 | cons x _ ih=>exact ih.put x
 | swap x y l=>exact OW _ _ _
 | trans _ _ h1 h2=>exact h1.trans h2
theorem OX (M:List O) (x:O):vF (gP (bE (bD M) x) x) (bD M):=by
 refine⟨by simp[bE,gP],?_,?_⟩
 ·cases hl:x.hl
  ·simp[bE,gP,hl]
  ·have :=NT M;simp only[bE,gP,hl,if_true];unfold wrap64 at *;omega
 ·cases hr:x.hr <;>simp[bE,gP,hr]
theorem jZ (M:List O):(bD M).c=M.length:=by
 induction M with
 | nil=>rfl
 | cons x M ih=>show(bD M).c+1=_;rw[ih];rfl
theorem Li (h:x∈M) (hr:x.hr=true):x.rv∈(bD M).R:=by
 induction M with
 | nil=>cases h
 | cons y M ih=>
  show x.rv∈(bE (bD M) y).R
  rcases List.mem_cons.1 h with rfl | h
  ·simp[bE,hr]
  ·have :=ih h;cases hy:y.hr
   ·simpa[bE,hy] using this
   ·simp[bE,hy,this]
theorem yl (x:O) (L:List O):gK (x::L) x.k=x::gK L x.k:=by simp[gK]
theorem uf (x:O) (L:List O) (h:k≠x.k):gK (x::L) k=gK L k:=by simp[gK,Ne.symm h]
theorem ym (h:L.Perm L') (k:Int):(gK L k).Perm (gK L' k):=h.filter _
theorem Cv:x∈gK L x.k↔x∈L:=by simp[gK]
def JH (G G':Int->Option Tl):Prop:=∀k,(G k=none∧G' k=none)∨∃τ τ',G k=some τ∧G' k=some τ'∧vF τ τ'
theorem JH.refl (G:Int->Option Tl):JH G G:=fun k=>by
 cases h:G k with
 | none=>exact .inl ⟨rfl,rfl⟩
 | some τ=>exact .inr ⟨τ,τ,rfl,rfl,vF.refl τ⟩
theorem Co:bK []=fun _=>none:=by funext k;simp[bK,gK]
theorem SC (L:List O) (x:O):yz (bK L) x=bK (x::L):=by
 funext k
 by_cases e:k=x.k
 ·subst e
  have e1:bK (x::L) x.k=some (bE (bD (gK L x.k)) x):=by
   unfold bK;rw[yl];exact if_neg (by simp)
  have e0:(bK L x.k).getD τ0=bD (gK L x.k):=by
   unfold bK
   by_cases h:gK L x.k=[]
   ·rw[if_pos h,h];rfl
   ·rw[if_neg h];rfl
  unfold yz;rw[dL,e1,e0]
 ·unfold yz;rw[aJ _ _ e];unfold bK;rw[uf x L e]
theorem Eo (h:L.Perm L'):JH (bK L) (bK L'):=fun k=>by
 have hp:=ym h k;unfold bK
 by_cases e:gK L k=[]
 ·have e':gK L' k=[]:=by rw[e] at hp;exact hp.symm.eq_nil
  exact .inl ⟨if_pos e,if_pos e'⟩
 ·have e':gK L' k≠[]:=fun e2=>e (by rw[e2] at hp;exact hp.eq_nil)
  exact .inr ⟨_,_,if_neg e,if_neg e',rQ hp⟩
theorem JG (h:x∈L):bK L x.k=some (bD (gK L x.k)):=by
 unfold bK;rw[if_neg (List.ne_nil_of_mem (Cv.2 h))]
theorem SE (h:x∈L):OQ x (bD (gK L x.k)):=fun hr=>Li (Cv.2 h) hr
theorem OY (h:x∈L):JH (qi (bK L) x (bD (gK L x.k))) (bK (L.erase x)):=fun k=>by
 have hp:=ym (List.perm_cons_erase h) k
 by_cases e:k=x.k
 ·subst e;rw[yl] at hp;unfold qi;rw[dL];have hlen:=hp.length_eq;simp only[List.length_cons] at hlen
  by_cases h1:(bD (gK L x.k)).c=1
  ·rw[if_pos h1];rw[jZ] at h1;refine .inl ⟨rfl,?_⟩;unfold bK;rw[if_pos (List.eq_nil_of_length_eq_zero (by omega))]
  ·rw[if_neg h1];rw[jZ] at h1;refine .inr ⟨_,bD (gK (L.erase x) x.k),rfl,?_,?_⟩
   ·unfold bK;rw[if_neg (fun e=>by rw[e] at hlen;simp at hlen;omega)]
   ·exact((rQ hp).take x).trans (OX _ x)
 ·rw[uf x _ e] at hp;unfold qi;rw[aJ _ _ e];unfold bK
  by_cases h0:gK L k=[]
  ·have h0':gK (L.erase x) k=[]:=by rw[h0] at hp;exact hp.symm.eq_nil
   exact .inl ⟨if_pos h0,if_pos h0'⟩
  ·have h0':gK (L.erase x) k≠[]:=fun e2=>h0 (by rw[e2] at hp;exact hp.eq_nil)
   exact .inr ⟨_,_,if_neg h0,if_neg h0',rQ hp⟩
theorem fD.same {t r:Nat} (h:fD w t r m τ) (e:vF τ τ'):fD w t r m τ':=by
 obtain⟨n,D,h1,h2,h3⟩:=h.own;refine⟨by rw[<-e.c,<-e.s];exact h.blk,⟨n,D,h1,h2,h3.perm e.R⟩,by rw[<-e.c];exact h.lo,by rw[<-e.c];exact h.hi,by rw[<-e.R.length_eq];exact h.len⟩
theorem JH.back (e:JH G G') (h:G' k=some τ'):∃τ,G k=some τ∧vF τ τ':=by
 rcases e k with⟨_,h2⟩ | ⟨τ,τ2,h1,h2,h3⟩
 ·rw[h2] at h;cases h
 ·rw[h2] at h;cases h;exact⟨τ,h1,h3⟩
theorem JH.on (e:JH G G') (h:G k=some τ):∃τ',G' k=some τ'∧vF τ τ':=by
 rcases e k with⟨h1,_⟩ | ⟨τ1,τ2,h1,h2,h3⟩
 ·rw[h1] at h;cases h
 ·rw[h1] at h;cases h;exact⟨τ2,h2,h3⟩
theorem fe.same {bm n:Nat} {aO:Int->Nat×Nat} {D:DataW Value} (h:fe w b bm aO m G n D) (e:JH G G'):fe w b bm aO m G' n D:=by
 refine⟨h.le,h.own,⟨h.dat.isMap,fun k hk=> ?_,fun k τ hk=> ?_,fun l hl=> ?_,fun k τ hk=> ?_⟩,fun k τ hk=> ?_,h.bmb,fun k τ hk=> ?_,fun k k' τ τ' hk hk' hne=> ?_⟩
 ·rw[h.dat.has k hk]
  rcases e k with⟨h1,h2⟩ | ⟨τ,τ2,h1,h2,_⟩ <;>rw[h1,h2] <;>rfl
 ·obtain⟨τ1,h1,_⟩:=e.back hk;exact h.dat.at_ k τ1 h1
 ·obtain⟨k,τ,e1,h1⟩:=h.dat.keys l hl;obtain⟨τ',h2,_⟩:=e.on h1;exact⟨k,τ',e1,h2⟩
 ·obtain⟨τ1,h1,_⟩:=e.back hk;exact h.dat.wf k τ1 h1
 ·obtain⟨τ1,h1,h2⟩:=e.back hk;exact(h.tals k τ1 h1).same h2
 ·obtain⟨τ1,h1,_⟩:=e.back hk;exact h.nb k τ1 h1
 ·obtain⟨τ1,h1,_⟩:=e.back hk;obtain⟨τ2,h2,_⟩:=e.back hk';exact h.inj k k' τ1 τ2 h1 h2 hne
theorem lu.same {o:Nat} {S:Nat->Prop} (h:lu w b o m S G) (e:JH G G'):lu w b o m S G':=by
 obtain⟨om,aO,h1,h2,h3⟩:=h;refine⟨om,aO,⟨h1.blk,?_⟩,fun j hj=>h2 j ?_,h3⟩
 ·rcases h1.map with⟨rfl,rfl⟩ | ⟨bm,n,D,rfl,hM⟩
  ·refine .inl ⟨rfl,?_⟩
   funext k
   rcases e k with⟨_,h⟩ | ⟨_,_,h,_⟩
   ·exact h
   ·cases h
  ·exact .inr ⟨bm,n,D,rfl,hM.same e⟩
 ·rcases hj with h | h | ⟨k,τ,hk,h⟩
  ·exact .inl h
  ·exact .inr (.inl h)
  ·obtain⟨τ1,h1,_⟩:=e.back hk;exact .inr (.inr ⟨k,τ1,h1,h⟩)
theorem SF (h:vF τ τ') (k:Int):fZ k τ=fZ k τ':=by
 have hm:∀x,x∈τ.R↔x∈τ'.R:=fun x=>h.R.mem_iff
 unfold fZ;rw[h.c,h.s,Ct hm,Cu hm,tZ hm]
theorem JS (e:JH G G') (k:Int):gE G k=gE G' k:=by
 unfold gE
 rcases e k with⟨h1,h2⟩ | ⟨τ,τ',h1,h2,h3⟩
 ·rw[h1,h2]
 ·rw[h1,h2];exact SF h3 k
theorem keys_eq {ks ks':List Int} (e:JH G G') (h1:ks.Pairwise (fun x y=>x < y)) (h2:ks'.Pairwise (fun x y=>x < y)) (m1:∀k,k∈ks↔(G k).isSome=true) (m2:∀k,k∈ks'↔(G' k).isSome=true):ks=ks':=by
 have hm:∀k,k∈ks↔k∈ks':=fun k=>by
  rw[m1,m2]
  rcases e k with⟨h1,h2⟩ | ⟨τ,τ',h1,h2,_⟩ <;>rw[h1,h2]
  simp
 have n1:ks.Nodup:=h1.imp fun h=>by omega
 have n2:ks'.Nodup:=h2.imp fun h=>by omega
 refine List.Perm.eq_of_pairwise (le:=fun a b=>a < b) (fun a b _ _ h3 h4=>by omega) h1 h2 ((List.perm_ext_iff_of_nodup n1 n2).2 hm)
theorem D8 (b o m:Nat) (S:Nat->Prop) (L:List O) (w:World) (h:lu w b o m S (bK L)) (x:O) (hx:x.wf) (hm:m < 100000000):
  Calls Tryz.prog 108 #[.pointer (some ⟨b,o,none⟩),WW x false] w fun e w'=>e= .returned .nilIface∧lu w' b o (m+1) (More S w w') (bK (x::L))∧kF S b o w w':=
 (Ia b o m S (bK L) w h x hx hm).mono fun _ _ ⟨h1,h2,h3⟩=>⟨h1,by rw[<-SC];exact h2,h3⟩
theorem Cq (b o m:Nat) (S:Nat->Prop) (L:List O) (w:World) (h:lu w b o m S (bK L)) (x:O) (hx:x.wf) (hL:x∈L) (hm:m < 100000000):
  Calls Tryz.prog 108 #[.pointer (some ⟨b,o,none⟩),WW x true] w fun e w'=>e= .returned .nilIface∧lu w' b o (m+1) (More S w w') (bK (L.erase x))∧kF S b o w w':=
 (EA b o m S (bK L) w h x hx _ (JG hL) (SE hL) hm).mono fun _ _ ⟨h1,h2,h3⟩=>⟨h1,h2.same (OY hL),h3⟩
end
end Go.Proofs.YthfpipieboophaaGreatDoor
