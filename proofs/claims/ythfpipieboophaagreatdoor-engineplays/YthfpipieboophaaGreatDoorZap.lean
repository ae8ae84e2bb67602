import Derived.Test.YthfpipieboophaaGreatDoorSve
namespace Go.Proofs.YthfpipieboophaaGreatDoor
set_option maxRecDepth 100000
set_option maxHeartbeats 40000000
open Go.RowKit Go.Sort Go.Shelf
section
open Go.Proofs.Tryz Go.Joins
theorem MW (be bj bm:Nat) (v0 v1:Value) (f0 f1:Int) (om:Option Nat) (Sg:Nat->Prop) (x:J) (L Lg:List O) (w:World) (h:az w be bj bm v0 v1 f0 f1 om Sg x L Lg) (hL:5000 < L.length):
  Calls prog 18 #[.pointer (some ⟨be,0,none⟩)] w fun e w'=>e= .returned (.tuple #[.string ⟨#[]⟩,.iface 24 (.int .i64 4)])∧w'=w:=by
 have Xd:Hid (Calls prog 57 #[.pointer (some ⟨be,6,none⟩)] w fun e w'=>e= .returned (.int .i64 L.length)∧w'=w):=BI be 6 L.length om L w h.bag
 have i0:(5000:Int) < (L.length:Int):=by omega
 have hlt:=h.blt;clear h;go_enter func18,ntmps18
 go_wp2_with (first
  | (go_at_call 57;refine Xd.out.mono ?_;rintro e w' ⟨rfl,hw⟩;have hw:=hw.symm;subst hw)
  | fail)
 exact bodyPost_ret (v:= .tuple #[.string ⟨#[]⟩,.iface 24 (.int .i64 4)]) (by simp[results,Tryz.results18,go_sem]) rfl ⟨rfl,rfl⟩
theorem A9 (be bj bm:Nat) (v0 v1:Value) (f0 f1:Int) (om:Option Nat) (Sg:Nat->Prop) (x:J) (L Lg Z:List O) (w:World) (h:az w be bj bm v0 v1 f0 f1 om Sg x L Lg) (tab:Lib.TabIs prog w "internal/strconv.uint64pow10" .u64 Lib.pow10Tab) (h64:SL x)
  (hR0:x.R0.length<=300) (hR1:x.R1.length<=300) (hwf:∀o∈L,o.wf) (hZ:Z.Perm L) (hO:bJ Z):
  Calls prog 18 #[.pointer (some ⟨be,0,none⟩)] w fun e w'=>e= .returned (if 5000 < L.length∨60000 < (bN x f0 f1 Z).length then .tuple #[.string ⟨#[]⟩,.iface 24 (.int .i64 4)] else .tuple #[.string ⟨(bN x f0 f1 Z).toArray⟩,.nilIface])∧Below w.heap.size w w':=by
 by_cases hL:5000 < L.length
 ·refine(MW be bj bm v0 v1 f0 f1 om Sg x L Lg w h hL).mono ?_;rintro e w' ⟨rfl,rfl⟩;exact⟨by rw[if_pos (Or.inl hL)],Below.refl _ _⟩
 ·refine(Jn be bj bm v0 v1 f0 f1 om Sg x L Lg w h tab h64 hR0 hR1 (by omega) hwf).mono ?_;rintro e w' ⟨Z',hp,ho,rfl,hb⟩;have e1:Z'=Z:=lY (hp.trans hZ.symm) ho hO;subst e1;refine⟨?_,hb⟩
  by_cases h6:60000 < (bN x f0 f1 Z').length
  ·rw[if_pos h6,if_pos (Or.inr h6)]
  ·rw[if_neg h6,if_neg (by rintro(h7 | h7);exact hL h7;exact h6 h7)]
theorem LB (g off n c:Nat) (k t v:Int) (w:World) (hg:g < w.heap.size) (hn:3<=n) (hn2:n<=1000) (h0:w.cell? ⟨g,off,none⟩=some (.int .i64 k)) (h1:w.cell? ⟨g,off+1,none⟩=some (.int .i64 t)) (h2:w.cell? ⟨g,off+2,none⟩=some (.int .i64 v)):
  Calls prog 165 #[.slice (some ⟨g,off,none⟩) n c] w fun e w'=>e= .returned (.agg #[.int .i64 k,.int .i64 t,.int .i64 v])∧Below w.heap.size w w':=by
 have i0:(0:Int) < (n:Int):=by omega
 have i1:(1:Int) < (n:Int):=by omega
 have i2:(2:Int) < (n:Int):=by omega
 go_enter func165,ntmps165;go_wp2
 go_region
 go_wp2;have hx:=bQ (heap_alloc_new w (bu k t v));refine bodyPost_ret (v:= .agg #[.int .i64 k,.int .i64 t,.int .i64 v]) (by simp[results,Tryz.results165,go_sem,hx]) rfl ⟨rfl,(below_alloc1 w _).drew⟩
end
section
open Go.Joins
theorem zR (be bj bm:Nat) (v0 v1:Value) (f0 f1:Int) (om:Option Nat) (Sg:Nat->Prop) (x:J) (L:List O) (o:O) (w:World) (h:az w be bj bm v0 v1 f0 f1 om Sg x L L) (hwf:o.wf) (hL:L.length<=100000)
  (g1:au o.lk o.lt o.lv=true) (g2:au o.rk o.rt o.rv=true) (hk:o.hl=true->o.hr=true->o.lk=o.rk):
  Calls Tryz.prog 166 #[.pointer (some ⟨be,0,none⟩),vO o] w fun e w'=>e= .returned (.bool true)∧∃fG qY,az w' be bj bm v0 v1 f0 f1 fG qY x (o::L) (o::L)∧(∀k,fG=some k->om=some k∨w.heap.size<=k)∧(∀k,qY k->Sg k∨w.heap.size<=k)∧Turned (fun k=>k=be∨om=some k∨Sg k) w w':=by
 have HGd:Hid (∀(a b c:Int) (W:World),au a b c=true->Below w.heap.size w W->W.heap[w.heap.size]? =some (kY o)->Calls Tryz.prog 96 #[.agg #[.int .i64 a,.int .i64 b,.int .i64 c]] W fun e w'=>e= .returned (.bool true)∧Hid (Below w.heap.size w w'∧w'.heap[w.heap.size]? =some (kY o))):=by
  intro a b c W hgd hW hbx;have hq:=iN a b c W;rw[hgd] at hq;refine hq.mono ?_;rintro e w' ⟨rfl,hb⟩;exact⟨rfl,hW.trans (hb.mono hW.size),(hb.block _ (Array.getElem?_eq_some_iff.1 hbx).1).trans hbx⟩
 have HA:Hid (∀W,Below w.heap.size w W->Calls Tryz.prog 47 #[.pointer (some ⟨be,0,none⟩),vC o false] W fun e w'=>e= .returned (.tuple #[])∧Hid (∃fG qY,az w' be bj bm v0 v1 f0 f1 fG qY x (o::L) (o::L)∧(∀k,fG=some k->om=some k∨w.heap.size<=k)∧(∀k,qY k->Sg k∨w.heap.size<=k)∧Turned (fun k=>k=be∨om=some k∨Sg k) w w')):=by
  intro W hW;refine(Oh be bj bm v0 v1 f0 f1 om Sg x L ⟨o,false⟩ W (h.below hW) hwf (fun e=>by cases e) (by omega)).mono ?_;rintro e w' ⟨rfl,fG,qY,q1,q2,q3,q4⟩;have hs:=hW.size;refine⟨rfl,fG,qY,q1,fun k e=>(q2 k e).imp id (fun e=>by omega),fun k e=>(q3 k e).imp id (fun e=>by omega),(Turned.of_below (S:=fun k=>k=be∨om=some k∨Sg k) hW).trans q4 (fun _ _ e=>e)⟩
 have B1:Hid (Below w.heap.size w (w.alloc (kY o))∧(w.alloc (kY o)).heap[w.heap.size]? =some (kY o)):=⟨below_alloc1 _ _,heap_alloc_new w (kY o)⟩;have hlt:=h.blt;have hc1:=jy B1.out.2;have G1:=hid g1;have G2:=hid g2;have HK:=hid hk;clear h g1 g2 hk hwf;simp only[vO];simp only[vC] at HA;go_enter Tryz.func166,Tryz.ntmps166;go_wp2_with fail;refine(HGd.out _ _ _ _ G1.out B1.out.1 B1.out.2).mono ?_;rintro e w1 ⟨rfl,B2⟩;have hc2:=jy B2.out.2;clear hc1;go_wp2_with fail;refine(HGd.out _ _ _ _ G2.out B2.out.1 B2.out.2).mono ?_;rintro e w2 ⟨rfl,B3⟩;have hc3:=jy B3.out.2;clear hc2;cases hl:o.hl
 ·rw[hl] at hc3 HA;go_wp2_with fail;refine(HA.out _ B3.out.1).mono ?_;rintro e w3 ⟨rfl,h3⟩;go_wp2;go_ret;exact⟨rfl,h3.out⟩
 ·cases hr:o.hr
  ·rw[hl,hr] at hc3 HA;go_wp2_with fail;refine(HA.out _ B3.out.1).mono ?_;rintro e w3 ⟨rfl,h3⟩;go_wp2;go_ret;exact⟨rfl,h3.out⟩
  ·have hkk:=HK.out hl hr;rw[hl,hr] at hc3 HA
   have hn:(o.lk !=o.rk)=false:=by rw[hkk];simp
   clear hkk HK hl hr;go_wp2_with fail;refine(HA.out _ B3.out.1).mono ?_;rintro e w3 ⟨rfl,h3⟩;go_wp2;go_ret;exact⟨rfl,h3.out⟩
end
section
theorem zQ (be bj bm:Nat) (v0 v1:Value) (f0 f1:Int) (om:Option Nat) (Sg:Nat->Prop) (x:J) (L Lg:List O) (g off c:Nat) (a b d:Int) (w:World) (h:az w be bj bm v0 v1 f0 f1 om Sg x L Lg)
  (ha:0<=a∧a<=9223372036854775807) (hb:0<=b∧b<=9223372036854775807) (hd:0<=d∧d<=9223372036854775807) (hg:g < w.heap.size)
  (h0:w.cell? ⟨g,off,none⟩=some (.int .i64 a)) (h1:w.cell? ⟨g,off+1,none⟩=some (.int .i64 b)) (h2:w.cell? ⟨g,off+2,none⟩=some (.int .i64 d)) (hne:g≠be) (hnj:g≠bj):
  Calls Tryz.prog 162 #[.pointer (some ⟨be,0,none⟩),.slice (some ⟨g,off,none⟩) 3 c] w fun e w'=>e= .returned (.bool true)∧az w' be bj bm v0 v1 a b om Sg { x with late:=d} L Lg∧Turned (aT bj bm v0 v1 om Sg) w w':=by
 have HMn:=Tryz.slices_Min_int g off 3 c [a,b,d] w (by omega) (by simp) (by omega) (by
  intro j hj
  match j,hj with
  | 0,_=>exact h0
  | 1,_=>exact h1
  | 2,_=>exact h2)
 have hm:0<=Lib.minOf (List.take 3 [a,b,d]):=by
  show 0<=min (min (min a a) b) d;omega
 have hz:max d 0=d:=by omega
 have HF:Hid (az (((w.setCell ⟨be,4,none⟩ (.int .i64 a)).setCell ⟨be,5,none⟩ (.int .i64 b)).drew) be bj bm v0 v1 a b om Sg x L Lg∧Turned (aT bj bm v0 v1 om Sg) w (((w.setCell ⟨be,4,none⟩ (.int .i64 a)).setCell ⟨be,5,none⟩ (.int .i64 b)).drew)∧(((w.setCell ⟨be,4,none⟩ (.int .i64 a)).setCell ⟨be,5,none⟩ (.int .i64 b)).drew).heap[g]? =w.heap[g]?):=by
  have e1:=h.setf 4 a a f1 (.inl ⟨rfl,rfl,rfl⟩) ha;have e2:=e1.setf 5 b a b (.inr ⟨rfl,rfl,rfl⟩) hb
  have hS:∀k,k=be->aT bj bm v0 v1 om Sg k:=fun k e=> .inr (.inr (by rw[e];exact h.inS))
  refine⟨e2.below ((Below.refl _ _).drew),?_,?_⟩
  ·exact(((Turned.of_below (S:=aT bj bm v0 v1 om Sg) (Below.refl _ w)).trans (bC (b:=be) (o:=4) (u:= .int .i64 a)) (fun k _ e=>hS k e)).trans (bC (b:=be) (o:=5) (u:= .int .i64 b)) (fun k _ e=>hS k e)).trans (Turned.of_below (S:=fun _=>False) ((Below.refl _ _).drew)) (fun _ _ e=>e.elim)
  ·exact(Below.heap_setCell _ _ _ _ hne).trans (Below.heap_setCell _ _ _ _ hne)
 have HJ:Hid (∀W W',az W be bj bm v0 v1 a b om Sg x L Lg->Turned (aT bj bm v0 v1 om Sg) w W->W.heap[g]? =w.heap[g]? ->Below W.heap.size W W'->Calls Tryz.prog 241 #[.pointer (some ⟨bj,0,none⟩),.int .i64 d] W' fun e w'=>e= .returned (.tuple #[])∧(w'.cell? ⟨be,3,none⟩=some (.pointer (some ⟨bj,0,none⟩))∧w'.cell? ⟨g,off+2,none⟩=some (.int .i64 d))∧Hid (az w' be bj bm v0 v1 a b om Sg { x with late:=d} L Lg∧Turned (aT bj bm v0 v1 om Sg) w w')):=by
  intro W W' hE hT hgw hb';have hE':=hE.below hb';refine(zP 0 bj bm v0 v1 x d W' hE'.join).mono ?_;rintro e w' ⟨rfl,j1,j2⟩;rw[hz] at j1;have j3:Turned (eP bj bm v0 v1) W' w':=j2.mono (fun k e=> .inl e);have hE2:=hE'.joined j1 ⟨rfl,rfl,rfl⟩ j3 (fun k e=> .inl e);have hgl:g < W.heap.size:=Nat.lt_of_lt_of_le hg hT.size;refine⟨rfl,⟨hE2.cells.2.2.2.1,?_⟩,hE2,(hT.trans (Turned.of_below (S:=fun _=>False) hb') (fun _ _ e=>e.elim)).trans j3 (fun _ _ e=> .inl e)⟩;exact(World.cell?_of_block (w:=w) (a:=⟨g,off+2,none⟩) (((j2.block g (Nat.lt_of_lt_of_le hgl hb'.size) hnj).trans (hb'.block g hgl)).trans hgw)).trans h2
 have hlt:=h.blt;have hc0:=h.cells;clear h ha hb hd hz;go_enter Tryz.func162,Tryz.ntmps162;go_wp2_with fail;refine HMn.mono ?_;rintro e w' ⟨rfl,hw⟩;have hw:=hw.symm;subst hw;clear HMn;generalize Lib.minOf (List.take 3 [a,b,d])=mm at *;go_wp2_with fail
 go_region
 revert HF;generalize ((w.setCell ⟨be,4,none⟩ (.int .i64 a)).setCell ⟨be,5,none⟩ (.int .i64 b)).drew=w1;intro HF;have hc1:w1.cell? ⟨be,3,none⟩=some (.pointer (some ⟨bj,0,none⟩))∧w1.cell? ⟨g,off+2,none⟩=some (.int .i64 d):=⟨HF.out.1.cells.2.2.2.1,(World.cell?_of_block (w:=w) (a:=⟨g,off+2,none⟩) HF.out.2.2).trans h2⟩;have hg1:g < w1.heap.size:=Nat.lt_of_lt_of_le hg HF.out.2.1.size;have he1:be < w1.heap.size:=HF.out.1.blt;have B1:Hid (Below w1.heap.size w1 w1.drew):=(Below.refl _ _).drew;clear h0 h1 h2 hc0 hm;go_wp2
 go_region_held3 (fun W=>W.cell? ⟨be,3,none⟩=some (.pointer (some ⟨bj,0,none⟩))∧W.cell? ⟨g,off+2,none⟩=some (.int .i64 d)) (first | (go_keep;done) | fail) (first
  | (go_at_call 241;refine(HJ.out w1 _ HF.out.1 HF.out.2.1 HF.out.2.2 B1.out).mono ?_;rintro e w2 ⟨rfl,hc2,h3⟩)
  | fail)
 go_wp2;go_ret;exact⟨rfl,h3.out⟩
end
end Go.Proofs.YthfpipieboophaaGreatDoor
