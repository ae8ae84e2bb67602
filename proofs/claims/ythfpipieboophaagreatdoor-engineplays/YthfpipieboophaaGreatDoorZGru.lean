import Derived.Maps.RangeWalk
import Derived.Test.YthfpipieboophaaGreatDoorZac
namespace Go.Proofs.YthfpipieboophaaGreatDoor
set_option maxRecDepth 100000
set_option maxHeartbeats 40000000
open Go.Proofs.Tryz Go.Joins Go.RowKit Go.Sort
section
def noG (G:Int->Option Tl) (x:O):Prop:=G x.k=none∨∃τ,G x.k=some τ∧x.hr=true∧x.rv∉τ.R
def OQ (x:O) (τ:Tl):Prop:=x.hr=true->x.rv∈τ.R
theorem H6 (b o bm m n:Nat) (aO:Int->Nat×Nat) (G:Int->Option Tl) (D:DataW Value) (w:World) (hcell:w.cell? ⟨b,o,none⟩=some (.map (some bm))) (hblt:b < w.heap.size) (h:fe w b bm aO m G n D) (x:O) (hx:x.wf) (τ:Tl) (hk:G x.k=some τ) (hy:OQ x τ) (h1:τ.c=1) (hm:m < 100000000):
  Calls prog 181 #[.pointer (some ⟨b,o,none⟩),vO x] w fun e w'=>e= .returned .nilIface∧w'.ownsMap prog 3 gR bm n (D.del (gi x.k))∧(w.alloc (.cells (ah x).toArray 89)).grownBy w' (some bm):=by
 have hT:=h.tals x.k τ hk;have eD:=h.look (W:=(w.alloc (.cells (ah x).toArray 89)).drew) (Below.heap_alloc w _ bm h.own.lt) hx.k hk;have hc:=hT.cells;have htlt:=hT.lt;have hlen:=hT.len;obtain⟨nr,Dr,hnr,l7,hcr⟩:=hT.own;have hrl:=AO (W:=(w.alloc (.cells (ah x).toArray 89)).drew.drew) (ownsMap_at l7 (Below.heap_alloc w _ _ htlt.2)) hcr x.rv hx.rv;have OI:τ.R.count x.rv<=τ.R.length:=List.count_le_length
 have hpos:x.hr=true->(1:Int)<=τ.R.count x.rv:=fun e=>by have :=List.count_pos_iff.2 (hy e);omega
 have hhi:(τ.R.count x.rv:Int) < 100000000:=by omega
 have hown:(w.alloc (.cells (ah x).toArray 89)).drew.drew.drew.ownsMap prog 3 gR bm n D:=ownsMap_at h.own (Below.heap_alloc w _ bm h.own.lt);obtain⟨W2,hd,hown2,ht⟩:=hown.drop fJ underlying104 (yt hx.k) 0;have hend:Hid (W2.ownsMap prog 3 gR bm n (D.del (gi x.k))∧(w.alloc (.cells (ah x).toArray 89)).grownBy W2 (some bm)):=⟨hown2,ht.grown.os,ht.grown.tape,ht.grown.output,ht.grown.size,ht.grown.block⟩;rw[h1] at hc;clear hcr l7 h hT hk hown hown2 ht OI hlen hy h1;generalize (τ.R.count x.rv:Int)=cn at *;generalize (aO x.k).1=t at *;generalize (aO x.k).2=r at *;obtain⟨k,lk,lt,lv,rk,rt,rv,hl,hr⟩:=x;cases hr
 ·clear hrl hpos;simp only[vO,ah] at eD hd hend⊢;go_enter func181,ntmps181;go_wp2
  go_region
  all_goals (try go_wp2)
  all_goals go_region
  all_goals (try go_wp2)
  all_goals go_region
  all_goals (try go_wp2)
  all_goals go_ret
  all_goals exact⟨rfl,hend.out⟩
 ·have hpos':=hpos rfl;clear hpos;simp only[vO,ah] at eD hd hrl hend hpos' hhi⊢;go_enter func181,ntmps181;go_wp2
  go_region
  all_goals (try go_wp2)
  all_goals go_region
  all_goals (try go_wp2)
  all_goals go_region
  all_goals (try go_wp2)
  all_goals go_ret
  all_goals exact⟨rfl,hend.out⟩
def iM (w:World) (x:O) (t:Nat) (c s:Int):World:=
 if x.hl then(((w.setCell ⟨t,0,none⟩ (.int .i64 (c -1))).setCell ⟨t,1,none⟩ (.int .i64 (wrap64 (s -x.lv)))).alloc (.cells (ah x).toArray 89)).drew.drew.drew
 else((w.setCell ⟨t,0,none⟩ (.int .i64 (c -1))).alloc (.cells (ah x).toArray 89)).drew.drew
def AR (τ:Tl) (x:O):Tl:=⟨τ.c -1,if x.hl then wrap64 (τ.s -x.lv) else τ.s,τ.R⟩
theorem Ey {w:World} {t r:Nat} (τ:Tl) (x:O) (h2:1<=τ.c) (h:w.heap[t]? =some (.cells #[.int .i64 τ.c,.int .i64 τ.s,.map (some r)] 283)):
  (iM w x t τ.c τ.s).heap[t]? =some (.cells #[.int .i64 (AR τ x).c,.int .i64 (AR τ x).s,.map (some r)] 283)∧(iM w x t τ.c τ.s).heap.size=w.heap.size+1∧
  (∀j,j < w.heap.size->j≠t->(iM w x t τ.c τ.s).heap[j]? =w.heap[j]?)∧(iM w x t τ.c τ.s).os=w.os∧(iM w x t τ.c τ.s).tape=w.tape∧(iM w x t τ.c τ.s).output=w.output:=by
 have hlt:t < w.heap.size:=(Array.getElem?_eq_some_iff.1 h).1
 have hb1:(w.setCell ⟨t,0,none⟩ (.int .i64 ((τ.c:Int) -1))).heap[t]? =some (.cells #[.int .i64 ((τ.c:Int) -1),.int .i64 τ.s,.map (some r)] 283):=by
  rw[block_setCell h];rfl
 have ho:∀j,j≠t->(w.setCell ⟨t,0,none⟩ (.int .i64 ((τ.c:Int) -1))).heap[j]? =w.heap[j]? :=fun j hne=>Below.heap_setCell _ _ _ _ hne
 have hput:(AR τ x).c=τ.c -1:=rfl
 have e1:(((τ.c -1:Nat):Int))=(τ.c:Int) -1:=by omega
 rw[hput,e1];unfold iM;cases hl:x.hl
 ·simp only[Bool.false_eq_true,if_false];refine⟨?_,by simp,fun j hj hne=> ?_,rfl,rfl,rfl⟩
  ·refine(Below.heap_alloc _ _ t (by simpa using hlt)).trans ?_;rw[hb1];simp[AR,hl]
  ·exact(Below.heap_alloc _ _ j (by simpa using hj)).trans (ho j hne)
 ·simp only[if_true];refine⟨?_,by simp,fun j hj hne=> ?_,rfl,rfl,rfl⟩
  ·refine(Below.heap_alloc _ _ t (by simpa using hlt)).trans ?_;rw[block_setCell hb1];simp[AR,hl]
  ·refine(Below.heap_alloc _ _ j (by simpa using hj)).trans ?_;rw[Below.heap_setCell _ _ _ _ hne];exact ho j hne
theorem H7 (b o bm m n:Nat) (aO:Int->Nat×Nat) (G:Int->Option Tl) (D:DataW Value) (w:World) (hcell:w.cell? ⟨b,o,none⟩=some (.map (some bm))) (hblt:b < w.heap.size) (h:fe w b bm aO m G n D) (x:O) (hx:x.wf) (τ:Tl) (hk:G x.k=some τ) (hy:OQ x τ) (h2:2<=τ.c) (hm:m < 100000000):
  Calls prog 181 #[.pointer (some ⟨b,o,none⟩),vO x] w fun e w'=>e= .returned .nilIface∧
   ((x.hr=false∧w'=iM w x (aO x.k).1 τ.c τ.s)∨(x.hr=true∧w'.heap.size=(iM w x (aO x.k).1 τ.c τ.s).heap.size∧(iM w x (aO x.k).1 τ.c τ.s).grownBy w' (some (aO x.k).2)∧∃n D,n<=m+1∧w'.ownsMap prog 3 (plainElem (H:=Unit) prog 3) (aO x.k).2 n D∧jU D (τ.R.erase x.rv))):=by
 have hT:=h.tals x.k τ hk;have eD:=h.look (W:=(w.alloc (.cells (ah x).toArray 89)).drew) (Below.heap_alloc w _ bm h.own.lt) hx.k hk;have hc:=hT.cells;have htlt:=hT.lt;have hne:=hT.ne;have hnb:=h.nb x.k τ hk;have hlen:=hT.len
 have hlo:(2:Int)<=τ.c:=by omega
 have ZH:=hT.hi
 have hhi:(τ.c:Int) < 100000000:=by omega
 obtain⟨p1,p2,p3,p4,p5,p6⟩:=Ey τ x (by omega) hT.blk;obtain⟨nr,Dr,hnr,l7,hcr⟩:=hT.own;have hrl:=AO (W:=(w.alloc (.cells (ah x).toArray 89)).drew.drew) (ownsMap_at l7 (Below.heap_alloc w _ _ htlt.2)) hcr x.rv hx.rv;have OI:τ.R.count x.rv<=τ.R.length:=List.count_le_length
 have hpos:x.hr=true->(1:Int)<=τ.R.count x.rv:=fun e=>by have :=List.count_pos_iff.2 (hy e);omega
 have hhi2:(τ.R.count x.rv:Int) < 100000000:=by omega
 have xV:fD (iM w x (aO x.k).1 τ.c τ.s) (aO x.k).1 (aO x.k).2 m (AR τ x):=
  ⟨p1,⟨nr,Dr,hnr,ownsMap_at l7 (p3 _ htlt.2 hne.symm),hcr⟩,by show 1<=τ.c -1;omega,by show τ.c -1<=m;omega,hlen⟩
 have HR:Hid (x.hr=true->Calls prog 250 #[tp (aO x.k).1,.int .i64 x.rv] (iM w x (aO x.k).1 τ.c τ.s) fun e w'=>e= .returned (.tuple #[])∧(w'.heap.size=(iM w x (aO x.k).1 τ.c τ.s).heap.size∧(iM w x (aO x.k).1 τ.c τ.s).grownBy w' (some (aO x.k).2)∧∃n D,n<=m+1∧w'.ownsMap prog 3 (plainElem (H:=Unit) prog 3) (aO x.k).2 n D∧jU D (τ.R.erase x.rv))):=
  fun e=>zK _ _ m _ _ xV x.rv (hy e) hm
 clear p1 p2 p3 p4 p5 p6 hcr l7 h hT hk OI hlen hy h2 xV ZH;generalize (τ.R.count x.rv:Int)=cn at *;generalize (aO x.k).1=t at *;generalize (aO x.k).2=r at *;generalize (τ.c:Int)=c at *;generalize τ.s=s at *;generalize τ.R=R at *;obtain⟨k,lk,lt,lv,rk,rt,rv,hl,hr⟩:=x;cases hr
 ·clear hrl hpos HR;cases hl
  ·simp only[vO,ah,iM,Bool.false_eq_true,if_false] at eD⊢;go_enter func181,ntmps181;go_wp2
   go_region
   all_goals (try go_wp2)
   all_goals go_region
   all_goals (try go_wp2)
   all_goals go_ret
   all_goals exact⟨rfl,.inl ⟨trivial,rfl⟩⟩
  ·simp only[vO,ah,iM,Bool.false_eq_true,if_true] at eD⊢;go_enter func181,ntmps181;go_wp2
   go_region
   all_goals (try go_wp2)
   all_goals go_region
   all_goals (try go_wp2)
   all_goals go_region
   all_goals (try go_wp2)
   all_goals go_ret
   all_goals exact⟨rfl,.inl ⟨trivial,rfl⟩⟩
 ·have hpos':=hpos rfl;have H8:=HR.out rfl;clear hpos HR;cases hl
  ·simp only[vO,ah,iM,Bool.false_eq_true,if_false] at eD hrl H8 hpos' hhi2⊢;have HR:Hid _:=H8;clear H8;go_enter func181,ntmps181;go_wp2
   go_region
   all_goals (try go_wp2)
   all_goals go_region
   all_goals (go_wp2_with (go_at_call 250;refine Calls.mono (Hid.out HR) ?_;rintro e w' ⟨rfl,hpost⟩))
   all_goals go_ret
   all_goals exact⟨rfl,.inr ⟨trivial,hpost⟩⟩
  ·simp only[vO,ah,iM,if_true] at eD hrl H8 hpos' hhi2⊢;have HR:Hid _:=H8;clear H8;go_enter func181,ntmps181;go_wp2
   go_region
   all_goals (try go_wp2)
   all_goals go_region
   all_goals (try go_wp2)
   all_goals go_region
   all_goals (go_wp2_with (go_at_call 250;refine Calls.mono (Hid.out HR) ?_;rintro e w' ⟨rfl,hpost⟩))
   all_goals go_ret
   all_goals exact⟨rfl,.inr ⟨trivial,hpost⟩⟩
end
section
def qi (G:Int->Option Tl) (x:O) (τ:Tl):Int->Option Tl:=lQ G x.k (if τ.c=1 then none else some (gP τ x))
theorem Le (b o m:Nat) (S:Nat->Prop) (G:Int->Option Tl) (w:World) (h:lu w b o m S G) (x:O) (hx:x.wf) (τ:Tl) (hk:G x.k=some τ) (hy:OQ x τ) (hm:m < 100000000):
  Calls prog 181 #[.pointer (some ⟨b,o,none⟩),vO x] w fun e w'=>e= .returned .nilIface∧lu w' b o (m+1) (More S w w') (qi G x τ)∧kF S b o w w':=by
 obtain⟨om,aO,hg,hS,hlt⟩:=h
 rcases hg.map with⟨rfl,rfl⟩ | ⟨bm,n,D,rfl,hM⟩
 ·cases hk
 have hT:=hM.tals x.k τ hk;have hlo:=hT.lo;have hhi:=hT.hi;have hlen:=hT.len;have XO:=hM.own.lt;have hblt:=hg.blt
 by_cases h1:τ.c=1
 ·refine(H6 b o bm m n aO G D w hg.cell.1 hg.blt hM x hx τ hk hy h1 hm).mono fun e w' ⟨e1,hown,hgr⟩=>⟨e1,?_⟩
  have ht:qi G x τ=lQ G x.k none:=by simp[qi,h1]
  have hb:∀j,j < w.heap.size->j≠bm->w'.heap[j]? =w.heap[j]? :=fun j hj hne=>(hgr.block j (by simp;omega) (fun e=>hne (by injection e))).trans (Below.heap_alloc w _ j hj)
  have hsz:w.heap.size<=w'.heap.size:=by have :=hgr.size;simp at this;omega
  have hbb:=hb b hblt hM.bmb.symm;rw[ht];refine⟨⟨some bm,aO,⟨?_,.inr ⟨bm,n,_,rfl,(hM.del x.k hown fun j hj _=>hb j hj).mono (Nat.le_succ m)⟩⟩,fun j hj=> .inl (hS j ?_),fun j hj=> ?_⟩,⟨hgr.os,hgr.tape,hgr.output,hsz,fun j hj hn=>hb j hj (fun e=>hn (hS j (.inr (.inl (by rw[e]))))),fun cs T hc=>⟨cs,hbb.trans hc,rfl,fun _ _=>rfl⟩⟩⟩
  ·obtain⟨cs,T,k1,k2⟩:=hg.blk;exact⟨cs,T,hbb.trans k1,k2⟩
  ·rcases hj with e | e | ⟨i,τi,hi,e⟩
   ·exact .inl e
   ·exact .inr (.inl e)
   ·by_cases ei:i=x.k
    ·rw[ei,dL] at hi;cases hi
    ·rw[aJ _ _ ei] at hi;exact .inr (.inr ⟨i,τi,hi,e⟩)
  ·rcases hj with hj | hj
   ·exact Nat.lt_of_lt_of_le (hlt j hj) hsz
   ·exact hj.2
 ·refine(H7 b o bm m n aO G D w hg.cell.1 hg.blt hM x hx τ hk hy (by omega) hm).mono fun e w' ⟨e1,hE⟩=>⟨e1,?_⟩
  have ht:qi G x τ=lQ G x.k (some (gP τ x)):=by simp[qi,h1]
  rw[ht];have hne:=hT.ne;have htlt:=hT.lt;obtain⟨p1,p2,p3,p4,p5,p6⟩:=Ey τ x (by omega) hT.blk;obtain⟨nr,Dr,hnr,l7,hcr⟩:=hT.own
  rcases hE with⟨hr,rfl⟩ | ⟨hr,hsz,hg',n',D',hn',hown',hc'⟩
  ·refine wU hg hM hS hlt hk (Nat.le_succ m) ⟨p1,⟨nr,Dr,by omega,ownsMap_at l7 (p3 _ htlt.2 hne.symm),?_⟩,by simp[gP];omega,by simp[gP];omega,?_⟩ (fun j hj n1 _=>p3 j hj n1) (by omega) p4 p5 p6
   ·simpa[gP,hr] using hcr
   ·simp[gP,hr];omega
  ·have q:∀j,j < w.heap.size->j≠(aO x.k).2->w'.heap[j]? =(iM w x (aO x.k).1 τ.c τ.s).heap[j]? :=fun j hj n2=>hg'.block j (by omega) (fun e=>n2 (by injection e))
   refine wU hg hM hS hlt hk (Nat.le_succ m) ⟨(q _ htlt.1 hne).trans p1,⟨n',D',hn',hown',?_⟩,by simp[gP];omega,by simp[gP];omega,?_⟩ (fun j hj n1 n2=>(q j hj n2).trans (p3 j hj n1)) (by omega) (hg'.os.trans p4) (hg'.tape.trans p5) (hg'.output.trans p6)
   ·simpa[gP,hr] using hc'
   ·have :=List.length_erase_le (a:=x.rv) (l:=τ.R);simp[gP,hr];omega
def WW (x:O) (g:Bool):Value:= .agg #[.int .i64 x.k,.int .i64 x.lk,.int .i64 x.lt,.int .i64 x.lv,.int .i64 x.rk,.int .i64 x.rt,.int .i64 x.rv,.bool x.hl,.bool x.hr,.bool g]
abbrev SB (x:O) (g:Bool):Obj:= .cells #[.int .i64 x.k,.int .i64 x.lk,.int .i64 x.lt,.int .i64 x.lv,.int .i64 x.rk,.int .i64 x.rt,.int .i64 x.rv,.bool x.hl,.bool x.hr,.bool g] 95
theorem Ez {S:Nat->Prop} {w w':World} {o:Obj} {b oo m:Nat} {G:Int->Option Tl} (h:lu w' b oo m (More S (w.alloc o) w') G) (ht:kF S b oo (w.alloc o) w'):lu w' b oo m (More S w w') G∧kF S b oo w w':=by
 refine⟨?_,(kF.of_below (below_alloc1 w o)).trans ht fun _ _ h=>h⟩;obtain⟨om,aO,h1,h2,h3⟩:=h;have hs:=ht.size;simp at hs;refine⟨om,aO,h1,fun j hj=>(h2 j hj).imp id fun h=> ?_,fun j hj=> ?_⟩
 ·simp at h;exact⟨by omega,h.2⟩
 ·rcases hj with hj | hj
  ·exact h3 j (.inl hj)
  ·exact hj.2
theorem Ia (b o m:Nat) (S:Nat->Prop) (G:Int->Option Tl) (w:World) (h:lu w b o m S G) (x:O) (hx:x.wf) (hm:m < 100000000):
  Calls prog 108 #[.pointer (some ⟨b,o,none⟩),WW x false] w fun e w'=>e= .returned .nilIface∧lu w' b o (m+1) (More S w w') (yz G x)∧kF S b o w w':=by
 have HP:Hid (Calls prog 182 #[.pointer (some ⟨b,o,none⟩),vO x] (w.alloc (SB x false)) fun e w'=>e= .returned (.tuple #[])∧lu w' b o (m+1) (More S w w') (yz G x)∧kF S b o w w'):=
  (OP b o m S G _ (h.below (below_alloc1 w (SB x false))) x hx hm).mono fun e w' ⟨h1,h2,h3⟩=>⟨h1,Ez h2 h3⟩
 clear h;simp only[vO] at HP;simp only[WW];go_enter func108,ntmps108
 go_wp2_with (go_at_call 182;refine Calls.mono (Hid.out HP) ?_;rintro e w' ⟨rfl,hpost⟩)
 go_ret;exact⟨rfl,hpost⟩
theorem EA (b o m:Nat) (S:Nat->Prop) (G:Int->Option Tl) (w:World) (h:lu w b o m S G) (x:O) (hx:x.wf) (τ:Tl) (hk:G x.k=some τ) (hy:OQ x τ) (hm:m < 100000000):
  Calls prog 108 #[.pointer (some ⟨b,o,none⟩),WW x true] w fun e w'=>e= .returned .nilIface∧lu w' b o (m+1) (More S w w') (qi G x τ)∧kF S b o w w':=by
 have HP:Hid (Calls prog 181 #[.pointer (some ⟨b,o,none⟩),vO x] (w.alloc (SB x true)) fun e w'=>e= .returned .nilIface∧lu w' b o (m+1) (More S w w') (qi G x τ)∧kF S b o w w'):=
  (Le b o m S G _ (h.below (below_alloc1 w (SB x true))) x hx τ hk hy hm).mono fun e w' ⟨h1,h2,h3⟩=>⟨h1,Ez h2 h3⟩
 clear h hk hy;simp only[vO] at HP;simp only[WW];go_enter func108,ntmps108
 go_wp2_with (go_at_call 181;refine Calls.mono (Hid.out HP) ?_;rintro e w' ⟨rfl,hpost⟩)
 go_ret;exact⟨rfl,hpost⟩
end
section
variable {r R R':List Int}
def lo:List Int->Int
 | []=>0
 | [x]=>x
 | x::y::r=>min x (lo (y::r))
def hi:List Int->Int
 | []=>0
 | [x]=>x
 | x::y::r=>max x (hi (y::r))
theorem jC (x:Int) (h:r≠[]):lo (x::r)=min x (lo r):=by
 cases r with
 | nil=>exact absurd rfl h
 | cons y r=>rfl
theorem jD (x:Int) (h:r≠[]):hi (x::r)=max x (hi r):=by
 cases r with
 | nil=>exact absurd rfl h
 | cons y r=>rfl
theorem wQ:∀{R:List Int},R≠[]->lo R∈R∧∀y∈R,lo R<=y
 | [],h=>absurd rfl h
 | [x],_=>by simp[lo]
 | x::y::r,_=>by
  have ih:=wQ (R:=y::r) (by simp);rw[jC x (by simp)];refine⟨?_,fun z hz=> ?_⟩
  ·by_cases h:x<=lo (y::r)
   ·rw[Int.min_eq_left h];simp
   ·rw[Int.min_eq_right (by omega)];exact List.mem_cons_of_mem _ ih.1
  ·rcases List.mem_cons.1 hz with rfl | hz
   ·omega
   ·have :=ih.2 z hz;omega
theorem wR:∀{R:List Int},R≠[]->hi R∈R∧∀y∈R,y<=hi R
 | [],h=>absurd rfl h
 | [x],_=>by simp[hi]
 | x::y::r,_=>by
  have ih:=wR (R:=y::r) (by simp);rw[jD x (by simp)];refine⟨?_,fun z hz=> ?_⟩
  ·by_cases h:hi (y::r)<=x
   ·rw[Int.max_eq_left h];simp
   ·rw[Int.max_eq_right (by omega)];exact List.mem_cons_of_mem _ ih.1
  ·rcases List.mem_cons.1 hz with rfl | hz
   ·omega
   ·have :=ih.2 z hz;omega
theorem Ct (h:∀x,x∈R↔x∈R'):lo R=lo R':=by
 by_cases e:R=[]
 ·subst e
  have :R'=[]:=List.eq_nil_iff_forall_not_mem.2 fun x hx=>by simpa using(h x).2 hx
  rw[this]
 ·have e':R'≠[]:=fun e2=>e (List.eq_nil_iff_forall_not_mem.2 fun x hx=>by have :=(h x).1 hx;rw[e2] at this;cases this)
  have h1:=wQ e;have h2:=wQ e';have a:=h1.2 _ ((h _).2 h2.1);have b:=h2.2 _ ((h _).1 h1.1);omega
theorem Cu (h:∀x,x∈R↔x∈R'):hi R=hi R':=by
 by_cases e:R=[]
 ·subst e
  have :R'=[]:=List.eq_nil_iff_forall_not_mem.2 fun x hx=>by simpa using(h x).2 hx
  rw[this]
 ·have e':R'≠[]:=fun e2=>e (List.eq_nil_iff_forall_not_mem.2 fun x hx=>by have :=(h x).1 hx;rw[e2] at this;cases this)
  have h1:=wR e;have h2:=wR e';have a:=h1.2 _ ((h _).2 h2.1);have b:=h2.2 _ ((h _).1 h1.1);omega
def some? (R:List Int):Bool:= !R.isEmpty
theorem tZ (h:∀x,x∈R↔x∈R'):some? R=some? R':=by
 cases R with
 | nil=>
  have :R'=[]:=List.eq_nil_iff_forall_not_mem.2 fun x hx=>by simpa using(h x).2 hx
  rw[this]
 | cons a r=>
  cases R' with
  | nil=>have :=(h a).1 (by simp);cases this
  | cons b s=>rfl
def vG (k:Int) (τ:Tl):Value:= .agg #[.int .i64 k,.int .i64 τ.c,.int .i64 τ.s,.int .i64 (lo τ.R),.int .i64 (hi τ.R),.bool (some? τ.R)]
structure Gl (w:World) (ob:Nat) (k:Int) (τ:Tl) (left:Lit->Bool) (xs:List Int) (wr:World):Prop where
 blk:wr.heap[ob]? =some (.cells #[.int .i64 k,.int .i64 τ.c,.int .i64 τ.s,.int .i64 (lo xs),.int .i64 (hi xs),.bool (some? xs)] 140)
 below:Below w.heap.size w wr
 mem:∀x,x∈xs↔x∈τ.R∧left (gi x)=false
theorem l5 {wr:World} {ob:Nat} {k c s l h:Int} {b:Bool} (hb:wr.heap[ob]? =some (.cells #[.int .i64 k,.int .i64 c,.int .i64 s,.int .i64 l,.int .i64 h,.bool b] 140)):
  wr.cell? ⟨ob,0,none⟩=some (.int .i64 k)∧wr.cell? ⟨ob,1,none⟩=some (.int .i64 c)∧wr.cell? ⟨ob,2,none⟩=some (.int .i64 s)∧wr.cell? ⟨ob,3,none⟩=some (.int .i64 l)∧wr.cell? ⟨ob,4,none⟩=some (.int .i64 h)∧wr.cell? ⟨ob,5,none⟩=some (.bool b)∧
  wr.frozen? ⟨ob,0,none⟩=false∧wr.frozen? ⟨ob,1,none⟩=false∧wr.frozen? ⟨ob,2,none⟩=false∧wr.frozen? ⟨ob,3,none⟩=false∧wr.frozen? ⟨ob,4,none⟩=false∧wr.frozen? ⟨ob,5,none⟩=false:=by
 refine⟨?_,?_,?_,?_,?_,?_,unfrozen_of_block hb 0,unfrozen_of_block hb 1,unfrozen_of_block hb 2,unfrozen_of_block hb 3,unfrozen_of_block hb 4,unfrozen_of_block hb 5⟩ <;>(rw[cell_of_block hb];rfl)
theorem Lf (t r m:Nat) (τ:Tl) (w:World) (h:fD w t r m τ) (k:Int):
  Calls prog 130 #[tp t,.int .i64 k] w fun e w'=>e= .returned (vG k τ)∧Below w.heap.size w w':=by
 have hc:=h.cells;have htlt:=h.lt;obtain⟨n,D,hn,hown,hcn⟩:=h.own
 let z0:Obj:= .cells #[.int .i64 0,.int .i64 0,.int .i64 0,.int .i64 0,.int .i64 0,.bool false] 140
 let g0:Obj:= .cells #[.int .i64 k,.int .i64 τ.c,.int .i64 τ.s,.int .i64 0,.int .i64 0,.bool false] 140
 have hown0:((w.alloc z0).alloc g0).drew.ownsMap prog 3 (plainElem (H:=Unit) prog 3) r n D:=((hown.alloc z0).alloc g0).drew
 have hb0:((w.alloc z0).alloc g0).drew.heap[w.heap.size+1]? =some g0:=by
  have e:(w.alloc z0).heap.size=w.heap.size+1:=by simp
  have :=(MapKept.heap_alloc (w.alloc z0) g0).1;rw[e] at this;exact this
 have hz0:((w.alloc z0).alloc g0).drew.heap[w.heap.size]? =some z0:=(Below.heap_alloc (w.alloc z0) g0 _ (by simp)).trans (MapKept.heap_alloc w z0).1;have XP:Below w.heap.size w ((w.alloc z0).alloc g0).drew:=(((Below.refl _ w).alloc (Nat.le_refl _) z0).alloc (by simp) g0).drew
 have es:((w.alloc z0).alloc g0).drew.heap.size=w.heap.size+2:=by simp
 have HB0:Hid _:=hb0;have HZ0:Hid _:=hz0;have XQ:Hid _:=XP;have ES:Hid _:=es;clear hb0 hz0 XP es;simp only[z0,g0] at hown0 HB0 HZ0 XQ ES;clear z0 g0;go_enter func130,ntmps130;go_wp2
 go_region
 go_wp2_with (first
  | (at_range;refine wpList_range_own _ rfl _ 281 rfl 3 3 fJ underlying281 _ r n _ rfl hown0 ?_;intro w0 hrg0 hg0 hs0)
  | go_in)
 go_frame
 rw[ES.out] at hrg0 hs0⊢
 go_loopw [6] (fun _ wr=>∃(left:Lit->Bool) (cnt:Nat) (xs:List Int),wr.ranges prog 3 (plainElem (H:=Unit) prog 3) r (w.heap.size+2) n D left cnt∧Hid (Gl w (w.heap.size+1) k τ left xs wr∧wr.heap[w.heap.size]? =some (.cells #[.int .i64 0,.int .i64 0,.int .i64 0,.int .i64 0,.int .i64 0,.bool false] 140)))
  (fun _ wr=>wr.rangeLeft r (w.heap.size+2))
 case atStart=>
  have hblt:w.heap.size+1 < w.heap.size+2:=by omega
  refine⟨_,_,[],hrg0,⟨(hg0.block _ (by rw[ES.out];omega) (by simp)).trans HB0.out,?_,fun x=> ?_⟩,(hg0.block _ (by rw[ES.out];omega) (by simp)).trans HZ0.out⟩
  ·exact XQ.out.trans ⟨hg0.os,hg0.tape,hg0.output,hg0.size,fun j hj=>hg0.block j (by rw[ES.out];omega) (by simp)⟩
  ·constructor
   ·intro hx;cases hx
   ·rintro⟨hx,hl⟩;rw[hcn.has x (hcn.wf x hx)] at hl;simp[hx] at hl
 case round=>
  obtain⟨left,cnt,xs,hrg,HG⟩:=hrel
  go_wp2_with (first
   | (at_next;refine wpList_next_ranges_ii _ rfl _ rfl 3 3 .i64 .i64 fJ underlying3 underlying3 r (w.heap.size+2) n _ _ _ rfl hrg ?_ ?_)
   | go_in)
  ·intro hc0 hl0;obtain⟨hG,RH⟩:=HG.out
   have hsame:∀x,x∈xs↔x∈τ.R:=fun x=>by rw[hG.mem x,hl0];simp
   have hcl:=l5 hG.blk;have hcz:=l5 RH;rw[Ct hsame,Cu hsame,tZ hsame] at hcl;have HB:=hid hG.below;have hsz:w.heap.size+1 < wr.heap.size:=(Array.getElem?_eq_some_iff.1 hG.blk).1;clear hG RH HG;go_wp2;refine bodyPost_ret (v:=vG k τ) (by simp[results,Tryz.results130,go_sem,hcz,vG]) rfl ⟨rfl,?_⟩;exact(((((HB.out.setCell (p:=⟨w.heap.size,0,none⟩) (Nat.le_refl _) _).setCell (p:=⟨w.heap.size,1,none⟩) (Nat.le_refl _) _).setCell (p:=⟨w.heap.size,2,none⟩) (Nat.le_refl _) _).setCell (p:=⟨w.heap.size,3,none⟩) (Nat.le_refl _) _).setCell (p:=⟨w.heap.size,4,none⟩) (Nat.le_refl _) _).setCell (p:=⟨w.heap.size,5,none⟩) (Nat.le_refl _) _
  ·intro x c w1 cnt1 hwx hwc hlx hat hrg1 hlt hg1 hs1 hen;obtain⟨hG,RH⟩:=HG.out;have hr2:=hrg.lt;have hblk1:=(hg1.block (w.heap.size+1) (by omega) (fun e=>by injection e;omega)).trans hG.blk;have hz1:=(hg1.block w.heap.size (by omega) (fun e=>by injection e;omega)).trans RH;have hcl:=l5 hblk1;have hhas:Maps.has D (gi x)=true:=Maps.has_true_of_atKey hat
   have Um:x∈τ.R:=by
    have :=hcn.has x hwx;rw[hhas] at this;simpa using this.symm
   have hmem:∀y,y∈x::xs↔y∈τ.R∧(left (gi y) && !(gi y).sameKey (gi x))=false:=fun y=>by
    by_cases e:y=x
    ·subst e;simp[Um,WideAt.sameKey_self (qF hwx)]
    ·simp[e,hG.mem y,Maps.sameKey_ne (oG e)]
   have hstep:∀W':World,W'.heap[w.heap.size+1]? =some (.cells #[.int .i64 k,.int .i64 τ.c,.int .i64 τ.s,.int .i64 (lo (x::xs)),.int .i64 (hi (x::xs)),.bool (some? (x::xs))] 140)->w1.grownBy W' (some (w.heap.size+1))->
     (∃left cnt xs,W'.ranges prog 3 (plainElem (H:=Unit) prog 3) r (w.heap.size+2) n D left cnt∧Hid (Gl w (w.heap.size+1) k τ left xs W'∧W'.heap[w.heap.size]? =some (.cells #[.int .i64 0,.int .i64 0,.int .i64 0,.int .i64 0,.int .i64 0,.bool false] 140)))∧W'.rangeLeft r (w.heap.size+2) < wr.rangeLeft r (w.heap.size+2):=fun W' hb' hg'=>by
    have hrg2:=hrg1.kept hg' (fun e=>by injection e;omega) (fun e=>by injection e;omega);refine⟨⟨_,_,x::xs,hrg2,⟨hb',?_,hmem⟩,(hg'.block _ (by omega) (fun e=>by injection e;omega)).trans hz1⟩,?_⟩
    ·exact hG.below.trans ⟨hg'.os.trans hg1.os,hg'.tape.trans hg1.tape,hg'.output.trans hg1.output,Nat.le_trans hg1.size hg'.size,fun j hj=>(hg'.block j (by omega) (fun e=>by injection e;omega)).trans (hg1.block j (by omega) (fun e=>by injection e;omega))⟩
    ·rw[hrg2.left_eq,hrg.left_eq];exact hlt
   have HS:Hid _:=hstep;have HB1:Hid _:=hblk1;clear HG hcn hstep hmem hhas Um hz1 hblk1 hG RH
   by_cases hx:xs=[]
   ·subst hx;simp only[lo,hi,some?,List.isEmpty_nil,Bool.not_true] at hcl;go_wp2;refine HS.out _ ?_ ?_
    ·rw[block_setCell (block_setCell (block_setCell (block_setCell (block_setCell HB1.out _) _) _) _)];simp[lo,hi,some?]
    ·exact⟨rfl,rfl,rfl,by simp,fun j _ hj=>by
      have hne:j≠w.heap.size+1:=fun e=>hj (by rw[e])
      rw[Below.heap_setCell _ _ _ _ hne,Below.heap_setCell _ _ _ _ hne,Below.heap_setCell _ _ _ _ hne,Below.heap_setCell _ _ _ _ hne,Below.heap_setCell _ _ _ _ hne]⟩
   ·have hsm:some? xs=true:=by cases xs with
     | nil=>exact absurd rfl hx
     | cons a r=>rfl
    rw[hsm] at hcl;have HX:=hid hx;have HSM:=hid hsm;clear hx hsm;go_wp2;refine HS.out _ ?_ ?_
    ·rw[block_setCell (block_setCell HB1.out _) _]
     have e1:min x (lo xs)=if x < lo xs then x else lo xs:=by split <;>omega
     have e2:max x (hi xs)=if hi xs < x then x else hi xs:=by split <;>omega
     rw[jC x HX.out,jD x HX.out,e1,e2,HSM.out];rfl
    ·exact⟨rfl,rfl,rfl,by simp,fun j _ hj=>by
      have hne:j≠w.heap.size+1:=fun e=>hj (by rw[e])
      rw[Below.heap_setCell _ _ _ _ hne,Below.heap_setCell _ _ _ _ hne]⟩
end
end Go.Proofs.YthfpipieboophaaGreatDoor
