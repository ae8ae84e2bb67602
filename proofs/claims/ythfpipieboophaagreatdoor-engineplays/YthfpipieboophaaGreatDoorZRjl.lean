import Derived.Test.YthfpipieboophaaGreatDoorZRjk
import Derived.Test.YthfpipieboophaaGreatDoorZax
import Derived.Test.YthfpipieboophaaGreatDoorZbn
namespace Go.Proofs.YthfpipieboophaaGreatDoor
set_option maxRecDepth 100000
set_option maxHeartbeats 40000000
open Go.Joins Go.Shelf Go.RowKit
section
open Go.Proofs.Tryz
variable {b:Nat} {v0 v1:Value} {x:RJ}
theorem yL (lo hi mode:Int) (w:World):Calls prog 49 #[.agg #[.int .i64 lo,.int .i64 hi,.int .i64 mode]] w fun e w'=>e= .returned (.int .i64 (aS lo hi mode))∧Below w.heap.size w w':=by
 have H1:=fun W=>bG lo (-1048576) 1048576 W
 have H2:=fun W=>bG hi (-1048576) 1048576 W
 have H3:=fun W=>bG mode 0 3 W
 by_cases h1: -1048576<=lo∧lo<=1048576
 ·have e1:iG (-1048576) 1048576 lo=true:=by simp[iG];omega
  rw[e1] at H1
  by_cases h2: -1048576<=hi∧hi<=1048576
  ·have e2:iG (-1048576) 1048576 hi=true:=by simp[iG];omega
   rw[e2] at H2
   by_cases h3:hi < lo
   ·have hv:aS lo hi mode=10:=by unfold aS;rw[if_neg (by omega),if_pos h3]
    rw[hv];clear h1 h2 e1 e2 hv H3;go_enter func49,ntmps49;go_wp2_with fail;refine(H1 _).mono ?_;rintro e w' ⟨rfl,rfl⟩;go_wp2_with fail;refine(H2 _).mono ?_;rintro e w' ⟨rfl,rfl⟩;go_wp2;go_ret;exact⟨rfl,below_alloc1 _ _⟩
   ·by_cases h4:0<=mode∧mode<=3
    ·have e3:iG 0 3 mode=true:=by simp[iG];omega
     rw[e3] at H3
     have hv:aS lo hi mode=0:=by unfold aS;rw[if_neg (by omega),if_neg h3,if_neg (by omega)]
     rw[hv];clear h1 h2 e1 e2 hv e3 h4;go_enter func49,ntmps49;go_wp2_with fail;refine(H1 _).mono ?_;rintro e w' ⟨rfl,rfl⟩;go_wp2_with fail;refine(H2 _).mono ?_;rintro e w' ⟨rfl,rfl⟩;go_wp2_with fail;refine(H3 _).mono ?_;rintro e w' ⟨rfl,rfl⟩;go_wp2;go_ret;exact⟨rfl,below_alloc1 _ _⟩
    ·have e3:iG 0 3 mode=false:=by
      rw[<-Bool.not_eq_true];simp only[iG,Bool.and_eq_true,decide_eq_true_eq];exact h4
     rw[e3] at H3
     have hv:aS lo hi mode=1:=by unfold aS;rw[if_neg (by omega),if_neg h3,if_pos h4]
     rw[hv];clear h1 h2 e1 e2 hv e3 h4;go_enter func49,ntmps49;go_wp2_with fail;refine(H1 _).mono ?_;rintro e w' ⟨rfl,rfl⟩;go_wp2_with fail;refine(H2 _).mono ?_;rintro e w' ⟨rfl,rfl⟩;go_wp2_with fail;refine(H3 _).mono ?_;rintro e w' ⟨rfl,rfl⟩;go_wp2;go_ret;exact⟨rfl,below_alloc1 _ _⟩
  ·have e2:iG (-1048576) 1048576 hi=false:=by
    rw[<-Bool.not_eq_true];simp only[iG,Bool.and_eq_true,decide_eq_true_eq];exact h2
   rw[e2] at H2
   have hv:aS lo hi mode=2:=by unfold aS;rw[if_pos (Or.inr h2)]
   rw[hv];clear h1 h2 e1 e2 hv H3;go_enter func49,ntmps49;go_wp2_with fail;refine(H1 _).mono ?_;rintro e w' ⟨rfl,rfl⟩;go_wp2_with fail;refine(H2 _).mono ?_;rintro e w' ⟨rfl,rfl⟩;go_wp2;go_ret;exact⟨rfl,below_alloc1 _ _⟩
 ·have e1:iG (-1048576) 1048576 lo=false:=by
   rw[<-Bool.not_eq_true];simp only[iG,Bool.and_eq_true,decide_eq_true_eq];exact h1
  rw[e1] at H1
  have hv:aS lo hi mode=2:=by unfold aS;rw[if_pos (Or.inl h1)]
  rw[hv];clear h1 e1 hv H2 H3;go_enter func49,ntmps49;go_wp2_with fail;refine(H1 _).mono ?_;rintro e w' ⟨rfl,rfl⟩;go_wp2;go_ret;exact⟨rfl,below_alloc1 _ _⟩
def yh (lo hi mode:Int):RJ:=⟨lo,hi,mode,-1099511627777,-1099511627777,0,0,[],[]⟩
theorem PX (lo hi mode:Int) (w:World):Calls prog 50 #[.agg #[.int .i64 lo,.int .i64 hi,.int .i64 mode]] w fun e w'=>∃b,e= .returned (.pointer (some ⟨b,0,none⟩))∧w.heap.size<=b∧dh w' 0 b (.slice none 0 0) (.slice none 0 0) (yh lo hi mode)∧Below w.heap.size w w':=by
 go_enter func50,ntmps50;go_wp2;go_ret;refine⟨_,rfl,?_,⟨?_,World.ownsRow_nil _ _ _ _,World.ownsRow_nil _ _ _ _,fun g e=>by simp[Value.ownBlock] at e⟩,?_⟩
 ·simp
 ·first
   | exact heap_alloc_new _ _
   | exact aM (by simp)
 ·first
   | exact below_alloc2 _ _ _
   | exact below_alloc1 _ _
   | exact below_alloc3 _ _ _ _
theorem IP (b:Nat) (s tm:Int) (w:World) (hs:iG 0 1 s=false):Calls prog 16 #[.pointer (some ⟨b,0,none⟩),.int .i64 s,.int .i64 tm] w fun e w'=>e= .returned (.int .i64 1)∧w'=w:=by
 have H1:=fun W=>bG s 0 1 W
 rw[hs] at H1;go_enter func16,ntmps16;go_wp2_with fail;refine(H1 _).mono ?_;rintro e w' ⟨rfl,hw⟩;rw[hw];go_wp2;go_ret;exact⟨rfl,rfl⟩
theorem FC (b:Nat) (s tm:Int) (w:World) (hs:iG 0 1 s=true) (ht:iG (-1099511627776) 1099511627776 tm=false):Calls prog 16 #[.pointer (some ⟨b,0,none⟩),.int .i64 s,.int .i64 tm] w fun e w'=>e= .returned (.int .i64 2)∧w'=w:=by
 have H1:=fun W=>bG s 0 1 W
 have H2:=fun W=>bG tm (-1099511627776) 1099511627776 W
 rw[hs] at H1;rw[ht] at H2;go_enter func16,ntmps16;go_wp2_with fail;refine(H1 _).mono ?_;rintro e w' ⟨rfl,hw⟩;rw[hw];clear hw w';go_wp2_with fail;refine(H2 _).mono ?_;rintro e w' ⟨rfl,hw⟩;rw[hw];go_wp2;go_ret;exact⟨rfl,rfl⟩
theorem FD (tm:Int) (w:World) (h:dh w 0 b v0 v1 x) (ht:iG (-1099511627776) 1099511627776 tm=true) (hm:tm < x.m0):Calls prog 16 #[.pointer (some ⟨b,0,none⟩),.int .i64 0,.int .i64 tm] w fun e w'=>e= .returned (.int .i64 10)∧Below w.heap.size w w':=by
 have H1:∀W,Calls prog 52 #[.int .i64 0,.int .i64 0,.int .i64 1] W fun e w'=>e= .returned (.bool true)∧w'=W:=fun W=>bG 0 0 1 W
 have H2:=fun W=>bG tm (-1099511627776) 1099511627776 W
 rw[ht] at H2;have c5:=h.cells.2.2.2.2.2.1;have hlt:=h.lt;clear h;go_enter func16,ntmps16;go_wp2_with fail;refine(H1 _).mono ?_;rintro e w' ⟨rfl,hw⟩;rw[hw];clear hw w';go_wp2_with fail;refine(H2 _).mono ?_;rintro e w' ⟨rfl,hw⟩;rw[hw];clear hw w';go_wp2;go_ret;exact⟨rfl,Below.refl _ _⟩
theorem FE (tm:Int) (w:World) (h:dh w 0 b v0 v1 x) (ht:iG (-1099511627776) 1099511627776 tm=true) (hm:tm < x.m1):Calls prog 16 #[.pointer (some ⟨b,0,none⟩),.int .i64 1,.int .i64 tm] w fun e w'=>e= .returned (.int .i64 10)∧Below w.heap.size w w':=by
 have H1:∀W,Calls prog 52 #[.int .i64 1,.int .i64 0,.int .i64 1] W fun e w'=>e= .returned (.bool true)∧w'=W:=fun W=>bG 1 0 1 W
 have H2:=fun W=>bG tm (-1099511627776) 1099511627776 W
 rw[ht] at H2;have c6:=h.cells.2.2.2.2.2.2.1;have hlt:=h.lt;clear h;go_enter func16,ntmps16;go_wp2_with fail;refine(H1 _).mono ?_;rintro e w' ⟨rfl,hw⟩;rw[hw];clear hw w';go_wp2_with fail;refine(H2 _).mono ?_;rintro e w' ⟨rfl,hw⟩;rw[hw];clear hw w';go_wp2;go_ret;exact⟨rfl,Below.refl _ _⟩
end
section
open Go.Proofs.Tryz
structure nM (w:World) (be bj:Nat) (v v0 v1:Value) (x:RJ) (M:List O) (f0 f1:Int):Prop where
 bag:gT (.pointer (some ⟨bj,0,none⟩)) (.int .i64 f0) (.int .i64 f1) w 0 be v M
 join:dh w 0 bj v0 v1 x
theorem nM.below {w w':World} {be bj:Nat} {v v0 v1:Value} {x:RJ} {M:List O} {f0 f1:Int} (h:nM w be bj v v0 v1 x M f0 f1) (hb:Below w.heap.size w w'):nM w' be bj v v0 v1 x M f0 f1:=⟨h.bag.below hb,h.join.below hb⟩
theorem oF (lo hi mode:Int) (w:World) (hp:aS lo hi mode≠0):Calls prog 14 #[.agg #[.int .i64 lo,.int .i64 hi,.int .i64 mode]] w fun e w'=>e= .returned (.tuple #[.pointer none,.int .i64 (aS lo hi mode)])∧Below w.heap.size w w':=by
 have H:=fun W=>yL lo hi mode W
 have hne:(aS lo hi mode==0)=false:=by simp[hp]
 have hne2:(aS lo hi mode !=0)=true:=by simp[hp]
 generalize aS lo hi mode=c at *;go_enter func14,ntmps14;go_wp2_with fail;refine(H _).mono ?_;rintro e w2 ⟨rfl,hb2⟩;go_wp2;go_ret2;exact⟨rfl,by first | exact hb2 | exact(below_alloc1 _ _).trans (hb2.mono (by simp))⟩
theorem lN (lo hi mode:Int) (w:World) (hp:aS lo hi mode=0):Calls prog 14 #[.agg #[.int .i64 lo,.int .i64 hi,.int .i64 mode]] w fun e w'=>∃be bj,e= .returned (.tuple #[.pointer (some ⟨be,0,none⟩),.int .i64 0])∧w.heap.size<=be∧w.heap.size<=bj∧nM w' be bj (.slice none 0 0) (.slice none 0 0) (.slice none 0 0) (yh lo hi mode) [] 0 0∧Below w.heap.size w w':=by
 have H:=fun W=>yL lo hi mode W
 rw[hp] at H
 have HJ:=fun W=>PX lo hi mode W
 clear hp;go_enter func14,ntmps14;go_wp2_with fail;refine(H _).mono ?_;rintro e w2 ⟨rfl,hb2⟩;have HB2:Hid (Below w.heap.size w w2):=(below_alloc1 _ _).trans (hb2.mono (by simp));have hpb:w2.heap[w.heap.size]? =some (.cells #[.int .i64 lo,.int .i64 hi,.int .i64 mode] 45):=(hb2.block _ (by simp)).trans (heap_alloc_new _ _)
 have d0:w2.cell? ⟨w.heap.size,0,none⟩=some (.int .i64 lo):=by rw[cell_of_block hpb];rfl
 have d1:w2.cell? ⟨w.heap.size,1,none⟩=some (.int .i64 hi):=by rw[cell_of_block hpb];rfl
 have d2:w2.cell? ⟨w.heap.size,2,none⟩=some (.int .i64 mode):=by rw[cell_of_block hpb];rfl
 clear hb2 H hpb;go_wp2_with fail;refine(HJ _).mono ?_;rintro e w3 ⟨bj,rfl,hbj,hJ,hb3⟩;have HB3:Hid (Below w.heap.size w w3):=HB2.out.trans (hb3.mono HB2.out.size);have HJ3:=hid hJ;have hl:w.heap.size<=bj:=Nat.le_trans HB2.out.size hbj;clear HJ hJ hb3;go_wp2;go_ret2;refine⟨_,bj,rfl,HB3.out.size,hl,⟨⟨heap_alloc_new _ _,World.ownsRow_nil _ _ _ _⟩,HJ3.out.below (below_alloc1 _ _)⟩,HB3.out.alloc HB3.out.size _⟩
end
section
variable {w w1 W W':World} {base k n be bj g:Nat} {e:TypeId} {v v' vb v0 v1 vx:Value} {xs:List Value} {S:Nat->Prop} {x:RJ} {M:List O} {f0 f1:Int} {C:List Ch} {c:Ch}
def kK (M:List O) (c:Ch):List O:=if c.g=true then M.erase c.x else M++[c.x]
theorem PY (M:List O) (c:Ch):(kK M c).length<=M.length+1:=by
 unfold kK
 split
 ·have :=List.length_erase_le (a:=c.x) (l:=M);omega
 ·simp
theorem Bg:∀(C:List Ch) (M:List O),(C.foldl kK M).length<=M.length+C.length
 | [],M=>by simp
 | c::C,M=>by
  have h1:=Bg C (kK M c);have h2:=PY M c;simp only[List.foldl_cons,List.length_cons];omega
theorem IB (pj f0 f1:Value) (be:Nat) (v:Value) (M:List O) (w:World) (h:gT pj f0 f1 w 0 be v M) (c:Ch) (hM:M.length<=1000000):
  Calls Tryz.prog 41 #[.pointer (some ⟨be,1,none⟩),vC c.x c.g] w fun e w'=>∃n v',e= .returned (.int .i64 n)∧gT pj f0 f1 w' 0 be v' (kK M c)∧nJ be v.ownBlock w w'∧Moves w v.ownBlock v'.ownBlock:=by
 obtain⟨x,g⟩:=c
 cases g with
 | false=>
  refine(PU pj f0 f1 0 be v M w h x hM (Nat.zero_le _)).mono ?_;rintro e w' ⟨rfl,v',h1,h2,h3⟩;exact⟨0,v',rfl,h1,h2,h3⟩
 | true=>
  by_cases hm:x∈M
  ·refine(LX pj f0 f1 0 be v M w h x hM (Nat.zero_le _) hm).mono ?_;rintro e w' ⟨rfl,v',h1,h2,h3⟩;exact⟨0,v',rfl,h1,h2,h3⟩
  ·refine(LQ pj f0 f1 0 be v M w h x hM hm).mono ?_;rintro e w' ⟨rfl,hb⟩;refine⟨8,v,rfl,?_,nJ.of_below hb,Or.inl rfl⟩
   have :kK M ⟨x,true⟩=M:=by unfold kK;rw[if_pos rfl];exact List.erase_of_not_mem hm
   rw[this];exact h.below hb
theorem dZ {b T:Nat} {cs:Array Value} (h:w.ownsRow base e k v n xs) (hb:w.heap[b]? =some (.cells cs T)) (hT:T≠e):v.ownBlock≠some b:=by
 rcases h.2 with⟨rfl,_⟩ | ⟨g,cap,cur,rfl,_,hg,_⟩
 ·simp[Value.ownBlock]
 ·intro eq;simp[Value.ownBlock] at eq;subst eq;rw[hb] at hg;cases hg;exact hT rfl
theorem mV {base' k' n':Nat} {e':TypeId} {xs':List Value} (h:w.ownsRow base e k v n xs) (h':w.ownsRow base' e' k' v' n' xs') (hT:e≠e') (g:Nat) (h1:v.ownBlock=some g):v'.ownBlock≠some g:=by
 rcases h.2 with⟨rfl,_⟩ | ⟨g1,cap,cur,rfl,_,hg,_⟩
 ·simp[Value.ownBlock] at h1
 ·simp[Value.ownBlock] at h1;subst h1;exact dZ h' hg hT
structure Ef (w w1:World) (be bj:Nat) (S:Nat->Prop) (vb v v0 v1:Value) (x:RJ) (M:List O) (f0 f1:Int) (vx:Value) (C:List Ch) (W:World):Prop where
 at1:nM W be bj v v0 v1 x M f0 f1
 ox:W.ownsRow w.heap.size 95 10 vx C.length (C.flatMap aQ)
 tr:Turned (fun g=>g=be∨vb.ownBlock=some g∨S g) w W
 mv:Moves w vb.ownBlock v.ownBlock
 sz:w.heap.size<=w1.heap.size∧w1.heap.size<=W.heap.size
theorem Ef.go (h:Ef w w1 be bj S vb v v0 v1 x M f0 f1 vx C W) (hb:Below W.heap.size W W'):Ef w w1 be bj S vb v v0 v1 x M f0 f1 vx C W':=
 ⟨h.at1.below hb,ag h.ox (fun g e=>hb.block g (h.ox.lt g e).2),h.tr.trans (Turned.of_below (S:=fun _=>False) hb) (fun _ _ e=>e.elim),h.mv,⟨h.sz.1,Nat.le_trans h.sz.2 hb.size⟩⟩
theorem Ef.apply {M':List O} (h:Ef w w1 be bj S vb v v0 v1 x M f0 f1 vx C W) (hr:gT (.pointer (some ⟨bj,0,none⟩)) (.int .i64 f0) (.int .i64 f1) W' 0 be v' M') (hk:nJ be v.ownBlock W W') (hm:Moves W v.ownBlock v'.ownBlock):Ef w w1 be bj S vb v' v0 v1 x M' f0 f1 vx C W':=by
 have hj:=h.at1.join;have hbg:=h.at1.bag;have keep:∀q,q < W.heap.size->q≠be->v.ownBlock≠some q->W'.heap[q]? =W.heap[q]? :=hk.block
 have hne:bj≠be:=fun e=>by have h1:=hj.blk;rw[e,hbg.blk] at h1;cases h1
 have row:∀(n:Nat) (u:Value) (xs:List Value),W.ownsRow 0 117 5 u n xs->W'.ownsRow 0 117 5 u n xs:=fun n u xs hu=>ag hu (fun q e=>keep q (hu.lt q e).2 (fun eb=>dZ hu hbg.blk (by omega) (by rw[e,eb])) (mV hu hbg.row (by decide) q e))
 refine⟨⟨hr,⟨(keep bj hj.lt hne (dZ hbg.row hj.blk (by omega))).trans hj.blk,row _ _ _ hj.r0,row _ _ _ hj.r1,hj.apart⟩⟩,ag h.ox (fun q e=>keep q (h.ox.lt q e).2 (fun eb=>dZ h.ox hbg.blk (by omega) (by rw[e,eb])) (mV h.ox hbg.row (by decide) q e)),?_,?_,⟨h.sz.1,Nat.le_trans h.sz.2 hk.size⟩⟩
 ·refine h.tr.trans (S':=fun g=>g=be∨v.ownBlock=some g) ⟨hk.os,hk.tape,hk.output,hk.size,fun q hq hn=>hk.block q hq (fun e=>hn (Or.inl e)) (fun e=>hn (Or.inr e))⟩ ?_;rintro q hq (e | e)
  ·exact Or.inl e
  ·rcases h.mv with h1 | ⟨g,h1,h2⟩
   ·exact Or.inr (Or.inl (by rw[<-h1];exact e))
   ·rw[h1] at e
    injection e with e
    omega
 ·rcases hm with h1 | ⟨g,h1,h2⟩
  ·rw[h1];exact h.mv
  ·exact Or.inr ⟨g,h1,by have :=h.sz;omega⟩
theorem J7 (h:W.heap[g]? =some (.cells #[.int .i64 c.x.k,.int .i64 c.x.lk,.int .i64 c.x.lt,.int .i64 c.x.lv,.int .i64 c.x.rk,.int .i64 c.x.rt,.int .i64 c.x.rv,.bool c.x.hl,.bool c.x.hr,.bool c.g] 95)):W.cell? ⟨g,0,none⟩=some (.int .i64 c.x.k)∧W.cell? ⟨g,1,none⟩=some (.int .i64 c.x.lk)∧W.cell? ⟨g,2,none⟩=some (.int .i64 c.x.lt)∧W.cell? ⟨g,3,none⟩=some (.int .i64 c.x.lv)∧W.cell? ⟨g,4,none⟩=some (.int .i64 c.x.rk)∧W.cell? ⟨g,5,none⟩=some (.int .i64 c.x.rt)∧W.cell? ⟨g,6,none⟩=some (.int .i64 c.x.rv)∧W.cell? ⟨g,7,none⟩=some (.bool c.x.hl)∧W.cell? ⟨g,8,none⟩=some (.bool c.x.hr)∧W.cell? ⟨g,9,none⟩=some (.bool c.g):=by
 refine⟨?_,?_,?_,?_,?_,?_,?_,?_,?_,?_⟩ <;>(rw[cell_of_block h];rfl)
theorem CP {cap q:Nat} (h:W.ownsRow base 95 10 (.slice (some ⟨g,0,none⟩) n cap) n (C.flatMap aQ)) (hn:C.length=n) (hq:C[q]? =some c):W.cell? ⟨g,q * 10,none⟩=some (.int .i64 c.x.k)∧W.cell? ⟨g,q * 10+1,none⟩=some (.int .i64 c.x.lk)∧W.cell? ⟨g,q * 10+2,none⟩=some (.int .i64 c.x.lt)∧W.cell? ⟨g,q * 10+3,none⟩=some (.int .i64 c.x.lv)∧W.cell? ⟨g,q * 10+4,none⟩=some (.int .i64 c.x.rk)∧W.cell? ⟨g,q * 10+5,none⟩=some (.int .i64 c.x.rt)∧W.cell? ⟨g,q * 10+6,none⟩=some (.int .i64 c.x.rv)∧W.cell? ⟨g,q * 10+7,none⟩=some (.bool c.x.hl)∧W.cell? ⟨g,q * 10+8,none⟩=some (.bool c.x.hr)∧W.cell? ⟨g,q * 10+9,none⟩=some (.bool c.g):=by
 have hl:q < C.length:=(List.getElem?_eq_some_iff.1 hq).1
 have e:∀j,j < 10->W.cell? ⟨g,q * 10+j,none⟩=(aQ c)[j]? :=fun j hj=>by
  rw[h.cellAt (q * 10+j) (by omega),cB aQ 10 kC C q j c hq hj]
 exact⟨e 0 (by omega),e 1 (by omega),e 2 (by omega),e 3 (by omega),e 4 (by omega),e 5 (by omega),e 6 (by omega),e 7 (by omega),e 8 (by omega),e 9 (by omega)⟩
def PZ:Op:= .load 3 (.tmp 32)
theorem P5 {W1 w5:World} {bA v1':Value} {x':RJ} {o:Obj} (h:nM w be bj v v0 v1 x M f0 f1) (hb:Below w.heap.size w W1) (hrb:W1.heap[w.heap.size]? =some o) (hS:∀g,S g->g=bj∨v0.ownBlock=some g∨v1.ownBlock=some g) (hox:w5.ownsRow W1.heap.size 95 10 vx C.length (C.flatMap aQ)) (hj:dh w5 0 bj bA v1' x') (htr:Turned S W1 w5):Ef w w5 be bj S v v bA v1' x' M f0 f1 vx C w5∧w5.heap[w.heap.size]? =some o:=by
 have hj0:=h.join;have hb0:=h.bag
 have hne:bj≠be:=fun e=>by have h1:=hj0.blk;rw[e,hb0.blk] at h1;cases h1
 have nbe:¬S be:=fun e=>by
  rcases hS be e with e | e | e
  ·exact hne e.symm
  ·exact dZ hj0.r0 hb0.blk (by omega) e
  ·exact dZ hj0.r1 hb0.blk (by omega) e
 have nv:∀g,v.ownBlock=some g->¬S g:=fun g hg e=>by
  rcases hS g e with e | e | e
  ·exact dZ hb0.row hj0.blk (by omega) (by rw[hg,e])
  ·exact mV hb0.row hj0.r0 (by decide) g hg e
  ·exact mV hb0.row hj0.r1 (by decide) g hg e
 have nr:¬S w.heap.size:=fun e=>by
  rcases hS _ e with e | e | e
  ·have :=hj0.lt;omega
  ·have :=(hj0.r0.lt _ e).2;omega
  ·have :=(hj0.r1.lt _ e).2;omega
 have hrl:w.heap.size < W1.heap.size:=(Array.getElem?_eq_some_iff.1 hrb).1;refine⟨⟨⟨⟨(htr.block be (by have :=hb0.lt;omega) nbe).trans ((hb.block be hb0.lt).trans hb0.blk),ag hb0.row (fun g e=>(htr.block g (by have :=(hb0.row.lt g e).2;omega) (nv g e)).trans (hb.block g (hb0.row.lt g e).2))⟩,hj⟩,World.ownsRow.mono hox hb.size,?_,Or.inl rfl,⟨Nat.le_trans hb.size htr.size,Nat.le_refl _⟩⟩,(htr.block _ hrl nr).trans hrb⟩;exact(Turned.of_below hb).trans (htr.mono (fun g e=>Or.inr (Or.inr e))) (fun _ _ e=>e)
theorem S9 (h:Ef w w1 be bj S vb v v0 v1 x M f0 f1 vx C W):Ef w w1 be bj S vb v v0 v1 x M (f0+1) f1 vx C (W.setCell ⟨be,2,none⟩ (.int .i64 (f0+1))):=by
 have hj:=h.at1.join;have hbg:=h.at1.bag
 have hne:bj≠be:=fun e=>by have h1:=hj.blk;rw[e,hbg.blk] at h1;cases h1
 have hk:∀(u:Value) (o q:Nat),q≠be->(W.setCell ⟨be,o,none⟩ u).heap[q]? =W.heap[q]? :=fun u o q hq=>Below.heap_setCell _ _ _ _ hq
 refine⟨⟨⟨by rw[block_setCell hbg.blk];rfl,ag hbg.row (fun g e=>hk _ _ g (fun eb=>dZ hbg.row hbg.blk (by omega) (by rw[e,eb])))⟩,⟨(hk _ _ bj hne).trans hj.blk,ag hj.r0 (fun g e=>hk _ _ g (fun eb=>dZ hj.r0 hbg.blk (by omega) (by rw[e,eb]))),ag hj.r1 (fun g e=>hk _ _ g (fun eb=>dZ hj.r1 hbg.blk (by omega) (by rw[e,eb]))),hj.apart⟩⟩,ag h.ox (fun g e=>hk _ _ g (fun eb=>dZ h.ox hbg.blk (by omega) (by rw[e,eb]))),?_,h.mv,⟨h.sz.1,by simp;exact h.sz.2⟩⟩;exact h.tr.trans (S':=fun q=>q=be) ⟨rfl,rfl,rfl,by simp,fun q _ hq=>hk _ _ q hq⟩ (fun q _ e=>Or.inl e)
theorem Ta (h:Ef w w1 be bj S vb v v0 v1 x M f0 f1 vx C W):Ef w w1 be bj S vb v v0 v1 x M f0 (f1+1) vx C (W.setCell ⟨be,3,none⟩ (.int .i64 (f1+1))):=by
 have hj:=h.at1.join;have hbg:=h.at1.bag
 have hne:bj≠be:=fun e=>by have h1:=hj.blk;rw[e,hbg.blk] at h1;cases h1
 have hk:∀(u:Value) (o q:Nat),q≠be->(W.setCell ⟨be,o,none⟩ u).heap[q]? =W.heap[q]? :=fun u o q hq=>Below.heap_setCell _ _ _ _ hq
 refine⟨⟨⟨by rw[block_setCell hbg.blk];rfl,ag hbg.row (fun g e=>hk _ _ g (fun eb=>dZ hbg.row hbg.blk (by omega) (by rw[e,eb])))⟩,⟨(hk _ _ bj hne).trans hj.blk,ag hj.r0 (fun g e=>hk _ _ g (fun eb=>dZ hj.r0 hbg.blk (by omega) (by rw[e,eb]))),ag hj.r1 (fun g e=>hk _ _ g (fun eb=>dZ hj.r1 hbg.blk (by omega) (by rw[e,eb]))),hj.apart⟩⟩,ag h.ox (fun g e=>hk _ _ g (fun eb=>dZ h.ox hbg.blk (by omega) (by rw[e,eb]))),?_,h.mv,⟨h.sz.1,by simp;exact h.sz.2⟩⟩;exact h.tr.trans (S':=fun q=>q=be) ⟨rfl,rfl,rfl,by simp,fun q _ hq=>hk _ _ q hq⟩ (fun q _ e=>Or.inl e)
theorem wG {p:Prop} (h:p):Hid p:=h
theorem kG {F0 F1:Int} (s cd k t u:Int) (w:World) (h:nM w be bj v v0 v1 x M f0 f1) (S:Nat->Prop) (Pst:List Ch->RJ->Value->Value->Prop) (hM:M.length<=900000)
  (hsc:s=0∧(cd=0∨cd=10)∧F0=f0+1∧F1=f1∧(-1000000000<=f0∧f0<=1000000000)∨s=1∧(cd=0∨cd=10)∧F0=f0∧F1=f1+1∧(-1000000000<=f1∧f1<=1000000000)∨(cd=1∨cd=12)∧F0=f0∧F1=f1)
  (hS:∀g,S g->g=bj∨v0.ownBlock=some g∨v1.ownBlock=some g)
  (hF:∀W,w.heap.size<=W.heap.size->dh W 0 bj v0 v1 x->Calls Tryz.prog 44 #[.pointer (some ⟨bj,0,none⟩),.int .i64 s,.agg #[.int .i64 k,.int .i64 t,.int .i64 u]] W fun e w'=>∃(vx bA v1':Value) (C:List Ch) (x':RJ),e= .returned (.tuple #[vx,.int .i64 cd])∧w'.ownsRow W.heap.size 95 10 vx C.length (C.flatMap aQ)∧C.length<=1000∧dh w' 0 bj bA v1' x'∧Turned S W w'∧Pst C x' bA v1'):
  Calls Tryz.prog 10 #[.pointer (some ⟨be,0,none⟩),.int .i64 s,.agg #[.int .i64 k,.int .i64 t,.int .i64 u]] w fun e w'=>∃(vx v' bA v1':Value) (C:List Ch) (x':RJ),e= .returned (.tuple #[vx,.int .i64 cd])∧w'.ownsRow w.heap.size 95 10 vx C.length (C.flatMap aQ)∧nM w' be bj v' bA v1' x' (C.foldl kK M) F0 F1∧Pst C x' bA v1'∧Turned (fun g=>g=be∨v.ownBlock=some g∨S g) w w'∧Moves w v.ownBlock v'.ownBlock:=by
 have HE:=wG h
 have cb:w.cell? ⟨be,0,none⟩=some (.pointer (some ⟨bj,0,none⟩)):=by rw[cell_of_block h.bag.blk];rfl
 have hlt:=h.bag.lt;clear h;have B1:=wG (below_alloc1 w (.cells #[.int .i64 k,.int .i64 t,.int .i64 u] 37)).drew;have R1:Hid ((w.alloc (.cells #[.int .i64 k,.int .i64 t,.int .i64 u] 37)).drew.heap[w.heap.size]? =_):=heap_alloc_new _ _;have HF:=wG hF;have HS:=wG hS;have HSC:Hid (s=0∧(cd=0∨cd=10)∧Hid (F0=f0+1)∧Hid (F1=f1)∧(-1000000000<=f0∧f0<=1000000000)∨s=1∧(cd=0∨cd=10)∧Hid (F0=f0)∧Hid (F1=f1+1)∧(-1000000000<=f1∧f1<=1000000000)∨(cd=1∨cd=12)∧Hid (F0=f0)∧Hid (F1=f1)):=hsc;clear hF hS hsc;go_enter Tryz.func10,Tryz.ntmps10;go_wp2_with fail
 go_region_held3 (fun V=>V.cell? ⟨be,0,none⟩=some (.pointer (some ⟨bj,0,none⟩))∧V.cell? ⟨w.heap.size,0,none⟩=some (.int .i64 k)∧V.cell? ⟨w.heap.size,1,none⟩=some (.int .i64 t)∧V.cell? ⟨w.heap.size,2,none⟩=some (.int .i64 u)) (first | exact YW | (go_keep;done) | fail) (first
  | (go_at_call 44;refine(HF.out _ B1.out.size (HE.out.join.below B1.out)).mono ?_;rintro e w5 ⟨vx,bA,v1',C,x',rfl,hox,Ud,hj5,htr,hps⟩;have E5:=P5 HE.out B1.out R1.out HS.out hox hj5 htr;have LZ:=wG E5.1;have HPs:=wG hps;have YW:w5.cell? ⟨be,0,none⟩=some (.pointer (some ⟨bj,0,none⟩))∧w5.cell? ⟨w.heap.size,0,none⟩=some (.int .i64 k)∧w5.cell? ⟨w.heap.size,1,none⟩=some (.int .i64 t)∧w5.cell? ⟨w.heap.size,2,none⟩=some (.int .i64 u):=(by refine⟨?_,?_,?_,?_⟩;(rw[cell_of_block E5.1.at1.bag.blk];rfl);(rw[cell_of_block E5.2];rfl);(rw[cell_of_block E5.2];rfl);(rw[cell_of_block E5.2];rfl));clear hox hj5 htr hps E5)
  | fail)
 have sx:=aj LZ.out.ox;obtain⟨px,dx,rfl⟩:=sx
 rcases HSC.out with⟨rfl,hcd,e0,e1,b0,b1⟩ | ⟨rfl,hcd,e0,e1,b0,b1⟩ | ⟨hcd,e0,e1⟩
 case' inl=>
  have cf:w5.cell? ⟨be,2,none⟩=some (.int .i64 f0)∧w5.frozen? ⟨be,2,none⟩=false∧be < w5.heap.size:=⟨by rw[cell_of_block LZ.out.at1.bag.blk];rfl,unfrozen_of_block LZ.out.at1.bag.blk 2,LZ.out.at1.bag.lt⟩
  rcases hcd with rfl | rfl
  all_goals
   go_wp2_with fail;have hml:PZ=Op.load 3 (.tmp 32):=rfl;rw[<-hml]
   go_region_held3 (fun V=>True) (exact trivial) (fail)
   have E6:=wG ((S9 LZ.out).go (Below.refl _ _).drew);clear LZ cf YW;go_wp2_with fail;revert E6;generalize (w5.setCell ⟨be,2,none⟩ (.int .i64 (f0+1))).drew=w6;intro E6;rw[<-e0.out,<-e1.out] at E6
 case' inr.inl=>
  have cf:w5.cell? ⟨be,3,none⟩=some (.int .i64 f1)∧w5.frozen? ⟨be,3,none⟩=false∧be < w5.heap.size:=⟨by rw[cell_of_block LZ.out.at1.bag.blk];rfl,unfrozen_of_block LZ.out.at1.bag.blk 3,LZ.out.at1.bag.lt⟩
  rcases hcd with rfl | rfl
  all_goals
   go_wp2_with fail;have hml:PZ=Op.load 3 (.tmp 32):=rfl;rw[<-hml]
   go_region_held3 (fun V=>True) (exact trivial) (fail)
   have E6:=wG ((Ta LZ.out).go (Below.refl _ _).drew);clear LZ cf YW;go_wp2_with fail;revert E6;generalize (w5.setCell ⟨be,3,none⟩ (.int .i64 (f1+1))).drew=w6;intro E6;rw[<-e0.out,<-e1.out] at E6
 case' inr.inr=>
  have E6:=LZ;rw[<-e0.out,<-e1.out] at E6;clear LZ YW
  rcases hcd with rfl | rfl
  all_goals go_wp2_with fail
 all_goals as_aux_lemma=>
  go_loopg [40] C.length (fun gg v40 wr=>∃(q:Nat) (vq:Value),q<=C.length∧gg=C.length -q∧v40= .int .i64 q∧Hid (Ef w w5 be bj S v vq bA v1' x' ((C.take q).foldl kK M) F0 F1 (.slice px C.length dx) C wr))
  case atStart=>exact⟨0,v,Nat.zero_le _,rfl,rfl,E6⟩
  case round=>
   obtain⟨q,vq,hq,hgg,rfl,I⟩:=hrel;have HG:=wG hgg;clear hgg E6
   by_cases uD:q < C.length
   ·obtain⟨gx,e1⟩:∃gx,px=some ⟨gx,0,none⟩:=by
     obtain⟨g,cg,e⟩:=ownsRow_form I.out.ox (by omega)
     injection e with e1
     exact⟨g,e1⟩
    subst e1;obtain⟨c,hcq⟩:∃c,C[q]? =some c:=⟨_,List.getElem?_eq_getElem uD⟩;have ch:=CP I.out.ox rfl hcq
    have HK:Hid ((C.take (q+1)).foldl kK M=kK ((C.take q).foldl kK M) c):=by
     show(C.take (q+1)).foldl kK M=_;rw[List.take_add_one,hcq];simp
    have Hf:((C.take q).foldl kK M).length<=1000000:=by
     have h1:=Bg (C.take q) M;have h2:=List.length_take_le q C;omega
    have A1:=wG (I.out.go (below_alloc1 wr (qZ c)));have hbx:=heap_alloc_new wr (qZ c);have AJ:=wG hbx;have cb:=J7 hbx
    have j1:(0:Int)<=(q:Int):=by omega
    have j2:(q:Int) < (C.length:Int):=by omega
    have hap:=IB _ _ _ be vq ((C.take q).foldl kK M) (wr.alloc (qZ c)).drew (A1.out.go (Below.refl _ _).drew).at1.bag c Hf;simp only[vC] at hap;clear hcq hbx I;generalize hX:(C.take q).foldl kK M=X at *;have HST:=wG (fun(w9:World) (v9:Value) (YX:gT (.pointer (some ⟨bj,0,none⟩)) (.int .i64 F0) (.int .i64 F1) w9 0 be v9 (kK X c)) (Yb:nJ be vq.ownBlock (wr.alloc (qZ c)).drew w9) (YY:Moves (wr.alloc (qZ c)).drew vq.ownBlock v9.ownBlock)=>And.intro ((A1.out.go (Below.refl _ _).drew).apply YX Yb YY) (J7 ((Yb.block wr.heap.size (by show wr.heap.size < (wr.alloc (qZ c)).heap.size;simp) (fun e=>by have :=A1.out.at1.bag.blk;rw[<-e,AJ.out] at this;cases this) (fun e=>dZ A1.out.at1.bag.row AJ.out (by decide) e)).trans AJ.out)));go_wp2_with fail
    go_region_held3 (fun V=>V.cell? ⟨wr.heap.size,0,none⟩=some (.int .i64 c.x.k)∧V.cell? ⟨wr.heap.size,1,none⟩=some (.int .i64 c.x.lk)∧V.cell? ⟨wr.heap.size,2,none⟩=some (.int .i64 c.x.lt)∧V.cell? ⟨wr.heap.size,3,none⟩=some (.int .i64 c.x.lv)∧V.cell? ⟨wr.heap.size,4,none⟩=some (.int .i64 c.x.rk)∧V.cell? ⟨wr.heap.size,5,none⟩=some (.int .i64 c.x.rt)∧V.cell? ⟨wr.heap.size,6,none⟩=some (.int .i64 c.x.rv)∧V.cell? ⟨wr.heap.size,7,none⟩=some (.bool c.x.hl)∧V.cell? ⟨wr.heap.size,8,none⟩=some (.bool c.x.hr)∧V.cell? ⟨wr.heap.size,9,none⟩=some (.bool c.g)) (first | exact cs9 | exact cb | fail) (first
     | (go_at_call 41;refine hap.mono ?_;rintro e w9 ⟨nn,v9,rfl,YX,Yb,YY⟩;have ZP:=HST.out w9 v9 YX Yb YY;have HE9:Hid _:=ZP.1;have cs9:=ZP.2;clear YX Yb YY ZP)
     | fail)
    clear ch cb hap A1 AJ HST;go_wp2
    go_roundg (C.length -(q+1))
    case measure=>have :=HG.out;omega
    case rel=>
     refine⟨q+1,v9,by omega,rfl,by go_num,?_⟩;show Ef _ _ _ _ _ _ _ _ _ _ _ _ _ _ _ _;rw[HK.out];exact HE9.out
   ·have e1:q=C.length:=by omega
    subst e1
    have i1:¬((C.length:Nat):Int) < (C.length:Int):=by omega
    have I1:=I.out;rw[List.take_length] at I1;have HI:Hid _:=I1;clear I I1;go_wp2;go_ret2;exact⟨_,rfl,vq,bA,v1',C,HI.out.ox,x',HI.out.at1,HPs.out,HI.out.tr,HI.out.mv⟩
end
end Go.Proofs.YthfpipieboophaaGreatDoor
