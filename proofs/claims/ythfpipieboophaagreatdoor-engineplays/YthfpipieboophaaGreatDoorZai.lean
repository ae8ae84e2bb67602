import Derived.Test.YthfpipieboophaaGreatDoorZah
namespace Go.Proofs.YthfpipieboophaaGreatDoor
set_option maxRecDepth 100000
set_option maxHeartbeats 40000000
open Go.Joins Go.RowKit
section
open Go.Proofs.Tryz Go.Shelf
variable {w:World} {b:Nat}
theorem ai.cell4 {base bm:Nat} {v0 v1:Value} {x:J} (h:ai w base b bm v0 v1 x) (n:Int):
  ai (w.setCell ⟨b,6,none⟩ (.int .i64 n)) base b bm v0 v1 { x with late:=n}:=by
 have hk:∀k,k≠b->(w.setCell ⟨b,6,none⟩ (.int .i64 n)).heap[k]? =w.heap[k]? :=fun k e=>Below.heap_setCell _ _ _ _ e
 exact⟨block_setCell h.blk _,(hk bm h.ne).trans h.mks,ag h.r0 (fun g e=>hk g (fun e2=>own_ne h.r0 h.blk (by omega) (by rw[<-e2];exact e))),ag h.r1 (fun g e=>hk g (fun e2=>own_ne h.r1 h.blk (by omega) (by rw[<-e2];exact e))),h.apart⟩
theorem bC {o:Nat} {u:Value}:Turned (fun j=>j=b) w (w.setCell ⟨b,o,none⟩ u):=⟨rfl,rfl,rfl,by simp,fun k _ hn=>Below.heap_setCell _ _ _ _ hn⟩
theorem AV (base b bm:Nat) (v0 v1:Value) (x:J) (w:World) (h:ai w base b bm v0 v1 x):
  Calls prog 67 #[.pointer (some ⟨b,0,none⟩)] w fun e w'=>e= .returned (.int .i64 x.late)∧w'=w:=by
 have hc:=h.cells;clear h;go_enter func67,ntmps67;go_wp2;go_ret;exact⟨rfl,rfl⟩
theorem Lj (base b bm:Nat) (v0 v1:Value) (x:J) (s:Int) (w:World) (h:ai w base b bm v0 v1 x):
  Calls prog 64 #[.pointer (some ⟨b,0,none⟩),.int .i64 s] w fun e w'=>e= .returned (.int .i64 (kW x.m0 x.m1 s))∧w'=w:=by
 have hc:=h.cells;have hof:=jl bm x.m0 x.m1 s w h.marks.1 h.marks.2;clear h;go_enter func64,ntmps64
 go_wp2_with (go_at_call 100;refine hof.mono ?_;rintro e w' ⟨rfl,rfl⟩)
 go_ret;exact⟨rfl,rfl⟩
theorem Ig (b:Nat) (s:Int) (w:World) (hs:bM s=false):Calls prog 63 #[.pointer (some ⟨b,0,none⟩),.int .i64 s] w fun e w'=>e= .returned (.int .i64 0)∧w'=w:=by
 go_enter func63,ntmps63
 go_wp2_with (go_at_call 95;refine(bH _ _).mono ?_;rintro e w' ⟨rfl,rfl⟩;rw[hs])
 go_ret;exact⟨rfl,rfl⟩
theorem zP (base b bm:Nat) (v0 v1:Value) (x:J) (n:Int) (w:World) (h:ai w base b bm v0 v1 x):
  Calls prog 241 #[.pointer (some ⟨b,0,none⟩),.int .i64 n] w fun e w'=>e= .returned (.tuple #[])∧ai w' base b bm v0 v1 { x with late:=max n 0}∧Turned (fun j=>j=b) w w':=by
 have hc:=h.cells;have HJ:=hid h;clear h;go_enter func241,ntmps241;go_wp2
 go_end0
 exact⟨rfl,HJ.out.cell4 _,bC⟩
theorem O9 (b:Nat) (s k t v:Int) (w:World) (h:bM s=false∨au k t v=false):
  Calls prog 45 #[.pointer (some ⟨b,0,none⟩),.int .i64 s,.agg #[.int .i64 k,.int .i64 t,.int .i64 v]] w fun e w'=>e= .returned (.tuple #[.slice none 0 0,.iface 24 (.int .i64 1)])∧Below w.heap.size w w':=by
 cases hs:bM s
 ·go_enter func45,ntmps45
  go_wp2_with (go_at_call 95;refine(bH _ _).mono ?_;rintro e w' ⟨rfl,rfl⟩;rw[hs])
  exact bodyPost_ret (v:= .tuple #[.slice none 0 0,.iface 24 (.int .i64 1)]) (by simp[results,Tryz.results45,go_sem]) rfl ⟨rfl,below_alloc1 _ _⟩
 ·have hg:au k t v=false:=by
   rcases h with h | h
   ·rw[hs] at h;cases h
   ·exact h
  have hgo:=iN k t v (w.alloc (.cells #[.int .i64 k,.int .i64 t,.int .i64 v] 37));rw[hg] at hgo;go_enter func45,ntmps45
  go_wp2_with (first
   | (go_at_call 95;refine(bH _ _).mono ?_;rintro e w' ⟨rfl,rfl⟩;rw[hs])
   | (go_at_call 96;refine hgo.mono ?_;rintro e w1 ⟨rfl,hb1⟩)
   | fail)
  exact bodyPost_ret (v:= .tuple #[.slice none 0 0,.iface 24 (.int .i64 1)]) (by simp[results,Tryz.results45,go_sem]) rfl ⟨rfl,(below_alloc1 w _).trans (hb1.mono (by simp))⟩
theorem UG (base b bm:Nat) (v0 v1:Value) (x:J) (w:World) (h:ai w base b bm v0 v1 x):
  Calls prog 63 #[.pointer (some ⟨b,0,none⟩),.int .i64 0] w fun e w'=>e= .returned (.int .i64 x.R0.length)∧w'=w:=by
 have Vo:=kg base b 4 v0 x.R0 w h.side0;have hsd:bM 0=true:=rfl;clear h;go_enter func63,ntmps63
 go_wp2_with (first
  | (go_at_call 95;refine(bH _ _).mono ?_;rintro e w' ⟨rfl,rfl⟩;rw[hsd])
  | (go_at_call 102;refine Vo.mono ?_;rintro e w' ⟨rfl,rfl⟩)
  | fail)
 go_ret;exact⟨rfl,rfl⟩
theorem Vp (base b bm:Nat) (v0 v1:Value) (x:J) (w:World) (h:ai w base b bm v0 v1 x) (hL:x.R0.length<=100000):
  Calls prog 65 #[.pointer (some ⟨b,0,none⟩),.int .i64 0] w fun e w'=>∃v',e= .returned v'∧w'.ownsRow w.heap.size 130 4 v' x.R0.length (x.R0.flatMap ak)∧Below w.heap.size w w':=by
 have Vo:=EG base b 4 v0 x.R0 w h.side0 hL;have hsd:bM 0=true:=rfl;clear h;go_enter func65,ntmps65
 go_wp2_with (first
  | (go_at_call 95;refine(bH _ _).mono ?_;rintro e w' ⟨rfl,rfl⟩;rw[hsd])
  | (go_at_call 116;refine Vo.mono ?_;rintro e w' ⟨v',rfl,h1,h2⟩)
  | fail)
 go_ret;exact⟨v',rfl,h1,h2⟩
theorem Pb (base b bm:Nat) (v0 v1:Value) (x:J) (k t v met:Int) (w:World) (h:ai w base b bm v0 v1 x) (hbase:base<=w.heap.size) (hs:ay x.R0) (hL:x.R0.length < 300) (hg:au k t v=true) (hm:0<=met):
  Calls prog 164 #[.pointer (some ⟨b,0,none⟩),.int .i64 0,.agg #[.int .i64 k,.int .i64 t,.int .i64 v],.int .i64 met] w fun e w'=>e= .returned .nilIface∧∃v',ai w' base b bm v' v1 { x with R0:=bT x.R0 (aV k (t+1) x.R0) ⟨k,t,v,met⟩}∧Turned (fun j=>j=b∨v0.ownBlock=some j) w w'∧dF w v0 v':=by
 have hsd:bM 0=true:=rfl
 have HA:Hid (∀W,fF w k t v W->Calls prog 104 #[.pointer (some ⟨b,4,none⟩),.agg #[.int .i64 k,.int .i64 t,.int .i64 v],.int .i64 met] W fun e w'=>e= .returned .nilIface∧w'.heap[w.heap.size]? =some (.cells #[.int .i64 k,.int .i64 t,.int .i64 v] 37)∧Hid (∃v',ai w' base b bm v' v1 { x with R0:=bT x.R0 (aV k (t+1) x.R0) ⟨k,t,v,met⟩}∧Turned (fun j=>j=b∨v0.ownBlock=some j) w w'∧dF w v0 v')):=by
  intro W hA;have hW:=hA.low;refine(lD base b 4 v0 x.R0 k t v met W (h.below hW).side0 hs hL (Nat.le_trans hbase hW.size) hg hm).mono ?_;rintro e w' ⟨rfl,v',h1,h2,h3⟩;have hfr:dF W v0 v':=h3;have hbx:=(h2.block w.heap.size (Array.getElem?_eq_some_iff.1 hA.box).1 (by have :=h.lt;omega) (fun e=>by have :=(h.r0.lt _ e).2;omega)).trans hA.box;exact⟨rfl,hbx,v',(h.below hW).put0 h1 h2 hfr,(Turned.of_below hW).trans (Turned.of_keep (S:=fun j=>j=b∨v0.ownBlock=some j) h2 (Or.inl rfl) (fun k e=>Or.inr e)) (fun _ _ e=>e),hfr.imp id (fun⟨g,a,c⟩=>⟨g,a,Nat.le_trans hW.size c⟩)⟩
 clear h;go_enter func164,ntmps164;have A1:Hid (fF w k t v (w.alloc (.cells #[.int .i64 k,.int .i64 t,.int .i64 v] 37)).drew):=(show fF w k t v (w.alloc (.cells #[.int .i64 k,.int .i64 t,.int .i64 v] 37)).drew from⟨(below_alloc1 _ _).drew,heap_alloc_new _ _⟩)
 go_wp2_with (first
  | (go_at_call 95;refine(bH _ _).mono ?_;rintro e w' ⟨rfl,rfl⟩;rw[hsd])
  | fail)
 have hx1:=A1.out.cells
 go_region_held3 (fun W=>W.cell? ⟨w.heap.size,0,none⟩=some (.int .i64 k)∧W.cell? ⟨w.heap.size,1,none⟩=some (.int .i64 t)∧W.cell? ⟨w.heap.size,2,none⟩=some (.int .i64 v)) (first | (go_keep;done) | fail) (first
  | (go_at_call 104;refine(HA.out _ A1.out).mono ?_;rintro e w' ⟨rfl,h2,h1⟩;have hx2:=iq h2)
  | fail)
 go_wp2;go_ret;exact⟨rfl,h1.out⟩
theorem UH (base b bm:Nat) (v0 v1:Value) (x:J) (w:World) (h:ai w base b bm v0 v1 x):
  Calls prog 63 #[.pointer (some ⟨b,0,none⟩),.int .i64 1] w fun e w'=>e= .returned (.int .i64 x.R1.length)∧w'=w:=by
 have Vo:=kg base b 5 v1 x.R1 w h.side1;have hsd:bM 1=true:=rfl;clear h;go_enter func63,ntmps63
 go_wp2_with (first
  | (go_at_call 95;refine(bH _ _).mono ?_;rintro e w' ⟨rfl,rfl⟩;rw[hsd])
  | (go_at_call 102;refine Vo.mono ?_;rintro e w' ⟨rfl,rfl⟩)
  | fail)
 go_ret;exact⟨rfl,rfl⟩
theorem Vq (base b bm:Nat) (v0 v1:Value) (x:J) (w:World) (h:ai w base b bm v0 v1 x) (hL:x.R1.length<=100000):
  Calls prog 65 #[.pointer (some ⟨b,0,none⟩),.int .i64 1] w fun e w'=>∃v',e= .returned v'∧w'.ownsRow w.heap.size 130 4 v' x.R1.length (x.R1.flatMap ak)∧Below w.heap.size w w':=by
 have Vo:=EG base b 5 v1 x.R1 w h.side1 hL;have hsd:bM 1=true:=rfl;clear h;go_enter func65,ntmps65
 go_wp2_with (first
  | (go_at_call 95;refine(bH _ _).mono ?_;rintro e w' ⟨rfl,rfl⟩;rw[hsd])
  | (go_at_call 116;refine Vo.mono ?_;rintro e w' ⟨v',rfl,h1,h2⟩)
  | fail)
 go_ret;exact⟨v',rfl,h1,h2⟩
theorem Pd (base b bm:Nat) (v0 v1:Value) (x:J) (k t v met:Int) (w:World) (h:ai w base b bm v0 v1 x) (hbase:base<=w.heap.size) (hs:ay x.R1) (hL:x.R1.length < 300) (hg:au k t v=true) (hm:0<=met):
  Calls prog 164 #[.pointer (some ⟨b,0,none⟩),.int .i64 1,.agg #[.int .i64 k,.int .i64 t,.int .i64 v],.int .i64 met] w fun e w'=>e= .returned .nilIface∧∃v',ai w' base b bm v0 v' { x with R1:=bT x.R1 (aV k (t+1) x.R1) ⟨k,t,v,met⟩}∧Turned (fun j=>j=b∨v1.ownBlock=some j) w w'∧dF w v1 v':=by
 have hsd:bM 1=true:=rfl
 have HA:Hid (∀W,fF w k t v W->Calls prog 104 #[.pointer (some ⟨b,5,none⟩),.agg #[.int .i64 k,.int .i64 t,.int .i64 v],.int .i64 met] W fun e w'=>e= .returned .nilIface∧w'.heap[w.heap.size]? =some (.cells #[.int .i64 k,.int .i64 t,.int .i64 v] 37)∧Hid (∃v',ai w' base b bm v0 v' { x with R1:=bT x.R1 (aV k (t+1) x.R1) ⟨k,t,v,met⟩}∧Turned (fun j=>j=b∨v1.ownBlock=some j) w w'∧dF w v1 v')):=by
  intro W hA;have hW:=hA.low;refine(lD base b 5 v1 x.R1 k t v met W (h.below hW).side1 hs hL (Nat.le_trans hbase hW.size) hg hm).mono ?_;rintro e w' ⟨rfl,v',h1,h2,h3⟩;have hfr:dF W v1 v':=h3;have hbx:=(h2.block w.heap.size (Array.getElem?_eq_some_iff.1 hA.box).1 (by have :=h.lt;omega) (fun e=>by have :=(h.r1.lt _ e).2;omega)).trans hA.box;exact⟨rfl,hbx,v',(h.below hW).put1 h1 h2 hfr,(Turned.of_below hW).trans (Turned.of_keep (S:=fun j=>j=b∨v1.ownBlock=some j) h2 (Or.inl rfl) (fun k e=>Or.inr e)) (fun _ _ e=>e),hfr.imp id (fun⟨g,a,c⟩=>⟨g,a,Nat.le_trans hW.size c⟩)⟩
 clear h;go_enter func164,ntmps164;have A1:Hid (fF w k t v (w.alloc (.cells #[.int .i64 k,.int .i64 t,.int .i64 v] 37)).drew):=(show fF w k t v (w.alloc (.cells #[.int .i64 k,.int .i64 t,.int .i64 v] 37)).drew from⟨(below_alloc1 _ _).drew,heap_alloc_new _ _⟩)
 go_wp2_with (first
  | (go_at_call 95;refine(bH _ _).mono ?_;rintro e w' ⟨rfl,rfl⟩;rw[hsd])
  | fail)
 have hx1:=A1.out.cells
 go_region_held3 (fun W=>W.cell? ⟨w.heap.size,0,none⟩=some (.int .i64 k)∧W.cell? ⟨w.heap.size,1,none⟩=some (.int .i64 t)∧W.cell? ⟨w.heap.size,2,none⟩=some (.int .i64 v)) (first | (go_keep;done) | fail) (first
  | (go_at_call 104;refine(HA.out _ A1.out).mono ?_;rintro e w' ⟨rfl,h2,h1⟩;have hx2:=iq h2)
  | fail)
 go_wp2;go_ret;exact⟨rfl,h1.out⟩
end
section
open Go.Proofs.Tryz Go.Shelf
theorem Ih (base b bm:Nat) (v0 v1:Value) (x:J) (k t v:Int) (w:World) (h:ai w base b bm v0 v1 x) (hg:au k t v=true) (gN:t<=x.m0) (l1: -9223372036854775808<=x.late) (l2:x.late<=9223372036854775807):
  Calls prog 45 #[.pointer (some ⟨b,0,none⟩),.int .i64 0,.agg #[.int .i64 k,.int .i64 t,.int .i64 v]] w fun e w'=>e= .returned (.tuple #[.slice none 0 0,.iface 24 (.int .i64 10)])∧ai w' base b bm v0 v1 { x with late:=bR x.late}∧Turned (fun j=>j=b) w w':=by
 have hgo:=iN k t v (w.alloc (.cells #[.int .i64 k,.int .i64 t,.int .i64 v] 37));rw[hg] at hgo
 have g1: -1099511627776<=t∧t<=1099511627776:=by simp[au,iG] at hg;omega
 have HJ:=hid h;have hlt:=h.lt;have O6:=h.ltm;have hsd:bM 0=true:=rfl
 have Gj:Hid (∀W,W.cell? ⟨bm,0,none⟩=some (.int .i64 x.m0)->W.cell? ⟨bm,1,none⟩=some (.int .i64 x.m1)->Calls prog 97 #[.pointer (some ⟨bm,0,none⟩),.int .i64 0,.int .i64 t] W fun e w'=>e= .returned (.bool true)∧w'=W):=by
  intro W h1 h2;have :=gB bm x.m0 x.m1 0 t W h1 h2
  have e:decide (t<=kW x.m0 x.m1 0)=true:=by simp[kW];omega
  rwa [e] at this
 have hmo:=fun W=>rT x.late W l1 l2
 clear h gN g1 l1 l2;go_enter func45,ntmps45
 go_wp2_with (first
  | (go_at_call 95;refine(bH _ _).mono ?_;rintro e w' ⟨rfl,rfl⟩;rw[hsd])
  | (go_at_call 96;refine hgo.mono ?_;rintro e w1 ⟨rfl,hb1⟩;have A1:Hid (fF w k t v w1):=(show fF w k t v w1 from⟨(below_alloc1 w _).trans (hb1.mono (by simp)),(hb1.block _ (by simp)).trans (heap_alloc_new _ _)⟩);clear hb1)
  | fail)
 clear hgo;have hc1:=(HJ.out.below A1.out.low).cells;have hm1:=(HJ.out.below A1.out.low).marks;have hx1:=A1.out.cells
 go_region_held3 (fun W=>W.cell? ⟨b,3,none⟩=some (.pointer (some ⟨bm,0,none⟩))∧W.cell? ⟨w.heap.size,1,none⟩=some (.int .i64 t)∧W.cell? ⟨bm,0,none⟩=some (.int .i64 x.m0)∧W.cell? ⟨bm,1,none⟩=some (.int .i64 x.m1)) (first | (go_keep;done) | fail) (first
  | (go_at_call 97;refine(Gj.out _ ?_ ?_).mono ?_;(go_simp);(go_simp);rintro e w' ⟨rfl,rfl⟩)
  | fail)
 go_wp2_with (first
  | (go_at_call 98;refine(hmo _).mono ?_;rintro e w' ⟨rfl,rfl⟩)
  | fail)
 refine bodyPost_ret (v:= .tuple #[.slice none 0 0,.iface 24 (.int .i64 10)]) (by simp[results,Tryz.results45,go_sem]) rfl ⟨rfl,(HJ.out.below A1.out.low.drew).cell4 _,?_⟩;exact(Turned.of_below A1.out.low.drew).trans bC (fun _ _ e=>e)
theorem Ii (base b bm:Nat) (v0 v1:Value) (x:J) (k t v:Int) (w:World) (h:ai w base b bm v0 v1 x) (hg:au k t v=true)
  (p1: -1048576<=x.lo) (p2:x.lo<=1048576) (p3: -1048576<=x.hi) (p4:x.hi<=1048576) (gN:¬t<=x.m0) (hh:x.m1 < t+x.hi) (hL:300<=x.R0.length):
  Calls prog 45 #[.pointer (some ⟨b,0,none⟩),.int .i64 0,.agg #[.int .i64 k,.int .i64 t,.int .i64 v]] w fun e w'=>e= .returned (.tuple #[.slice none 0 0,.iface 24 (.int .i64 12)])∧Below w.heap.size w w':=by
 have hgo:=iN k t v (w.alloc (.cells #[.int .i64 k,.int .i64 t,.int .i64 v] 37));rw[hg] at hgo
 have g1: -1099511627776<=t∧t<=1099511627776:=by simp[au,iG] at hg;omega
 have HJ:=hid h;have hlt:=h.lt;have O6:=h.ltm;have hsd:bM 0=true:=rfl
 have Gj:Hid (∀W,W.cell? ⟨bm,0,none⟩=some (.int .i64 x.m0)->W.cell? ⟨bm,1,none⟩=some (.int .i64 x.m1)->Calls prog 97 #[.pointer (some ⟨bm,0,none⟩),.int .i64 0,.int .i64 t] W fun e w'=>e= .returned (.bool false)∧w'=W):=by
  intro W h1 h2;have :=gB bm x.m0 x.m1 0 t W h1 h2
  have e:decide (t<=kW x.m0 x.m1 0)=false:=by simp[kW];omega
  rwa [e] at this
 have e1:IntKind.i64.wrap (t+x.lo)=t+x.lo:=uk (by omega) (by omega);have e2:IntKind.i64.wrap (t+x.hi)=t+x.hi:=uk (by omega) (by omega)
 have SI:Hid (∀W,W.cell? ⟨bm,0,none⟩=some (.int .i64 x.m0)->W.cell? ⟨bm,1,none⟩=some (.int .i64 x.m1)->Calls prog 100 #[.pointer (some ⟨bm,0,none⟩),.int .i64 1] W fun e w'=>e= .returned (.int .i64 x.m1)∧w'=W):=by
  intro W h1 h2;have :=jl bm x.m0 x.m1 1 W h1 h2
  have e:kW x.m0 x.m1 1=x.m1:=by simp[kW]
  rwa [e] at this
 have Vl:Hid (∀W,Below w.heap.size w W->Calls prog 102 #[.pointer (some ⟨b,4,none⟩)] W fun e w'=>e= .returned (.int .i64 x.R0.length)∧w'=W):=fun W hW=>kg base b 4 v0 x.R0 W (h.below hW).side0
 have i1:(300:Int)<=(x.R0.length:Int):=by omega
 clear h gN g1;go_enter func45,ntmps45
 go_wp2_with (first
  | (go_at_call 95;refine(bH _ _).mono ?_;rintro e w' ⟨rfl,rfl⟩;rw[hsd])
  | (go_at_call 96;refine hgo.mono ?_;rintro e w1 ⟨rfl,hb1⟩;have A1:Hid (fF w k t v w1):=(show fF w k t v w1 from⟨(below_alloc1 w _).trans (hb1.mono (by simp)),(hb1.block _ (by simp)).trans (heap_alloc_new _ _)⟩);clear hb1)
  | fail)
 clear hgo;have hc1:=(HJ.out.below A1.out.low).cells;have hm1:=(HJ.out.below A1.out.low).marks;have hx1:=A1.out.cells
 go_region_held3 (fun W=>W.cell? ⟨b,3,none⟩=some (.pointer (some ⟨bm,0,none⟩))∧W.cell? ⟨w.heap.size,1,none⟩=some (.int .i64 t)∧W.cell? ⟨bm,0,none⟩=some (.int .i64 x.m0)∧W.cell? ⟨bm,1,none⟩=some (.int .i64 x.m1)) (first | (go_keep;done) | fail) (first
  | (go_at_call 97;refine(Gj.out _ ?_ ?_).mono ?_;(go_simp);(go_simp);rintro e w' ⟨rfl,rfl⟩)
  | fail)
 go_wp2_with (first
  | (go_at_call 99;refine(qG b x.lo x.hi _ (by go_simp) (by go_simp)).mono ?_;rintro e w' ⟨rfl,rfl⟩)
  | fail)
 go_region_held3 (fun W=>W.cell? ⟨b,3,none⟩=some (.pointer (some ⟨bm,0,none⟩))∧W.cell? ⟨w.heap.size,1,none⟩=some (.int .i64 t)∧W.cell? ⟨bm,0,none⟩=some (.int .i64 x.m0)∧W.cell? ⟨bm,1,none⟩=some (.int .i64 x.m1)) (first | (go_keep;done) | fail) (first
  | (go_at_call 101;refine(ig _).mono ?_;rintro e w' ⟨rfl,rfl⟩)
  | (go_at_call 100;refine(SI.out _ ?_ ?_).mono ?_;(go_simp);(go_simp);rintro e w' ⟨rfl,rfl⟩)
  | fail)
 go_wp2_with (first
  | (go_at_call 102;refine(Vl.out _ A1.out.low.drew.drew.drew).mono ?_;rintro e w' ⟨rfl,rfl⟩)
  | fail)
 exact bodyPost_ret (v:= .tuple #[.slice none 0 0,.iface 24 (.int .i64 12)]) (by simp[results,Tryz.results45,go_sem]) rfl ⟨rfl,A1.out.low.drew.drew.drew⟩
theorem Ij (base b bm:Nat) (v0 v1:Value) (x:J) (k t v:Int) (w:World) (h:ai w base b bm v0 v1 x) (hg:au k t v=true) (gN:t<=x.m1) (l1: -9223372036854775808<=x.late) (l2:x.late<=9223372036854775807):
  Calls prog 45 #[.pointer (some ⟨b,0,none⟩),.int .i64 1,.agg #[.int .i64 k,.int .i64 t,.int .i64 v]] w fun e w'=>e= .returned (.tuple #[.slice none 0 0,.iface 24 (.int .i64 10)])∧ai w' base b bm v0 v1 { x with late:=bR x.late}∧Turned (fun j=>j=b) w w':=by
 have hgo:=iN k t v (w.alloc (.cells #[.int .i64 k,.int .i64 t,.int .i64 v] 37));rw[hg] at hgo
 have g1: -1099511627776<=t∧t<=1099511627776:=by simp[au,iG] at hg;omega
 have HJ:=hid h;have hlt:=h.lt;have O6:=h.ltm;have hsd:bM 1=true:=rfl
 have Gj:Hid (∀W,W.cell? ⟨bm,0,none⟩=some (.int .i64 x.m0)->W.cell? ⟨bm,1,none⟩=some (.int .i64 x.m1)->Calls prog 97 #[.pointer (some ⟨bm,0,none⟩),.int .i64 1,.int .i64 t] W fun e w'=>e= .returned (.bool true)∧w'=W):=by
  intro W h1 h2;have :=gB bm x.m0 x.m1 1 t W h1 h2
  have e:decide (t<=kW x.m0 x.m1 1)=true:=by simp[kW];omega
  rwa [e] at this
 have hmo:=fun W=>rT x.late W l1 l2
 clear h gN g1 l1 l2;go_enter func45,ntmps45
 go_wp2_with (first
  | (go_at_call 95;refine(bH _ _).mono ?_;rintro e w' ⟨rfl,rfl⟩;rw[hsd])
  | (go_at_call 96;refine hgo.mono ?_;rintro e w1 ⟨rfl,hb1⟩;have A1:Hid (fF w k t v w1):=(show fF w k t v w1 from⟨(below_alloc1 w _).trans (hb1.mono (by simp)),(hb1.block _ (by simp)).trans (heap_alloc_new _ _)⟩);clear hb1)
  | fail)
 clear hgo;have hc1:=(HJ.out.below A1.out.low).cells;have hm1:=(HJ.out.below A1.out.low).marks;have hx1:=A1.out.cells
 go_region_held3 (fun W=>W.cell? ⟨b,3,none⟩=some (.pointer (some ⟨bm,0,none⟩))∧W.cell? ⟨w.heap.size,1,none⟩=some (.int .i64 t)∧W.cell? ⟨bm,0,none⟩=some (.int .i64 x.m0)∧W.cell? ⟨bm,1,none⟩=some (.int .i64 x.m1)) (first | (go_keep;done) | fail) (first
  | (go_at_call 97;refine(Gj.out _ ?_ ?_).mono ?_;(go_simp);(go_simp);rintro e w' ⟨rfl,rfl⟩)
  | fail)
 go_wp2_with (first
  | (go_at_call 98;refine(hmo _).mono ?_;rintro e w' ⟨rfl,rfl⟩)
  | fail)
 refine bodyPost_ret (v:= .tuple #[.slice none 0 0,.iface 24 (.int .i64 10)]) (by simp[results,Tryz.results45,go_sem]) rfl ⟨rfl,(HJ.out.below A1.out.low.drew).cell4 _,?_⟩;exact(Turned.of_below A1.out.low.drew).trans bC (fun _ _ e=>e)
theorem Ik (base b bm:Nat) (v0 v1:Value) (x:J) (k t v:Int) (w:World) (h:ai w base b bm v0 v1 x) (hg:au k t v=true)
  (p1: -1048576<=x.lo) (p2:x.lo<=1048576) (p3: -1048576<=x.hi) (p4:x.hi<=1048576) (gN:¬t<=x.m1) (hh:x.m0 < t+ -x.lo) (hL:300<=x.R1.length):
  Calls prog 45 #[.pointer (some ⟨b,0,none⟩),.int .i64 1,.agg #[.int .i64 k,.int .i64 t,.int .i64 v]] w fun e w'=>e= .returned (.tuple #[.slice none 0 0,.iface 24 (.int .i64 12)])∧Below w.heap.size w w':=by
 have hgo:=iN k t v (w.alloc (.cells #[.int .i64 k,.int .i64 t,.int .i64 v] 37));rw[hg] at hgo
 have g1: -1099511627776<=t∧t<=1099511627776:=by simp[au,iG] at hg;omega
 have HJ:=hid h;have hlt:=h.lt;have O6:=h.ltm;have hsd:bM 1=true:=rfl
 have Gj:Hid (∀W,W.cell? ⟨bm,0,none⟩=some (.int .i64 x.m0)->W.cell? ⟨bm,1,none⟩=some (.int .i64 x.m1)->Calls prog 97 #[.pointer (some ⟨bm,0,none⟩),.int .i64 1,.int .i64 t] W fun e w'=>e= .returned (.bool false)∧w'=W):=by
  intro W h1 h2;have :=gB bm x.m0 x.m1 1 t W h1 h2
  have e:decide (t<=kW x.m0 x.m1 1)=false:=by simp[kW];omega
  rwa [e] at this
 have e1:IntKind.i64.wrap (t+ -x.hi)=t+ -x.hi:=uk (by omega) (by omega);have e2:IntKind.i64.wrap (t+ -x.lo)=t+ -x.lo:=uk (by omega) (by omega)
 have SI:Hid (∀W,W.cell? ⟨bm,0,none⟩=some (.int .i64 x.m0)->W.cell? ⟨bm,1,none⟩=some (.int .i64 x.m1)->Calls prog 100 #[.pointer (some ⟨bm,0,none⟩),.int .i64 0] W fun e w'=>e= .returned (.int .i64 x.m0)∧w'=W):=by
  intro W h1 h2;have :=jl bm x.m0 x.m1 0 W h1 h2
  have e:kW x.m0 x.m1 0=x.m0:=by simp[kW]
  rwa [e] at this
 have Vl:Hid (∀W,Below w.heap.size w W->Calls prog 102 #[.pointer (some ⟨b,5,none⟩)] W fun e w'=>e= .returned (.int .i64 x.R1.length)∧w'=W):=fun W hW=>kg base b 5 v1 x.R1 W (h.below hW).side1
 have i1:(300:Int)<=(x.R1.length:Int):=by omega
 clear h gN g1;go_enter func45,ntmps45
 go_wp2_with (first
  | (go_at_call 95;refine(bH _ _).mono ?_;rintro e w' ⟨rfl,rfl⟩;rw[hsd])
  | (go_at_call 96;refine hgo.mono ?_;rintro e w1 ⟨rfl,hb1⟩;have A1:Hid (fF w k t v w1):=(show fF w k t v w1 from⟨(below_alloc1 w _).trans (hb1.mono (by simp)),(hb1.block _ (by simp)).trans (heap_alloc_new _ _)⟩);clear hb1)
  | fail)
 clear hgo;have hc1:=(HJ.out.below A1.out.low).cells;have hm1:=(HJ.out.below A1.out.low).marks;have hx1:=A1.out.cells
 go_region_held3 (fun W=>W.cell? ⟨b,3,none⟩=some (.pointer (some ⟨bm,0,none⟩))∧W.cell? ⟨w.heap.size,1,none⟩=some (.int .i64 t)∧W.cell? ⟨bm,0,none⟩=some (.int .i64 x.m0)∧W.cell? ⟨bm,1,none⟩=some (.int .i64 x.m1)) (first | (go_keep;done) | fail) (first
  | (go_at_call 97;refine(Gj.out _ ?_ ?_).mono ?_;(go_simp);(go_simp);rintro e w' ⟨rfl,rfl⟩)
  | fail)
 go_wp2_with (first
  | (go_at_call 99;refine(oH b x.lo x.hi _ (by go_simp) (by go_simp) p1 p2 p3 p4).mono ?_;rintro e w' ⟨rfl,rfl⟩)
  | fail)
 go_region_held3 (fun W=>W.cell? ⟨b,3,none⟩=some (.pointer (some ⟨bm,0,none⟩))∧W.cell? ⟨w.heap.size,1,none⟩=some (.int .i64 t)∧W.cell? ⟨bm,0,none⟩=some (.int .i64 x.m0)∧W.cell? ⟨bm,1,none⟩=some (.int .i64 x.m1)) (first | (go_keep;done) | fail) (first
  | (go_at_call 101;refine(jm _).mono ?_;rintro e w' ⟨rfl,rfl⟩)
  | (go_at_call 100;refine(SI.out _ ?_ ?_).mono ?_;(go_simp);(go_simp);rintro e w' ⟨rfl,rfl⟩)
  | fail)
 go_wp2_with (first
  | (go_at_call 102;refine(Vl.out _ A1.out.low.drew.drew.drew).mono ?_;rintro e w' ⟨rfl,rfl⟩)
  | fail)
 exact bodyPost_ret (v:= .tuple #[.slice none 0 0,.iface 24 (.int .i64 12)]) (by simp[results,Tryz.results45,go_sem]) rfl ⟨rfl,A1.out.low.drew.drew.drew⟩
end
section
open Go.Proofs.Tryz Go.Shelf
theorem ai.marked {w w' : World} {base b bm : Nat} {v0 v1 : Value} {x : J} {l r : Int} (h : ai w base b bm v0 v1 x) (hm : w'.heap[bm]? = some (.cells #[.int .i64 l, .int .i64 r] 250)) (ho : Only bm w w') : ai w' base b bm v0 v1 { x with m0 := l, m1 := r } :=
  ⟨(ho.block b (fun e => h.ne e.symm)).trans h.blk, hm, ag h.r0 (fun g e => ho.block g (fun e2 => own_ne h.r0 h.mks (by omega) (by rw [<- e2]; exact e))), ag h.r1 (fun g e => ho.block g (fun e2 => own_ne h.r1 h.mks (by omega) (by rw [<- e2]; exact e))), h.apart⟩
theorem GG (k : Int) (w : World) : (binOp .neq 29 (.iface 24 (.int .i64 k)) .nilIface).run prog w = .ok (.bool true) w := by kernel_rfl
theorem Ll (base b bm : Nat) (v0 v1 : Value) (x : J) (s t : Int) (w : World) (h : ai w base b bm v0 v1 x) (he : moveE x.m0 x.m1 s t ≠ 0) :
    Calls prog 51 #[.pointer (some ⟨b, 0, none⟩), .int .i64 s, .int .i64 t] w fun e w' => e = .returned (.iface 24 (.int .i64 (moveE x.m0 x.m1 s t))) ∧ Below w.heap.size w w' := by
  have hc := h.cells
  have hmv : Calls prog 111 #[.pointer (some ⟨bm, 0, none⟩), .int .i64 s, .int .i64 t] w fun e w' => e = .returned (.iface 24 (.int .i64 (moveE x.m0 x.m1 s t))) ∧ Below w.heap.size w w' := by
    refine (mQ bm x.m0 x.m1 s t w h.mks).mono ?_
    rintro e w' ⟨rfl, h1, h2⟩
    refine ⟨by simp [SG, he], h2.os, h2.tape, h2.output, Nat.le_of_eq h2.size, fun k hk => ?_⟩
    by_cases e : k = bm
    · subst e
      rw [h1, h.mks]
      simp [uh, uj, he]
    · exact h2.block k e
  have hq := GG
  generalize moveE x.m0 x.m1 s t = E at *
  clear h
  go_enter func51, ntmps51
  go_wp2_with (go_at_call 111; refine hmv.mono ?_; rintro e w' ⟨rfl, hb⟩)
  go_ret
  exact ⟨rfl, hb⟩
theorem AX (base b bm : Nat) (v0 v1 : Value) (x : J) (t : Int) (w : World) (h : ai w base b bm v0 v1 x) (he : moveE x.m0 x.m1 0 t = 0) (hL : x.R1.length <= 100000)
    (p1 : -1048576 <= x.lo) (p2 : x.lo <= 1048576) (p3 : -1048576 <= x.hi) (p4 : x.hi <= 1048576) :
    Calls prog 51 #[.pointer (some ⟨b, 0, none⟩), .int .i64 0, .int .i64 t] w fun e w' => e = .returned .nilIface ∧ ∃ v', ai w' base b bm v0 v' { x with m0 := t, R1 := keepR (fun y => decide (y.t <= t + x.lo)) x.R1 } ∧ Turned (fun j => j = b ∨ j = bm ∨ v1.ownBlock = some j) w w' ∧ v'.ownBlock = v1.ownBlock := by
  have hc := h.cells
  have ht : -1099511627776 <= t ∧ t <= 1099511627776 := by
    unfold moveE at he
    rw [if_neg (by decide)] at he
    split at he
    · cases he
    · omega
  have e1 : IntKind.i64.wrap (t + x.lo) = t + x.lo := uk (by omega) (by omega)
  have hmv : Calls prog 111 #[.pointer (some ⟨bm, 0, none⟩), .int .i64 0, .int .i64 t] w fun e w' => e = .returned .nilIface ∧ ai w' base b bm v0 v1 { x with m0 := t } ∧ Turned (fun j => j = bm) w w' := by
    refine (mQ bm x.m0 x.m1 0 t w h.mks).mono ?_
    rintro e w' ⟨rfl, h1, h2⟩
    refine ⟨by simp [SG, he], ?_, h2.os, h2.tape, h2.output, Nat.le_of_eq h2.size, fun k hk hn => h2.block k hn⟩
    have e3 : uh x.m0 x.m1 0 t = t := by simp [uh, he]
    have e4 : uj x.m0 x.m1 0 t = x.m1 := by simp [uj, he]
    rw [e3, e4] at h1
    exact h.marked h1 h2
  have HD : Hid (∀ W, ai W base b bm v0 v1 { x with m0 := t } -> Turned (fun j => j = bm) w W -> Calls prog 112 #[.pointer (some ⟨b, 5, none⟩), .int .i64 (t + x.lo)] W fun e w' => (∃ n, e = .returned (.int .i64 n)) ∧ Hid (∃ v', ai w' base b bm v0 v' { x with m0 := t, R1 := keepR (fun y => decide (y.t <= t + x.lo)) x.R1 } ∧ Turned (fun j => j = b ∨ j = bm ∨ v1.ownBlock = some j) w w' ∧ v'.ownBlock = v1.ownBlock)) := by
    intro W hW hT
    refine (AY base b 5 v1 x.R1 (t + x.lo) W hW.side1 hL).mono ?_
    rintro e w' ⟨rfl, v', h1, h2, h3⟩
    refine ⟨⟨_, rfl⟩, v', hW.put1 h1 h2 (Or.inl h3), ?_, h3⟩
    exact (hT.mono (S' := fun j => j = b ∨ j = bm ∨ v1.ownBlock = some j) (fun k e => Or.inr (Or.inl e))).trans (Turned.of_keep (S := fun j => j = b ∨ j = bm ∨ v1.ownBlock = some j) h2 (Or.inl rfl) (fun k e => Or.inr (Or.inr e))) (fun _ _ e => e)
  clear h he ht
  go_enter func51, ntmps51
  go_wp2_with (first
    | (go_at_call 111; refine hmv.mono ?_; rintro e w1 ⟨rfl, h1, h2⟩; have hc1 := h1.cells; have J1 : Hid (ai w1 base b bm v0 v1 { x with m0 := t } ∧ Turned (fun j => j = bm) w w1) := ⟨h1, h2⟩; clear h1 h2)
    | (go_at_call 101; refine (ig _).mono ?_; rintro e w' ⟨rfl, hw⟩; have hw := hw.symm; subst hw)
    | (go_at_call 99; refine (oH b x.lo x.hi _ (by go_simp) (by go_simp) p1 p2 p3 p4).mono ?_; rintro e w' ⟨rfl, rfl⟩)
    | fail)
  have J2 : Hid (ai w1.drew.drew base b bm v0 v1 { x with m0 := t } ∧ Turned (fun j => j = bm) w w1.drew.drew) := ⟨J1.out.1.below ((Below.refl _ _).drew.drew), J1.out.2.trans (Turned.of_below (S := fun _ => False) ((Below.refl _ _).drew.drew)) (fun _ _ e => e.elim)⟩
  go_region_held3 (fun W => True) (first | trivial | fail) (first
    | (go_at_call 101; refine (ig _).mono ?_; rintro e w' ⟨rfl, rfl⟩)
    | (go_at_call 112; refine (HD.out _ J2.out.1 J2.out.2).mono ?_; rintro e w3 ⟨⟨n3, rfl⟩, h3⟩)
    | fail)
  go_wp2
  go_ret
  exact ⟨rfl, h3.out⟩
theorem AZ (base b bm : Nat) (v0 v1 : Value) (x : J) (t : Int) (w : World) (h : ai w base b bm v0 v1 x) (he : moveE x.m0 x.m1 1 t = 0) (hL : x.R0.length <= 100000)
    (p3 : -1048576 <= x.hi) (p4 : x.hi <= 1048576) :
    Calls prog 51 #[.pointer (some ⟨b, 0, none⟩), .int .i64 1, .int .i64 t] w fun e w' => e = .returned .nilIface ∧ ∃ v', ai w' base b bm v' v1 { x with m1 := t, R0 := keepR (fun y => decide (y.t <= t - x.hi)) x.R0 } ∧ Turned (fun j => j = b ∨ j = bm ∨ v0.ownBlock = some j) w w' ∧ v'.ownBlock = v0.ownBlock := by
  have hc := h.cells
  have ht : -1099511627776 <= t ∧ t <= 1099511627776 := by
    unfold moveE at he
    rw [if_neg (by decide)] at he
    split at he
    · cases he
    · omega
  have e1 : IntKind.i64.wrap (t - x.hi) = t - x.hi := uk (by omega) (by omega)
  have hmv : Calls prog 111 #[.pointer (some ⟨bm, 0, none⟩), .int .i64 1, .int .i64 t] w fun e w' => e = .returned .nilIface ∧ ai w' base b bm v0 v1 { x with m1 := t } ∧ Turned (fun j => j = bm) w w' := by
    refine (mQ bm x.m0 x.m1 1 t w h.mks).mono ?_
    rintro e w' ⟨rfl, h1, h2⟩
    refine ⟨by simp [SG, he], ?_, h2.os, h2.tape, h2.output, Nat.le_of_eq h2.size, fun k hk hn => h2.block k hn⟩
    have e3 : uh x.m0 x.m1 1 t = x.m0 := by simp [uh, he]
    have e4 : uj x.m0 x.m1 1 t = t := by simp [uj, he]
    rw [e3, e4] at h1
    exact h.marked h1 h2
  have HD : Hid (∀ W, ai W base b bm v0 v1 { x with m1 := t } -> Turned (fun j => j = bm) w W -> Calls prog 112 #[.pointer (some ⟨b, 4, none⟩), .int .i64 (t - x.hi)] W fun e w' => (∃ n, e = .returned (.int .i64 n)) ∧ Hid (∃ v', ai w' base b bm v' v1 { x with m1 := t, R0 := keepR (fun y => decide (y.t <= t - x.hi)) x.R0 } ∧ Turned (fun j => j = b ∨ j = bm ∨ v0.ownBlock = some j) w w' ∧ v'.ownBlock = v0.ownBlock)) := by
    intro W hW hT
    refine (AY base b 4 v0 x.R0 (t - x.hi) W hW.side0 hL).mono ?_
    rintro e w' ⟨rfl, v', h1, h2, h3⟩
    refine ⟨⟨_, rfl⟩, v', hW.put0 h1 h2 (Or.inl h3), ?_, h3⟩
    exact (hT.mono (S' := fun j => j = b ∨ j = bm ∨ v0.ownBlock = some j) (fun k e => Or.inr (Or.inl e))).trans (Turned.of_keep (S := fun j => j = b ∨ j = bm ∨ v0.ownBlock = some j) h2 (Or.inl rfl) (fun k e => Or.inr (Or.inr e))) (fun _ _ e => e)
  clear h he ht
  go_enter func51, ntmps51
  go_wp2_with (first
    | (go_at_call 111; refine hmv.mono ?_; rintro e w1 ⟨rfl, h1, h2⟩; have hc1 := h1.cells; have J1 : Hid (ai w1 base b bm v0 v1 { x with m1 := t } ∧ Turned (fun j => j = bm) w w1) := ⟨h1, h2⟩; clear h1 h2)
    | (go_at_call 101; refine (jm _).mono ?_; rintro e w' ⟨rfl, hw⟩; have hw := hw.symm; subst hw)
    | (go_at_call 99; refine (qG b x.lo x.hi _ (by go_simp) (by go_simp)).mono ?_; rintro e w' ⟨rfl, rfl⟩)
    | fail)
  have J2 : Hid (ai w1.drew.drew base b bm v0 v1 { x with m1 := t } ∧ Turned (fun j => j = bm) w w1.drew.drew) := ⟨J1.out.1.below ((Below.refl _ _).drew.drew), J1.out.2.trans (Turned.of_below (S := fun _ => False) ((Below.refl _ _).drew.drew)) (fun _ _ e => e.elim)⟩
  go_region_held3 (fun W => True) (first | trivial | fail) (first
    | (go_at_call 101; refine (jm _).mono ?_; rintro e w' ⟨rfl, rfl⟩)
    | (go_at_call 112; refine (HD.out _ J2.out.1 J2.out.2).mono ?_; rintro e w3 ⟨⟨n3, rfl⟩, h3⟩)
    | fail)
  go_wp2
  go_ret
  exact ⟨rfl, h3.out⟩
theorem kz (n : Int) (w : World) : Calls prog 183 #[.int .i64 n] w fun e w' => e = .returned (.bool (decide (-1048576 <= n ∧ n <= 1048576))) ∧ w' = w := by
  by_cases h : -1048576 <= n
  · go_enter func183, ntmps183
    go_wp2
    go_ret
    exact ⟨aN (by simp [h]), rfl⟩
  · go_enter func183, ntmps183
    go_wp2
    go_ret
    exact ⟨aN (by simp; omega), rfl⟩
theorem Il (n : Int) (w : World) (h : 0 <= n ∧ n <= 3) : Calls prog 184 #[.int .i64 n] w fun e w' => e = .returned (.bool true) ∧ w' = w := by
  have : n = 0 ∨ n = 1 ∨ n = 2 ∨ n = 3 := by omega
  rcases this with rfl | rfl | rfl | rfl <;>
    (go_enter func184, ntmps184
     go_wp2
     go_ret
     exact ⟨rfl, rfl⟩)
def dn (lo hi mode : Int) : Prop := (-1048576 <= lo ∧ lo <= 1048576) ∧ (-1048576 <= hi ∧ hi <= 1048576) ∧ lo <= hi ∧ (0 <= mode ∧ mode <= 3)
theorem Pf (lo hi mode : Int) (w : World) (h : dn lo hi mode) : Calls prog 109 #[.agg #[.int .i64 lo, .int .i64 hi, .int .i64 mode]] w fun e w' => e = .returned .nilIface ∧ w' = w.alloc (.cells #[.int .i64 lo, .int .i64 hi, .int .i64 mode] 45) := by
  obtain ⟨h1, h2, h3, h4⟩ := h
  have d1 : decide (-1048576 <= lo ∧ lo <= 1048576) = true := by simp; omega
  have d2 : decide (-1048576 <= hi ∧ hi <= 1048576) = true := by simp; omega
  have h3' : ¬ hi < lo := by omega
  clear h1 h2 h3
  go_enter func109, ntmps109
  go_wp2_with (first
    | (go_at_call 183; refine (kz _ _).mono ?_; rintro e w' ⟨rfl, rfl⟩; first | rw [d1] | rw [d2])
    | (go_at_call 184; refine (Il _ _ h4).mono ?_; rintro e w' ⟨rfl, rfl⟩)
    | fail)
  go_ret
  exact ⟨rfl, rfl⟩
theorem Sm (lo hi mode : Int) (w : World) (h : dn lo hi mode) : Calls prog 48 #[.agg #[.int .i64 lo, .int .i64 hi, .int .i64 mode]] w fun e w' => ∃ b bm, e = .returned (.tuple #[.pointer (some ⟨b, 0, none⟩), .nilIface]) ∧ w.heap.size <= b ∧ w.heap.size <= bm ∧ Below w.heap.size w w' ∧ ai w' w.heap.size b bm (.slice none 0 0) (.slice none 0 0) ⟨lo, hi, mode, -1099511627777, -1099511627777, 0, [], []⟩ := by
  have hck := fun W => Pf lo hi mode W h
  clear h
  go_enter func48, ntmps48
  go_wp2_with (first
    | (go_at_call 109; refine (hck _).mono ?_; rintro e w' ⟨rfl, rfl⟩)
    | fail)
  go_region_held3 (fun W => W.cell? ⟨w.heap.size, 0, none⟩ = some (.int .i64 lo) ∧ W.cell? ⟨w.heap.size, 1, none⟩ = some (.int .i64 hi) ∧ W.cell? ⟨w.heap.size, 2, none⟩ = some (.int .i64 mode)) (first | (go_keep; done) | (refine ⟨?_, ?_, ?_⟩ <;> go_simp; done) | fail) (first
    | (go_at_call 110; refine (ED _).mono ?_; rintro e w' ⟨rfl, rfl⟩)
    | fail)
  go_wp2
  refine bodyPost_ret (v := .tuple #[.pointer (some ⟨w.heap.size + 1 + 1 + 1, 0, none⟩), .nilIface]) (by simp [results, Tryz.results48, go_sem]) rfl ⟨w.heap.size + 1 + 1 + 1, w.heap.size + 1 + 1, rfl, by omega, by omega, ?_, ?_⟩
  · exact (Below.alloc (below_alloc3 w _ _ _) (by simp; omega) _).drew
  · refine ⟨?_, ?_, World.ownsRow_nil _ _ _ _, World.ownsRow_nil _ _ _ _, fun g e => by cases e⟩
    · have := heap_alloc_new (((w.alloc (.cells #[.int .i64 lo, .int .i64 hi, .int .i64 mode] 45)).alloc (.cells #[.int .i64 lo, .int .i64 hi, .int .i64 mode] 45)).alloc (.cells #[.int .i64 (-1099511627777), .int .i64 (-1099511627777)] 250)) (.cells #[.int .i64 lo, .int .i64 hi, .int .i64 mode, .pointer (some ⟨w.heap.size + 1 + 1, 0, none⟩), .slice none 0 0, .slice none 0 0, .int .i64 0] 186)
      simp only [World.size_alloc] at this
      exact this
    · have h1 := heap_alloc_new ((w.alloc (.cells #[.int .i64 lo, .int .i64 hi, .int .i64 mode] 45)).alloc (.cells #[.int .i64 lo, .int .i64 hi, .int .i64 mode] 45)) (.cells #[.int .i64 (-1099511627777), .int .i64 (-1099511627777)] 250)
      have h2 := Below.heap_alloc (((w.alloc (.cells #[.int .i64 lo, .int .i64 hi, .int .i64 mode] 45)).alloc (.cells #[.int .i64 lo, .int .i64 hi, .int .i64 mode] 45)).alloc (.cells #[.int .i64 (-1099511627777), .int .i64 (-1099511627777)] 250)) (.cells #[.int .i64 lo, .int .i64 hi, .int .i64 mode, .pointer (some ⟨w.heap.size + 1 + 1, 0, none⟩), .slice none 0 0, .slice none 0 0, .int .i64 0] 186) (w.heap.size + 1 + 1) (by simp)
      simp only [World.size_alloc] at h1
      exact h2.trans h1
end
section
open Go.Sort
theorem EU (k1 t1 v1 k2 t2 v2:Int) (w:World):
  Calls Tryz.prog 168 #[.agg #[.int .i64 k1,.int .i64 t1,.int .i64 v1],.agg #[.int .i64 k2,.int .i64 t2,.int .i64 v2]] w fun e w'=>e= .returned (.agg #[.int .i64 k1,.int .i64 k1,.int .i64 t1,.int .i64 v1,.int .i64 k2,.int .i64 t2,.int .i64 v2,.bool true,.bool true])∧Below w.heap.size w w':=by
 refine(uq k1 t1 v1 k2 t2 v2 w).mono ?_;rintro e w' ⟨rfl,rfl⟩;exact⟨rfl,(below_alloc2 _ _ _).trans ((below_alloc1 _ _).mono (by simp;omega))⟩
end
end Go.Proofs.YthfpipieboophaaGreatDoor
