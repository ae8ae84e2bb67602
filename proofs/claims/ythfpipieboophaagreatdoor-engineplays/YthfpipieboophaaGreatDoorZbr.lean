import Derived.Test.YthfpipieboophaaGreatDoorZRjl
namespace Go.Proofs.YthfpipieboophaaGreatDoor
set_option maxRecDepth 100000
set_option maxHeartbeats 40000000
open Go.RowKit Go.Sort Go.Shelf
section
theorem jw (n:Int):aa [n]=Lib.itoa n:=by
 unfold aa;rw[List.map_cons,Lib.join_cons];simp[Lib.joinTail]
theorem fB (ns:List Int) (hr:∀n∈ns,af n) (hl:ns.length<=1000) (w:World) (ht:jP w) (g:Nat) (W:World) (hW:Below w.heap.size w W) (hg:W.heap[g]? =some (.cells (ns.map (Value.int .i64)).toArray 3)):
  Calls Tryz.prog 54 #[.slice (some ⟨g,0,none⟩) ns.length ns.length] W fun e w'=>e= .returned (sV (aa ns))∧Below W.heap.size W w':=
 jW ns g 0 ns.length W (aG ht hW) hr (Array.getElem?_eq_some_iff.1 hg).1 (BS hg) hl
theorem yY {a b c:Int} (ha:af a) (hb:af b) (hc:af c):∀n∈[a,b,c],af n:=by
 intro n hn;simp at hn
 rcases hn with rfl | rfl | rfl
 ·exact ha
 ·exact hb
 ·exact hc
end
section
open Go.Joins
variable {a f0 f1 b c:Int} {α:Type} {w W W' w1 w5:World} {vl:Value} {g cap n:Nat} {ns:List Int}
/-! The text, piece by piece. -/
def nK (lo hi mode f0 f1 late m0 m1:Int):List UInt8:=[112,108,97,110,32]++aa [lo,hi,mode]++[10,102,101,100,32]++aa [f0,f1,late]++[10,109,97,114,107,115,32]++aa [m0,m1]++[10]
def ed (s:Int) (y:Hl):List UInt8:=[114,111,119,32]++aa [s,y.k,y.t,y.v,y.met]++[10]
def Tg (o:O):Int:=gY o.hl+2 * gY o.hr
def kX (o:O):List UInt8:=[111,117,116,32]++aa (Tg o::dV o)++[10]
def FI (x:RJ) (f0 f1:Int) (E0 E1:List Hl) (Z:List O):List UInt8:=nK x.lo x.hi x.mode f0 f1 x.late x.m0 x.m1++E0.flatMap (ed 0)++E1.flatMap (ed 1)++Z.flatMap kX++[101,110,100,10]
structure Ym (x:RJ) (M:List O) (f0 f1:Int):Prop where
 lo:af x.lo
 hi:af x.hi
 mode:af x.mode
 f0:af f0
 f1:af f1
 late:af x.late
 m0:af x.m0
 m1:af x.m1
 r0:∀y∈x.R0,af y.k∧af y.t∧af y.v∧af y.met
 r1:∀y∈x.R1,af y.k∧af y.t∧af y.v∧af y.met
 l0:x.R0.length<=300
 l1:x.R1.length<=300
 o:∀o∈M,(o.hl=true∨o.hr=true)∧(af o.lk∧af o.lt∧af o.lv)∧(af o.rk∧af o.rt∧af o.rv)
 lm:M.length<=1000000
theorem aB {l:List Int} (h:af a) (hl:∀n∈l,af n):∀n∈a::l,af n:=by
 intro n hn
 rcases List.mem_cons.1 hn with e | e
 ·rw[e];exact h
 ·exact hl n e
theorem kS:∀n∈([]:List Int),af n:=fun n hn=>by cases hn
theorem sI (s:Int) (hs:af s) (y:Hl) (h:af y.k∧af y.t∧af y.v∧af y.met):∀n∈[s,y.k,y.t,y.v,y.met],af n:=aB hs (aB h.1 (aB h.2.1 (aB h.2.2.1 (aB h.2.2.2 kS))))
theorem FJ (s:Int) (hs:af s) (y:Hl) (h:af y.k∧af y.t∧af y.v∧af y.met):(ed s y).length<=200:=by
 have :=bL _ (sI s hs y h);unfold ed;simp only[List.length_append,List.length_cons,List.length_nil] at this⊢;omega
theorem xe (f:α->List UInt8) (c:Nat):∀(E:List α),(∀a∈E,(f a).length<=c)->(E.flatMap f).length<=E.length * c
 | [],_=>by simp
 | a::E,h=>by
  have h1:=h a (by simp);have h2:=xe f c E (fun b hb=>h b (by simp[hb]));rw[List.flatMap_cons,List.length_append,List.length_cons,Nat.add_mul];omega
theorem uJ (f:α->List UInt8) (E:List α) (q:Nat) (y:α) (h:E[q]? =some y):(E.take (q+1)).flatMap f=(E.take q).flatMap f++f y:=by
 rw[List.take_add_one,h];simp
theorem Mf (o:O) (h:(af o.lk∧af o.lt∧af o.lv)∧(af o.rk∧af o.rt∧af o.rv)):(∀n∈dV o,af n)∧(dV o).length<=6:=by
 unfold dV;obtain⟨⟨a1,a2,a3⟩,b1,b2,b3⟩:=h
 cases o.hl <;>cases o.hr
 ·exact⟨kS,by simp⟩
 ·exact⟨aB b1 (aB b2 (aB b3 kS)),by simp⟩
 ·exact⟨aB a1 (aB a2 (aB a3 kS)),by simp⟩
 ·exact⟨aB a1 (aB a2 (aB a3 (aB b1 (aB b2 (aB b3 kS))))),by simp⟩
theorem Ti (o:O):af (Tg o):=by
 unfold Tg gY
 cases o.hl <;>cases o.hr <;>exact⟨by decide,by decide⟩
theorem Qt (o:O) (h:(af o.lk∧af o.lt∧af o.lv)∧(af o.rk∧af o.rt∧af o.rv)):(kX o).length<=200:=by
 have h1:=Mf o h;have :=bL _ (aB (Ti o) h1.1);unfold kX;simp only[List.length_append,List.length_cons,List.length_nil] at this⊢;have :=h1.2;omega
theorem Mg {lo hi mode late m0 m1:Int} (h1:af lo) (h2:af hi) (h3:af mode) (h4:af f0) (h5:af f1) (h6:af late) (h7:af m0) (h8:af m1):(aa [lo,hi,mode]).length<=66∧(aa [f0,f1,late]).length<=66∧(aa [m0,m1]).length<=44∧(nK lo hi mode f0 f1 late m0 m1).length<=200:=by
 have a:=bL _ (yY h1 h2 h3);have b:=bL _ (yY h4 h5 h6);have c:=bL _ (ku h7 h8);unfold nK;simp only[List.length_append,List.length_cons,List.length_nil] at a b c⊢;exact⟨a,b,c,by omega⟩
def Bv (t:List UInt8):Value:=if 60000 < t.length then .tuple #[.string ⟨#[]⟩,.int .i64 4] else .tuple #[sV t,.int .i64 0]
def Qu (w:World) (x:RJ) (M:List O) (f0 f1:Int) (e:Ending) (w':World):Prop:=
 ∃(E0 E1:List Hl) (Z:List O),E0.Perm x.R0∧E0.Pairwise (fun a b=>rY b a=false)∧E1.Perm x.R1∧E1.Pairwise (fun a b=>rY b a=false)∧Z.Perm M∧bJ Z∧e= .returned (Bv (FI x f0 f1 E0 E1 Z))∧Below w.heap.size w w'
def Tj (x:RJ) (f0 f1:Int) (i:Nat) (t:List UInt8):Prop:=
 (i=0∧t=nK x.lo x.hi x.mode f0 f1 x.late x.m0 x.m1)∨
 (i=1∧∃E0:List Hl,E0.Perm x.R0∧E0.Pairwise (fun a b=>rY b a=false)∧t=nK x.lo x.hi x.mode f0 f1 x.late x.m0 x.m1++E0.flatMap (ed 0))∨
 (i=2∧∃E0 E1:List Hl,E0.Perm x.R0∧E0.Pairwise (fun a b=>rY b a=false)∧E1.Perm x.R1∧E1.Pairwise (fun a b=>rY b a=false)∧t=nK x.lo x.hi x.mode f0 f1 x.late x.m0 x.m1++E0.flatMap (ed 0)++E1.flatMap (ed 1))
structure Tk (w:World) (E:List Hl) (vl:Value) (W:World):Prop where
 low:Below w.heap.size w W
 row:W.ownsRow w.heap.size 117 5 vl E.length (E.flatMap bz)
theorem Tk.go {E:List Hl} (h:Tk w E vl W) (hb:Below W.heap.size W W'):Tk w E vl W':=
 ⟨h.low.trans (hb.mono h.low.size),ag h.row (fun g e=>hb.block g (h.row.lt g e).2)⟩
theorem FK {base q:Nat} {C:List Hl} {y:Hl} (h:W.ownsRow base 117 5 (.slice (some ⟨g,0,none⟩) n cap) n (C.flatMap bz)) (hn:C.length=n) (hq:C[q]? =some y):W.cell? ⟨g,q * 5,none⟩=some (.int .i64 y.k)∧W.cell? ⟨g,q * 5+1,none⟩=some (.int .i64 y.t)∧W.cell? ⟨g,q * 5+2,none⟩=some (.int .i64 y.v)∧W.cell? ⟨g,q * 5+3,none⟩=some (.int .i64 y.met)∧W.cell? ⟨g,q * 5+4,none⟩=some (.int .i64 y.came):=by
 have hl:q < C.length:=(List.getElem?_eq_some_iff.1 hq).1
 have ey:∀j,j < 5->W.cell? ⟨g,q * 5+j,none⟩=(bz y)[j]? :=fun j hj=>by
  rw[h.cellAt (q * 5+j) (by omega),cB bz 5 fM C q j y hq hj]
 exact⟨ey 0 (by omega),ey 1 (by omega),ey 2 (by omega),ey 3 (by omega),ey 4 (by omega)⟩
structure Tm (w:World) (Z:List O) (vz:Value) (W:World):Prop where
 low:Below w.heap.size w W
 row:W.ownsRow w.heap.size 89 9 vz Z.length (Z.flatMap ah)
theorem Tm.go {Z:List O} {vz:Value} (h:Tm w Z vz W) (hb:Below W.heap.size W W'):Tm w Z vz W':=
 ⟨h.low.trans (hb.mono h.low.size),ag h.row (fun g e=>hb.block g (h.row.lt g e).2)⟩
structure Lr (w1:World) (ns:List Int) (vl:Value) (W:World):Prop where
 low:Below w1.heap.size w1 W
 row:W.ownsRow w1.heap.size 3 1 vl ns.length (ns.map (Value.int .i64))
theorem Lr.go (h:Lr w1 ns vl W) (hb:Below W.heap.size W W'):Lr w1 ns vl W':=
 ⟨h.low.trans (hb.mono h.low.size),ag h.row (fun g e=>hb.block g (h.row.lt g e).2)⟩
theorem Kc (w1:World) (o:Obj) (cs:Array Value):∀j u,cs.toList[j]? =some u->((w1.alloc o).alloc (.cells cs 3)).cell? ((⟨w1.heap.size+1,0,none⟩:Addr).add j)=some u:=by
 have :=World.news_of_block (heap_alloc_new (w1.alloc o) (.cells cs 3));simpa using this
theorem oU:∀u∈ns.map (Value.int .i64),u.oneCell'=true:=by
 intro u hu;obtain⟨n,_,rfl⟩:=List.mem_map.1 hu;rfl
theorem sJ:∀u∈[(Value.int .i64 a),.int .i64 b,.int .i64 c],u.oneCell'=true:=oU (ns:=[a,b,c])
theorem yZ {o:Obj} {cs:Array Value} (hown:w5.ownsRow w1.heap.size 3 1 (.slice (some ⟨g,0,none⟩) (0+3) cap) (0+3) ([]++[.int .i64 a,.int .i64 b,.int .i64 c])) (hg:((w1.alloc o).alloc (.cells cs 3)).grownBy w5 (Value.slice none 0 0).ownBlock):Lr w1 [a,b,c] (.slice (some ⟨g,0,none⟩) 3 cap) w5:=
 ⟨((below_alloc1 w1 o).alloc (by simp) _).grown hg (by simp;omega) (fun k e=>by simp[Value.ownBlock] at e),hown⟩
theorem Tn (h:Lr w1 ns vl W) (hown:w5.ownsRow w1.heap.size 3 1 (.slice (some ⟨g,0,none⟩) (ns.length+3) cap) (ns.length+3) (ns.map (Value.int .i64)++[.int .i64 a,.int .i64 b,.int .i64 c])) (hg:W.grownBy w5 vl.ownBlock):Lr w1 (ns++[a,b,c]) (.slice (some ⟨g,0,none⟩) (ns.length+3) cap) w5:=
 ⟨h.low.grown hg h.low.size (fun k e=>(h.row.lt k e).1),by rw[List.length_append,List.map_append];exact hown⟩
theorem CV (h:Lr w1 ns (.slice (some ⟨g,0,none⟩) n cap) W):∀j u,(ns.map (Value.int .i64))[j]? =some u->W.cell? ((⟨g,0,none⟩:Addr).add j)=some u:=
 fun j u hu=>h.row.cells (g:=g) rfl j u hu
theorem Tp {P:Program} {c:Code} {Q:Exit->Act->World->Prop} {a:Act} (h:∀Q':Exit->Act->World->Prop,Hid (∀e a w,Q e a w->Q' e a w)->c.wp P Q' a w):c.wp P Q a w:=h Q (fun _ _ _ h=>h)
theorem heap_drew (W:World) (g:Nat):W.drew.heap[g]? =W.heap[g]? :=rfl
abbrev xh (be bj:Nat) (x:RJ) (f0 f1:Int) (W:World):Prop:=W.cell? ⟨be,0,none⟩=some (.pointer (some ⟨bj,0,none⟩))∧W.cell? ⟨be,2,none⟩=some (.int .i64 f0)∧W.cell? ⟨be,3,none⟩=some (.int .i64 f1)∧W.cell? ⟨bj,0,none⟩=some (.int .i64 x.lo)∧W.cell? ⟨bj,1,none⟩=some (.int .i64 x.hi)∧W.cell? ⟨bj,2,none⟩=some (.int .i64 x.mode)∧W.cell? ⟨bj,7,none⟩=some (.int .i64 x.late)∧W.cell? ⟨bj,5,none⟩=some (.int .i64 x.m0)∧W.cell? ⟨bj,6,none⟩=some (.int .i64 x.m1)
theorem Tq {be bj:Nat} {v v0 v1:Value} {x:RJ} {M:List O} (h:nM W be bj v v0 v1 x M f0 f1):xh be bj x f0 f1 W:=by
 have a:=h.bag.blk;have b:=h.join.blk;refine⟨?_,?_,?_,?_,?_,?_,?_,?_,?_⟩
 ·rw[cell_of_block a];rfl
 ·rw[cell_of_block a];rfl
 ·rw[cell_of_block a];rfl
 ·rw[cell_of_block b];rfl
 ·rw[cell_of_block b];rfl
 ·rw[cell_of_block b];rfl
 ·rw[cell_of_block b];rfl
 ·rw[cell_of_block b];rfl
 ·rw[cell_of_block b];rfl
end
end Go.Proofs.YthfpipieboophaaGreatDoor
