import Derived.Test.YthfpipieboophaaGreatDoorZaj
namespace Go.Proofs.YthfpipieboophaaGreatDoor
set_option maxRecDepth 100000
set_option maxHeartbeats 40000000
open Go.RowKit Go.Sort
section
open Go.Proofs.Tryz Go.Joins
variable {w W W':World} {S:Nat->Prop} {be bj bm i:Nat} {v0 v1 v9:Value} {f0 f1 f:Int} {x:J} {L:List O} {C:List Ch}
theorem lC {base n e size:Nat} {v:Value} {xs:List Value} (h:w.ownsRow base e size v n xs):∃oa c,v= .slice oa n c:=by
 rcases h.2 with⟨rfl,h0⟩ | ⟨g,cap,cur,rfl,_⟩
 ·exact⟨none,0,by rw[h0]⟩
 ·exact⟨_,_,rfl⟩
theorem Oh (be bj bm:Nat) (v0 v1:Value) (f0 f1:Int) (om:Option Nat) (Sg:Nat->Prop) (x:J) (L:List O) (c:Ch) (w:World) (h:az w be bj bm v0 v1 f0 f1 om Sg x L L) (hwf:c.x.wf) (hg:c.g=true->c.x∈L) (hL:L.length<=3000000):
  Calls prog 47 #[.pointer (some ⟨be,0,none⟩),vC c.x c.g] w fun e w'=>e= .returned (.tuple #[])∧∃fG qY,az w' be bj bm v0 v1 f0 f1 fG qY x (if c.g=true then L.erase c.x else c.x::L) (if c.g=true then L.erase c.x else c.x::L)∧(∀k,fG=some k->om=some k∨w.heap.size<=k)∧(∀k,qY k->Sg k∨w.heap.size<=k)∧Turned (fun k=>k=be∨om=some k∨Sg k) w w':=by
 obtain⟨o,g⟩:=c;cases g
 ·refine x8 be bj bm v0 v1 f0 f1 om Sg x L (o::L) o false w h (fun W hW=> ?_) (fun W fG hW=> ?_)
  ·exact(KA be 6 L.length om L W hW.bag o hwf (by omega) (by omega)).mono fun e w' ⟨h1,fG,h2,h3,h4⟩=>⟨⟨_,h1⟩,fG,_,h2,h3,h4⟩
  ·exact(D8 be 8 L.length Sg L W hW.grp o hwf (by omega)).mono fun e w' ⟨h1,h2,h3⟩=>⟨⟨_,h1⟩,_,h2,h3⟩
 ·have hm:=hg rfl;refine x8 be bj bm v0 v1 f0 f1 om Sg x L (L.erase o) o true w h (fun W hW=> ?_) (fun W fG hW=> ?_)
  ·exact(Gn be 6 L.length om L W hW.bag o hwf hm (by omega) (by omega)).mono fun e w' ⟨h1,h2,h3⟩=>⟨⟨_,h1⟩,om,_,h2,h3,.inl rfl⟩
  ·exact(Cq be 8 L.length Sg L W hW.grp o hwf hm (by omega)).mono fun e w' ⟨h1,h2,h3⟩=>⟨⟨_,h1⟩,_,h2,h3⟩
structure Fl (w:World) (S:Nat->Prop) (be bj bm:Nat) (v0 v1:Value) (f0 f1:Int) (x:J) (L:List O) (C:List Ch) (v9:Value) (i:Nat) (W:World):Prop where
 ex:∃om Sg,az W be bj bm v0 v1 f0 f1 om Sg x (iE L (C.take i)) (iE L (C.take i))∧(∀k,aT bj bm v0 v1 om Sg k->S k∨w.heap.size<=k)∧(∀k,v9.ownBlock=some k->¬aT bj bm v0 v1 om Sg k)
 row:W.ownsRow w.heap.size 95 10 v9 C.length (C.flatMap aQ)
 turn:Turned S w W
theorem Fl.apply (h:Fl w S be bj bm v0 v1 f0 f1 x L C v9 i W) {c:Ch} (hc:C[i]? =some c) (hok:G7 L C) (hwf:∀c∈C,c.x.wf) (hL:L.length<=1000000) (hC:C.length<=1000000) (hb:Below W.heap.size W W'):
  Calls prog 47 #[.pointer (some ⟨be,0,none⟩),vC c.x c.g] W' fun e w'=>e= .returned (.tuple #[])∧Hid (Fl w S be bj bm v0 v1 f0 f1 x L C v9 (i+1) w'):=by
 obtain⟨om,Sg,h1,h2,h3⟩:=h.ex;have hE:=h1.below hb;have hi:i < C.length:=(List.getElem?_eq_some_iff.1 hc).1;have hl:=D9 (C.take i) L;rw[List.length_take] at hl;refine(Oh be bj bm v0 v1 f0 f1 om Sg x _ c W' hE (hwf c (List.mem_of_getElem? hc)) (fun hg=>(Oi C L i c hok hc hg).1) (by omega)).mono ?_;rintro e w' ⟨rfl,fG,qY,g1,g2,g3,g4⟩;have hws:=h.turn.size;have hbs:=hb.size;have hr:W'.ownsRow w.heap.size 95 10 v9 C.length (C.flatMap aQ):=aL h.row hb;refine⟨rfl,⟨fG,qY,?_,fun k e=> ?_,fun k e=> ?_⟩,?_,?_⟩
 ·rw[KX C L i c hc];exact g1
 ·rcases e with e | e | e
  ·exact h2 k (.inl e)
  ·rcases g2 k e with e | e
   ·exact h2 k (.inr (.inl e))
   ·exact .inr (by omega)
  ·rcases g3 k e with e | e
   ·exact h2 k (.inr (.inr e))
   ·exact .inr (by omega)
 ·have hlt:=(hr.lt k e).2;rintro(e2 | e2 | e2)
  ·exact h3 k e (.inl e2)
  ·rcases g2 k e2 with e2 | e2
   ·exact h3 k e (.inr (.inl e2))
   ·omega
  ·rcases g3 k e2 with e2 | e2
   ·exact h3 k e (.inr (.inr e2))
   ·omega
 ·refine ag hr (fun k e=>g4.block k (hr.lt k e).2 ?_);rintro(e2 | e2 | e2)
  ·exact h3 k e (.inr (.inr (by rw[e2];exact h1.inS)))
  ·exact h3 k e (.inr (.inl e2))
  ·exact h3 k e (.inr (.inr e2))
 ·refine(h.turn.trans (Turned.of_below (S:=fun _=>False) hb) (fun _ _ e=>e.elim)).trans g4 (fun k hk e=> ?_)
  have h9:aT bj bm v0 v1 om Sg k:=by
   rcases e with e | e | e
   ·exact .inr (.inr (by rw[e];exact h1.inS))
   ·exact .inr (.inl e)
   ·exact .inr (.inr e)
  rcases h2 k h9 with e | e
  ·exact e
  ·omega
theorem Fl.below (h:Fl w S be bj bm v0 v1 f0 f1 x L C v9 i W) (hb:Below W.heap.size W W'):Fl w S be bj bm v0 v1 f0 f1 x L C v9 i W':=by
 obtain⟨om,Sg,h1,h2,h3⟩:=h.ex;exact⟨⟨om,Sg,h1.below hb,h2,h3⟩,aL h.row hb,h.turn.trans (Turned.of_below (S:=fun _=>False) hb) (fun _ _ e=>e.elim)⟩
def aZ (f:Int):Int:=if f=9223372036854775807 then f else f+1
theorem wS (h:0<=f∧f<=9223372036854775807):0<=aZ f∧aZ f<=9223372036854775807:=by unfold aZ;split <;>omega
theorem rJ (h:0<=f∧f<=9223372036854775807):max f (wrap64 (f+1))=aZ f:=by
 unfold aZ
 split
 ·rename_i e
  subst e
  have :wrap64 (9223372036854775807+1)= -9223372036854775808:=by unfold wrap64;omega
  rw[this];omega
 ·have :wrap64 (f+1)=f+1:=by unfold wrap64;omega
  rw[this];omega
theorem Ea (w:World):Calls prog 46 #[.nilIface] w fun e w'=>e= .returned (.int .i64 0)∧w'=w:=by
 go_enter func46,ntmps46;go_wp2;go_ret;exact⟨rfl,rfl⟩
abbrev bu (k t v:Int):Obj:= .cells #[.int .i64 k,.int .i64 t,.int .i64 v] 37
theorem bQ {b:Nat} {k t v:Int} (h:W.heap[b]? =some (bu k t v)):W.cell? ⟨b,0,none⟩=some (.int .i64 k)∧W.cell? ⟨b,1,none⟩=some (.int .i64 t)∧W.cell? ⟨b,2,none⟩=some (.int .i64 v):=by
 refine⟨?_,?_,?_⟩ <;>(rw[cell_of_block h];rfl)
theorem U0 (be bj bm:Nat) (v0 v1:Value) (f0 f1:Int) (om:Option Nat) (Sg:Nat->Prop) (x x':J) (L:List O) (C:List Ch) (k t v:Int) (w:World) (h:az w be bj bm v0 v1 f0 f1 om Sg x L L)
  (hx:x'.lo=x.lo∧x'.hi=x.hi∧x'.mode=x.mode)
  (hJ:∀W,ai W 0 bj bm v0 v1 x->Calls prog 45 #[.pointer (some ⟨bj,0,none⟩),.int .i64 0,.agg #[.int .i64 k,.int .i64 t,.int .i64 v]] W fun e w'=>∃v9 bA v1',e= .returned (.tuple #[v9,.nilIface])∧ai w' 0 bj bm bA v1' x'∧w'.ownsRow W.heap.size 95 10 v9 C.length (C.flatMap aQ)∧Turned (eP bj bm v0 v1) W w'∧(∀k,eP bj bm bA v1' k->eP bj bm v0 v1 k∨W.heap.size<=k)∧(∀k,v9.ownBlock=some k->¬eP bj bm bA v1' k))
  (hok:G7 L C) (hwf:∀c∈C,c.x.wf) (hL:L.length<=1000000) (hC:C.length<=1000000):
  Calls prog 11 #[.pointer (some ⟨be,0,none⟩),.int .i64 0,.agg #[.int .i64 k,.int .i64 t,.int .i64 v]] w fun e w'=>∃v9 bA v1',e= .returned (.tuple #[v9,.nilIface])∧Fl w (aT bj bm v0 v1 om Sg) be bj bm bA v1' (aZ f0) f1 x' L C v9 C.length w':=by
 have HJ:Hid (∀W,Below w.heap.size w W->W.heap[w.heap.size]? =some (bu k t v)->Calls prog 45 #[.pointer (some ⟨bj,0,none⟩),.int .i64 0,.agg #[.int .i64 k,.int .i64 t,.int .i64 v]] W fun e w'=>∃v9,e= .returned (.tuple #[v9,.nilIface])∧(w'.cell? ⟨be,4,none⟩=some (.int .i64 f0)∧w'.frozen? ⟨be,4,none⟩=false∧be < w'.heap.size)∧(w'.cell? ⟨be,3,none⟩=some (.pointer (some ⟨bj,0,none⟩))∧w'.cell? ⟨w.heap.size,0,none⟩=some (.int .i64 k)∧w'.cell? ⟨w.heap.size,1,none⟩=some (.int .i64 t)∧w'.cell? ⟨w.heap.size,2,none⟩=some (.int .i64 v))∧Hid (∃bA v1',Fl w (aT bj bm v0 v1 om Sg) be bj bm bA v1' (aZ f0) f1 x' L C v9 0 (w'.setCell ⟨be,4,none⟩ (.int .i64 (aZ f0))))):=by
  intro W hW hbx;have hE:=h.below hW;refine(hJ W hE.join).mono ?_;rintro e w' ⟨v9,bA,v1',rfl,h1,h2,h3,h4,h5⟩;have hE2:=hE.joined h1 hx h3 h4;have hc:=hE2.cells;have hws:=hW.size
  have hs:∀k,k≠be->(w'.setCell ⟨be,4,none⟩ (.int .i64 (aZ f0))).heap[k]? =w'.heap[k]? :=fun k e=>Below.heap_setCell _ _ _ _ e
  have hlt:=hE.blt;refine⟨v9,rfl,⟨hc.2.2.2.2.1,hc.2.2.2.2.2.2.1,hE2.blt⟩,⟨hc.2.2.2.1,bQ ((h3.block _ (Array.getElem?_eq_some_iff.1 hbx).1 (fun e=>by have :=h.join.foot_lt e;omega)).trans hbx)⟩,bA,v1',⟨om,Sg,?_,fun k e=> ?_,fun k e=> ?_⟩,?_,?_⟩
  ·exact hE2.setf 4 _ _ _ (.inl ⟨rfl,rfl,rfl⟩) (wS h.r0)
  ·rcases e with e | e
   ·rcases h4 k e with e | e
    ·exact .inl (.inl e)
    ·exact .inr (by omega)
   ·exact .inl (.inr e)
  ·have hl9:=(h2.lt k e).1;rintro(e2 | e2 | e2)
   ·exact h5 k e e2
   ·have :=(hE.bag.ne e2).2;omega
   ·have :=hE.grp.lt e2;omega
  ·refine ag (h2.mono hws) (fun k e=>hs k ?_);have :=(h2.lt k e).1;omega
  ·refine(((Turned.of_below (S:=aT bj bm v0 v1 om Sg) hW).trans h3 (fun _ _ e=> .inl e)).trans (bC (b:=be)) (fun k _ e=> .inr (.inr (by rw[e];exact h.inS))))
 have HM:Hid (max f0 (wrap64 (f0+1))=aZ f0):=rJ h.r0;have HO:Hid (G7 L C∧(∀c∈C,c.x.wf)):=⟨hok,hwf⟩;have hc0:=h.cells;have hlt:=h.blt;have hf:=h.r0;clear h hJ hok hwf hx;go_enter func11,ntmps11;go_wp2;have B1:Hid (Below w.heap.size w (w.alloc (bu k t v)).drew∧(w.alloc (bu k t v)).drew.heap[w.heap.size]? =some (bu k t v)):=⟨(below_alloc1 _ _).drew,heap_alloc_new w (bu k t v)⟩;have hc1:(w.alloc (bu k t v)).cell? ⟨be,3,none⟩=some (.pointer (some ⟨bj,0,none⟩))∧(w.alloc (bu k t v)).cell? ⟨w.heap.size,0,none⟩=some (.int .i64 k)∧(w.alloc (bu k t v)).cell? ⟨w.heap.size,1,none⟩=some (.int .i64 t)∧(w.alloc (bu k t v)).cell? ⟨w.heap.size,2,none⟩=some (.int .i64 v):=⟨((below_alloc1 w (bu k t v)).cell (p:=⟨be,3,none⟩) hlt).trans hc0.2.2.2.1,bQ (heap_alloc_new w (bu k t v))⟩;clear hc0
 go_region_held3 (fun W=>W.cell? ⟨be,3,none⟩=some (.pointer (some ⟨bj,0,none⟩))∧W.cell? ⟨w.heap.size,0,none⟩=some (.int .i64 k)∧W.cell? ⟨w.heap.size,1,none⟩=some (.int .i64 t)∧W.cell? ⟨w.heap.size,2,none⟩=some (.int .i64 v)) (first | exact hc1 | exact hc2 | fail) (first
  | (go_at_call 45;refine(HJ.out _ B1.out.1 B1.out.2).mono ?_;rintro e w1 ⟨v9,rfl,hc4,hc2,h1⟩)
  | fail)
 clear hc1 hc2 B1 HJ
 go_wp2_with (first
  | (go_at_call 46;refine(Ea _).mono ?_;rintro e w' ⟨rfl,hw⟩;have hw:=hw.symm;subst hw)
  | fail)
 go_region
 rw[HM.out];obtain⟨bA,v1',F1⟩:=h1.out;have F2:Hid (Fl w (aT bj bm v0 v1 om Sg) be bj bm bA v1' (aZ f0) f1 x' L C v9 0 (w1.setCell ⟨be,4,none⟩ (.int .i64 (aZ f0))).drew):=F1.below ((Below.refl _ _).drew);revert F2;generalize (w1.setCell ⟨be,4,none⟩ (.int .i64 (aZ f0))).drew=w2;intro F2;clear F1 h1 hc4;obtain⟨Xt,c9,e9⟩:=lC F2.out.row;subst e9;go_wp2
 go_loopg [51] C.length (fun gg Zt wr=>∃i:Nat,i<=C.length∧gg=C.length -i∧Zt= .int .i64 i∧Hid (Fl w (aT bj bm v0 v1 om Sg) be bj bm bA v1' (aZ f0) f1 x' L C (.slice Xt C.length c9) i wr))
 case atStart=>exact⟨0,Nat.zero_le _,rfl,rfl,F2⟩
 case round=>
  obtain⟨i,hile,iU,rfl,I⟩:=hrel;have HG:=hid iU;clear iU F2
  by_cases hlt2:i < C.length
  ·obtain⟨c,hc⟩:∃c,C[i]? =some c:=⟨_,List.getElem?_eq_getElem hlt2⟩;obtain⟨Xu,ck9,U1⟩:=ownsRow_form I.out.row (show 0 < C.length by omega);cases U1;have hcc:=Eb I.out.row i c hc;have hgl:Xu < wr.heap.size:=(I.out.row.lt Xu rfl).2
   have j1:(0:Int)<=(i:Int):=by omega
   have j2:(i:Int) < (C.length:Int):=by omega
   have j3:(C.length:Int)<=1000000:=by omega
   have HA:=I.out.apply hc HO.out.1 HO.out.2 hL hC (below_alloc1 wr (wy c.x c.g));have HB:=hid HA;simp only[vC] at HB;clear HA hc I
   go_wp2_with (first
    | (go_at_call 47;refine HB.out.mono ?_;rintro e w3 ⟨rfl,I2⟩)
    | fail)
   go_roundg (C.length -(i+1))
   all_goals first
    | (have :=HG.out;omega)
    | exact⟨i+1,by omega,rfl,by first | rfl | (congr 1;omega) | go_num,I2⟩
  ·have j2:¬((i:Int) < (C.length:Int)):=by omega
   have hie:i=C.length:=by omega
   go_wp2;have hI:=I.out;rw[hie] at hI;exact bodyPost_ret (v:= .tuple #[.slice Xt C.length c9,.nilIface]) (by simp[results,Tryz.results11,go_sem]) rfl ⟨_,rfl,bA,v1',hI⟩
theorem U2 (be bj bm:Nat) (v0 v1:Value) (f0 f1:Int) (om:Option Nat) (Sg:Nat->Prop) (x x':J) (L:List O) (C:List Ch) (k t v:Int) (w:World) (h:az w be bj bm v0 v1 f0 f1 om Sg x L L)
  (hx:x'.lo=x.lo∧x'.hi=x.hi∧x'.mode=x.mode)
  (hJ:∀W,ai W 0 bj bm v0 v1 x->Calls prog 45 #[.pointer (some ⟨bj,0,none⟩),.int .i64 1,.agg #[.int .i64 k,.int .i64 t,.int .i64 v]] W fun e w'=>∃v9 bA v1',e= .returned (.tuple #[v9,.nilIface])∧ai w' 0 bj bm bA v1' x'∧w'.ownsRow W.heap.size 95 10 v9 C.length (C.flatMap aQ)∧Turned (eP bj bm v0 v1) W w'∧(∀k,eP bj bm bA v1' k->eP bj bm v0 v1 k∨W.heap.size<=k)∧(∀k,v9.ownBlock=some k->¬eP bj bm bA v1' k))
  (hok:G7 L C) (hwf:∀c∈C,c.x.wf) (hL:L.length<=1000000) (hC:C.length<=1000000):
  Calls prog 11 #[.pointer (some ⟨be,0,none⟩),.int .i64 1,.agg #[.int .i64 k,.int .i64 t,.int .i64 v]] w fun e w'=>∃v9 bA v1',e= .returned (.tuple #[v9,.nilIface])∧Fl w (aT bj bm v0 v1 om Sg) be bj bm bA v1' f0 (aZ f1) x' L C v9 C.length w':=by
 have HJ:Hid (∀W,Below w.heap.size w W->W.heap[w.heap.size]? =some (bu k t v)->Calls prog 45 #[.pointer (some ⟨bj,0,none⟩),.int .i64 1,.agg #[.int .i64 k,.int .i64 t,.int .i64 v]] W fun e w'=>∃v9,e= .returned (.tuple #[v9,.nilIface])∧(w'.cell? ⟨be,5,none⟩=some (.int .i64 f1)∧w'.frozen? ⟨be,5,none⟩=false∧be < w'.heap.size)∧(w'.cell? ⟨be,3,none⟩=some (.pointer (some ⟨bj,0,none⟩))∧w'.cell? ⟨w.heap.size,0,none⟩=some (.int .i64 k)∧w'.cell? ⟨w.heap.size,1,none⟩=some (.int .i64 t)∧w'.cell? ⟨w.heap.size,2,none⟩=some (.int .i64 v))∧Hid (∃bA v1',Fl w (aT bj bm v0 v1 om Sg) be bj bm bA v1' f0 (aZ f1) x' L C v9 0 (w'.setCell ⟨be,5,none⟩ (.int .i64 (aZ f1))))):=by
  intro W hW hbx;have hE:=h.below hW;refine(hJ W hE.join).mono ?_;rintro e w' ⟨v9,bA,v1',rfl,h1,h2,h3,h4,h5⟩;have hE2:=hE.joined h1 hx h3 h4;have hc:=hE2.cells;have hws:=hW.size
  have hs:∀k,k≠be->(w'.setCell ⟨be,5,none⟩ (.int .i64 (aZ f1))).heap[k]? =w'.heap[k]? :=fun k e=>Below.heap_setCell _ _ _ _ e
  have hlt:=hE.blt;refine⟨v9,rfl,⟨hc.2.2.2.2.2.1,hc.2.2.2.2.2.2.2,hE2.blt⟩,⟨hc.2.2.2.1,bQ ((h3.block _ (Array.getElem?_eq_some_iff.1 hbx).1 (fun e=>by have :=h.join.foot_lt e;omega)).trans hbx)⟩,bA,v1',⟨om,Sg,?_,fun k e=> ?_,fun k e=> ?_⟩,?_,?_⟩
  ·exact hE2.setf 5 _ _ _ (.inr ⟨rfl,rfl,rfl⟩) (wS h.r1)
  ·rcases e with e | e
   ·rcases h4 k e with e | e
    ·exact .inl (.inl e)
    ·exact .inr (by omega)
   ·exact .inl (.inr e)
  ·have hl9:=(h2.lt k e).1;rintro(e2 | e2 | e2)
   ·exact h5 k e e2
   ·have :=(hE.bag.ne e2).2;omega
   ·have :=hE.grp.lt e2;omega
  ·refine ag (h2.mono hws) (fun k e=>hs k ?_);have :=(h2.lt k e).1;omega
  ·refine(((Turned.of_below (S:=aT bj bm v0 v1 om Sg) hW).trans h3 (fun _ _ e=> .inl e)).trans (bC (b:=be)) (fun k _ e=> .inr (.inr (by rw[e];exact h.inS))))
 have HM:Hid (max f1 (wrap64 (f1+1))=aZ f1):=rJ h.r1;have HO:Hid (G7 L C∧(∀c∈C,c.x.wf)):=⟨hok,hwf⟩;have hc0:=h.cells;have hlt:=h.blt;have hf:=h.r1;clear h hJ hok hwf hx;go_enter func11,ntmps11;go_wp2;have B1:Hid (Below w.heap.size w (w.alloc (bu k t v)).drew∧(w.alloc (bu k t v)).drew.heap[w.heap.size]? =some (bu k t v)):=⟨(below_alloc1 _ _).drew,heap_alloc_new w (bu k t v)⟩;have hc1:(w.alloc (bu k t v)).cell? ⟨be,3,none⟩=some (.pointer (some ⟨bj,0,none⟩))∧(w.alloc (bu k t v)).cell? ⟨w.heap.size,0,none⟩=some (.int .i64 k)∧(w.alloc (bu k t v)).cell? ⟨w.heap.size,1,none⟩=some (.int .i64 t)∧(w.alloc (bu k t v)).cell? ⟨w.heap.size,2,none⟩=some (.int .i64 v):=⟨((below_alloc1 w (bu k t v)).cell (p:=⟨be,3,none⟩) hlt).trans hc0.2.2.2.1,bQ (heap_alloc_new w (bu k t v))⟩;clear hc0
 go_region_held3 (fun W=>W.cell? ⟨be,3,none⟩=some (.pointer (some ⟨bj,0,none⟩))∧W.cell? ⟨w.heap.size,0,none⟩=some (.int .i64 k)∧W.cell? ⟨w.heap.size,1,none⟩=some (.int .i64 t)∧W.cell? ⟨w.heap.size,2,none⟩=some (.int .i64 v)) (first | exact hc1 | exact hc2 | fail) (first
  | (go_at_call 45;refine(HJ.out _ B1.out.1 B1.out.2).mono ?_;rintro e w1 ⟨v9,rfl,hc4,hc2,h1⟩)
  | fail)
 clear hc1 hc2 B1 HJ
 go_wp2_with (first
  | (go_at_call 46;refine(Ea _).mono ?_;rintro e w' ⟨rfl,hw⟩;have hw:=hw.symm;subst hw)
  | fail)
 go_region
 rw[HM.out];obtain⟨bA,v1',F1⟩:=h1.out;have F2:Hid (Fl w (aT bj bm v0 v1 om Sg) be bj bm bA v1' f0 (aZ f1) x' L C v9 0 (w1.setCell ⟨be,5,none⟩ (.int .i64 (aZ f1))).drew):=F1.below ((Below.refl _ _).drew);revert F2;generalize (w1.setCell ⟨be,5,none⟩ (.int .i64 (aZ f1))).drew=w2;intro F2;clear F1 h1 hc4;obtain⟨Xt,c9,e9⟩:=lC F2.out.row;subst e9;go_wp2
 go_loopg [51] C.length (fun gg Zt wr=>∃i:Nat,i<=C.length∧gg=C.length -i∧Zt= .int .i64 i∧Hid (Fl w (aT bj bm v0 v1 om Sg) be bj bm bA v1' f0 (aZ f1) x' L C (.slice Xt C.length c9) i wr))
 case atStart=>exact⟨0,Nat.zero_le _,rfl,rfl,F2⟩
 case round=>
  obtain⟨i,hile,iU,rfl,I⟩:=hrel;have HG:=hid iU;clear iU F2
  by_cases hlt2:i < C.length
  ·obtain⟨c,hc⟩:∃c,C[i]? =some c:=⟨_,List.getElem?_eq_getElem hlt2⟩;obtain⟨Xu,ck9,U1⟩:=ownsRow_form I.out.row (show 0 < C.length by omega);cases U1;have hcc:=Eb I.out.row i c hc;have hgl:Xu < wr.heap.size:=(I.out.row.lt Xu rfl).2
   have j1:(0:Int)<=(i:Int):=by omega
   have j2:(i:Int) < (C.length:Int):=by omega
   have j3:(C.length:Int)<=1000000:=by omega
   have HA:=I.out.apply hc HO.out.1 HO.out.2 hL hC (below_alloc1 wr (wy c.x c.g));have HB:=hid HA;simp only[vC] at HB;clear HA hc I
   go_wp2_with (first
    | (go_at_call 47;refine HB.out.mono ?_;rintro e w3 ⟨rfl,I2⟩)
    | fail)
   go_roundg (C.length -(i+1))
   all_goals first
    | (have :=HG.out;omega)
    | exact⟨i+1,by omega,rfl,by first | rfl | (congr 1;omega) | go_num,I2⟩
  ·have j2:¬((i:Int) < (C.length:Int)):=by omega
   have hie:i=C.length:=by omega
   go_wp2;have hI:=I.out;rw[hie] at hI;exact bodyPost_ret (v:= .tuple #[.slice Xt C.length c9,.nilIface]) (by simp[results,Tryz.results11,go_sem]) rfl ⟨_,rfl,bA,v1',hI⟩
end
section
open Go.Shelf
variable {w:World}
theorem xS:Jv:=fun w=>
 (AnyF.slices_SortFunc_none { Tryz.sortO with} none 0 (.func (.func 122) #[] #[]) w).mono fun _ _ h=>h
theorem lY {Z Z':List O} (h:Z.Perm Z') (h1:bJ Z) (h2:bJ Z'):Z=Z':=by
 refine List.Perm.eq_of_pairwise (le:=fun a b=>cO a b<=0) (fun a b _ _ h3 h4=> ?_) h1 h2 h;rw[qw] at h4;exact(wI a b).1 (by omega)
def fK (be:Nat) (x:J) (L:List O) (S:Nat->Prop) (w:World):Prop:=
 ∃bj bm v0 v1 f0 f1 om Sg,az w be bj bm v0 v1 f0 f1 om Sg x L L∧∀k,S k↔aT bj bm v0 v1 om Sg k
theorem Az {b1 b2 e1 e2 s1 s2 n1 n2:Nat} {u v:Value} {xs ys:List Value} (h1:w.ownsRow b1 e1 s1 u n1 xs) (h2:w.ownsRow b2 e2 s2 v n2 ys) (hne:e1≠e2) {k:Nat} (hk:u.ownBlock=some k):v.ownBlock≠some k:=by
 rcases h1.2 with⟨rfl,_⟩ | ⟨g,cap,cur,rfl,_,hg,_⟩
 ·simp[Value.ownBlock] at hk
 ·rcases h2.2 with⟨rfl,_⟩ | ⟨g',cap',cur',rfl,_,hg',_⟩
  ·simp[Value.ownBlock]
  ·simp[Value.ownBlock] at hk⊢;subst hk;intro e;subst e;rw[hg] at hg';cases hg';exact hne rfl
theorem Ec (k a b:Int) {R:List D} (h:ay R):(bF k a b R).length<=R.length:=by
 rw[gM h];exact List.length_filter_le _ _
theorem jg {bj bm:Nat} {v0 v1 bA v1':Value} (h0:dF w v0 bA) (h1:dF w v1 v1'):∀k,eP bj bm bA v1' k->eP bj bm v0 v1 k∨w.heap.size<=k:=by
 rintro k (e | e | e | e)
 ·exact .inl (.inl e)
 ·exact .inl (.inr (.inl e))
 ·rcases h0 with h | ⟨g,h,hl⟩
  ·exact .inl (.inr (.inr (.inl (by rw[<-h];exact e))))
  ·rw[h] at e;cases e;exact .inr hl
 ·rcases h1 with h | ⟨g,h,hl⟩
  ·exact .inl (.inr (.inr (.inr (by rw[<-h];exact e))))
  ·rw[h] at e;cases e;exact .inr hl
end
end Go.Proofs.YthfpipieboophaaGreatDoor
