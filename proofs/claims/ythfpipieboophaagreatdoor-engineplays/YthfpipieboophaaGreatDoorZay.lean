import Derived.StillTailTactics
import Derived.Defers
import Derived.Recover
import Derived.Test.YthfpipieboophaaGreatDoorZax
namespace Go.Proofs.YthfpipieboophaaGreatDoor
set_option maxRecDepth 100000
set_option maxHeartbeats 40000000
open Go.RowKit Go.Sort Go.Shelf
section
variable {n:Nat} {st:Sx}
def BX:List UInt8:=[102,101,100,32,103,114,111,117,112,115,32,104,101,108,112,32,104,101,108,100,32,108,97,116,101,32,108,101,102,116,32,109,97,114,107,32,109,97,114,107,115,32,112,108,97,110,32,114,101,108,111,97,100,32,114,105,103,104,116,32,115,97,118,101,100,32,118,105,101,119]
def sortO (L:List O):List O:=L.mergeSort (fun a b=>decide (cO a b<=0))
theorem aR (L:List O):(sortO L).Perm L:=List.mergeSort_perm L _
theorem eX (L:List O):bJ (sortO L):=by
 have h:=List.pairwise_mergeSort (le:=fun a b:O=>decide (cO a b<=0)) (fun a b c h1 h2=>by
  simp only[decide_eq_true_eq] at h1 h2⊢
  exact xz a b c h1 h2) (fun a b=>by
  have :=qw a b;simp only[Bool.or_eq_true,decide_eq_true_eq]
  omega) L
 exact h.imp (fun h=>by simpa using h)
def Sx.text (st:Sx):Option (List UInt8):=if 5000 < st.L.length∨60000 < (bN st.x st.f0 st.f1 (sortO st.L)).length then none else some (bN st.x st.f0 st.f1 (sortO st.L))
def Sx.again (st:Sx):Sx:=⟨st.x,st.f0,st.f1,(sortO st.L).reverse⟩
theorem dH.again (h:dH n st):dH n st.again:=by
 obtain⟨A,B,a1,a2,a3⟩:=h.ex;exact⟨⟨A,B,a1,((List.reverse_perm _).trans (aR _)).trans a2,a3⟩,h.plan,h.l0,h.l1,h.late,h.m0,h.m1,h.f0,h.f1⟩
theorem nW {t:List UInt8} (h:st.text=some t):t.length<=60000:=by
 unfold Sx.text at h
 split at h
 ·cases h
 ·injection h with h
  subst h;omega
theorem BZ {be:Nat} {S:Nat->Prop} {W:World} (hP:PE st be S W) (hO:dH n st) (hn:n<=1600) (hG:xO W):
  Calls Tryz.prog 18 #[.pointer (some ⟨be,0,none⟩)] W fun e w'=>e= .returned (match st.text with | none=> .tuple #[.string ⟨#[]⟩,.iface 24 (.int .i64 4)] | some t=> .tuple #[.string ⟨t.toArray⟩,.nilIface])∧Below W.heap.size W w':=by
 have :=NR (x:=st.x) (f0:=st.f0) (f1:=st.f1) (L:=st.L) hP hG (hO.sv hn) hO.tell (aR st.L) (eX st.L);refine this.mono ?_;rintro e w' ⟨rfl,hb⟩;refine⟨?_,hb⟩;unfold Sx.text
 split
 ·rfl
 ·rfl
def iL (st:Sx):Int×List UInt8:=match st.text with | none=>(4,[]) | some t=>(0,Lib.itoa t.length)
def dJ (st:Sx):(Int×List UInt8)×Sx:=match st.text with | none=>((4,[]),st) | some _=>((0,[114,101,108,111,97,100]),st.again)
end
section
def JE {α:Type} (W:World) (oa:Option Addr) (enc:α->List Value) (n:Nat) (C:List α):Prop:=∀k c,C[k]? =some c->∃g,oa=some ⟨g,0,none⟩∧g < W.heap.size∧∀j u,(enc c)[j]? =some u->W.cell? ⟨g,k * n+j,none⟩=some u
theorem JE.below {α:Type} {W W':World} {oa:Option Addr} {enc:α->List Value} {n:Nat} {C:List α} (h:JE W oa enc n C) (hb:Below W.heap.size W W'):JE W' oa enc n C:=fun k c hc=>by
 obtain⟨g,e,hl,h1⟩:=h k c hc;exact⟨g,e,Nat.lt_of_lt_of_le hl hb.size,fun j u hu=>(hb.cell (p:=⟨g,k * n+j,none⟩) hl).trans (h1 j u hu)⟩
abbrev UQ (g o:Nat) (x:O) (W:World):Prop:=W.cell? ⟨g,o,none⟩=some (.int .i64 x.k)∧W.cell? ⟨g,o+1,none⟩=some (.int .i64 x.lk)∧W.cell? ⟨g,o+2,none⟩=some (.int .i64 x.lt)∧W.cell? ⟨g,o+3,none⟩=some (.int .i64 x.lv)∧W.cell? ⟨g,o+4,none⟩=some (.int .i64 x.rk)∧W.cell? ⟨g,o+5,none⟩=some (.int .i64 x.rt)∧W.cell? ⟨g,o+6,none⟩=some (.int .i64 x.rv)∧W.cell? ⟨g,o+7,none⟩=some (.bool x.hl)∧W.cell? ⟨g,o+8,none⟩=some (.bool x.hr)
abbrev UR (g o:Nat) (q:Gi) (W:World):Prop:=W.cell? ⟨g,o,none⟩=some (.int .i64 q.key)∧W.cell? ⟨g,o+1,none⟩=some (.int .i64 q.count)∧W.cell? ⟨g,o+2,none⟩=some (.int .i64 q.sum)∧W.cell? ⟨g,o+3,none⟩=some (.int .i64 q.least)∧W.cell? ⟨g,o+4,none⟩=some (.int .i64 q.most)∧W.cell? ⟨g,o+5,none⟩=some (.bool q.some)
def jG (q:Gi):List Value:=[.int .i64 q.key,.int .i64 q.count,.int .i64 q.sum,.int .i64 q.least,.int .i64 q.most,.bool q.some]
def xQ (k:Int):List Int->List Int
 | []=>[k]
 | a::r=>if k < a then k::a::r else if k=a then a::r else a::xQ k r
def bP:List O->List Int
 | []=>[]
 | o::r=>xQ o.k (bP r)
theorem xR (k x:Int):∀l:List Int,x∈xQ k l↔x=k∨x∈l
 | []=>by simp[xQ]
 | a::r=>by
  unfold xQ
  split
  ·simp
  ·split
   ·rename_i h;subst h;simp
   ·have :=xR k x r;simp only[List.mem_cons,this]
    constructor
    ·rintro(h | h | h)
     ·exact .inr (.inl h)
     ·exact .inl h
     ·exact .inr (.inr h)
    ·rintro(h | h | h)
     ·exact .inr (.inl h)
     ·exact .inl h
     ·exact .inr (.inr h)
theorem JF (k:Int):∀l:List Int,l.Pairwise (fun x y=>x < y)->(xQ k l).Pairwise (fun x y=>x < y)
 | [],_=>by simp[xQ]
 | a::r,h=>by
  obtain⟨h1,h2⟩:=List.pairwise_cons.1 h;unfold xQ
  split
  ·rename_i hk
   refine List.pairwise_cons.2 ⟨fun x hx=> ?_,h⟩
   rcases List.mem_cons.1 hx with rfl | hx
   ·exact hk
   ·have :=h1 x hx;omega
  ·split
   ·exact h
   ·refine List.pairwise_cons.2 ⟨fun x hx=> ?_,JF k r h2⟩
    rcases(xR k x r).1 hx with rfl | hx
    ·omega
    ·exact h1 x hx
theorem nX:∀L:List O,(bP L).Pairwise (fun x y=>x < y)
 | []=>List.Pairwise.nil
 | o::r=>JF o.k (bP r) (nX r)
theorem tF:∀(L:List O) (k:Int),k∈bP L↔∃o∈L,o.k=k
 | [],k=>by simp[bP]
 | o::r,k=>by
  unfold bP;rw[xR,tF r k];simp only[List.mem_cons,exists_eq_or_imp]
  constructor
  ·rintro(h | h)
   ·exact .inl h.symm
   ·exact .inr h
  ·rintro(h | h)
   ·exact .inl h.symm
   ·exact .inr h
theorem mH (L:List O) (k:Int):k∈bP L↔(bK L k).isSome=true:=by
 rw[tF];unfold bK
 split
 ·rename_i h
  simp only[Option.isSome_none,Bool.false_eq_true,iff_false,not_exists,not_and];intro o ho e
  have :o∈gK L k:=by unfold gK;exact List.mem_filter.2 ⟨ho,by simp[e]⟩
  rw[h] at this;cases this
 ·rename_i h
  simp only[Option.isSome_some,iff_true];obtain⟨o,ho⟩:=List.exists_mem_of_ne_nil _ h;unfold gK at ho;obtain⟨h1,h2⟩:=List.mem_filter.1 ho;exact⟨o,h1,by simpa using h2⟩
theorem pE (L:List O):(bP L).length<=L.length:=by
 induction L with
 | nil=>simp[bP]
 | cons o r ih=>
  have key:∀(k:Int) (l:List Int),(xQ k l).length<=l.length+1:=by
   intro k l
   induction l with
   | nil=>simp[xQ]
   | cons a r ih=>
    unfold xQ
    split
    ·simp
    ·split
     ·simp
     ·simp only[List.length_cons];omega
  have :=key o.k (bP r);unfold bP;rw[List.length_cons];omega
def jR (L:List O) (k:Int):Gi:=⟨k,((bK L k).getD τ0).c,((bK L k).getD τ0).s,lo ((bK L k).getD τ0).R,hi ((bK L k).getD τ0).R,some? ((bK L k).getD τ0).R⟩
def qB (L:List O):List UInt8:=Lib.join ((sortO L).map aW) [44,32]
def kD (L:List O):List UInt8:=Lib.join (((bP L).map (jR L)).map dR) [44,32]
end
section
end
section
variable {W:World} {bs bm:Nat}
inductive Vb
 | vplan
 | vleft
 | vright
 | vmark
 | vmarks
 | vheld
 | vfed
 | vlate
 | vview
 | vgroups
 | vsaved
 | vreload
 | vhelp
def Vb.fn:Vb->Nat
 | .vplan=>132
 | .vleft=>133
 | .vright=>134
 | .vmark=>135
 | .vmarks=>136
 | .vheld=>137
 | .vfed=>138
 | .vlate=>139
 | .vview=>140
 | .vgroups=>141
 | .vsaved=>142
 | .vreload=>143
 | .vhelp=>144
def Vb.ar:Vb->Nat
 | .vplan=>3
 | .vleft=>3
 | .vright=>3
 | .vmark=>2
 | .vmarks=>0
 | .vheld=>0
 | .vfed=>0
 | .vlate=>0
 | .vview=>0
 | .vgroups=>0
 | .vsaved=>0
 | .vreload=>0
 | .vhelp=>0
def Vb.word:Vb->List UInt8
 | .vplan=>[112,108,97,110]
 | .vleft=>[108,101,102,116]
 | .vright=>[114,105,103,104,116]
 | .vmark=>[109,97,114,107]
 | .vmarks=>[109,97,114,107,115]
 | .vheld=>[104,101,108,100]
 | .vfed=>[102,101,100]
 | .vlate=>[108,97,116,101]
 | .vview=>[118,105,101,119]
 | .vgroups=>[103,114,111,117,112,115]
 | .vsaved=>[115,97,118,101,100]
 | .vreload=>[114,101,108,111,97,100]
 | .vhelp=>[104,101,108,112]
def dM (l:List UInt8):Option Vb:=
 if l=[112,108,97,110] then some .vplan
 else if l=[108,101,102,116] then some .vleft
 else if l=[114,105,103,104,116] then some .vright
 else if l=[109,97,114,107] then some .vmark
 else if l=[109,97,114,107,115] then some .vmarks
 else if l=[104,101,108,100] then some .vheld
 else if l=[102,101,100] then some .vfed
 else if l=[108,97,116,101] then some .vlate
 else if l=[118,105,101,119] then some .vview
 else if l=[103,114,111,117,112,115] then some .vgroups
 else if l=[115,97,118,101,100] then some .vsaved
 else if l=[114,101,108,111,97,100] then some .vreload
 else if l=[104,101,108,112] then some .vhelp
 else none
abbrev zA:Value->Option (DataW Value×List MemPlace):=fun v=>some (.held v,[])
abbrev zn (bs:Nat) (f:Nat) (k:Nat):Value:= .agg #[.int .i64 k,.func (.func f) #[.pointer (some ⟨bs,0,none⟩)] #[]]
abbrev Ue:Value:= .agg #[.int .i64 0,.nilFunc]
def mJ (bs:Nat):DataW Value:=((((((((((((((DataW.map []).put (.string [112,108,97,110]) (.held (zn bs 132 3))).put (.string [108,101,102,116]) (.held (zn bs 133 3))).put (.string [114,105,103,104,116]) (.held (zn bs 134 3))).put (.string [109,97,114,107]) (.held (zn bs 135 2))).put (.string [109,97,114,107,115]) (.held (zn bs 136 0))).put (.string [104,101,108,100]) (.held (zn bs 137 0))).put (.string [102,101,100]) (.held (zn bs 138 0))).put (.string [108,97,116,101]) (.held (zn bs 139 0))).put (.string [118,105,101,119]) (.held (zn bs 140 0))).put (.string [103,114,111,117,112,115]) (.held (zn bs 141 0))).put (.string [115,97,118,101,100]) (.held (zn bs 142 0))).put (.string [114,101,108,111,97,100]) (.held (zn bs 143 0))).put (.string [104,101,108,112]) (.held (zn bs 144 0)))
def mM (W:World) (bs bm:Nat):Prop:=W.ownsMap Tryz.prog 9 zA bm 13 (mJ bs)
theorem mM.still {W':World} (h:mM W bs bm) (hb:W'.heap[bm]? =W.heap[bm]?):mM W' bs bm:=by
 obtain⟨es,c,h1,h2⟩:=h;exact⟨es,c,hb.trans h1,h2⟩
theorem mM.lt (h:mM W bs bm):bm < W.heap.size:=by
 obtain⟨es,c,h1,h2⟩:=h;exact(Array.getElem?_eq_some_iff.1 h1).1
end
section
def Vb.does (v:Vb) (st:Sx) (ns:List Int):(Int×List UInt8)×Sx:=
 match v,ns with
 | .vplan,[a,b,m]=>((aS a b m,[112,108,97,110]),if aS a b m=0 then Sx.new a b m else st)
 | .vleft,[k,t,u]=>(((st.feed0 k t u).1,nC st k t u),(st.feed0 k t u).2)
 | .vright,[k,t,u]=>(((st.feed1 k t u).1,nE st k t u),(st.feed1 k t u).2)
 | .vmark,[a,b]=>(((st.move a b).1,[109,97,114,107]),(st.move a b).2)
 | .vmarks,_=>((0,aa [st.x.m0,st.x.m1]),st)
 | .vheld,_=>((0,aa [st.x.R0.length,st.x.R1.length]),st)
 | .vfed,_=>((0,aa [st.f0,st.f1]),st)
 | .vlate,_=>((0,Lib.itoa st.x.late),st)
 | .vview,_=>((0,qB st.L),st)
 | .vgroups,_=>((0,kD st.L),st)
 | .vsaved,_=>(iL st,st)
 | .vreload,_=>((dJ st).1,(dJ st).2)
 | .vhelp,_=>((0,BX),st)
 | _,_=>((3,[]),st)
def nY (c:Int) (t:List UInt8):List UInt8:=if c=0 then t else eH c
def rF (v:Vb) (st:Sx) (ws:List (List UInt8)):List UInt8×Sx:=
 match numsOf ws with
 | none=>(eH 3,st)
 | some ns=>(nY (v.does st ns).1.1 (v.does st ns).1.2,(v.does st ns).2)
def sayOf (st:Sx) (line:List UInt8):List UInt8×Sx:=
 match aH line with
 | []=>([111,107],st)
 | w::ws=>
  match dM w with
  | none=>(eH 3,st)
  | some v=>if ws.length=v.ar then rF v st ws else(eH 3,st)
end
end Go.Proofs.YthfpipieboophaaGreatDoor
