import Derived.Below
import Derived.BigQuiet
import Derived.Deep.RegionWith
import Derived.Deep.RegionHeld3
import Derived.Lib.SmallJoins
import Derived.Lib.QuietBelow
import Derived.Deep.LoopGhost
import Derived.Deep.DeepCutAuto
import Derived.Deep.CutBlock
import Derived.Deep.CutRange
import Derived.WalkKit
import Derived.WalkSpells
import Derived.WalkLawsBesides
import Derived.Deep.QuietTactic
import Derived.Maps.OwnSet
import Derived.Maps.Views
import Derived.WideKeyEntry
import Derived.DeepKeys5
import Derived.Test.YthfpipieboophaaGreatDoorProg
namespace Go.Proofs.YthfpipieboophaaGreatDoor
set_option maxRecDepth 100000
set_option maxHeartbeats 40000000
section
theorem hid {p:Prop} (h:p):Go.RowKit.Hid p:=h
end
section
open Go.Proofs.Tryz Go.RowKit
theorem gu {k:IntKind} {a b:Int} (h:a=b):Ending.returned (.int k a)= .returned (.int k b):=by rw[h]
theorem aN {a b:Bool} (h:a=b):Ending.returned (.bool a)= .returned (.bool b):=by rw[h]
def cu (x y:Int):Int:=if x < y then -1 else if y < x then 1 else 0
def xD (a b:Bool):Int:=if a==b then 0 else if b then -1 else 1
def gY (a:Bool):Int:=if a then 1 else 0
theorem uz (x:Int) (w:World):
  Calls prog 264 #[.int .i64 x] w fun e w'=>e= .returned (.bool false)∧w'=w:=by
 go_enter func264,ntmps264;go_wp2;go_ret;exact⟨aN (by simp),rfl⟩
theorem Jz (x y:Int) (w:World):
  Calls prog 196 #[.int .i64 x,.int .i64 y] w fun e w'=>e= .returned (.int .i64 (cu x y))∧w'=w:=by
 by_cases h1:x < y
 ·go_enter func196,ntmps196
  go_wp2_with (go_at_call 264;refine(uz _ _).mono ?_;rintro e w' ⟨rfl,rfl⟩)
  go_ret;exact⟨gu (by simp[cu,h1]),rfl⟩
 ·by_cases h2:y < x
  ·go_enter func196,ntmps196
   go_wp2_with (go_at_call 264;refine(uz _ _).mono ?_;rintro e w' ⟨rfl,rfl⟩)
   go_ret;exact⟨gu (by simp[cu,h1,h2]),rfl⟩
  ·go_enter func196,ntmps196
   go_wp2_with (go_at_call 264;refine(uz _ _).mono ?_;rintro e w' ⟨rfl,rfl⟩)
   go_ret;exact⟨gu (by unfold cu;rw[if_neg (by omega),if_neg (by omega)]),rfl⟩
theorem SN (a b:Bool) (w:World):
  Calls prog 197 #[.bool a,.bool b] w fun e w'=>e= .returned (.int .i64 (xD a b))∧w'=w:=by
 cases a <;>cases b <;>
 ·go_enter func197,ntmps197;go_wp2;go_ret;exact⟨gu (by simp[xD]),rfl⟩
def iG (low high n:Int):Bool:=decide (low<=n) && decide (n<=high)
end
section
open Go.RowKit
def mq:List Int->Int
 | []=>0
 | z::zs=>if z=0 then mq zs else z
def iC:List Int->List Int->Int
 | x::xs,y::ys=>if x < y then -1 else if y < x then 1 else iC xs ys
 | _,_=>0
theorem EX (zs:List Int) (k:Nat) (h:∀j,j < k->zs.getD j 0=0):mq zs=mq (zs.drop k):=by
 induction k generalizing zs with
 | zero=>rfl
 | succ k ih=>
  cases zs with
  | nil=>rfl
  | cons z zs=>
   have h0:z=0:=by simpa using h 0 (by omega)
   rw[List.drop_succ_cons,<-ih zs (fun j hj=>by simpa using h (j+1) (by omega))];simp[mq,h0]
theorem Vs (zs:List Int) (k:Nat) (h:∀j,j < k->zs.getD j 0=0) (hk:zs.getD k 0≠0):mq zs=zs.getD k 0:=by
 rw[EX zs k h]
 have hlt:k < zs.length:=by
  rcases Nat.lt_or_ge k zs.length with h' | h'
  ·exact h'
  ·exact absurd (by simp[h']) hk
 rw[List.drop_eq_getElem_cons hlt];simp only[List.getD_eq_getElem?_getD,List.getElem?_eq_getElem hlt,Option.getD_some] at hk⊢;simp[mq,hk]
theorem SQ (zs:List Int) (h:∀j,j < zs.length->zs.getD j 0=0):mq zs=0:=by
 rw[EX zs _ h,List.drop_length];rfl
theorem JA (zs:List Int) (n:Nat) (b c:Nat) (w:World) (hn:n=zs.length) (hl:n<=1000)
  (hc:∀j,j < n->w.cell? ⟨b,j,none⟩=some (.int .i64 (zs.getD j 0))):
  Calls Tryz.prog 195 #[.slice (some ⟨b,0,none⟩) n c] w fun e w'=>e= .returned (.int .i64 (mq zs))∧w'=w:=by
 have HN:=hid hn;clear hn;go_enter Tryz.func195,Tryz.ntmps195;go_wp2
 go_loop [8] (fun i=>∃k:Nat,k<=n∧i= .int .i64 k∧∀j,j < k->zs.getD j 0=0) (fun i=>n -(intOf i).toNat)
 case atStart=>exact⟨0,Nat.zero_le _,rfl,fun j hj=>absurd hj (Nat.not_lt_zero _)⟩
 case round=>
  obtain⟨k,hk,rfl,hz⟩:=hrel;have HZ:=hid hz;clear hz
  by_cases hlt:k < n
  ·have hck:=hc k hlt
   have h1:(0:Int)<=(k:Int):=by omega
   have h2:(k:Int) < (n:Int):=by omega
   clear hc;generalize hx:zs.getD k 0=x at hck;have HX:=hid hx;clear hx
   by_cases hx0:x=0
   ·subst hx0;go_wp2
    go_round
    case rel=>exact⟨k+1,by omega,by go_num,fun j hj=>by
     rcases Nat.lt_or_ge j k with h' | h'
     ·exact HZ.out j h'
     ·have :j=k:=by omega
      subst this;exact HX.out⟩
    case measure=>simp[intOf];omega
   ·have hx1:(x !=0)=true:=by simp[hx0]
    go_wp2;go_ret;exact⟨gu (by rw[Vs zs k HZ.out (by rw[HX.out];exact hx0),HX.out]),rfl⟩
  ·go_wp2;go_ret;exact⟨gu (by rw[SQ zs (fun j hj=>HZ.out j (by have :=HN.out;omega))]),rfl⟩
theorem Bb (xs ys:List Int) (k:Nat) (hl:xs.length=ys.length) (h:∀j,j < k->xs.getD j 0=ys.getD j 0):iC xs ys=iC (xs.drop k) (ys.drop k):=by
 induction k generalizing xs ys with
 | zero=>rfl
 | succ k ih=>
  cases xs with
  | nil=>cases ys with
   | nil=>rfl
   | cons y ys=>cases hl
  | cons x xs=>cases ys with
   | nil=>cases hl
   | cons y ys=>
    have h0:x=y:=by simpa using h 0 (by omega)
    rw[List.drop_succ_cons,List.drop_succ_cons,<-ih xs ys (by simpa using hl) (fun j hj=>by simpa using h (j+1) (by omega))];subst h0;simp[iC]
theorem SS (xs ys:List Int) (k:Nat) (hl:xs.length=ys.length) (hk:k < xs.length) (h:∀j,j < k->xs.getD j 0=ys.getD j 0):
  (xs.getD k 0 < ys.getD k 0->iC xs ys= -1)∧(ys.getD k 0 < xs.getD k 0->iC xs ys=1):=by
 have hk2:k < ys.length:=by omega
 rw[Bb xs ys k hl h,List.drop_eq_getElem_cons hk,List.drop_eq_getElem_cons hk2];simp only[List.getD_eq_getElem?_getD,List.getElem?_eq_getElem hk,List.getElem?_eq_getElem hk2,Option.getD_some]
 constructor
 ·intro h1;simp[iC,h1]
 ·intro h1;simp only[iC];rw[if_neg (by omega),if_pos h1]
theorem PL (xs ys:List Int) (hl:xs.length=ys.length) (h:∀j,j < xs.length->xs.getD j 0=ys.getD j 0):iC xs ys=0:=by
 rw[Bb xs ys _ hl h,List.drop_length];rfl
end
section
open Go.RowKit
def acd (k t v:Int):Value:= .agg #[.int .i64 k,.int .i64 t,.int .i64 v]
def au (k t v:Int):Bool:=iG (-1099511627776) 1099511627776 k && (iG (-1099511627776) 1099511627776 t && iG (-1099511627776) 1099511627776 v)
end
section
open Go.RowKit
theorem Dt (w:World) (x y z:Value) (g:Nat) (hg:g=w.heap.size) (e:TypeId) (zs:List Int) (hz:[x,y,z]=zs.map (Value.int .i64)):∀j,j < 3->(w.alloc (.cells #[x,y,z] e)).cell? ⟨g,j,none⟩=some (.int .i64 (zs.getD j 0)):=by
 subst hg
 match zs,hz with
 | [a,b,c],hz=>
  simp only[List.map_cons,List.map_nil,List.cons.injEq,and_true] at hz;obtain⟨rfl,rfl,rfl⟩:=hz;intro j hj
  match j,hj with
  | 0,_=>simp
  | 1,_=>simp
  | 2,_=>simp
theorem Gs (k1 t1 v1 k2 t2 v2:Int) (w:World):
  Calls Tryz.prog 198 #[.agg #[.int .i64 k1,.int .i64 t1,.int .i64 v1],.agg #[.int .i64 k2,.int .i64 t2,.int .i64 v2]] w fun e w'=>e= .returned (.int .i64 (mq [cu k1 k2,cu t1 t2,cu v1 v2]))∧w'=(((w.alloc (.cells #[.int .i64 k1,.int .i64 t1,.int .i64 v1] 37)).alloc (.cells #[.int .i64 k2,.int .i64 t2,.int .i64 v2] 37)).alloc (.cells #[.int .i64 (cu k1 k2),.int .i64 (cu t1 t2),.int .i64 (cu v1 v2)] 3)).drew:=by
 go_enter Tryz.func198,Tryz.ntmps198;go_wp2
 go_region_held3 (fun w'=>w'.cell? ⟨w.heap.size,0,none⟩=some (.int .i64 k1)∧w'.cell? ⟨w.heap.size,1,none⟩=some (.int .i64 t1)∧w'.cell? ⟨w.heap.size,2,none⟩=some (.int .i64 v1)∧w'.cell? ⟨w.heap.size+1,0,none⟩=some (.int .i64 k2)∧w'.cell? ⟨w.heap.size+1,1,none⟩=some (.int .i64 t2)∧w'.cell? ⟨w.heap.size+1,2,none⟩=some (.int .i64 v2)) (go_keep)
  (first | (go_at_call 196;refine(Jz _ _ _).mono ?_;rintro e w' ⟨rfl,rfl⟩) | (go_at_call 195;refine(JA [cu k1 k2,cu t1 t2,cu v1 v2] 3 _ _ _ rfl (by omega) ?_).mono ?_;(exact Dt _ _ _ _ _ (by simp) _ _ rfl);rintro e w' ⟨rfl,rfl⟩))
 all_goals go_wp2
 go_ret;exact⟨rfl,rfl⟩
end
section
open Go.RowKit
theorem or5 (a b c d e:Int) (g cp:Nat) (w:World)
  (p0:w.cell? ⟨g,0,none⟩=some (.int .i64 a)) (p1:w.cell? ⟨g,1,none⟩=some (.int .i64 b)) (p2:w.cell? ⟨g,2,none⟩=some (.int .i64 c)) (p3:w.cell? ⟨g,3,none⟩=some (.int .i64 d)) (p4:w.cell? ⟨g,4,none⟩=some (.int .i64 e)):
  Calls Tryz.prog 195 #[.slice (some ⟨g,0,none⟩) 5 cp] w fun r w'=>r= .returned (.int .i64 (mq [a,b,c,d,e]))∧w'=w:=by
 refine JA [a,b,c,d,e] 5 g cp w rfl (by omega) ?_;intro j hj
 match j,hj with
 | 0,_=>exact p0
 | 1,_=>exact p1
 | 2,_=>exact p2
 | 3,_=>exact p3
 | 4,_=>exact p4
set_option linter.unusedSimpArgs false
end
section
theorem Iu (xs ys:List Int):mq (xs++ys)=if mq xs=0 then mq ys else mq xs:=by
 induction xs with
 | nil=>rfl
 | cons x xs ih=>
  by_cases h:x=0
  ·simp only[List.cons_append,mq,h,if_true];exact ih
  ·simp[List.cons_append,mq,h]
theorem EY (xs ys:List Int):mq (mq xs::ys)=mq (xs++ys):=by
 rw[Iu];rfl
theorem eT (x:Int) {xs ys:List Int} (h:mq xs=mq ys):mq (x::xs)=mq (x::ys):=by
 simp only[mq,h]
theorem EZ (a b:Bool):xD a b=cu (gY a) (gY b):=by
 cases a <;>cases b <;>rfl
theorem PM:∀(xs ys:List Int),iC xs ys=mq (List.zipWith cu xs ys)
 | [],_=>by simp[iC,mq]
 | _::_,[]=>by simp[iC,mq]
 | x::xs,y::ys=>by
  rw[List.zipWith_cons_cons,mq,iC,PM xs ys];unfold cu
  by_cases h1:x < y
  ·simp[h1]
  ·by_cases h2:y < x
   ·simp[h1,h2]
   ·simp[h1,h2]
theorem Zh (k lk lt lv rk rt rv k' lk' lt' Un SV SX rv':Int) (hl hr hl' hr':Bool):
  iC [k,gY hl,lk,lt,lv,gY hr,rk,rt,rv] [k',gY hl',lk',lt',Un,gY hr',SV,SX,rv']=mq [cu k k',xD hl hl',mq [cu lk lk',cu lt lt',cu lv Un],xD hr hr',mq [cu rk SV,cu rt SX,cu rv rv']]:=by
 rw[PM];show mq [cu k k',cu (gY hl) (gY hl'),cu lk lk',cu lt lt',cu lv Un,cu (gY hr) (gY hr'),cu rk SV,cu rt SX,cu rv rv']=_;rw[<-EZ,<-EZ];refine eT _ (eT _ ?_);rw[EY];refine eT _ (eT _ (eT _ (eT _ ?_)));exact(EY [cu rk SV,cu rt SX,cu rv rv'] []).symm
theorem Dp:∀(xs ys:List Int),iC ys xs= -iC xs ys
 | [],[]=>rfl
 | [],_::_=>rfl
 | _::_,[]=>rfl
 | x::xs,y::ys=>by
  have :=Dp xs ys;simp only[iC]
  by_cases h1:x < y
  ·rw[if_pos h1,if_neg (by omega),if_pos h1];rfl
  ·by_cases h2:y < x
   ·rw[if_pos h2,if_neg h1,if_pos h2]
   ·rw[if_neg h2,if_neg h1,if_neg h1,if_neg h2];exact this
theorem Af:∀(xs ys:List Int),xs.length=ys.length->(iC xs ys=0↔xs=ys)
 | [],[],_=>by simp[iC]
 | x::xs,y::ys,h=>by
  have :=Af xs ys (by simpa using h);simp only[iC]
  by_cases h1:x < y
  ·rw[if_pos h1];simp;intro h;omega
  ·by_cases h2:y < x
   ·rw[if_neg h1,if_pos h2];simp;intro h;omega
   ·rw[if_neg h1,if_neg h2,this];simp;intro _;omega
theorem xG:∀(xs ys zs:List Int),xs.length=ys.length->ys.length=zs.length->iC xs ys<=0->iC ys zs<=0->iC xs zs<=0
 | [],[],[],_,_,_,_=>by simp[iC]
 | x::xs,y::ys,z::zs,hx,hy,h1,h2=>by
  have ih:=xG xs ys zs (by simpa using hx) (by simpa using hy);simp only[iC] at h1 h2⊢
  by_cases a1:x < z
  ·rw[if_pos a1];omega
  ·rw[if_neg a1]
   by_cases a2:z < x
   ·exfalso
    by_cases b1:x < y
    ·rw[if_neg (by omega),if_pos (by omega)] at h2;omega
    ·rw[if_neg b1] at h1
     by_cases b2:y < x
     ·rw[if_pos b2] at h1;omega
     ·rw[if_neg (by omega),if_pos (by omega)] at h2;omega
   ·rw[if_neg a2]
    have e:x=z:=by omega
    subst e
    by_cases b1:x < y
    ·rw[if_neg (by omega),if_pos b1] at h2;omega
    ·rw[if_neg b1] at h1
     by_cases b2:y < x
     ·rw[if_pos b2] at h1;omega
     ·rw[if_neg b2] at h1;rw[if_neg b2,if_neg b1] at h2;exact ih h1 h2
end
section
open Go.Proofs.Tryz Go.RowKit Go.Sort
structure O where
 k:Int
 lk:Int
 lt:Int
 lv:Int
 rk:Int
 rt:Int
 rv:Int
 hl:Bool
 hr:Bool
 deriving DecidableEq,Inhabited
def cO (x y:O):Int:=mq [cu x.k y.k,xD x.hl y.hl,mq [cu x.lk y.lk,cu x.lt y.lt,cu x.lv y.lv],xD x.hr y.hr,mq [cu x.rk y.rk,cu x.rt y.rt,cu x.rv y.rv]]
def lO (x:O):List Int:=[x.k,gY x.hl,x.lk,x.lt,x.lv,gY x.hr,x.rk,x.rt,x.rv]
theorem xE (x y:O):cO x y=iC (lO x) (lO y):=(Zh _ _ _ _ _ _ _ _ _ _ _ _ _ _ _ _ _ _).symm
theorem Nr {a b:Bool}:gY a=gY b↔a=b:=by cases a <;>cases b <;>simp[gY]
theorem qw (x y:O):cO y x= -cO x y:=by rw[xE,xE];exact Dp _ _
theorem wI (x y:O):cO x y=0↔x=y:=by
 rw[xE,Af (lO x) (lO y) rfl];simp only[lO,List.cons.injEq,Nr,and_true]
 constructor
 ·rintro⟨a,b,c,d,e,f,g,h,i⟩;cases x;cases y;simp_all
 ·rintro rfl;simp
theorem xz (a b c:O) (h1:cO a b<=0) (h2:cO b c<=0):cO a c<=0:=by
 rw[xE] at *;exact xG (lO a) (lO b) (lO c) rfl rfl h1 h2
def ah (x:O):List Value:=[.int .i64 x.k,.int .i64 x.lk,.int .i64 x.lt,.int .i64 x.lv,.int .i64 x.rk,.int .i64 x.rt,.int .i64 x.rv,.bool x.hl,.bool x.hr]
def vO (x:O):Value:= .agg #[.int .i64 x.k,.int .i64 x.lk,.int .i64 x.lt,.int .i64 x.lv,.int .i64 x.rk,.int .i64 x.rt,.int .i64 x.rv,.bool x.hl,.bool x.hr]
theorem Ni {x y:O} (h:vO x=vO y):x=y:=by
 cases x;cases y;simp[vO] at h;simp[h]
structure O.wf (x:O):Prop where
 k:(Lit.int .i64 x.k).wf=true
 lk:(Lit.int .i64 x.lk).wf=true
 lt:(Lit.int .i64 x.lt).wf=true
 lv:(Lit.int .i64 x.lv).wf=true
 rk:(Lit.int .i64 x.rk).wf=true
 rt:(Lit.int .i64 x.rt).wf=true
 rv:(Lit.int .i64 x.rv).wf=true
theorem laidOut:laidOutB prog=true:=by kernel_rfl
theorem wJ:prog.cellsOf 37=3:=by kernel_rfl
theorem wK:prog.cellsOf 89=9:=by kernel_rfl
theorem cells3:prog.cellsOf 3=1:=by kernel_rfl
theorem Ns:prog.cellsOf 4=1:=by kernel_rfl
theorem law:WideMaps.KeyLaw prog 89:=deep_law_laid laidOut (m:=3) (by omega) (of_decide_eq_true (by kernel_rfl)) (by kernel_rfl) (by rw[underlying89])
theorem keyed:Maps.Keyed prog 89:=Maps.Keyed.of_law law
theorem Ag:prog.keyType 89=true:=by kernel_rfl
theorem q9 (d:Nat) (a:Int) (h:(Lit.int .i64 a).wf=true):prog.keyLits (d+1) 3 [.int .i64 a]=some [.int .i64 a]:=by
 simp[Program.keyLits,underlying3,h]
theorem Ah (d:Nat) (a:Bool):prog.keyLits (d+1) 4 [.bool a]=some [.bool a]:=by
 simp[Program.keyLits,underlying4]
theorem Dq (d:Nat) (a b c:Int) (ha:(Lit.int .i64 a).wf=true) (hb:(Lit.int .i64 b).wf=true) (hc:(Lit.int .i64 c).wf=true):prog.keyLits (d+2) 37 [.int .i64 a,.int .i64 b,.int .i64 c]=some [.int .i64 a,.int .i64 b,.int .i64 c]:=by
 have h1:=q9 d a ha;have h2:=q9 d b hb;have h3:=q9 d c hc;rw[show d+2=(d+1)+1 from rfl];unfold Program.keyLits;rw[underlying37];simp[wJ,cells3,h1,h2,h3]
theorem Nt (d:Nat) (x:O) (h:x.wf):prog.keyLits (d+3) 89 (ah x)=some [.int .i64 x.k,.int .i64 x.lk,.int .i64 x.lt,.int .i64 x.lv,.int .i64 x.rk,.int .i64 x.rt,.int .i64 x.rv,.bool x.hl,.bool x.hr]:=by
 rw[show d+3=(d+2)+1 from rfl];have e1:=q9 (d+1) x.k h.k;have e2:=Dq d x.lk x.lt x.lv h.lk h.lt h.lv;have e3:=Dq d x.rk x.rt x.rv h.rk h.rt h.rv;have e4:=Ah (d+1) x.hl;have e5:=Ah (d+1) x.hr;unfold Program.keyLits;rw[underlying89];simp[ah,wK,cells3,Ns,wJ,e1,e2,e3,e4,e5]
def kL (x:O):Lit:= .string (keyBytes [.int .i64 x.k,.int .i64 x.lk,.int .i64 x.lt,.int .i64 x.lv,.int .i64 x.rk,.int .i64 x.rt,.int .i64 x.rv,.bool x.hl,.bool x.hr])
theorem lK (x:O) (h:x.wf):keyOf prog 89 (vO x)=some (kL x):=by
 unfold keyOf;rw[underlying89];simp only[Ag,Bool.true_and];rw[if_pos (by simp[vO,Value.formed,underlying89,wK])];rw[show prog.types.size+1=(prog.types.size -2)+3 by have :2<=prog.types.size:=of_decide_eq_true (by kernel_rfl);omega];rw[show(vO x).cells.toList=ah x from rfl,Nt _ x h];rfl
theorem UA {x y:O} (hx:x.wf) (hy:y.wf) (h:kL x=kL y):x=y:=
 Ni (keyed.inj (lK x hx) (by rw[h];exact lK y hy))
end
end Go.Proofs.YthfpipieboophaaGreatDoor
