import Derived.Lib.SmallJoins
import Derived.BigQuiet
import Derived.Deep.RegionHeld3
import Derived.Lib.QuietBelow
import Derived.Deep.DeepCutAuto
import Derived.Deep.CutBlock
import Derived.WalkSpells
import Derived.WalkLawsBesides
import Derived.WideKeyEntry
import Derived.DeepKeys5
import Derived.Test.YthfpipieboophaaGreatDoorProg
namespace Go.Proofs.YthfpipieboophaaGreatDoor
set_option maxRecDepth 100000
set_option maxHeartbeats 40000000
section
theorem hid{p:Prop}(h:p):Go.RowKit.Hid p:=h
abbrev ax:=@Array.getElem?_eq_some_iff
abbrev aC:=@Nat.le_refl
abbrev aH:=@Nat.le_trans
abbrev aO:=@List.getElem?_eq_getElem
abbrev aR:=@Nat.lt_of_lt_of_le
abbrev aW:=@Nat.zero_le
abbrev bP:=@List.getElem?_eq_some_iff
abbrev cZ:=@List.mem_of_getElem?
abbrev di:=@List.eq_nil_of_length_eq_zero
abbrev dA:=@List.take_of_length_le
abbrev dG:=@List.length_filter_le
abbrev dH:=@List.mem_map
abbrev dJ:=@decide_eq_false
abbrev dK:=@List.getElem?_append_right
abbrev dM:=@List.mem_cons
abbrev dN:=@Option.isSome_iff_exists
abbrev dQ:=@List.getElem?_take_of_lt
abbrev dR:=@Array.getElem?_setIfInBounds_ne
abbrev dS:=@List.getElem?_eq_none
abbrev eu:=@decide_eq_true
abbrev eB:=@List.getElem?_append_left
abbrev eD:=@List.drop_eq_nil_of_le
abbrev eG:=@List.length_take_le
abbrev eH:=@List.ext_getElem?
abbrev eX:=@Array.getElem?_eq_getElem
abbrev eY:=@List.mem_erase_of_ne
abbrev eZ:=@Go.heap_alloc_new
abbrev fq:=@Go.Joins.cell_of_block
abbrev fC:=@Go.Joins.below_alloc1
abbrev fK:=@Go.Joins.below_alloc2
abbrev fV:=@Go.Joins.unfrozen_of_block
abbrev fZ:=@Go.Joins.block_setCell
abbrev gy:=@Go.Joins.ownsRow_form
abbrev gL:=@Go.RowKit.Below.heap_alloc
abbrev iJ:=@Go.RowKit.Below.heap_setCell
abbrev iL:=@Go.RowKit.Below.refl
abbrev iR:=@Go.World.ownsRow_nil
abbrev iV:=@Go.World.grownBy_alloc
abbrev iY:=@Go.Maps.has_put_other
abbrev iZ:=@Go.Maps.atKey_put_other
abbrev ja:=@Go.bodyPost_ret
abbrev je:=@Go.info_parts
abbrev jf:=@Go.callsIn_wide
end
section
open Go.Proofs.Tryz Go.RowKit
theorem gu{k:IntKind}{a b:Int}(h:a=b):Ending.returned (.int k a)=.returned (.int k b):=by rw[h]
theorem aN{a b:Bool}(h:a=b):Ending.returned (.bool a)=.returned (.bool b):=by rw[h]
def cu(x y:Int):Int:=if x<y then -1 else if y<x then 1 else 0
def xD(a b:Bool):Int:=if a==b then 0 else if b then -1 else 1
def gY(a:Bool):Int:=if a then 1 else 0
theorem uz(x:Int)(w:World):
  Calls prog 264 #[.int .i64 x] w λe a=>e=.returned (.bool false)/\a=w:=by
 go_enter func264,ntmps264;go_wp2;go_ret;exact⟨aN (by simp),rfl⟩
theorem Jz(x y:Int)(w:World):
  Calls prog 196 #[.int .i64 x,.int .i64 y] w λe a=>e=.returned (.int .i64 (cu x y))/\a=w:=by
 by_cases h1:x<y
 .go_enter func196,ntmps196
  go_wp2_with (go_at_call 264;refine(uz _ _).mono ?_;rintro e a ⟨rfl,rfl⟩)
  go_ret;exact⟨gu (by simp[cu,h1]),rfl⟩
 .by_cases h2:y<x
  .go_enter func196,ntmps196
   go_wp2_with (go_at_call 264;refine(uz _ _).mono ?_;rintro e a ⟨rfl,rfl⟩)
   go_ret;exact⟨gu (by simp[cu,h1,h2]),rfl⟩
  .go_enter func196,ntmps196
   go_wp2_with (go_at_call 264;refine(uz _ _).mono ?_;rintro e a ⟨rfl,rfl⟩)
   go_ret;exact⟨gu (by unfold cu;rw[if_neg (by omega),if_neg (by omega)]),rfl⟩
theorem SN(a b:Bool)(w:World):
  Calls prog 197 #[.bool a,.bool b] w λe c=>e=.returned (.int .i64 (xD a b))/\c=w:=by
 cases a <;>cases b <;>
 .go_enter func197,ntmps197;go_wp2;go_ret;exact⟨gu (by simp[xD]),rfl⟩
def iG(low high n:Int):Bool:=decide (low<=n)&&decide (n<=high)
end
section
open Go.RowKit
def mq:List Int->Int
 |[]=>0
 |z::zs=>if z=0 then mq zs else z
def iC:List Int->List Int->Int
 |x::xs,y::ys=>if x<y then -1 else if y<x then 1 else iC xs ys
 |_,_=>0
theorem EX(zs:List Int)(k:Nat)(h:∀j,j<k->zs.getD j 0=0):mq zs=mq (zs.drop k):=by
 induction k generalizing zs with
 |zero=>rfl
 |succ k ih=>
  cases zs with
  |nil=>rfl
  |cons z zs=>
   have a:z=0:=by simpa using h 0 (by omega)
   rw[List.drop_succ_cons,<-ih zs (λj hj=>by simpa using h (j+1) (by omega))];simp[mq,a]
theorem Vs(zs:List Int)(k:Nat)(h:∀j,j<k->zs.getD j 0=0)(b:zs.getD k 0≠0):mq zs=zs.getD k 0:=by
 rw[EX zs k h]
 have a:k<zs.length:=by
  rcases Nat.lt_or_ge k zs.length with h'|h'
  .exact h'
  .exact absurd (by simp[h']) b
 rw[List.drop_eq_getElem_cons a];simp only[List.getD_eq_getElem?_getD,aO a,Option.getD_some]at b⊢;simp[mq,b]
theorem SQ(zs:List Int)(h:∀j,j<zs.length->zs.getD j 0=0):mq zs=0:=by
 rw[EX zs _ h,List.drop_length];rfl
theorem JA(zs:List Int)(n:Nat)(b c:Nat)(w:World)(l:n=zs.length)(hl:n<=1000)
  (m:∀j,j<n->w.cell? ⟨b,j,none⟩=some (.int .i64 (zs.getD j 0))):
  Calls Tryz.prog 195 #[.slice (some ⟨b,0,none⟩) n c] w λe o=>e=.returned (.int .i64 (mq zs))/\o=w:=by
 have p:=hid l;clear l;go_enter Tryz.func195,Tryz.ntmps195;go_wp2
 go_loop [8] (λi=>∃k:Nat,k<=n/\i=.int .i64 k/\∀j,j<k->zs.getD j 0=0) (λi=>n -(intOf i).toNat)
 case atStart=>exact⟨0,aW _,rfl,λj a=>absurd a (Nat.not_lt_zero _)⟩
 case round=>
  obtain⟨k,hk,rfl,h⟩:=hrel;have d:=hid h;clear h
  by_cases hlt:k<n
  .have f:=m k hlt
   have h1:(0:Int)<=(k:Int):=by omega
   have h2:(k:Int)<(n:Int):=by omega
   clear m;generalize hx:zs.getD k 0=x at f;have g:=hid hx;clear hx
   by_cases hx0:x=0
   .subst hx0;go_wp2
    go_round
    case rel=>exact⟨k+1,by omega,by go_num,λj a=>by
     rcases Nat.lt_or_ge j k with h'|h'
     .exact d.out j h'
     .have:j=k:=by omega
      subst this;exact g.out⟩
    case measure=>simp[intOf];omega
   .have hx1:(x !=0)=true:=by simp[hx0]
    go_wp2;go_ret;exact⟨gu (by rw[Vs zs k d.out (by rw[g.out];exact hx0),g.out]),rfl⟩
  .go_wp2;go_ret;exact⟨gu (by rw[SQ zs (λj a=>d.out j (by have:=p.out;omega))]),rfl⟩
theorem Bb(xs ys:List Int)(k:Nat)(a:xs.length=ys.length)(h:∀j,j<k->xs.getD j 0=ys.getD j 0):iC xs ys=iC (xs.drop k) (ys.drop k):=by
 induction k generalizing xs ys with
 |zero=>rfl
 |succ k ih=>
  cases xs with
  |nil=>cases ys with
   |nil=>rfl
   |cons y ys=>cases a
  |cons x xs=>cases ys with
   |nil=>cases a
   |cons y ys=>
    have b:x=y:=by simpa using h 0 (by omega)
    rw[List.drop_succ_cons,List.drop_succ_cons,<-ih xs ys (by simpa using a) (λj hj=>by simpa using h (j+1) (by omega))];subst b;simp[iC]
theorem SS(xs ys:List Int)(k:Nat)(d:xs.length=ys.length)(c:k<xs.length)(h:∀j,j<k->xs.getD j 0=ys.getD j 0):
  (xs.getD k 0<ys.getD k 0->iC xs ys= -1)/\(ys.getD k 0<xs.getD k 0->iC xs ys=1):=by
 have a:k<ys.length:=by omega
 rw[Bb xs ys k d h,List.drop_eq_getElem_cons c,List.drop_eq_getElem_cons a];simp only[List.getD_eq_getElem?_getD,aO c,aO a,Option.getD_some]
 constructor
 .intro b;simp[iC,b]
 .intro b;simp only[iC];rw[if_neg (by omega),if_pos b]
theorem PL(xs ys:List Int)(a:xs.length=ys.length)(h:∀j,j<xs.length->xs.getD j 0=ys.getD j 0):iC xs ys=0:=by
 rw[Bb xs ys _ a h,List.drop_length];rfl
end
section
open Go.RowKit
def au(k t v:Int):Bool:=iG (-1099511627776) 1099511627776 k&&(iG (-1099511627776) 1099511627776 t&&iG (-1099511627776) 1099511627776 v)
end
section
open Go.RowKit
theorem Dt(w:World)(x y z:Value)(g:Nat)(h:g=w.heap.size)(e:TypeId)(zs:List Int)(d:[x,y,z]=zs.map (Value.int .i64)):∀j,j<3->(w.alloc (.cells #[x,y,z] e)).cell? ⟨g,j,none⟩=some (.int .i64 (zs.getD j 0)):=by
 subst h
 match zs,d with
 |[a,b,c],d=>
  simp only[List.map_cons,List.map_nil,List.cons.injEq,and_true]at d;obtain⟨rfl,rfl,rfl⟩:=d;intro j f
  match j,f with
  |0,_=>simp
  |1,_=>simp
  |2,_=>simp
theorem Gs(b t1 f c t2 d:Int)(w:World):
  Calls Tryz.prog 198 #[.agg #[.int .i64 b,.int .i64 t1,.int .i64 f],.agg #[.int .i64 c,.int .i64 t2,.int .i64 d]] w λe a=>e=.returned (.int .i64 (mq [cu b c,cu t1 t2,cu f d]))/\a=(((w.alloc (.cells #[.int .i64 b,.int .i64 t1,.int .i64 f] 37)).alloc (.cells #[.int .i64 c,.int .i64 t2,.int .i64 d] 37)).alloc (.cells #[.int .i64 (cu b c),.int .i64 (cu t1 t2),.int .i64 (cu f d)] 3)).drew:=by
 go_enter Tryz.func198,Tryz.ntmps198;go_wp2
 go_region_held3 (λa=>a.cell? ⟨w.heap.size,0,none⟩=some (.int .i64 b)/\a.cell? ⟨w.heap.size,1,none⟩=some (.int .i64 t1)/\a.cell? ⟨w.heap.size,2,none⟩=some (.int .i64 f)/\a.cell? ⟨w.heap.size+1,0,none⟩=some (.int .i64 c)/\a.cell? ⟨w.heap.size+1,1,none⟩=some (.int .i64 t2)/\a.cell? ⟨w.heap.size+1,2,none⟩=some (.int .i64 d)) (go_keep)
  (first|(go_at_call 196;refine(Jz _ _ _).mono ?_;rintro e a ⟨rfl,rfl⟩)|(go_at_call 195;refine(JA [cu b c,cu t1 t2,cu f d] 3 _ _ _ rfl (by omega) ?_).mono ?_;(exact Dt _ _ _ _ _ (by simp) _ _ rfl);rintro e a ⟨rfl,rfl⟩))
 all_goals go_wp2
 go_ret;exact⟨rfl,rfl⟩
end
section
open Go.RowKit
theorem or5(a b c d e:Int)(g f:Nat)(w:World)
  (l:w.cell? ⟨g,0,none⟩=some (.int .i64 a)) (k:w.cell? ⟨g,1,none⟩=some (.int .i64 b)) (o:w.cell? ⟨g,2,none⟩=some (.int .i64 c)) (h:w.cell? ⟨g,3,none⟩=some (.int .i64 d)) (i:w.cell? ⟨g,4,none⟩=some (.int .i64 e)):
  Calls Tryz.prog 195 #[.slice (some ⟨g,0,none⟩) 5 f] w λr m=>r=.returned (.int .i64 (mq [a,b,c,d,e]))/\m=w:=by
 refine JA [a,b,c,d,e] 5 g f w rfl (by omega) ?_;intro j n
 match j,n with
 |0,_=>exact l
 |1,_=>exact k
 |2,_=>exact o
 |3,_=>exact h
 |4,_=>exact i
set_option linter.unusedSimpArgs false
end
section
theorem Iu(xs ys:List Int):mq (xs++ys)=if mq xs=0 then mq ys else mq xs:=by
 induction xs with
 |nil=>rfl
 |cons x xs ih=>
  by_cases h:x=0
  .simp only[List.cons_append,mq,h,if_true];exact ih
  .simp[List.cons_append,mq,h]
theorem EY(xs ys:List Int):mq (mq xs::ys)=mq (xs++ys):=by
 rw[Iu];rfl
theorem eT(x:Int){xs ys:List Int}(h:mq xs=mq ys):mq (x::xs)=mq (x::ys):=by
 simp only[mq,h]
theorem EZ(a b:Bool):xD a b=cu (gY a) (gY b):=by
 cases a <;>cases b <;>rfl
theorem PM:∀(xs ys:List Int),iC xs ys=mq (List.zipWith cu xs ys)
 |[],_=>by simp[iC,mq]
 |_::_,[]=>by simp[iC,mq]
 |x::xs,y::ys=>by
  rw[List.zipWith_cons_cons,mq,iC,PM xs ys];unfold cu
  by_cases h1:x<y
  .simp[h1]
  .by_cases h2:y<x
   .simp[h1,h2]
   .simp[h1,h2]
theorem Zh(k lk lt lv rk rt rv j b lt' g f e a:Int)(h i d c:Bool):
  iC [k,gY h,lk,lt,lv,gY i,rk,rt,rv] [j,gY d,b,lt',g,gY c,f,e,a]=mq [cu k j,xD h d,mq [cu lk b,cu lt lt',cu lv g],xD i c,mq [cu rk f,cu rt e,cu rv a]]:=by
 rw[PM];show mq [cu k j,cu (gY h) (gY d),cu lk b,cu lt lt',cu lv g,cu (gY i) (gY c),cu rk f,cu rt e,cu rv a]=_;rw[<-EZ,<-EZ];refine eT _ (eT _ ?_);rw[EY];refine eT _ (eT _ (eT _ (eT _ ?_)));exact(EY [cu rk f,cu rt e,cu rv a] []).symm
theorem Dp:∀(xs ys:List Int),iC ys xs= -iC xs ys
 |[],[]=>rfl
 |[],_::_=>rfl
 |_::_,[]=>rfl
 |x::xs,y::ys=>by
  have:=Dp xs ys;simp only[iC]
  by_cases h1:x<y
  .rw[if_pos h1,if_neg (by omega),if_pos h1];rfl
  .by_cases h2:y<x
   .rw[if_pos h2,if_neg h1,if_pos h2]
   .rw[if_neg h2,if_neg h1,if_neg h1,if_neg h2];exact this
theorem Af:∀(xs ys:List Int),xs.length=ys.length->(iC xs ys=0↔xs=ys)
 |[],[],_=>by simp[iC]
 |x::xs,y::ys,h=>by
  have:=Af xs ys (by simpa using h);simp only[iC]
  by_cases h1:x<y
  .rw[if_pos h1];simp;intro h;omega
  .by_cases h2:y<x
   .rw[if_neg h1,if_pos h2];simp;intro h;omega
   .rw[if_neg h1,if_neg h2,this];simp;intro _;omega
theorem xG:∀(xs ys zs:List Int),xs.length=ys.length->ys.length=zs.length->iC xs ys<=0->iC ys zs<=0->iC xs zs<=0
 |[],[],[],_,_,_,_=>by simp[iC]
 |x::xs,y::ys,z::zs,hx,hy,h1,h2=>by
  have ih:=xG xs ys zs (by simpa using hx) (by simpa using hy);simp only[iC]at h1 h2⊢
  by_cases a1:x<z
  .rw[if_pos a1];omega
  .rw[if_neg a1]
   by_cases a2:z<x
   .exfalso
    by_cases b1:x<y
    .rw[if_neg (by omega),if_pos (by omega)]at h2;omega
    .rw[if_neg b1]at h1
     by_cases b2:y<x
     .rw[if_pos b2]at h1;omega
     .rw[if_neg (by omega),if_pos (by omega)]at h2;omega
   .rw[if_neg a2]
    have e:x=z:=by omega
    subst e
    by_cases b1:x<y
    .rw[if_neg (by omega),if_pos b1]at h2;omega
    .rw[if_neg b1]at h1
     by_cases b2:y<x
     .rw[if_pos b2]at h1;omega
     .rw[if_neg b2]at h1;rw[if_neg b2,if_neg b1]at h2;exact ih h1 h2
end
section
open Go.Proofs.Tryz Go.RowKit Go.Sort
structure O where
 k:Int
 lk:Int
 lt:Int
 lv:Int
 rk:Int
 rt:Int
 rv:Int
 hl:Bool
 hr:Bool
 deriving DecidableEq,Inhabited
def cO(x y:O):Int:=mq [cu x.k y.k,xD x.hl y.hl,mq [cu x.lk y.lk,cu x.lt y.lt,cu x.lv y.lv],xD x.hr y.hr,mq [cu x.rk y.rk,cu x.rt y.rt,cu x.rv y.rv]]
def lO(x:O):List Int:=[x.k,gY x.hl,x.lk,x.lt,x.lv,gY x.hr,x.rk,x.rt,x.rv]
theorem xE(x y:O):cO x y=iC (lO x) (lO y):=(Zh _ _ _ _ _ _ _ _ _ _ _ _ _ _ _ _ _ _).symm
theorem Nr{a b:Bool}:gY a=gY b↔a=b:=by cases a <;>cases b <;>simp[gY]
theorem qw(x y:O):cO y x= -cO x y:=by rw[xE,xE];exact Dp _ _
theorem wI(x y:O):cO x y=0↔x=y:=by
 rw[xE,Af (lO x) (lO y) rfl];simp only[lO,List.cons.injEq,Nr,and_true]
 constructor
 .rintro⟨a,b,c,d,e,f,g,h,i⟩;cases x;cases y;simp_all
 .rintro rfl;simp
theorem xz(a b c:O)(d:cO a b<=0)(e:cO b c<=0):cO a c<=0:=by
 rw[xE]at *;exact xG (lO a) (lO b) (lO c) rfl rfl d e
def ah(x:O):List Value:=[.int .i64 x.k,.int .i64 x.lk,.int .i64 x.lt,.int .i64 x.lv,.int .i64 x.rk,.int .i64 x.rt,.int .i64 x.rv,.bool x.hl,.bool x.hr]
def vO(x:O):Value:= .agg #[.int .i64 x.k,.int .i64 x.lk,.int .i64 x.lt,.int .i64 x.lv,.int .i64 x.rk,.int .i64 x.rt,.int .i64 x.rv,.bool x.hl,.bool x.hr]
theorem Ni{x y:O}(h:vO x=vO y):x=y:=by
 cases x;cases y;simp[vO]at h;simp[h]
structure O.wf(x:O):Prop where
 k:(Lit.int .i64 x.k).wf=true
 lk:(Lit.int .i64 x.lk).wf=true
 lt:(Lit.int .i64 x.lt).wf=true
 lv:(Lit.int .i64 x.lv).wf=true
 rk:(Lit.int .i64 x.rk).wf=true
 rt:(Lit.int .i64 x.rt).wf=true
 rv:(Lit.int .i64 x.rv).wf=true
theorem laidOut:laidOutB prog=true:=by kernel_rfl
theorem wJ:prog.cellsOf 37=3:=by kernel_rfl
theorem wK:prog.cellsOf 89=9:=by kernel_rfl
theorem cells3:prog.cellsOf 3=1:=by kernel_rfl
theorem Ns:prog.cellsOf 4=1:=by kernel_rfl
theorem law:WideMaps.KeyLaw prog 89:=deep_law_laid laidOut (m:=3) (by omega) (of_decide_eq_true (by kernel_rfl)) (by kernel_rfl) (by rw[underlying89])
theorem keyed:Maps.Keyed prog 89:=Maps.Keyed.of_law law
theorem Ag:prog.keyType 89=true:=by kernel_rfl
theorem q9(d:Nat)(a:Int)(h:(Lit.int .i64 a).wf=true):prog.keyLits (d+1) 3 [.int .i64 a]=some [.int .i64 a]:=by
 simp[Program.keyLits,underlying3,h]
theorem Ah(d:Nat)(a:Bool):prog.keyLits (d+1) 4 [.bool a]=some [.bool a]:=by
 simp[Program.keyLits,underlying4]
theorem Dq(d:Nat)(a b c:Int)(h:(Lit.int .i64 a).wf=true)(g:(Lit.int .i64 b).wf=true)(j:(Lit.int .i64 c).wf=true):prog.keyLits (d+2) 37 [.int .i64 a,.int .i64 b,.int .i64 c]=some [.int .i64 a,.int .i64 b,.int .i64 c]:=by
 have i:=q9 d a h;have e:=q9 d b g;have f:=q9 d c j;rw[show d+2=(d+1)+1 from rfl];unfold Program.keyLits;rw[underlying37];simp[wJ,cells3,i,e,f]
theorem Nt(d:Nat)(x:O)(h:x.wf):prog.keyLits (d+3) 89 (ah x)=some [.int .i64 x.k,.int .i64 x.lk,.int .i64 x.lt,.int .i64 x.lv,.int .i64 x.rk,.int .i64 x.rt,.int .i64 x.rv,.bool x.hl,.bool x.hr]:=by
 rw[show d+3=(d+2)+1 from rfl];have b:=q9 (d+1) x.k h.k;have f:=Dq d x.lk x.lt x.lv h.lk h.lt h.lv;have c:=Dq d x.rk x.rt x.rv h.rk h.rt h.rv;have e:=Ah (d+1) x.hl;have a:=Ah (d+1) x.hr;unfold Program.keyLits;rw[underlying89];simp[ah,wK,cells3,Ns,wJ,b,f,c,e,a]
def kL(x:O):Lit:= .string (keyBytes [.int .i64 x.k,.int .i64 x.lk,.int .i64 x.lt,.int .i64 x.lv,.int .i64 x.rk,.int .i64 x.rt,.int .i64 x.rv,.bool x.hl,.bool x.hr])
theorem lK(x:O)(h:x.wf):keyOf prog 89 (vO x)=some (kL x):=by
 unfold keyOf;rw[underlying89];simp only[Ag,Bool.true_and];rw[if_pos (by simp[vO,Value.formed,underlying89,wK])];rw[show prog.types.size+1=(prog.types.size -2)+3 by have:2<=prog.types.size:=of_decide_eq_true (by kernel_rfl);omega];rw[show(vO x).cells.toList=ah x from rfl,Nt _ x h];rfl
theorem UA{x y:O}(b:x.wf)(a:y.wf)(h:kL x=kL y):x=y:=
 Ni (keyed.inj (lK x b) (by rw[h];exact lK y a))
end
end Go.Proofs.YthfpipieboophaaGreatDoor
