import Derived.Shelf.Strings.FieldsAny
import Derived.Test.YthfpipieboophaaGreatDoorZRlm
namespace Go.Proofs.YthfpipieboophaaGreatDoor
set_option maxRecDepth 100000
set_option maxHeartbeats 40000000
open Go.RowKit Go.Sort Go.Shelf
section
open Go.Proofs.Tryz Go.Lib
variable{W:World}
def BB:List UInt8->List (List UInt8)
 |[]=>[[]]
 |x::t=>if x=10 then[10]::BB t else match BB t with
  |[]=>[[x]]
  |y::r=>(x::y)::r
theorem ab9:∀(t:List UInt8),(10:UInt8)∉t->BB t=[t]
 |[],_=>rfl
 |x::t,h=>by
  have a:x≠10:=λe=>h (by simp[e])
  rw[BB,if_neg a,ab9 t (λe=>h (by simp[e]))]
theorem acz:∀(a r:List UInt8),(10:UInt8)∉a->BB (a++10::r)=(a++[10])::BB r
 |[],r,_=>by simp[BB]
 |x::a,r,h=>by
  have b:x≠10:=λe=>h (by simp[e])
  rw[List.cons_append,BB,if_neg b,acz a r (λe=>h (by simp[e]))];rfl
theorem abv:∀(k:Nat) (s:List UInt8),s.count 10=k->splitK [10] 1 k s=BB s
 |0,s,h=>by rw[ab9 s (List.count_eq_zero.1 h)];rfl
 |k+1,s,h=>by
  have d:(10:UInt8)∈s:=List.count_pos_iff.1 (by omega);obtain⟨a,r,rfl,b⟩:=List.eq_append_cons_of_mem d
  have e:index (a++10::r) [10]=a.length:=by rw[index_one,jT a r 10 b]
  rw[acz a r b];unfold splitK;rw[e,if_neg (by simp)]
  have f:r.count 10=k:=by
   rw[List.count_append,List.count_cons_self,List.count_eq_zero.2 b]at h;omega
  have g:(a++10::r).take (((a.length:Nat):Int).toNat+1)=a++[10]:=by
   rw[List.take_append,dA (by simp)];simp
  have c:(a++10::r).drop (((a.length:Nat):Int).toNat+[(10:UInt8)].length)=r:=by
   rw[List.drop_append];simp
  rw[g,c,abv k r f]
theorem ad6(s:List UInt8):(Lib.splitB ⟨#[10]⟩ 1 (Lib.countB ⟨s.toArray⟩ ⟨#[10]⟩) ⟨s.toArray⟩).map Value.string=(BB s).map sV:=by
 have a:=splitB_data ⟨#[10]⟩ 1 (Lib.countB ⟨s.toArray⟩ ⟨#[10]⟩) ⟨s.toArray⟩
 have b:splitK [10] 1 (Lib.countB ⟨s.toArray⟩ ⟨#[10]⟩) s=BB s:=by
  refine abv _ s ?_;show s.count 10=Lib.count s [10];rw[count_one]
 have c:(Lib.splitB ⟨#[10]⟩ 1 (Lib.countB ⟨s.toArray⟩ ⟨#[10]⟩) ⟨s.toArray⟩).map (·.data.toList)=BB s:=a.trans b;rw[<-c,List.map_map];rfl
theorem abK(s:List UInt8):Lib.countB ⟨s.toArray⟩ ⟨#[10]⟩+1=(BB s).length:=by
 have h:=congrArg List.length (ad6 s);rw[List.length_map,List.length_map,splitB_all ⟨#[10]⟩ (aC 1) 1 _ _ rfl]at h;exact h
theorem ad7(s:List UInt8):(BB s).length<=s.length+1:=by
 have:=Lib.countB_le ⟨#[10]⟩ (aC 1) s.length ⟨s.toArray⟩ (by show s.toArray.size<=_;simp)
 have e:(⟨s.toArray⟩:ByteArray).size=s.length:=by show s.toArray.size=_;simp
 rw[e]at this;rw[<-abK];omega
theorem abl:∀(s x:List UInt8),x∈BB s->x.length<=s.length
 |[],x,h=>by
  have:x=[]:=by simpa[BB]using h
  rw[this];exact aC _
 |a::t,x,h=>by
  unfold BB at h
  split at h
  .rcases dM.1 h with e|e
   .rw[e];simp
   .have:=abl t x e;simp;omega
  .cases hp:BB t with
   |nil=>
    rw[hp]at h
    have:x=[a]:=by simpa using h
    rw[this];simp
   |cons y r=>
    rw[hp]at h
    rcases dM.1 h with e|e
    .have:=abl t y (by rw[hp];simp);rw[e];simp;omega
    .have:=abl t x (by rw[hp];simp[e]);simp;omega
theorem abL(t:List UInt8)(ht:t.length<=100000)(w:World)(m:Int)(i:w.cell? ⟨3,0,none⟩=some (.int .i64 m)):
  Calls prog 34 #[.string ⟨t.toArray⟩,.string ⟨#[10]⟩] w λe b=>e=.returned (.slice (some ⟨w.heap.size,0,none⟩) (BB t).length (BB t).length)/\b=w.alloc (.cells ((BB t).map sV).toArray 9):=by
 have f:(⟨t.toArray⟩:ByteArray).size=t.length:=by show t.toArray.size=_;simp
 have d:=Lib.countB_le ⟨#[10]⟩ (aC 1) _ ⟨t.toArray⟩ (aC _);have a:=Lib.splitB_all ⟨#[10]⟩ (aC 1) 1 _ ⟨t.toArray⟩ rfl
 have c:Calls prog 82 #[.string ⟨t.toArray⟩,.string ⟨#[10]⟩,.int .i64 ((1:Nat):Int),.int .i64 (-1)] w λe b=>
   e=.returned (.slice (some ⟨w.heap.size,0,none⟩) (Lib.splitB ⟨#[10]⟩ 1 (Lib.countB ⟨t.toArray⟩ ⟨#[10]⟩+1 -1) ⟨t.toArray⟩).length (Lib.countB ⟨t.toArray⟩ ⟨#[10]⟩+1))/\b=w.alloc (.cells (Lib.cellsOf (Lib.splitB ⟨#[10]⟩ 1 (Lib.countB ⟨t.toArray⟩ ⟨#[10]⟩+1 -1) ⟨t.toArray⟩) (Lib.countB ⟨t.toArray⟩ ⟨#[10]⟩+1)) 9):=
  Any.strings_genSplit (ρ:=Tryz.lays146_ren) { Tryz.lays146 with} (by kernel_rfl) ⟨t.toArray⟩ ⟨#[10]⟩ 1 (-1) (Lib.countB ⟨t.toArray⟩ ⟨#[10]⟩+1) m w (by omega) i (aC 1) (aC 1) (by decide) (by decide) (by rw[if_pos (by decide)];omega)
 rw[Nat.add_sub_cancel,a]at c
 have g:Lib.cellsOf (Lib.splitB ⟨#[10]⟩ 1 (Lib.countB ⟨t.toArray⟩ ⟨#[10]⟩) ⟨t.toArray⟩) (Lib.countB ⟨t.toArray⟩ ⟨#[10]⟩+1)=((BB t).map sV).toArray:=by rw[<-a,<-ad6];exact Lib.cellsOf_full _
 rw[g,abK]at c;clear d a g f;go_enter func34,ntmps34
 go_wp2_with (first
  |(go_at_call 82;refine c.mono ?_;rintro e b ⟨rfl,h⟩;rw[h])
  |fail)
 go_ret;exact⟨rfl,rfl⟩
def Tryz.lays157_ren:Go.Shelf.Ren:=⟨λ| 157=>35|199=>84|229=>83|261=>155|311=>226|312=>227|n=>n,λ| 31=>81|40=>160|46=>270|49=>299|51=>239|119=>158|141=>241|152=>236|154=>238|193=>295|194=>296|196=>298|198=>301|201=>304|226=>352|227=>353|n=>n,λ| 0=>0|6=>1|n=>n⟩
theorem Tryz.lays157:Go.Proofs.Lays.n157 prog Tryz.lays157_ren:=by constructor <;>first|kernel_rfl|(intro w;kernel_rfl)
theorem tab_below'{w w':World}(h:Lib.TabIs prog w "strings.asciiSpace" .u8 Lib.asciiSpaceTab)(hb:Below w.heap.size w w'):Lib.TabIs prog w' "strings.asciiSpace" .u8 Lib.asciiSpaceTab:=by
 have hg:prog.globalNamed "strings.asciiSpace" =some 0:=by kernel_rfl
 unfold Lib.TabIs World.var? at h⊢;rw[hg]at h⊢;simp only[Option.bind_some]at h⊢
 have hlt:0<w.heap.size:=by
  rcases Nat.lt_or_ge 0 w.heap.size with h'|h'
  .exact h'
  .rw[Array.getElem?_eq_none h']at h;cases h
 rw[hb.block 0 hlt];exact h
structure aa3(W:World):Prop where
 g:aU W
 sp:Lib.TabIs prog W "strings.asciiSpace" .u8 Lib.asciiSpaceTab
 wh:Lib.WhiteTab 1 W
theorem ac9(h:aa3 W)(t:List UInt8)(ht:t.length<=100000):
  Calls prog 35 #[.string ⟨t.toArray⟩] W λe a=>∃A,e=.returned (.slice (some ⟨A,0,none⟩) (Lib.fieldsD t).length (Lib.fieldsD t).length)/\W.heap.size<=A/\a.ownsRow W.heap.size 9 1 (.slice (some ⟨A,0,none⟩) (Lib.fieldsD t).length (Lib.fieldsD t).length) (Lib.fieldsD t).length ((Lib.fieldsD t).map sV)/\Below W.heap.size W a:=
 Any.strings_Fields_any (ρ:=Tryz.lays157_ren) Tryz.lays157 (by kernel_rfl) (by kernel_rfl) (by kernel_rfl) ⟨t.toArray⟩ W (by show t.toArray.size<_;simp;omega) h.sp h.wh
theorem aa3.below{b:World}(h:aa3 W)(a:Below W.heap.size W b):aa3 b:=by
 refine⟨h.g.below a,?_,WhiteTab_below h.wh a⟩;exact tab_below' h.sp a
end
section
open Go.Proofs.Tryz Go.Joins
variable{i:Nat}{rs:RS}{N:Nat->Int}
def mv0(x:RJ)(tm:Int):RJ:=if iG (-1099511627776) 1099511627776 tm=true/\¬tm<x.m0 then { x with m0:=tm,R1:=x.R1.filter (λh:Hl=>decide (tm<h.t -x.lo))}else x
def mv1(x:RJ)(tm:Int):RJ:=if iG (-1099511627776) 1099511627776 tm=true/\¬tm<x.m1 then { x with m1:=tm,R0:=x.R0.filter (λh:Hl=>decide (tm<h.t+x.hi))}else x
def ptS(x:RJ)(s k t v met:Int):RJ:=
 if iG 0 1 s=true/\au k t v=true/\0<=met then
  (if s=0 then(if x.R0.length<300 then { x with R0:=x.R0++[⟨k,t,v,met,x.came+1⟩],came:=x.came+1}else x)
  else(if x.R1.length<300 then { x with R1:=x.R1++[⟨k,t,v,met,x.came+1⟩],came:=x.came+1}else x))
 else x
def zG(N:Nat->Int):Option O:=
 if N 0=3 then(if N 1=N 4/\au (N 4) (N 5) (N 6)=true/\au (N 1) (N 2) (N 3)=true then some ⟨N 1,N 1,N 2,N 3,N 4,N 5,N 6,true,true⟩else none)
 else if au (N 1) (N 2) (N 3)=true then some (bn (if N 0=1 then 0 else 1) (N 1) (N 2) (N 3))else none
abbrev ab8:List UInt8:=[112,108,97,110]
abbrev adH:List UInt8:=[102,101,100]
abbrev abp:List UInt8:=[109,97,114,107,115]
abbrev aby:List UInt8:=[114,111,119]
abbrev acy:List UInt8:=[111,117,116]
def vv(o:Option RS)(hd:List UInt8)(N:Nat->Int):Option (Option RS):=
 if hd=ab8 then(if aS (N 0) (N 1) (N 2)=0 then some (some ⟨yh (N 0) (N 1) (N 2),[],0,0⟩)else none)
 else match o with
  |none=>none
  |some rs=>
   if hd=adH then some (some ⟨{ rs.x with late:=max 0 (N 2)},rs.M,max 0 (N 0),max 0 (N 1)⟩)
   else if hd=abp then some (some ⟨mv1 (mv0 rs.x (N 0)) (N 1),rs.M,rs.f0,rs.f1⟩)
   else if hd=aby then some (some ⟨ptS rs.x (N 0) (N 1) (N 2) (N 3) (N 4),rs.M,rs.f0,rs.f1⟩)
   else if hd=acy then(match zG N with|none=>none|some y=>some (some ⟨rs.x,rs.M++[y],rs.f0,rs.f1⟩))
   else some (some rs)
theorem Gl(rs:RS)(hd:List UInt8)(N:Nat->Int)(h:hd≠ab8):vv (some rs) hd N=(if hd=adH then some (some ⟨{ rs.x with late:=max 0 (N 2)},rs.M,max 0 (N 0),max 0 (N 1)⟩)
  else if hd=abp then some (some ⟨mv1 (mv0 rs.x (N 0)) (N 1),rs.M,rs.f0,rs.f1⟩)
  else if hd=aby then some (some ⟨ptS rs.x (N 0) (N 1) (N 2) (N 3) (N 4),rs.M,rs.f0,rs.f1⟩)
  else if hd=acy then(match zG N with|none=>none|some y=>some (some ⟨rs.x,rs.M++[y],rs.f0,rs.f1⟩))
  else some (some rs)):=by
 unfold vv;rw[if_neg h]
structure RvQ(i:Nat)(rs:RS):Prop where
 pl:dn rs.x.lo rs.x.hi rs.x.mode
 m0: -1099511627777<=rs.x.m0/\rs.x.m0<=1099511627776
 m1: -1099511627777<=rs.x.m1/\rs.x.m1<=1099511627776
 late:0<=rs.x.late/\rs.x.late<=9223372036854775807
 f0:0<=rs.f0/\rs.f0<=9223372036854775807
 f1:0<=rs.f1/\rs.f1<=9223372036854775807
 cm:0<=rs.x.came/\rs.x.came<=i
 l0:rs.x.R0.length<=300
 l1:rs.x.R1.length<=300
 c0:iP rs.x.R0 rs.x.came
 c1:iP rs.x.R1 rs.x.came
 g0:∀h∈rs.x.R0,au h.k h.t h.v=true/\0<=h.met/\h.met<=9223372036854775807
 g1:∀h∈rs.x.R1,au h.k h.t h.v=true/\0<=h.met/\h.met<=9223372036854775807
 tell:∀o∈rs.M,iK o
 ml:rs.M.length<=i
theorem RvQ.more{j:Nat}(h:RvQ i rs)(b:i<=j):RvQ j rs:=
 ⟨h.pl,h.m0,h.m1,h.late,h.f0,h.f1,⟨h.cm.1,by have:=h.cm.2;omega⟩,h.l0,h.l1,h.c0,h.c1,h.g0,h.g1,h.tell,aH h.ml b⟩
theorem RvQ.mv0(h:RvQ i rs)(tm:Int):RvQ i ⟨mv0 rs.x tm,rs.M,rs.f0,rs.f1⟩:=by
 unfold YthfpipieboophaaGreatDoor.mv0
 split
 .rename_i hh
  have: -1099511627776<=tm/\tm<=1099511627776:=by have:=hh.1;simp[iG]at this;omega
  exact⟨h.pl,⟨by show _<=tm;omega,by show tm<=_;omega⟩,h.m1,h.late,h.f0,h.f1,h.cm,h.l0,aH (dG _ _) h.l1,h.c0,h.c1.filt _,h.g0,λy b=>h.g1 y (List.mem_filter.1 b).1,h.tell,h.ml⟩
 .exact⟨h.pl,h.m0,h.m1,h.late,h.f0,h.f1,h.cm,h.l0,h.l1,h.c0,h.c1,h.g0,h.g1,h.tell,h.ml⟩
theorem RvQ.mv1(h:RvQ i rs)(tm:Int):RvQ i ⟨mv1 rs.x tm,rs.M,rs.f0,rs.f1⟩:=by
 unfold YthfpipieboophaaGreatDoor.mv1
 split
 .rename_i hh
  have: -1099511627776<=tm/\tm<=1099511627776:=by have:=hh.1;simp[iG]at this;omega
  exact⟨h.pl,h.m0,⟨by show _<=tm;omega,by show tm<=_;omega⟩,h.late,h.f0,h.f1,h.cm,aH (dG _ _) h.l0,h.l1,h.c0.filt _,h.c1,λy b=>h.g0 y (List.mem_filter.1 b).1,h.g1,h.tell,h.ml⟩
 .exact⟨h.pl,h.m0,h.m1,h.late,h.f0,h.f1,h.cm,h.l0,h.l1,h.c0,h.c1,h.g0,h.g1,h.tell,h.ml⟩
theorem RvQ.ptS(h:RvQ i rs)(s k t v met:Int)(c:met<=9223372036854775807):RvQ (i+1) ⟨ptS rs.x s k t v met,rs.M,rs.f0,rs.f1⟩:=by
 have g:=h.more (Nat.le_succ i);have hc:=h.cm;have same:RvQ (i+1) ⟨rs.x,rs.M,rs.f0,rs.f1⟩:=g;unfold YthfpipieboophaaGreatDoor.ptS
 by_cases hh:iG 0 1 s=true/\au k t v=true/\0<=met
 .rw[if_pos hh]
  have b:∀(R:List Hl),(∀h∈R,au h.k h.t h.v=true/\0<=h.met/\h.met<=9223372036854775807)->∀h∈R++[(⟨k,t,v,met,rs.x.came+1⟩:Hl)],au h.k h.t h.v=true/\0<=h.met/\h.met<=9223372036854775807:=by
   intro R j y b
   rcases List.mem_append.1 b with e|e
   .exact j y e
   .have:y=⟨k,t,v,met,rs.x.came+1⟩:=by simpa using e
    subst this;exact⟨hh.2.1,hh.2.2,c⟩
  by_cases h0:s=0
  .rw[if_pos h0]
   split
   .exact⟨g.pl,g.m0,g.m1,g.late,g.f0,g.f1,⟨by show 0<=rs.x.came+1;omega,by show rs.x.came+1<=((i+1:Nat):Int);omega⟩,by show(rs.x.R0++[_]).length<=300;simp;omega,g.l1,g.c0.put _ rfl,g.c1.more (by show rs.x.came<=rs.x.came+1;omega),b _ g.g0,g.g1,g.tell,g.ml⟩
   .exact same
  .rw[if_neg h0]
   split
   .exact⟨g.pl,g.m0,g.m1,g.late,g.f0,g.f1,⟨by show 0<=rs.x.came+1;omega,by show rs.x.came+1<=((i+1:Nat):Int);omega⟩,g.l0,by show(rs.x.R1++[_]).length<=300;simp;omega,g.c0.more (by show rs.x.came<=rs.x.came+1;omega),g.c1.put _ rfl,g.g0,b _ g.g1,g.tell,g.ml⟩
   .exact same
 .rw[if_neg hh];exact same
theorem adK{y:O}(h:zG N=some y):iK y:=by
 unfold zG at h
 split at h
 .split at h
  .rename_i hh
   cases h;have b:=hh.2.1;rw[<-hh.1]at b⊢;exact .pair _ _ _ _ _ hh.2.2 b
  .cases h
 .split at h
  .rename_i hh
   cases h
   split
   .exact .left _ _ _ hh
   .exact .right _ _ _ hh
  .cases h
theorem RvQ.step{o:Option RS}(m:∀rs,o=some rs->RvQ i rs){hd:List UInt8}(c:∀j,N j<=9223372036854775807){l:Option RS}(h:vv o hd N=some l):∀rs,l=some rs->RvQ (i+1) rs:=by
 intro rs e;subst e;unfold vv at h
 split at h
 .split at h
  .rename_i k
   cases h;refine⟨qA k,?_,?_,?_,?_,?_,?_,?_,?_,?_,?_,?_,?_,?_,?_⟩
   all_goals first
    |(constructor <;>first|exact List.Pairwise.nil|(intro _ h;cases h))
    |(constructor <;>simp[yh] <;>omega)
    |simp[yh]
  .cases h
 .cases o with
  |none=>cases h
  |some r=>
   have g:=m r rfl;have b:=g.more (Nat.le_succ i);simp only at h
   split at h
   .cases h;have h0:=c 0;have h1:=c 1;have h2:=c 2;exact⟨b.pl,b.m0,b.m1,⟨by show 0<=max 0 (N 2);omega,by show max 0 (N 2)<=_;omega⟩,⟨by show 0<=max 0 (N 0);omega,by show max 0 (N 0)<=_;omega⟩,⟨by show 0<=max 0 (N 1);omega,by show max 0 (N 1)<=_;omega⟩,b.cm,b.l0,b.l1,b.c0,b.c1,b.g0,b.g1,b.tell,b.ml⟩
   split at h
   .cases h;exact((g.mv0 (N 0)).mv1 (N 1)).more (Nat.le_succ i)
   split at h
   .cases h;exact g.ptS _ _ _ _ _ (c 4)
   split at h
   .split at h
    .cases h
    .rename_i y hy
     cases h;refine⟨b.pl,b.m0,b.m1,b.late,b.f0,b.f1,b.cm,b.l0,b.l1,b.c0,b.c1,b.g0,b.g1,λp k=>?_,by show(r.M++[y]).length<=i+1;have:=g.ml;simp;omega⟩
     rcases List.mem_append.1 k with e|e
     .exact b.tell p e
     .have:p=y:=by simpa using e
      rw[this];exact adK hy
   .cases h;exact b
theorem afo{b:Nat}{d a:Value}{x:RJ}(s k t v met:Int)(w:World)(h:dh w 0 b d a x)(hc:0<=x.came/\x.came<=1000000)(l0:x.R0.length<=300)(l1:x.R1.length<=300):
  Calls prog 37 #[.pointer (some ⟨b,0,none⟩),.int .i64 s,.agg #[.int .i64 k,.int .i64 t,.int .i64 v],.int .i64 met] w λe r=>∃(c:Int) (A l:Value),e=.returned (.int .i64 c)/\dh r 0 b A l (ptS x s k t v met)/\w.grownBy r (some b)/\(∀g,A.ownBlock=some g->d.ownBlock=some g∨w.heap.size<=g)/\(∀g,l.ownBlock=some g->a.ownBlock=some g∨w.heap.size<=g):=by
 have G:∀W,Calls prog 52 #[.int .i64 s,.int .i64 0,.int .i64 1] W λe r=>e=.returned (.bool (iG 0 1 s))/\r=W:=λW=>bG s 0 1 W
 have K:∀W,Calls prog 40 #[.agg #[.int .i64 k,.int .i64 t,.int .i64 v]] W λe r=>e=.returned (.bool (au k t v))/\Below W.heap.size W r:=λW=>iA k t v W
 have T:Hid (∀r,Below w.heap.size w r->ptS x s k t v met=x->dh r 0 b d a (ptS x s k t v met)/\w.grownBy r (some b)):=λr y e=>⟨by rw[e];exact h.below y,⟨y.os,y.tape,y.output,y.size,λq Q _=>y.block q Q⟩⟩
 have n:=h.lt;obtain⟨p0,d0,e0⟩:=aj h.r0;obtain⟨p1,d1,e1⟩:=aj h.r1;have H:=h.cells.2.2.2.1;have F:=h.cells.2.2.2.2.1;rw[e0]at H;rw[e1]at F;have I:=hid h;clear h
 cases hi:iG 0 1 s with
 |false=>
  have L:Hid (ptS x s k t v met=x):=by show ptS _ _ _ _ _ _=_;unfold ptS;rw[if_neg (λe=>by rw[hi]at e;cases e.1)]
  rw[hi]at G;clear hi I;go_enter func37,ntmps37
  go_wp2_with (first
   |(go_at_call 52;refine(G _).mono ?_;rintro e R ⟨rfl,m⟩;have m:=m.symm;subst m)
   |fail)
  go_ret;have z:=T.out _ (fC w (.cells #[.int .i64 k,.int .i64 t,.int .i64 v] 37)) L.out;exact⟨_,d,a,rfl,z.1,z.2,λ_ e=>.inl e,λ_ e=>.inl e⟩
 |true=>
  cases B:au k t v with
  |false=>
   have L:Hid (ptS x s k t v met=x):=by show ptS _ _ _ _ _ _=_;unfold ptS;rw[if_neg (λe=>by rw[B]at e;cases e.2.1)]
   rw[hi]at G;rw[B]at K;clear hi B I;go_enter func37,ntmps37
   go_wp2_with (first
    |(go_at_call 52;refine(G _).mono ?_;rintro e R ⟨rfl,m⟩;have m:=m.symm;subst m)
    |(go_at_call 40;refine(K _).mono ?_;rintro e S ⟨rfl,j⟩;have o:=hid j;clear j)
    |fail)
   go_ret;have z:=T.out _ ((fC w (.cells #[.int .i64 k,.int .i64 t,.int .i64 v] 37)).trans (o.out.mono (by simp))) L.out;exact⟨_,d,a,rfl,z.1,z.2,λ_ e=>.inl e,λ_ e=>.inl e⟩
  |true=>
   by_cases hm:met<0
   .have L:Hid (ptS x s k t v met=x):=by show ptS _ _ _ _ _ _=_;unfold ptS;rw[if_neg (λe=>by have:=e.2.2;omega)]
    rw[hi]at G;rw[B]at K;clear hi B I;go_enter func37,ntmps37
    go_wp2_with (first
     |(go_at_call 52;refine(G _).mono ?_;rintro e R ⟨rfl,m⟩;have m:=m.symm;subst m)
     |(go_at_call 40;refine(K _).mono ?_;rintro e S ⟨rfl,j⟩;have o:=hid j;clear j)
     |fail)
    go_ret;have z:=T.out _ ((fC w (.cells #[.int .i64 k,.int .i64 t,.int .i64 v] 37)).trans (o.out.mono (by simp))) L.out;exact⟨_,d,a,rfl,z.1,z.2,λ_ e=>.inl e,λ_ e=>.inl e⟩
   .have y:Hid (iG 0 1 s=true/\au k t v=true/\0<=met):=⟨hi,B,by omega⟩
    have hs:s=0∨s=1:=by simp[iG]at hi;omega
    rw[hi]at G;rw[B]at K;clear hi B
    have i0:(x.R0.length:Int)<=300:=by omega
    have i1:(x.R1.length:Int)<=300:=by omega
    have j0:(0:Int)<=(x.R0.length:Int):=by omega
    have j1:(0:Int)<=(x.R1.length:Int):=by omega
    rcases hs with rfl|rfl
    .by_cases hl:(300:Int)<=(x.R0.length:Int)
     .have L:Hid (ptS x 0 k t v met=x):=by show ptS _ _ _ _ _ _=_;unfold ptS;rw[if_pos y.out,if_pos rfl,if_neg (by omega)]
      clear I y;go_enter func37,ntmps37
      go_wp2_with (first
       |(go_at_call 52;refine(G _).mono ?_;rintro e R ⟨rfl,m⟩;have m:=m.symm;subst m)
       |(go_at_call 40;refine(K _).mono ?_;rintro e S ⟨rfl,j⟩;have o:=hid ((fC w (.cells #[.int .i64 k,.int .i64 t,.int .i64 v] 37)).trans (j.mono (by simp)));have c3:=(o.out.cell (p:=⟨b,3,none⟩) n).trans H;have c4:=(o.out.cell (p:=⟨b,4,none⟩) n).trans F;have E:=aR n o.out.size;clear j)
       |fail)
      go_ret;have z:=T.out _ o.out L.out;exact⟨_,d,a,rfl,z.1,z.2,λ_ e=>.inl e,λ_ e=>.inl e⟩
     .have HP:Hid (∀W,Below w.heap.size w W->Calls prog 87 #[.pointer (some ⟨b,0,none⟩),.int .i64 0,.agg #[.int .i64 k,.int .i64 t,.int .i64 v],.int .i64 met] W λe r=>e=.returned (.tuple #[])/\Hid (∃(A l:Value),dh r 0 b A l (ptS x 0 k t v met)/\w.grownBy r (some b)/\(∀g,A.ownBlock=some g->d.ownBlock=some g∨w.heap.size<=g)/\(∀g,l.ownBlock=some g->a.ownBlock=some g∨w.heap.size<=g))):=by
       intro W u;refine((aav k t v met W (I.out.below u) ⟨by omega,by omega⟩).1 (by omega)).mono ?_;rintro e r ⟨rfl,A,Y,C,g,B,U⟩;have hz:=u.size;refine⟨rfl,A,a,?_,⟨C.os.trans u.os,C.tape.trans u.tape,C.output.trans u.output,aH u.size C.size,λq Q M=>(C.block q (aR Q u.size) M).trans (u.block q Q)⟩,λg' e=>?_,λg' e=>.inl e⟩
       .unfold ptS;rw[if_pos y.out,if_pos rfl,if_pos (by omega)];exact Y
       .rw[B]at e;cases e;exact .inr (by omega)
      clear I y;go_enter func37,ntmps37
      go_wp2_with (first
       |(go_at_call 52;refine(G _).mono ?_;rintro e R ⟨rfl,m⟩;have m:=m.symm;subst m)
       |(go_at_call 40;refine(K _).mono ?_;rintro e S ⟨rfl,j⟩;have o:=hid ((fC w (.cells #[.int .i64 k,.int .i64 t,.int .i64 v] 37)).trans (j.mono (by simp)));have c3:=(o.out.cell (p:=⟨b,3,none⟩) n).trans H;have c4:=(o.out.cell (p:=⟨b,4,none⟩) n).trans F;have E:=aR n o.out.size;have r3:=bQ ((j.block w.heap.size (by simp)).trans (eZ w (.cells #[.int .i64 k,.int .i64 t,.int .i64 v] 37)));clear j)
       |(go_at_call 87;refine(HP.out _ o.out).mono ?_;rintro e w4 ⟨rfl,V⟩)
       |fail)
      go_ret;obtain⟨A,l,X,q2,Z,q4⟩:=V.out;exact⟨_,A,l,rfl,X,q2,Z,q4⟩
    .by_cases hl:(300:Int)<=(x.R1.length:Int)
     .have L:Hid (ptS x 1 k t v met=x):=by show ptS _ _ _ _ _ _=_;unfold ptS;rw[if_pos y.out,if_neg (by decide),if_neg (by omega)]
      clear I y;go_enter func37,ntmps37
      go_wp2_with (first
       |(go_at_call 52;refine(G _).mono ?_;rintro e R ⟨rfl,m⟩;have m:=m.symm;subst m)
       |(go_at_call 40;refine(K _).mono ?_;rintro e S ⟨rfl,j⟩;have o:=hid ((fC w (.cells #[.int .i64 k,.int .i64 t,.int .i64 v] 37)).trans (j.mono (by simp)));have c3:=(o.out.cell (p:=⟨b,3,none⟩) n).trans H;have c4:=(o.out.cell (p:=⟨b,4,none⟩) n).trans F;have E:=aR n o.out.size;clear j)
       |fail)
      go_ret;have z:=T.out _ o.out L.out;exact⟨_,d,a,rfl,z.1,z.2,λ_ e=>.inl e,λ_ e=>.inl e⟩
     .have HP:Hid (∀W,Below w.heap.size w W->Calls prog 87 #[.pointer (some ⟨b,0,none⟩),.int .i64 1,.agg #[.int .i64 k,.int .i64 t,.int .i64 v],.int .i64 met] W λe r=>e=.returned (.tuple #[])/\Hid (∃(A l:Value),dh r 0 b A l (ptS x 1 k t v met)/\w.grownBy r (some b)/\(∀g,A.ownBlock=some g->d.ownBlock=some g∨w.heap.size<=g)/\(∀g,l.ownBlock=some g->a.ownBlock=some g∨w.heap.size<=g))):=by
       intro W u;refine((aav k t v met W (I.out.below u) ⟨by omega,by omega⟩).2 (by omega)).mono ?_;rintro e r ⟨rfl,l,Y,C,g,B,U⟩;have hz:=u.size;refine⟨rfl,d,l,?_,⟨C.os.trans u.os,C.tape.trans u.tape,C.output.trans u.output,aH u.size C.size,λq Q M=>(C.block q (aR Q u.size) M).trans (u.block q Q)⟩,λg' e=>.inl e,λg' e=>?_⟩
       .unfold ptS;rw[if_pos y.out,if_neg (by decide),if_pos (by omega)];exact Y
       .rw[B]at e;cases e;exact .inr (by omega)
      clear I y;go_enter func37,ntmps37
      go_wp2_with (first
       |(go_at_call 52;refine(G _).mono ?_;rintro e R ⟨rfl,m⟩;have m:=m.symm;subst m)
       |(go_at_call 40;refine(K _).mono ?_;rintro e S ⟨rfl,j⟩;have o:=hid ((fC w (.cells #[.int .i64 k,.int .i64 t,.int .i64 v] 37)).trans (j.mono (by simp)));have c3:=(o.out.cell (p:=⟨b,3,none⟩) n).trans H;have c4:=(o.out.cell (p:=⟨b,4,none⟩) n).trans F;have E:=aR n o.out.size;have r3:=bQ ((j.block w.heap.size (by simp)).trans (eZ w (.cells #[.int .i64 k,.int .i64 t,.int .i64 v] 37)));clear j)
       |(go_at_call 87;refine(HP.out _ o.out).mono ?_;rintro e w4 ⟨rfl,V⟩)
       |fail)
      go_ret;obtain⟨A,l,X,q2,Z,q4⟩:=V.out;exact⟨_,A,l,rfl,X,q2,Z,q4⟩
section
variable{i:Nat}{rs:RS}{f bj:Nat}{v d a:Value}{P:Nat->Prop}{W:World}
theorem aeP(n:nM W f bj v d a rs.x rs.M rs.f0 rs.f1)(m:∀k,P k↔(k=f∨k=bj∨v.ownBlock=some k∨d.ownBlock=some k∨a.ownBlock=some k))(j:RvQ i rs)(hi:i<=100000)(s k t u met:Int):
  Calls prog 37 #[.pointer (some ⟨bj,0,none⟩),.int .i64 s,.agg #[.int .i64 k,.int .i64 t,.int .i64 u],.int .i64 met] W λe h=>(∃c:Int,e=.returned (.int .i64 c))/\h.cell? ⟨f,0,none⟩=some (.pointer (some ⟨bj,0,none⟩))/\abI f (λr=>r=⟨ptS rs.x s k t u met,rs.M,rs.f0,rs.f1⟩) P W h:=by
 have hc:=j.cm;refine(afo s k t u met W n.join ⟨by omega,by omega⟩ j.l0 j.l1).mono ?_;rintro e h ⟨c,bA,v1',rfl,q,l,o,p⟩;have b:=n.turn q l;exact⟨⟨c,rfl⟩,oC b,xk (rs:=⟨_,_,_,_⟩) m (S:=λg=>g=bj) (λg e=>(m g).2 (.inr (.inl e))) b rfl (Turned.of_grown l (λk e=>by cases e;exact .inr (.inr rfl))) (.inl rfl) o p⟩
theorem abC(j:nM W f bj v d a rs.x rs.M rs.f0 rs.f1)(h:∀k,P k↔(k=f∨k=bj∨v.ownBlock=some k∨d.ownBlock=some k∨a.ownBlock=some k)){Q:RS->Prop}(g:Q rs){b:World}(c:Below W.heap.size W b):abI f Q P W b:=
 ⟨rs,P,RE.below ⟨bj,v,d,a,j,h⟩ c,g,Turned.of_below c,λ_ e=>.inl e⟩
theorem aeQ(b:nM W f bj v d a rs.x rs.M rs.f0 rs.f1)(m:∀k,P k↔(k=f∨k=bj∨v.ownBlock=some k∨d.ownBlock=some k∨a.ownBlock=some k))(n:RvQ i rs)(tm:Int):
  Calls prog 16 #[.pointer (some ⟨bj,0,none⟩),.int .i64 0,.int .i64 tm] W λe h=>(∃c:Int,e=.returned (.int .i64 c))/\h.cell? ⟨f,0,none⟩=some (.pointer (some ⟨bj,0,none⟩))/\abI f (λr=>r=⟨mv0 rs.x tm,rs.M,rs.f0,rs.f1⟩) P W h:=by
 obtain⟨⟨u,z⟩,⟨q,s⟩,_⟩:=n.pl;unfold mv0
 cases hr:iG (-1099511627776) 1099511627776 tm with
 |false=>
  rw[if_neg (λe=>by cases e.1)];refine(FC bj 0 tm W rfl hr).mono ?_;rintro e h ⟨rfl,l⟩;rw[l];exact⟨⟨_,rfl⟩,oC b,abC (Q:=λr=>r=⟨rs.x,rs.M,rs.f0,rs.f1⟩) b m rfl (iL _ _)⟩
 |true=>
  have o: -1099511627776<=tm/\tm<=1099511627776:=by simp[iG]at hr;omega
  by_cases hb:tm<rs.x.m0
  .rw[if_neg (λe=>e.2 hb)];refine(FD tm W b.join hr hb).mono ?_;rintro e h ⟨rfl,l⟩;exact⟨⟨_,rfl⟩,oC (b.below l),abC (Q:=λr=>r=⟨rs.x,rs.M,rs.f0,rs.f1⟩) b m rfl l⟩
  .rw[if_pos ⟨rfl,hb⟩];have l1:=n.l1;refine((aaL tm W b.join o.1 o.2 u z q s).1 hb (by omega) (λy w=>by have:=dI (r:=⟨y.k,y.t,y.v⟩) (n.g1 y w).1;exact this.2.1)).mono ?_;rintro e h ⟨rfl,vl,A,p,B⟩;have j:=b.turn A p;exact⟨⟨_,rfl⟩,oC j,xk (rs:=⟨_,_,_,_⟩) m (S:=λg=>g=bj) (λg e=>(m g).2 (.inr (.inl e))) j rfl (Turned.of_grown p (λk e=>by cases e;exact .inr (.inr rfl))) (.inl rfl) (λ_ e=>.inl e) (λg e=>.inr (B g e))⟩
theorem aeR(b:nM W f bj v d a rs.x rs.M rs.f0 rs.f1)(m:∀k,P k↔(k=f∨k=bj∨v.ownBlock=some k∨d.ownBlock=some k∨a.ownBlock=some k))(n:RvQ i rs)(tm:Int):
  Calls prog 16 #[.pointer (some ⟨bj,0,none⟩),.int .i64 1,.int .i64 tm] W λe h=>(∃c:Int,e=.returned (.int .i64 c))/\h.cell? ⟨f,0,none⟩=some (.pointer (some ⟨bj,0,none⟩))/\abI f (λr=>r=⟨mv1 rs.x tm,rs.M,rs.f0,rs.f1⟩) P W h:=by
 obtain⟨⟨u,z⟩,⟨q,s⟩,_⟩:=n.pl;unfold mv1
 cases hr:iG (-1099511627776) 1099511627776 tm with
 |false=>
  rw[if_neg (λe=>by cases e.1)];refine(FC bj 1 tm W rfl hr).mono ?_;rintro e h ⟨rfl,l⟩;rw[l];exact⟨⟨_,rfl⟩,oC b,abC (Q:=λr=>r=⟨rs.x,rs.M,rs.f0,rs.f1⟩) b m rfl (iL _ _)⟩
 |true=>
  have o: -1099511627776<=tm/\tm<=1099511627776:=by simp[iG]at hr;omega
  by_cases hb:tm<rs.x.m1
  .rw[if_neg (λe=>e.2 hb)];refine(FE tm W b.join hr hb).mono ?_;rintro e h ⟨rfl,l⟩;exact⟨⟨_,rfl⟩,oC (b.below l),abC (Q:=λr=>r=⟨rs.x,rs.M,rs.f0,rs.f1⟩) b m rfl l⟩
  .rw[if_pos ⟨rfl,hb⟩];have l0:=n.l0;refine((aaL tm W b.join o.1 o.2 u z q s).2 hb (by omega) (λy w=>by have:=dI (r:=⟨y.k,y.t,y.v⟩) (n.g0 y w).1;exact this.2.1)).mono ?_;rintro e h ⟨rfl,vl,A,p,B⟩;have j:=b.turn A p;exact⟨⟨_,rfl⟩,oC j,xk (rs:=⟨_,_,_,_⟩) m (S:=λg=>g=bj) (λg e=>(m g).2 (.inr (.inl e))) j rfl (Turned.of_grown p (λk e=>by cases e;exact .inr (.inr rfl))) (.inl rfl) (λg e=>.inr (B g e)) (λ_ e=>.inl e)⟩
theorem ad5(h:nM W f bj v d a rs.x rs.M rs.f0 rs.f1)(q:∀k,P k↔(k=f∨k=bj∨v.ownBlock=some k∨d.ownBlock=some k∨a.ownBlock=some k))(hM:rs.M.length<=900000)(o:O):
  Calls prog 41 #[.pointer (some ⟨f,1,none⟩),vC o false] W λe g=>(∃c:Int,e=.returned (.int .i64 c))/\abI f (λr=>r=⟨rs.x,rs.M++[o],rs.f0,rs.f1⟩) P W g:=by
 refine(IB _ _ _ f v rs.M W h.bag ⟨o,false⟩ (by omega)).mono ?_;rintro e g ⟨n,l,rfl,t,m,p⟩;have j:Ef W W f bj (λ_=>False) v v d a rs.x rs.M rs.f0 rs.f1 (.slice none 0 0) [] W:=⟨h,iR _ _ _ _,Turned.of_below (iL _ _),.inl rfl,⟨aC _,aC _⟩⟩;have b:=j.apply t m p;have s:nM g f bj l d a rs.x (rs.M++[o]) rs.f0 rs.f1:=b.at1;exact⟨⟨n,rfl⟩,xk (rs:=⟨rs.x,rs.M++[o],rs.f0,rs.f1⟩) q (S:=λ_=>False) (λ_ e=>e.elim) s rfl b.tr b.mv (λ_ e=>.inl e) (λ_ e=>.inl e)⟩
end
end
section
open Go.Joins
variable{o:Option RS}{l:List UInt8}{r f:List (List UInt8)}{m W n:World}{i d:Nat}{u:Value}{P:Nat->Prop}{rs:RS}
def vwQ(f:List (List UInt8)):List Int:=f.map λy=>(numOf y).getD 0
def nwQ(f:List (List UInt8))(j:Nat):Int:=(vwQ f)[j]?.getD 0
def u6:Option RS->List (List UInt8)->Option (Option RS)
 |o,[]=>some o
 |o,l::r=>match Lib.fieldsD l with
  |[]=>some o
  |hd::f=>match vv o hd (nwQ f)with
   |none=>none
   |some o'=>u6 o' r
theorem adi(h:Lib.fieldsD l=[]):u6 o (l::r)=some o:=by
 rw[u6,h]
theorem acv{hd:List UInt8}(h:Lib.fieldsD l=hd::f):u6 o (l::r)=(match vv o hd (nwQ f)with|none=>none|some o'=>u6 o' r):=by
 rw[u6,h]
theorem aeN(y:List UInt8):af ((numOf y).getD 0):=by
 cases h:numOf y with
 |none=>exact⟨by decide,by decide⟩
 |some v=>
  show af v;unfold numOf at h
  split at h
  .rename_i hp
   split at h
   .cases h;exact rC hp
   .cases h
  .cases h
theorem afm(f:List (List UInt8))(j:Nat):af (nwQ f j):=by
 unfold nwQ vwQ;rw[List.getElem?_map]
 cases f[j]? with
 |none=>exact⟨by decide,by decide⟩
 |some y=>exact aeN y
theorem aet(f:List (List UInt8))(q:Nat)(y:List UInt8)(h:f[q]?=some y):vwQ (f.take (q+1))=vwQ (f.take q)++[(numOf y).getD 0]:=by
 unfold vwQ;rw[List.take_add_one,h];simp
def NzQ(f:List (List UInt8))(ns:List Int):Prop:=∀j,ns[j]?.getD 0=nwQ f j
theorem NzQ.more{ns:List Int}(h:NzQ f ns):NzQ f (ns++[0]):=by
 intro j;rw[<-h j,List.getElem?_append]
 split
 .rfl
 .rename_i hj
  rw[dS (show ns.length<=j by omega)]
  cases hk:j -ns.length with
  |zero=>simp
  |succ k=>simp
structure Rk(m:World)(o:Option RS)(i:Nat)(u:Value)(W:World):Prop where
 low:Below m.heap.size m W
 e:(o=none/\u=.pointer none)∨∃d rs P,o=some rs/\u=.pointer (some ⟨d,0,none⟩)/\RE d rs P W/\(∀k,P k->m.heap.size<=k)/\RvQ i rs
theorem Rk.go{a:World}(h:Rk m o i u W)(b:Below W.heap.size W a):Rk m o i u a:=by
 refine⟨h.low.trans (b.mono h.low.size),?_⟩
 rcases h.e with e|⟨d,rs,P,e1,e2,h1,h2,h3⟩
 .exact .inl e
 .exact .inr ⟨d,rs,P,e1,e2,h1.below b,h2,h3⟩
theorem Rk.more{j:Nat}(h:Rk m o i u W)(a:i<=j):Rk m o j u W:=by
 refine⟨h.low,?_⟩
 rcases h.e with e|⟨d,rs,P,e1,e2,h1,h2,h3⟩
 .exact .inl e
 .exact .inr ⟨d,rs,P,e1,e2,h1,h2,h3.more a⟩
theorem acw{rs':RS}(b:Below m.heap.size m W)(a:∀k,P k->m.heap.size<=k)(g:abI d (λr=>r=rs') P W n)(q:RvQ i rs'):Rk m (some rs') i (.pointer (some ⟨d,0,none⟩)) n:=by
 obtain⟨r,t,h,rfl,c,j⟩:=g;refine⟨rO b c a,.inr ⟨d,r,t,rfl,rfl,h,λk e=>?_,q⟩⟩;have:=b.size
 rcases j k e with e|e
 .exact a k e
 .omega
theorem aeu{bj:Nat}{lo hi mode:Int}(a:Below m.heap.size m W)(g:RvQ i ⟨yh lo hi mode,[],0,0⟩)(h1:W.heap.size<=d)(h2:W.heap.size<=bj)(c:nM n d bj (.slice none 0 0) (.slice none 0 0) (.slice none 0 0) (yh lo hi mode) [] 0 0)(b:Below W.heap.size W n):Rk m (some ⟨yh lo hi mode,[],0,0⟩) i (.pointer (some ⟨d,0,none⟩)) n:=by
 have:=a.size;refine⟨a.trans (b.mono a.size),.inr ⟨d,_,λk=>k=d∨k=bj,rfl,rfl,⟨bj,_,_,_,c,λk=>?_⟩,λk e=>?_,g⟩⟩
 .simp[Value.ownBlock]
 .rcases e with e|e <;>omega
def afn(t:List UInt8):Prop:=u6 none (BB t)=none∨u6 none (BB t)=some none∨∃rs E0 E1 Z,u6 none (BB t)=some (some rs)/\RvQ 3001 rs/\E0.Perm rs.x.R0/\nN E0/\E1.Perm rs.x.R1/\nN E1/\Z.Perm rs.M/\bJ Z/\(60000<(FI rs.x rs.f0 rs.f1 E0 E1 Z).length∨FI rs.x rs.f0 rs.f1 E0 E1 Z≠t)
def aaU(t:List UInt8)(w:World)(e:Ending)(n:World):Prop:=
 (e=.returned (.tuple #[.pointer none,.int .i64 3])/\Below w.heap.size w n/\afn t)∨
 ∃d rs P E0 E1 Z,e=.returned (.tuple #[.pointer (some ⟨d,0,none⟩),.int .i64 0])/\RE d rs P n/\RvQ 3001 rs/\E0.Perm rs.x.R0/\nN E0/\E1.Perm rs.x.R1/\nN E1/\Z.Perm rs.M/\bJ Z/\FI rs.x rs.f0 rs.f1 E0 E1 Z=t/\(∀k,P k->w.heap.size<=k)/\Below w.heap.size w n
theorem RvQ.fit(h:RvQ i rs)(hi:i<=5000):Ym rs.x rs.M rs.f0 rs.f1:=by
 obtain⟨⟨a1,a2⟩,⟨a3,a4⟩,_,a5,a6⟩:=h.pl;have b0:=h.m0;have b1:=h.m1;have l0:=h.l0;have l1:=h.l1;have hm:=h.ml
 have row:∀(R:List Hl),(∀h∈R,au h.k h.t h.v=true/\0<=h.met/\h.met<=9223372036854775807)->∀y∈R,af y.k/\af y.t/\af y.v/\af y.met:=by
  intro R q y c;obtain⟨g,h1,e⟩:=q y c;obtain⟨⟨c1,a⟩,⟨d1,d2⟩,j,w⟩:=dI (r:=⟨y.k,y.t,y.v⟩) g;simp only at c1 a d1 d2 j w;exact⟨⟨by omega,by omega⟩,⟨by omega,by omega⟩,⟨by omega,by omega⟩,by omega,e⟩
 have f0:=h.f0;have f1:=h.f1;have lt:=h.late;exact⟨⟨by omega,by omega⟩,⟨by omega,by omega⟩,⟨by omega,by omega⟩,⟨by omega,by omega⟩,⟨by omega,by omega⟩,⟨by omega,by omega⟩,⟨by omega,by omega⟩,⟨by omega,by omega⟩,row _ h.g0,row _ h.g1,by omega,by omega,λo b=>y7 (h.tell o b),by omega⟩
section
variable{W:World}{d bj:Nat}{v s p:Value}{x:RJ}{M:List O}{f0 f1:Int}
theorem adk(h:nM W d bj v s p x M f0 f1)(a b:Int):nM ((W.setCell ⟨d,2,none⟩ (.int .i64 a)).setCell ⟨d,3,none⟩ (.int .i64 b)) d bj v s p x M a b:=by
 have j:=h.join;have c:=h.bag
 have w:bj≠d:=λe=>by have z:=j.blk;rw[e,c.blk]at z;cases z
 have t:∀q,q≠d->((W.setCell ⟨d,2,none⟩ (.int .i64 a)).setCell ⟨d,3,none⟩ (.int .i64 b)).heap[q]?=W.heap[q]? :=λq y=>(iJ _ _ _ _ y).trans (iJ _ _ _ _ y)
 refine⟨⟨?_,ag c.row (λg e=>t g (λk=>dZ c.row c.blk (by omega) (by rw[e,k])))⟩,⟨(t bj w).trans j.blk,ag j.r0 (λg e=>t g (λk=>dZ j.r0 c.blk (by omega) (by rw[e,k]))),ag j.r1 (λg e=>t g (λk=>dZ j.r1 c.blk (by omega) (by rw[e,k]))),j.apart⟩⟩;rw[fZ (fZ c.blk _)];rfl
theorem aev(h:nM W d bj v s p x M f0 f1)(c:Int):nM (W.setCell ⟨bj,7,none⟩ (.int .i64 c)) d bj v s p { x with late:=c} M f0 f1:=by
 have a:=h.join;have b:=h.bag
 have t:d≠bj:=λe=>by have w:=a.blk;rw[<-e,b.blk]at w;cases w
 have k:∀q,q≠bj->(W.setCell ⟨bj,7,none⟩ (.int .i64 c)).heap[q]?=W.heap[q]? :=λq y=>iJ _ _ _ _ y
 refine⟨⟨(k d t).trans b.blk,ag b.row (λg e=>k g (λj=>dZ b.row a.blk (by omega) (by rw[e,j])))⟩,⟨?_,ag a.r0 (λg e=>k g (λj=>dZ a.r0 a.blk (by omega) (by rw[e,j]))),ag a.r1 (λg e=>k g (λj=>dZ a.r1 a.blk (by omega) (by rw[e,j]))),a.apart⟩⟩;rw[fZ a.blk];rfl
theorem aeO(h:nM W d bj v s p rs.x rs.M rs.f0 rs.f1)(g:∀k,P k↔(k=d∨k=bj∨v.ownBlock=some k∨s.ownBlock=some k∨p.ownBlock=some k))(a b c:Int):abI d (λr=>r=⟨{ rs.x with late:=c},rs.M,a,b⟩) P W (((W.setCell ⟨d,2,none⟩ (.int .i64 a)).setCell ⟨d,3,none⟩ (.int .i64 b)).drew.setCell ⟨bj,7,none⟩ (.int .i64 c)).drew:=by
 have w:=(aev ((adk h a b).below (iL _ _).drew) c).below (iL _ _).drew;refine⟨_,P,⟨bj,v,s,p,w,g⟩,rfl,⟨rfl,rfl,rfl,by simp,λq _ j=>?_⟩,λ_ e=>.inl e⟩
 have t:q≠d:=λe=>j ((g q).2 (.inl e))
 have y:q≠bj:=λe=>j ((g q).2 (.inr (.inl e)))
 exact(iJ _ _ _ _ y).trans ((iJ _ _ _ _ t).trans (iJ _ _ _ _ t))
end
end
section
open Go.Joins
variable{W V u wr:World}{ns:List Int}{g cap r s d:Nat}{m:Nat->Int}{y:O}
theorem ado{c:World}{a:Int}{i:Value}{f:World}(h:Lr c ns i W)(b:f.ownsRow c.heap.size 3 1 (.slice (some ⟨g,0,none⟩) (ns.length+1) cap) (ns.length+1) (ns.map (Value.int .i64)++[.int .i64 a]))(j:W.grownBy f i.ownBlock):Lr c (ns++[a]) (.slice (some ⟨g,0,none⟩) (ns.length+1) cap) f:=
 ⟨h.low.grown j h.low.size (λk e=>(h.row.lt k e).1),by rw[List.length_append,List.map_append];exact b⟩
abbrev N7(g:Nat)(N:Nat->Int)(V:World):Prop:=V.cell? ⟨g,0,none⟩=some (.int .i64 (N 0))/\V.cell? ⟨g,1,none⟩=some (.int .i64 (N 1))/\V.cell? ⟨g,2,none⟩=some (.int .i64 (N 2))/\V.cell? ⟨g,3,none⟩=some (.int .i64 (N 3))/\V.cell? ⟨g,4,none⟩=some (.int .i64 (N 4))/\V.cell? ⟨g,5,none⟩=some (.int .i64 (N 5))/\V.cell? ⟨g,6,none⟩=some (.int .i64 (N 6))
theorem afq{a:World}{ws:List (List UInt8)}{n:Nat}(h:Lr a ns (.slice (some ⟨g,0,none⟩) n cap) W)(e:NzQ ws ns)(h7:7<=ns.length):N7 g (nwQ ws) W:=by
 have c:∀j,j<7->W.cell? ⟨g,j,none⟩=some (.int .i64 (nwQ ws j)):=λj hj=>by
  have b:ns[j]?=some (nwQ ws j):=by
   have:=e j;rw[aO (by omega)]at this⊢;simpa using this
  have:=h.row.cells (g:=g) rfl j (.int .i64 (nwQ ws j)) (by rw[List.getElem?_map,b];rfl)
  rwa [bZ]at this
 exact⟨c 0 (by omega),c 1 (by omega),c 2 (by omega),c 3 (by omega),c 4 (by omega),c 5 (by omega),c 6 (by omega)⟩
theorem abm{N:Nat->Int}(h:N7 g N V)(a:u.heap[g]?=V.heap[g]?):N7 g N u:=by
 obtain⟨c,e,f,i,b,j,k⟩:=h;exact⟨(K7 a 0).trans c,(K7 a 1).trans e,(K7 a 2).trans f,(K7 a 3).trans i,(K7 a 4).trans b,(K7 a 5).trans j,(K7 a 6).trans k⟩
theorem abt{cur:List UInt8}:(if cur=[]then[]else[cur]:List (List UInt8)).length<=(if cur=[]then 0 else 1)/\∀y∈(if cur=[]then[]else[cur]:List (List UInt8)),y.length<=cur.length:=by
 split
 .exact⟨aC _,λy a=>by cases a⟩
 .refine⟨aC _,λy a=>?_⟩
  have:y=cur:=by simpa using a
  rw[this];exact aC _
theorem acD:∀(f:Nat) (cur l:List UInt8),(Lib.fieldsGoD f cur l).length<=(if cur=[]then 0 else 1)+l.length/\∀y∈Lib.fieldsGoD f cur l,y.length<=cur.length+l.length
 |0,cur,l=>by
  unfold Lib.fieldsGoD;exact⟨aH abt.1 (by omega),λy a=>aH (abt.2 y a) (by omega)⟩
 |f+1,cur,l=>by
  unfold Lib.fieldsGoD
  split
  .exact⟨aH abt.1 (by omega),λy a=>aH (abt.2 y a) (by omega)⟩
  split
  .have h:=acD f [] (l.drop (Lib.decodeL l).2)
   have hd:(l.drop (Lib.decodeL l).2).length<=l.length:=by rw[List.length_drop];omega
   rw[if_pos rfl]at h;have b:=(abt (cur:=cur)).1;refine⟨by rw[List.length_append];omega,λy a=>?_⟩
   rcases List.mem_append.1 a with e|e
   .have:=abt.2 y e;omega
   .have:=h.2 y e;simp at this;omega
  .have h:=acD f (cur++l.take (Lib.decodeL l).2) (l.drop (Lib.decodeL l).2)
   have e1:(l.take (Lib.decodeL l).2).length+(l.drop (Lib.decodeL l).2).length=l.length:=by rw[<-List.length_append,List.take_append_drop]
   refine⟨?_,λy a=>by have:=h.2 y a;rw[List.length_append]at this;omega⟩;have b:=h.1
   by_cases hc:cur=[]
   .subst hc;rw[if_pos rfl];rw[List.nil_append]at b⊢
    by_cases ht:l.take (Lib.decodeL l).2=[]
    .rw[if_pos ht]at b;omega
    .rw[if_neg ht]at b;have:0<(l.take (Lib.decodeL l).2).length:=List.length_pos_iff.2 ht;omega
   .rw[if_neg hc];rw[if_neg (by simp[hc])]at b;omega
theorem acW(x:List UInt8)(hx:x.length<=3000):(Lib.fieldsD x).length<=3000/\∀y∈Lib.fieldsD x,y.length<=3000:=by
 have h:=acD (x.length+1) [] x;rw[if_pos rfl]at h;exact⟨by have:=h.1;unfold Lib.fieldsD;omega,λy a=>by have:=h.2 y a;simp at this;omega⟩
theorem aex(n:Int):IntKind.i64.wrap n=wrap64 n:=by
 rw[IntKind.wrap_i64,wrap64]
theorem acf(W:World)(X Y:Obj):((W.alloc X).alloc Y).drew.heap[W.heap.size]?=some X/\((W.alloc X).alloc Y).drew.heap[W.heap.size+1]?=some Y/\Below W.heap.size W ((W.alloc X).alloc Y).drew:=by
 have a:=fC W X;have b:=fC (W.alloc X) Y;refine⟨(b.block W.heap.size (by simp)).trans (eZ W X),?_,(a.trans (b.mono a.size)).drew⟩;have:=eZ (W.alloc X) Y
 rwa [show(W.alloc X).heap.size=W.heap.size+1 by simp]at this
structure Bx(wr:World)(r s d:Nat)(m:Nat->Int)(y:O)(V:World):Prop where
 low:Below wr.heap.size wr V
 a:V.heap[r]?=some (bu (m 1) (m 2) (m 3))
 b:V.heap[s]?=some (bu (m 4) (m 5) (m 6))
 x:V.heap[d]?=some (.cells (ah y).toArray 89)
 lx:wr.heap.size<=d
theorem Bx.go(h:Bx wr r s d m y V)(c:Below V.heap.size V u):Bx wr r s d m y u:=
 ⟨h.low.trans (c.mono h.low.size),(c.block _ (ax.1 h.a).1).trans h.a,(c.block _ (ax.1 h.b).1).trans h.b,(c.block _ (ax.1 h.x).1).trans h.x,h.lx⟩
theorem Bx.cells(h:Bx wr r s d m y V):(V.cell? ⟨r,0,none⟩=some (.int .i64 (m 1))/\V.cell? ⟨r,1,none⟩=some (.int .i64 (m 2))/\V.cell? ⟨r,2,none⟩=some (.int .i64 (m 3)))/\(V.cell? ⟨s,0,none⟩=some (.int .i64 (m 4))/\V.cell? ⟨s,1,none⟩=some (.int .i64 (m 5))/\V.cell? ⟨s,2,none⟩=some (.int .i64 (m 6)))/\r<V.heap.size/\s<V.heap.size/\d<V.heap.size:=
 ⟨bQ h.a,bQ h.b,(ax.1 h.a).1,(ax.1 h.b).1,(ax.1 h.x).1⟩
theorem aeW(h:Bx wr r s d m y V)(c:r≠d/\s≠d)(p:O):Bx wr r s d m p (((((((((V.setCell ⟨d,0,none⟩ (.int .i64 p.k)).setCell ⟨d,1,none⟩ (.int .i64 p.lk)).setCell ⟨d,2,none⟩ (.int .i64 p.lt)).setCell ⟨d,3,none⟩ (.int .i64 p.lv)).setCell ⟨d,4,none⟩ (.int .i64 p.rk)).setCell ⟨d,5,none⟩ (.int .i64 p.rt)).setCell ⟨d,6,none⟩ (.int .i64 p.rv)).setCell ⟨d,7,none⟩ (.bool p.hl)).setCell ⟨d,8,none⟩ (.bool p.hr)):=by
 have i:V.heap[d]?=some (.cells #[.int .i64 y.k,.int .i64 y.lk,.int .i64 y.lt,.int .i64 y.lv,.int .i64 y.rk,.int .i64 y.rt,.int .i64 y.rv,.bool y.hl,.bool y.hr] 89):=h.x
 have f:∀q,q≠d->(((((((((V.setCell ⟨d,0,none⟩ (.int .i64 p.k)).setCell ⟨d,1,none⟩ (.int .i64 p.lk)).setCell ⟨d,2,none⟩ (.int .i64 p.lt)).setCell ⟨d,3,none⟩ (.int .i64 p.lv)).setCell ⟨d,4,none⟩ (.int .i64 p.rk)).setCell ⟨d,5,none⟩ (.int .i64 p.rt)).setCell ⟨d,6,none⟩ (.int .i64 p.rv)).setCell ⟨d,7,none⟩ (.bool p.hl)).setCell ⟨d,8,none⟩ (.bool p.hr)).heap[q]?=V.heap[q]? :=λq e=>
  (iJ _ _ _ _ e).trans ((iJ _ _ _ _ e).trans ((iJ _ _ _ _ e).trans ((iJ _ _ _ _ e).trans ((iJ _ _ _ _ e).trans ((iJ _ _ _ _ e).trans ((iJ _ _ _ _ e).trans ((iJ _ _ _ _ e).trans (iJ _ _ _ _ e))))))))
 refine⟨?_,(f r c.1).trans h.a,(f s c.2).trans h.b,yS i _ _ _ _ _ _ _ _ _,h.lx⟩;exact((((((((h.low.setCell h.lx _).setCell h.lx _).setCell h.lx _).setCell h.lx _).setCell h.lx _).setCell h.lx _).setCell h.lx _).setCell h.lx _).setCell h.lx _
def nav:List Nat->Code->Code
 |0::p,.seq a _=>nav p a
 |1::p,.seq _ b=>nav p b
 |0::p,.cond _ a _=>nav p a
 |1::p,.cond _ _ b=>nav p b
 |0::p,.block _ a=>nav p a
 |0::p,.loop a=>nav p a
 |_,c=>c
def Nx(pc:List (List UInt8))(w2:World)(i:Nat)(s5:Value)(V:World):Prop:=∃o',u6 none pc=u6 o' (pc.drop (i+1))/\Rk w2 o' (i+1) s5 V
def Rest(t:List UInt8)(pc:List (List UInt8))(w w2:World)(i:Nat)(s5:Value)(A n8 dw g9 L d9:Nat)(wr:World):Prop:=
 ∀(K5 K6 Kz7:Act->World->Prop) (u0 u1 u2 u3 u4 u6 u7 u10 u11 u12 u13 u14 u15 u16 u17 u18 u19 u20 u21 u22 u23 u24 u25 u26 u27 u28 u29 u30 u31 u32 u33 u34 u35 u36 u37 u38 u39 u40 u41 u42 u43 u44 u45 u46 u47 u48 u49 u50 u51 u52 u53 u54 u55 u56 u57 u58 u59 u60 u61 u62 u63 u64 u65 u66 u67 u68 u69 u70 u71 u72 u73 u74 u75 u76 u77 u78 u79 u80 u81 u82 u83 u84 u85 u86 u87 u88 u89 u90 u91 u92 u93 u94 u95 u96 u97 u98 u99 u100 u101 u102 u103 u104 u105 u106 u107 u108 u109 u110 u111 u112 u113 u114 u115 u116 u117 u118 u119 u120 u121 u122 u123 u124 u125 u126 u127 u128 u129 u130 u131 u132 u133 u134 u135 u136 u137 u138 u139 u140 u141 u142 u143 u144 u145 u146 u147 u148 u149 u150 u151 u152 u153 u154 u155 u156 u157 u158 u159 u160 u161 u162 u163 u164 u165 u166 u167 u168 u169 u170 u171 u172 u173 u174 u175 u176 u177 u178 u179 u180 u181 u182 u183 u184 u185 u186 u187 u188 u189 u190 u191 u192 u193 u194 u195 u196 u197 u198 u199 u200 u201 u202 u203 u204 u205 u206 u207 u208 u209 u210 u211 u212 u213 u214 u215 u216 u217 u218:Value),
  (∀(u2 u3 u5 u7 u8 u9 u11 u12 u13 u14 u15 u16 u24 u25 u26 u27 u28 u29 u30 u31 u32 u33 u34 u35 u36 u37 u38 u39 u40 u41 u42 u43 u44 u45 u46 u47 u48 u49 u50 u51 u52 u53 u54 u55 u56 u57 u58 u59 u60 u61 u62 u63 u64 u65 u66 u67 u68 u69 u70 u71 u72 u73 u74 u75 u76 u77 u78 u79 u80 u81 u82 u83 u84 u85 u86 u87 u88 u89 u90 u91 u92 u93 u94 u95 u96 u97 u98 u99 u100 u101 u102 u103 u104 u105 u106 u107 u108 u109 u110 u111 u112 u113 u114 u115 u116 u117 u118 u119 u120 u121 u122 u123 u124 u125 u126 u127 u128 u129 u130 u131 u132 u133 u134 u135 u136 u137 u138 u139 u140 u141 u142 u143 u144 u145 u146 u147 u148 u149 u150 u151 u152 u153 u154 u155 u156 u157 u158 u159 u160 u161 u162 u163 u164 u165 u166 u167 u168 u169 u170 u171 u172 u173 u174 u175 u176 u177 u178 u179 u180 u181 u182 u183 u184 u185 u186 u187 u188 u189 u190 u191 u192 u193 u194 u195 u196 u197 u198 u199 u200 u201 u202 u203:Value) (V:World),Hid (Nx pc w2 i u5 V)->K5 ⟨#[u0,u1,u2,u3,u4,u5,u6,u7,u8,u9,u10,u11,u12,u13,u14,u15,u16,u17,u18,u19,u20,u21,u22,u23,u24,u25,u26,u27,u28,u29,u30,u31,u32,u33,u34,u35,u36,u37,u38,u39,u40,u41,u42,u43,u44,u45,u46,u47,u48,u49,u50,u51,u52,u53,u54,u55,u56,u57,u58,u59,u60,u61,u62,u63,u64,u65,u66,u67,u68,u69,u70,u71,u72,u73,u74,u75,u76,u77,u78,u79,u80,u81,u82,u83,u84,u85,u86,u87,u88,u89,u90,u91,u92,u93,u94,u95,u96,u97,u98,u99,u100,u101,u102,u103,u104,u105,u106,u107,u108,u109,u110,u111,u112,u113,u114,u115,u116,u117,u118,u119,u120,u121,u122,u123,u124,u125,u126,u127,u128,u129,u130,u131,u132,u133,u134,u135,u136,u137,u138,u139,u140,u141,u142,u143,u144,u145,u146,u147,u148,u149,u150,u151,u152,u153,u154,u155,u156,u157,u158,u159,u160,u161,u162,u163,u164,u165,u166,u167,u168,u169,u170,u171,u172,u173,u174,u175,u176,u177,u178,u179,u180,u181,u182,u183,u184,u185,u186,u187,u188,u189,u190,u191,u192,u193,u194,u195,u196,u197,u198,u199,u200,u201,u202,u203,u204,u205,u206,u207,u208,u209,u210,u211,u212,u213,u214,u215,u216,u217,u218],[]⟩ V)->
  Code.wp Tryz.prog (nav [1,1,1,0,1,0,0,1,1,0,0,1,1,1,1,1,1] (Tryz.f7.body.getD .skip)) (Exit.inBlock 1 (Exit.then K5 (Exit.then K6 (Exit.inBlock 0 (Exit.then Kz7 (bodyPost Tryz.prog Tryz.f7 (aaU t w))))))) ⟨#[u0,u1,u2,u3,u4,s5,u6,u7,.slice (some ⟨A,0,none⟩) n8 dw,.slice (some ⟨g9,0,none⟩) L d9,u10,u11,u12,u13,u14,u15,u16,u17,u18,u19,u20,u21,u22,u23,u24,u25,u26,u27,u28,u29,u30,u31,u32,u33,u34,u35,u36,u37,u38,u39,u40,u41,u42,u43,u44,u45,u46,u47,u48,u49,u50,u51,u52,u53,u54,u55,u56,u57,u58,u59,u60,u61,u62,u63,u64,u65,u66,u67,u68,u69,u70,u71,u72,u73,u74,u75,u76,u77,u78,u79,u80,u81,u82,u83,u84,u85,u86,u87,u88,u89,u90,u91,u92,u93,u94,u95,u96,u97,u98,u99,u100,u101,u102,u103,u104,u105,u106,u107,u108,u109,u110,u111,u112,u113,u114,u115,u116,u117,u118,u119,u120,u121,u122,u123,u124,u125,u126,u127,u128,u129,u130,u131,u132,u133,u134,u135,u136,u137,u138,u139,u140,u141,u142,u143,u144,u145,u146,u147,u148,u149,u150,u151,u152,u153,u154,u155,u156,u157,u158,u159,u160,u161,u162,u163,u164,u165,u166,u167,u168,u169,u170,u171,u172,u173,u174,u175,u176,u177,u178,u179,u180,u181,u182,u183,u184,u185,u186,u187,u188,u189,u190,u191,u192,u193,u194,u195,u196,u197,u198,u199,u200,u201,u202,u203,u204,u205,u206,u207,u208,u209,u210,u211,u212,u213,u214,u215,u216,u217,u218],[]⟩ wr
structure Arm(t:List UInt8)(pc:List (List UInt8))(w w2:World)(o:Option RS)(i:Nat)(hd:List UInt8)(m:Nat->Int)(A n8 g9 L:Nat)(wr:World):Prop where
 no:∀w',Below w.heap.size w w'->u6 none pc=none->aaU t w (.returned (.tuple #[.pointer none,.int .i64 3])) w'
 st:∀o',vv o hd m=some o'->u6 none pc=u6 o' (pc.drop (i+1))
 bd:vv o hd m=none->u6 none pc=none
 vs:∀o',vv o hd m=some o'->∀rs,o'=some rs->RvQ (i+1) rs
 low:Below w2.heap.size w2 wr
 lw:Below w.heap.size w wr
 n7:N7 g9 m wr
 lt9:g9<wr.heap.size
 m7:7<=L
 n8:1<=n8
 ile:i<=3001
 nin:∀j,-9223372036854775808<=m j/\m j<=9223372036854775807
 ca:wr.cell? ⟨A,0,none⟩=some (.string ⟨hd.toArray⟩)
end
end Go.Proofs.YthfpipieboophaaGreatDoor
