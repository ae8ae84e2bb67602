import Derived.Test.YthfpipieboophaaGreatDoorZVwa
import Derived.Test.YthfpipieboophaaGreatDoorZShelfP
namespace Go.Proofs.YthfpipieboophaaGreatDoor
set_option maxRecDepth 100000
set_option maxHeartbeats 40000000
open Go.RowKit Go.Sort
section
open Go.Joins
variable{f:Int}
theorem lC{w:World}{base n e size:Nat}{v:Value}{xs:List Value}(h:w.ownsRow base e size v n xs):∃a c,v=.slice a n c:=by
 rcases h.2 with⟨rfl,b⟩|⟨g,cap,cur,rfl,_⟩
 .exact⟨none,0,by rw[b]⟩
 .exact⟨_,_,rfl⟩
theorem Oh(be bj q:Nat)(s r:Value)(f0 f1:Int)(b:Option Nat)(l:Nat->Prop)(x:J)(L:List O)(c:Ch)(w:World)(h:az w be bj q s r f0 f1 b l x L L)(a:c.x.wf)(v:c.g=true->c.x∈L)(hL:L.length<=3000000):
  Calls Tryz.prog 47 #[.pointer (some ⟨be,0,none⟩),vC c.x c.g] w λe p=>e=.returned (.tuple #[])/\∃n u,az p be bj q s r f0 f1 n u x (if c.g=true then L.erase c.x else c.x::L) (if c.g=true then L.erase c.x else c.x::L)/\(∀k,n=some k->b=some k∨w.heap.size<=k)/\(∀k,u k->l k∨w.heap.size<=k)/\Turned (λk=>k=be∨b=some k∨l k) w p:=by
 obtain⟨o,g⟩:=c;cases g
 .refine x8 be bj q s r f0 f1 b l x L (o::L) o false w h (λW j=>?_) (λW n j=>?_)
  .exact(KA be 6 L.length b L W j.bag o a (by omega) (by omega)).mono λe p ⟨m,n,d,i,y⟩=>⟨⟨_,m⟩,n,_,d,i,y⟩
  .exact(D8 be 8 L.length l L W j.grp o a (by omega)).mono λe p ⟨m,d,i⟩=>⟨⟨_,m⟩,_,d,i⟩
 .have t:=v rfl;refine x8 be bj q s r f0 f1 b l x L (L.erase o) o true w h (λW j=>?_) (λW n j=>?_)
  .exact(Gn be 6 L.length b L W j.bag o a t (by omega) (by omega)).mono λe p ⟨m,d,i⟩=>⟨⟨_,m⟩,b,_,d,i,.inl rfl⟩
  .exact(Cq be 8 L.length l L W j.grp o a t (by omega)).mono λe p ⟨m,d,i⟩=>⟨⟨_,m⟩,_,d,i⟩
def aZ(f:Int):Int:=if f=9223372036854775807 then f else f+1
theorem wS(h:0<=f/\f<=9223372036854775807):0<=aZ f/\aZ f<=9223372036854775807:=by unfold aZ;split <;>omega
theorem rJ(h:0<=f/\f<=9223372036854775807):max f (wrap64 (f+1))=aZ f:=by
 unfold aZ
 split
 .rename_i e
  subst e
  have:wrap64 (9223372036854775807+1)= -9223372036854775808:=by unfold wrap64;omega
  rw[this];omega
 .have:wrap64 (f+1)=f+1:=by unfold wrap64;omega
  rw[this];omega
theorem Ea(w:World):Calls Tryz.prog 46 #[.nilIface] w λe a=>e=.returned (.int .i64 0)/\a=w:=by
 go_enter Tryz.func46,Tryz.ntmps46;go_wp2;go_ret;exact⟨rfl,rfl⟩
abbrev bu(k t v:Int):Obj:= .cells #[.int .i64 k,.int .i64 t,.int .i64 v] 37
theorem bQ{W:World}{b:Nat}{k t v:Int}(h:W.heap[b]?=some (bu k t v)):W.cell? ⟨b,0,none⟩=some (.int .i64 k)/\W.cell? ⟨b,1,none⟩=some (.int .i64 t)/\W.cell? ⟨b,2,none⟩=some (.int .i64 v):=by
 refine⟨?_,?_,?_⟩ <;>(rw[fq h];rfl)
end
section
open Go.Shelf
variable{w:World}
theorem xS:Jv:=λw=>
 (AnyF.slices_SortFunc_none { Tryz.sortO with} none 0 (.func (.func 122) #[] #[]) w).mono λ_ _ h=>h
theorem lY{Z c:List O}(h:Z.Perm c)(f:bJ Z)(d:bJ c):Z=c:=by
 refine List.Perm.eq_of_pairwise (le:=λa b=>cO a b<=0) (λa b _ _ h3 e=>?_) f d h;rw[qw]at e;exact(wI a b).1 (by omega)
theorem Az{h l d f j n o q:Nat}{u v:Value}{xs ys:List Value}(p:w.ownsRow h d j u o xs)(i:w.ownsRow l f n v q ys)(b:d≠f){k:Nat}(c:u.ownBlock=some k):v.ownBlock≠some k:=by
 rcases p.2 with⟨rfl,_⟩|⟨g,cap,cur,rfl,_,m,_⟩
 .simp[Value.ownBlock]at c
 .rcases i.2 with⟨rfl,_⟩|⟨g',cap',cur',rfl,_,a,_⟩
  .simp[Value.ownBlock]
  .simp[Value.ownBlock]at c⊢;subst c;intro e;subst e;rw[m]at a;cases a;exact b rfl
theorem Ec(k a b:Int){R:List D}(h:ay R):(bF k a b R).length<=R.length:=by
 rw[gM h];exact dG _ _
theorem jg{bj b:Nat}{d c f a:Value}(j:dF w d f)(i:dF w c a):∀k,eP bj b f a k->eP bj b d c k∨w.heap.size<=k:=by
 rintro k (e|e|e|e)
 .exact .inl (.inl e)
 .exact .inl (.inr (.inl e))
 .rcases j with h|⟨g,h,hl⟩
  .exact .inl (.inr (.inr (.inl (by rw[<-h];exact e))))
  .rw[h]at e;cases e;exact .inr hl
 .rcases i with h|⟨g,h,hl⟩
  .exact .inl (.inr (.inr (.inr (by rw[<-h];exact e))))
  .rw[h]at e;cases e;exact .inr hl
end
end Go.Proofs.YthfpipieboophaaGreatDoor
