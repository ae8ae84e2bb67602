import Derived.Shelf.SlIterI.Nil
import Derived.Shelf.SortM.Plain
import Derived.Shelf.SortM.SortNone
import Derived.Deep.AppendLies
import Derived.Test.YthfpipieboophaaGreatDoorZGru
namespace Go.Proofs.YthfpipieboophaaGreatDoor
set_option maxRecDepth 100000
set_option maxHeartbeats 40000000
open Go.RowKit Go.Sort
variable{b m:Nat}{τ τ':Tl}{M L:List O}{x:O}{k:Int}{w:World}{G d:Int->Option Tl}
def bD:List O->Tl
 |[]=>τ0
 |x::M=>bE (bD M) x
def gK(L:List O)(k:Int):List O:=L.filter λo=>o.k==k
def bK(L:List O)(k:Int):Option Tl:=if gK L k=[]then none else some (bD (gK L k))
structure vF(τ τ':Tl):Prop where
 c:τ.c=τ'.c
 s:τ.s=τ'.s
 R:τ.R.Perm τ'.R
theorem vF.refl(τ:Tl):vF τ τ:=⟨rfl,rfl,List.Perm.refl _⟩
theorem vF.trans{a b c:Tl}(h:vF a b)(k:vF b c):vF a c:=⟨h.c.trans k.c,h.s.trans k.s,h.R.trans k.R⟩
theorem vF.put(h:vF τ τ')(x:O):vF (bE τ x) (bE τ' x):=by
 refine⟨by simp[bE,h.c],by simp[bE,h.s],?_⟩
 cases hr:x.hr <;>simp[bE,hr,h.R]
theorem vF.take(h:vF τ τ')(x:O):vF (gP τ x) (gP τ' x):=by
 refine⟨by simp[gP,h.c],by simp[gP,h.s],?_⟩;cases hr:x.hr
 .simpa[gP,hr]using h.R
 .simpa[gP,hr]using h.R.erase x.rv
theorem Lh(n:Int):wrap64 (wrap64 n)=wrap64 n:=by unfold wrap64;omega
theorem NT(M:List O):wrap64 (bD M).s=(bD M).s:=by
 induction M with
 |nil=>show wrap64 0=0;unfold wrap64;omega
 |cons x M ih=>
  show wrap64 (bE (bD M) x).s=(bE (bD M) x).s;cases hl:x.hl
  .simpa[bE,hl]using ih
  .simp[bE,hl,Lh]
theorem OW(τ:Tl)(x y:O):vF (bE (bE τ x) y) (bE (bE τ y) x):=by
 refine⟨by simp[bE],?_,?_⟩
 .cases hx:x.hl <;>cases hy:y.hl <;>simp[bE,hx,hy]
  unfold wrap64;omega
 .cases hx:x.hr <;>cases hy:y.hr <;>simp[bE,hx,hy]
  exact List.Perm.swap _ _ _
theorem rQ{a:List O}(h:M.Perm a):vF (bD M) (bD a):=by
 induction h with
 |nil=>exact vF.refl _
 |cons x _ ih=>exact ih.put x
 |swap x y l=>exact OW _ _ _
 |trans _ _ h1 h2=>exact h1.trans h2
theorem OX(M:List O)(x:O):vF (gP (bE (bD M) x) x) (bD M):=by
 refine⟨by simp[bE,gP],?_,?_⟩
 .cases hl:x.hl
  .simp[bE,gP,hl]
  .have:=NT M;simp only[bE,gP,hl,if_true];unfold wrap64 at *;omega
 .cases hr:x.hr <;>simp[bE,gP,hr]
theorem jZ(M:List O):(bD M).c=M.length:=by
 induction M with
 |nil=>rfl
 |cons x M ih=>show(bD M).c+1=_;rw[ih];rfl
theorem Li(h:x∈M)(a:x.hr=true):x.rv∈(bD M).R:=by
 induction M with
 |nil=>cases h
 |cons y M ih=>
  show x.rv∈(bE (bD M) y).R
  rcases dM.1 h with rfl|h
  .simp[bE,a]
  .have:=ih h;cases hy:y.hr
   .simpa[bE,hy]using this
   .simp[bE,hy,this]
theorem yl(x:O)(L:List O):gK (x::L) x.k=x::gK L x.k:=by simp[gK]
theorem uf(x:O)(L:List O)(h:k≠x.k):gK (x::L) k=gK L k:=by simp[gK,Ne.symm h]
theorem ym{a:List O}(h:L.Perm a)(k:Int):(gK L k).Perm (gK a k):=h.filter _
theorem Cv:x∈gK L x.k↔x∈L:=by simp[gK]
def JH(G d:Int->Option Tl):Prop:=∀k,(G k=none/\d k=none)∨∃τ τ',G k=some τ/\d k=some τ'/\vF τ τ'
theorem Co:bK []=λ_=>none:=by funext k;simp[bK,gK]
theorem SC(L:List O)(x:O):yz (bK L) x=bK (x::L):=by
 funext k
 by_cases e:k=x.k
 .subst e
  have c:bK (x::L) x.k=some (bE (bD (gK L x.k)) x):=by
   unfold bK;rw[yl];exact if_neg (by simp)
  have a:(bK L x.k).getD τ0=bD (gK L x.k):=by
   unfold bK
   by_cases h:gK L x.k=[]
   .rw[if_pos h,h];rfl
   .rw[if_neg h];rfl
  unfold yz;rw[dL,c,a]
 .unfold yz;rw[aJ _ _ e];unfold bK;rw[uf x L e]
theorem JG(h:x∈L):bK L x.k=some (bD (gK L x.k)):=by
 unfold bK;rw[if_neg (List.ne_nil_of_mem (Cv.2 h))]
theorem SE(h:x∈L):OQ x (bD (gK L x.k)):=λa=>Li (Cv.2 h) a
theorem OY(h:x∈L):JH (qi (bK L) x (bD (gK L x.k))) (bK (L.erase x)):=λk=>by
 have f:=ym (List.perm_cons_erase h) k
 by_cases e:k=x.k
 .subst e;rw[yl]at f;unfold qi;rw[dL];have a:=f.length_eq;simp only[List.length_cons]at a
  by_cases h1:(bD (gK L x.k)).c=1
  .rw[if_pos h1];rw[jZ]at h1;refine .inl ⟨rfl,?_⟩;unfold bK;rw[if_pos (di (by omega))]
  .rw[if_neg h1];rw[jZ]at h1;refine .inr ⟨_,bD (gK (L.erase x) x.k),rfl,?_,?_⟩
   .unfold bK;rw[if_neg (λe=>by rw[e]at a;simp at a;omega)]
   .exact((rQ f).take x).trans (OX _ x)
 .rw[uf x _ e]at f;unfold qi;rw[aJ _ _ e];unfold bK
  by_cases h0:gK L k=[]
  .have g:gK (L.erase x) k=[]:=by rw[h0]at f;exact f.symm.eq_nil
   exact .inl ⟨if_pos h0,if_pos g⟩
  .have g:gK (L.erase x) k≠[]:=λi=>h0 (by rw[i]at f;exact f.eq_nil)
   exact .inr ⟨_,_,if_neg h0,if_neg g,rQ f⟩
theorem fD.same{t r:Nat}(h:fD w t r m τ)(e:vF τ τ'):fD w t r m τ':=by
 obtain⟨n,D,f,a,g⟩:=h.own;refine⟨by rw[<-e.c,<-e.s];exact h.blk,⟨n,D,f,a,g.perm e.R⟩,by rw[<-e.c];exact h.lo,by rw[<-e.c];exact h.hi,by rw[<-e.R.length_eq];exact h.len⟩
theorem JH.back(e:JH G d)(h:d k=some τ'):∃τ,G k=some τ/\vF τ τ':=by
 rcases e k with⟨_,a⟩|⟨τ,τ2,c,a,f⟩
 .rw[a]at h;cases h
 .rw[a]at h;cases h;exact⟨τ,c,f⟩
theorem JH.on(e:JH G d)(h:G k=some τ):∃τ',d k=some τ'/\vF τ τ':=by
 rcases e k with⟨a,_⟩|⟨τ1,τ2,a,c,f⟩
 .rw[a]at h;cases h
 .rw[a]at h;cases h;exact⟨τ2,c,f⟩
theorem fe.same{j n:Nat}{o:Int->Nat×Nat}{D:DataW Value}(h:fe w b j o m G n D)(e:JH G d):fe w b j o m d n D:=by
 refine⟨h.le,h.own,⟨h.dat.isMap,λk c=>?_,λk τ c=>?_,λl p=>?_,λk τ c=>?_⟩,λk τ c=>?_,h.bmb,λk τ c=>?_,λk r τ τ' c i g=>?_⟩
 .rw[h.dat.has k c]
  rcases e k with⟨a,f⟩|⟨τ,τ2,a,f,_⟩ <;>rw[a,f] <;>rfl
 .obtain⟨τ1,a,_⟩:=e.back c;exact h.dat.at_ k τ1 a
 .obtain⟨k,τ,q,a⟩:=h.dat.keys l p;obtain⟨τ',f,_⟩:=e.on a;exact⟨k,τ',q,f⟩
 .obtain⟨τ1,a,_⟩:=e.back c;exact h.dat.wf k τ1 a
 .obtain⟨τ1,a,f⟩:=e.back c;exact(h.tals k τ1 a).same f
 .obtain⟨τ1,a,_⟩:=e.back c;exact h.nb k τ1 a
 .obtain⟨τ1,a,_⟩:=e.back c;obtain⟨τ2,f,_⟩:=e.back i;exact h.inj k r τ1 τ2 a f g
theorem lu.same{o:Nat}{S:Nat->Prop}(h:lu w b o m S G)(e:JH G d):lu w b o m S d:=by
 obtain⟨p,q,a,f,i⟩:=h;refine⟨p,q,⟨a.blk,?_⟩,λj l=>f j ?_,i⟩
 .rcases a.map with⟨rfl,rfl⟩|⟨c,n,D,rfl,g⟩
  .refine .inl ⟨rfl,?_⟩
   funext k
   rcases e k with⟨_,h⟩|⟨_,_,h,_⟩
   .exact h
   .cases h
  .exact .inr ⟨c,n,D,rfl,g.same e⟩
 .rcases l with h|h|⟨k,τ,hk,h⟩
  .exact .inl h
  .exact .inr (.inl h)
  .obtain⟨τ1,a,_⟩:=e.back hk;exact .inr (.inr ⟨k,τ1,a,h⟩)
theorem D8(b o m:Nat)(S:Nat->Prop)(L:List O)(w:World)(h:lu w b o m S (bK L))(x:O)(j:x.wf)(c:m<100000000):
  Calls Tryz.prog 108 #[.pointer (some ⟨b,o,none⟩),WW x false] w λe a=>e=.returned .nilIface/\lu a b o (m+1) (More S w a) (bK (x::L))/\kF S b o w a:=
 (Ia b o m S (bK L) w h x j c).mono λ_ _ ⟨g,f,i⟩=>⟨g,by rw[<-SC];exact f,i⟩
theorem Cq(b o m:Nat)(S:Nat->Prop)(L:List O)(w:World)(h:lu w b o m S (bK L))(x:O)(l:x.wf)(c:x∈L)(f:m<100000000):
  Calls Tryz.prog 108 #[.pointer (some ⟨b,o,none⟩),WW x true] w λe a=>e=.returned .nilIface/\lu a b o (m+1) (More S w a) (bK (L.erase x))/\kF S b o w a:=
 (EA b o m S (bK L) w h x l _ (JG c) (SE c) f).mono λ_ _ ⟨i,g,j⟩=>⟨i,g.same (OY c),j⟩
end Go.Proofs.YthfpipieboophaaGreatDoor
