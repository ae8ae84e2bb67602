import Derived.Test.YthfpipieboophaaGreatDoorSve
namespace Go.Proofs.YthfpipieboophaaGreatDoor
set_option maxRecDepth 100000
set_option maxHeartbeats 40000000
open Go.RowKit Go.Sort Go.Shelf
section
open Go.Proofs.Tryz Go.Joins
theorem MW(be bj d:Nat)(k j:Value)(f0 f1:Int)(c:Option Nat)(i:Nat->Prop)(x:J)(L g:List O)(w:World)(h:az w be bj d k j f0 f1 c i x L g)(hL:5000<L.length):
  Calls prog 18 #[.pointer (some ⟨be,0,none⟩)] w λe a=>e=.returned (.tuple #[.string ⟨#[]⟩,.iface 24 (.int .i64 4)])/\a=w:=by
 have f:Hid (Calls prog 57 #[.pointer (some ⟨be,6,none⟩)] w λe a=>e=.returned (.int .i64 L.length)/\a=w):=BI be 6 L.length c L w h.bag
 have i0:(5000:Int)<(L.length:Int):=by omega
 have hlt:=h.blt;clear h;go_enter func18,ntmps18
 go_wp2_with (first
  |(go_at_call 57;refine f.out.mono ?_;rintro e a ⟨rfl,b⟩;have b:=b.symm;subst b)
  |fail)
 exact ja (v:= .tuple #[.string ⟨#[]⟩,.iface 24 (.int .i64 4)]) (by simp[results,Tryz.results18,go_sem]) rfl ⟨rfl,rfl⟩
theorem A9(be bj bm:Nat)(v0 v1:Value)(f0 f1:Int)(om:Option Nat)(Sg:Nat->Prop)(x:J)(L Lg Z:List O)(w:World)(h:az w be bj bm v0 v1 f0 f1 om Sg x L Lg)(tab:Lib.TabIs prog w "internal/strconv.uint64pow10" .u64 Lib.pow10Tab)(h64:SL x)
  (hR0:x.R0.length<=300) (hR1:x.R1.length<=300) (hwf:∀o∈L,o.wf) (hZ:Z.Perm L) (hO:bJ Z):
  Calls prog 18 #[.pointer (some ⟨be,0,none⟩)] w λe w'=>e=.returned (if 5000<L.length∨60000<(bN x f0 f1 Z).length then .tuple #[.string ⟨#[]⟩,.iface 24 (.int .i64 4)]else .tuple #[.string ⟨(bN x f0 f1 Z).toArray⟩,.nilIface])/\Below w.heap.size w w':=by
 by_cases hL:5000<L.length
 .refine(MW be bj bm v0 v1 f0 f1 om Sg x L Lg w h hL).mono ?_;rintro e w' ⟨rfl,rfl⟩;exact⟨by rw[if_pos (Or.inl hL)],iL _ _⟩
 .refine(Jn be bj bm v0 v1 f0 f1 om Sg x L Lg w h tab h64 hR0 hR1 (by omega) hwf).mono ?_;rintro e w' ⟨Z',hp,ho,rfl,hb⟩;have e1:Z'=Z:=lY (hp.trans hZ.symm) ho hO;subst e1;refine⟨?_,hb⟩
  by_cases h6:60000<(bN x f0 f1 Z').length
  .rw[if_pos h6,if_pos (Or.inr h6)]
  .rw[if_neg h6,if_neg (by rintro(h7|h7);exact hL h7;exact h6 h7)]
theorem LB(g off n c:Nat)(k t v:Int)(w:World)(hg:g<w.heap.size)(hn:3<=n)(hn2:n<=1000)(h0:w.cell? ⟨g,off,none⟩=some (.int .i64 k))(h1:w.cell? ⟨g,off+1,none⟩=some (.int .i64 t))(h2:w.cell? ⟨g,off+2,none⟩=some (.int .i64 v)):
  Calls prog 165 #[.slice (some ⟨g,off,none⟩) n c] w λe a=>e=.returned (.agg #[.int .i64 k,.int .i64 t,.int .i64 v])/\Below w.heap.size w a:=by
 have i0:(0:Int)<(n:Int):=by omega
 have i1:(1:Int)<(n:Int):=by omega
 have i2:(2:Int)<(n:Int):=by omega
 go_enter func165,ntmps165;go_wp2
 go_region
 go_wp2;have b:=bQ (eZ w (bu k t v));refine ja (v:= .agg #[.int .i64 k,.int .i64 t,.int .i64 v]) (by simp[results,Tryz.results165,go_sem,b]) rfl ⟨rfl,(fC w _).drew⟩
end
section
open Go.Joins
theorem zR(be bj v:Nat)(z u:Value)(f0 f1:Int)(l:Option Nat)(j:Nat->Prop)(x:J)(L:List O)(o:O)(w:World)(h:az w be bj v z u f0 f1 l j x L L)(q:o.wf)(hL:L.length<=100000)
  (N:au o.lk o.lt o.lv=true) (I:au o.rk o.rt o.rv=true) (K:o.hl=true->o.hr=true->o.lk=o.rk):
  Calls Tryz.prog 166 #[.pointer (some ⟨be,0,none⟩),vO o] w λe d=>e=.returned (.bool true)/\∃g m,az d be bj v z u f0 f1 g m x (o::L) (o::L)/\(∀k,g=some k->l=some k∨w.heap.size<=k)/\(∀k,m k->j k∨w.heap.size<=k)/\Turned (λk=>k=be∨l=some k∨j k) w d:=by
 have p:Hid (∀(a b c:Int) (W:World),au a b c=true->Below w.heap.size w W->W.heap[w.heap.size]?=some (kY o)->Calls Tryz.prog 96 #[.agg #[.int .i64 a,.int .i64 b,.int .i64 c]] W λe d=>e=.returned (.bool true)/\Hid (Below w.heap.size w d/\d.heap[w.heap.size]?=some (kY o))):=by
  intro a b c W A n s;have M:=iN a b c W;rw[A]at M;refine M.mono ?_;rintro e d ⟨rfl,H⟩;exact⟨rfl,n.trans (H.mono n.size),(H.block _ (ax.1 s).1).trans s⟩
 have i:Hid (∀W,Below w.heap.size w W->Calls Tryz.prog 47 #[.pointer (some ⟨be,0,none⟩),vC o false] W λe d=>e=.returned (.tuple #[])/\Hid (∃g m,az d be bj v z u f0 f1 g m x (o::L) (o::L)/\(∀k,g=some k->l=some k∨w.heap.size<=k)/\(∀k,m k->j k∨w.heap.size<=k)/\Turned (λk=>k=be∨l=some k∨j k) w d)):=by
  intro W n;refine(Oh be bj v z u f0 f1 l j x L ⟨o,false⟩ W (h.below n) q (λe=>by cases e) (by omega)).mono ?_;rintro e d ⟨rfl,g,m,Q,X,R,T⟩;have hs:=n.size;refine⟨rfl,g,m,Q,λk e=>(X k e).imp id (λe=>by omega),λk e=>(R k e).imp id (λe=>by omega),(Turned.of_below (S:=λk=>k=be∨l=some k∨j k) n).trans T (λ_ _ e=>e)⟩
 have C:Hid (Below w.heap.size w (w.alloc (kY o))/\(w.alloc (kY o)).heap[w.heap.size]?=some (kY o)):=⟨fC _ _,eZ w (kY o)⟩;have hlt:=h.blt;have F:=jy C.out.2;have V:=hid N;have U:=hid I;have P:=hid K;clear h N I K q;simp only[vO];simp only[vC]at i;go_enter Tryz.func166,Tryz.ntmps166;go_wp2_with fail;refine(p.out _ _ _ _ V.out C.out.1 C.out.2).mono ?_;rintro e w1 ⟨rfl,E⟩;have B:=jy E.out.2;clear F;go_wp2_with fail;refine(p.out _ _ _ _ U.out E.out.1 E.out.2).mono ?_;rintro e w2 ⟨rfl,y⟩;have f:=jy y.out.2;clear B;cases hl:o.hl
 .rw[hl]at f i;go_wp2_with fail;refine(i.out _ y.out.1).mono ?_;rintro e G ⟨rfl,t⟩;go_wp2;go_ret;exact⟨rfl,t.out⟩
 .cases hr:o.hr
  .rw[hl,hr]at f i;go_wp2_with fail;refine(i.out _ y.out.1).mono ?_;rintro e G ⟨rfl,t⟩;go_wp2;go_ret;exact⟨rfl,t.out⟩
  .have r:=P.out hl hr;rw[hl,hr]at f i
   have hn:(o.lk !=o.rk)=false:=by rw[r];simp
   clear r P hl hr;go_wp2_with fail;refine(i.out _ y.out.1).mono ?_;rintro e G ⟨rfl,t⟩;go_wp2;go_ret;exact⟨rfl,t.out⟩
end
section
theorem zQ(be bj i:Nat)(l f:Value)(f0 f1:Int)(n:Option Nat)(m:Nat->Prop)(x:J)(L v:List O)(g off c:Nat)(a b d:Int)(w:World)(h:az w be bj i l f f0 f1 n m x L v)
  (V:0<=a/\a<=9223372036854775807) (N:0<=b/\b<=9223372036854775807) (hd:0<=d/\d<=9223372036854775807) (P:g<w.heap.size)
  (K:w.cell? ⟨g,off,none⟩=some (.int .i64 a)) (R:w.cell? ⟨g,off+1,none⟩=some (.int .i64 b)) (C:w.cell? ⟨g,off+2,none⟩=some (.int .i64 d)) (s:g≠be) (H:g≠bj):
  Calls Tryz.prog 162 #[.pointer (some ⟨be,0,none⟩),.slice (some ⟨g,off,none⟩) 3 c] w λe p=>e=.returned (.bool true)/\az p be bj i l f a b n m { x with late:=d} L v/\Turned (aT bj i l f n m) w p:=by
 have y:=Tryz.slices_Min_int g off 3 c [a,b,d] w (by omega) (by simp) (by omega) (by
  intro j hj
  match j,hj with
  |0,_=>exact K
  |1,_=>exact R
  |2,_=>exact C)
 have hm:0<=Lib.minOf (List.take 3 [a,b,d]):=by
  show 0<=min (min (min a a) b) d;omega
 have U:max d 0=d:=by omega
 have q:Hid (az (((w.setCell ⟨be,4,none⟩ (.int .i64 a)).setCell ⟨be,5,none⟩ (.int .i64 b)).drew) be bj i l f a b n m x L v/\Turned (aT bj i l f n m) w (((w.setCell ⟨be,4,none⟩ (.int .i64 a)).setCell ⟨be,5,none⟩ (.int .i64 b)).drew)/\(((w.setCell ⟨be,4,none⟩ (.int .i64 a)).setCell ⟨be,5,none⟩ (.int .i64 b)).drew).heap[g]?=w.heap[g]?):=by
  have e1:=h.setf 4 a a f1 (.inl ⟨rfl,rfl,rfl⟩) V;have Z:=e1.setf 5 b a b (.inr ⟨rfl,rfl,rfl⟩) N
  have X:∀k,k=be->aT bj i l f n m k:=λk e=>.inr (.inr (by rw[e];exact h.inS))
  refine⟨Z.below ((iL _ _).drew),?_,?_⟩
  .exact(((Turned.of_below (S:=aT bj i l f n m) (iL _ w)).trans (bC (b:=be) (o:=4) (u:= .int .i64 a)) (λk _ e=>X k e)).trans (bC (b:=be) (o:=5) (u:= .int .i64 b)) (λk _ e=>X k e)).trans (Turned.of_below (S:=λ_=>False) ((iL _ _).drew)) (λ_ _ e=>e.elim)
  .exact(iJ _ _ _ _ s).trans (iJ _ _ _ _ s)
 have Y:Hid (∀W B,az W be bj i l f a b n m x L v->Turned (aT bj i l f n m) w W->W.heap[g]?=w.heap[g]? ->Below W.heap.size W B->Calls Tryz.prog 241 #[.pointer (some ⟨bj,0,none⟩),.int .i64 d] B λe p=>e=.returned (.tuple #[])/\(p.cell? ⟨be,3,none⟩=some (.pointer (some ⟨bj,0,none⟩))/\p.cell? ⟨g,off+2,none⟩=some (.int .i64 d))/\Hid (az p be bj i l f a b n m { x with late:=d} L v/\Turned (aT bj i l f n m) w p)):=by
  intro W B hE Q F r;have t:=hE.below r;refine(zP 0 bj i l f x d B t.join).mono ?_;rintro e p ⟨rfl,I,T⟩;rw[U]at I;have M:Turned (eP bj i l f) B p:=T.mono (λk e=>.inl e);have z:=t.joined I ⟨rfl,rfl,rfl⟩ M (λk e=>.inl e);have A:g<W.heap.size:=aR P Q.size;refine⟨rfl,⟨z.cells.2.2.2.1,?_⟩,z,(Q.trans (Turned.of_below (S:=λ_=>False) r) (λ_ _ e=>e.elim)).trans M (λ_ _ e=>.inl e)⟩;exact(World.cell?_of_block (w:=w) (a:=⟨g,off+2,none⟩) (((T.block g (aR A r.size) H).trans (r.block g A)).trans F)).trans C
 have hlt:=h.blt;have E:=h.cells;clear h V N hd U;go_enter Tryz.func162,Tryz.ntmps162;go_wp2_with fail;refine y.mono ?_;rintro e p ⟨rfl,G⟩;have G:=G.symm;subst G;clear y;generalize Lib.minOf (List.take 3 [a,b,d])=mm at *;go_wp2_with fail
 go_region
 revert q;generalize((w.setCell ⟨be,4,none⟩ (.int .i64 a)).setCell ⟨be,5,none⟩ (.int .i64 b)).drew=w1;intro q;have hc1:w1.cell? ⟨be,3,none⟩=some (.pointer (some ⟨bj,0,none⟩))/\w1.cell? ⟨g,off+2,none⟩=some (.int .i64 d):=⟨q.out.1.cells.2.2.2.1,(World.cell?_of_block (w:=w) (a:=⟨g,off+2,none⟩) q.out.2.2).trans C⟩;have hg1:g<w1.heap.size:=aR P q.out.2.1.size;have he1:be<w1.heap.size:=q.out.1.blt;have B1:Hid (Below w1.heap.size w1 w1.drew):=(iL _ _).drew;clear K R C E hm;go_wp2
 go_region_held3 (λW=>W.cell? ⟨be,3,none⟩=some (.pointer (some ⟨bj,0,none⟩))/\W.cell? ⟨g,off+2,none⟩=some (.int .i64 d)) (first|(go_keep;done)|fail) (first
  |(go_at_call 241;refine(Y.out w1 _ q.out.1 q.out.2.1 q.out.2.2 B1.out).mono ?_;rintro e w2 ⟨rfl,hc2,h3⟩)
  |fail)
 go_wp2;go_ret;exact⟨rfl,h3.out⟩
end
end Go.Proofs.YthfpipieboophaaGreatDoor
