import Derived.Test.YthfpipieboophaaGreatDoorSve
namespace Go.Proofs.YthfpipieboophaaGreatDoor
set_option maxRecDepth 100000
set_option maxHeartbeats 40000000
open Go.RowKit Go.Sort Go.Shelf
section
open Go.Proofs.Tryz Go.Joins
theorem MW(be bj k:Nat)(i d:Value)(f0 f1:Int)(c:Option Nat)(g:Nat->Prop)(x:J)(L j:List O)(w:World)(h:az w be bj k i d f0 f1 c g x L j)(hL:5000<L.length):
  Calls prog 18 #[.pointer (some ⟨be,0,none⟩)] w λe a=>e=.returned (.tuple #[.string ⟨#[]⟩,.iface 24 (.int .i64 4)])/\a=w:=by
 have f:Hid (Calls prog 57 #[.pointer (some ⟨be,6,none⟩)] w λe a=>e=.returned (.int .i64 L.length)/\a=w):=BI be 6 L.length c L w h.bag
 have i0:(5000:Int)<(L.length:Int):=by omega
 have hlt:=h.blt;clear h;go_enter func18,ntmps18
 go_wp2_with (first
  |(go_at_call 57;refine f.out.mono ?_;rintro e a ⟨rfl,b⟩;have b:=b.symm;subst b)
  |fail)
 exact CU (v:= .tuple #[.string ⟨#[]⟩,.iface 24 (.int .i64 4)]) (by simp[results,Tryz.results18,go_sem]) rfl ⟨rfl,rfl⟩
theorem A9(be bj bm:Nat)(v0 v1:Value)(f0 f1:Int)(om:Option Nat)(Sg:Nat->Prop)(x:J)(L Lg Z:List O)(w:World)(h:az w be bj bm v0 v1 f0 f1 om Sg x L Lg)(tab:Lib.TabIs prog w "internal/strconv.uint64pow10" .u64 Lib.pow10Tab)(h64:SL x)
  (hR0:x.R0.length<=300) (hR1:x.R1.length<=300) (hwf:∀o∈L,o.wf) (hZ:Z.Perm L) (hO:bJ Z):
  Calls prog 18 #[.pointer (some ⟨be,0,none⟩)] w λe w'=>e=.returned (if 5000<L.length∨60000<(bN x f0 f1 Z).length then .tuple #[.string ⟨#[]⟩,.iface 24 (.int .i64 4)]else .tuple #[.string ⟨(bN x f0 f1 Z).toArray⟩,.nilIface])/\Below w.heap.size w w':=by
 by_cases hL:5000<L.length
 .refine(MW be bj bm v0 v1 f0 f1 om Sg x L Lg w h hL).mono ?_;rintro e w' ⟨rfl,rfl⟩;exact⟨by rw[if_pos (Or.inl hL)],zI _ _⟩
 .refine(Jn be bj bm v0 v1 f0 f1 om Sg x L Lg w h tab h64 hR0 hR1 (by omega) hwf).mono ?_;rintro e w' ⟨Z',hp,ho,rfl,hb⟩;have e1:Z'=Z:=lY (hp.trans hZ.symm) ho hO;subst e1;refine⟨?_,hb⟩
  by_cases h6:60000<(bN x f0 f1 Z').length
  .rw[if_pos h6,if_pos (Or.inr h6)]
  .rw[if_neg h6,if_neg (by rintro(h7|h7);exact hL h7;exact h6 h7)]
theorem LB(g off n c:Nat)(k t v:Int)(w:World)(hg:g<w.heap.size)(hn:3<=n)(hn2:n<=1000)(h0:w.cell? ⟨g,off,none⟩=some (.int .i64 k))(h1:w.cell? ⟨g,off+1,none⟩=some (.int .i64 t))(h2:w.cell? ⟨g,off+2,none⟩=some (.int .i64 v)):
  Calls prog 165 #[.slice (some ⟨g,off,none⟩) n c] w λe a=>e=.returned (.agg #[.int .i64 k,.int .i64 t,.int .i64 v])/\Below w.heap.size w a:=by
 have i0:(0:Int)<(n:Int):=by omega
 have i1:(1:Int)<(n:Int):=by omega
 have i2:(2:Int)<(n:Int):=by omega
 go_enter func165,ntmps165;go_wp2
 go_region
 go_wp2;have b:=bQ (vw w (bu k t v));refine CU (v:= .agg #[.int .i64 k,.int .i64 t,.int .i64 v]) (by simp[results,Tryz.results165,go_sem,b]) rfl ⟨rfl,(wh w _).drew⟩
end
section
open Go.Joins
theorem zR(be bj z:Nat)(y v:Value)(f0 f1:Int)(m:Option Nat)(l:Nat->Prop)(x:J)(L:List O)(o:O)(w:World)(h:az w be bj z y v f0 f1 m l x L L)(t:o.wf)(hL:L.length<=100000)
  (M:au o.lk o.lt o.lv=true) (I:au o.rk o.rt o.rv=true) (P:o.hl=true->o.hr=true->o.lk=o.rk):
  Calls Tryz.prog 166 #[.pointer (some ⟨be,0,none⟩),vO o] w λe d=>e=.returned (.bool true)/\∃g f,az d be bj z y v f0 f1 g f x (o::L) (o::L)/\(∀k,g=some k->m=some k∨w.heap.size<=k)/\(∀k,f k->l k∨w.heap.size<=k)/\Turned (λk=>k=be∨m=some k∨l k) w d:=by
 have r:Hid (∀(a b c:Int) (W:World),au a b c=true->Below w.heap.size w W->W.heap[w.heap.size]?=some (kY o)->Calls Tryz.prog 96 #[.agg #[.int .i64 a,.int .i64 b,.int .i64 c]] W λe d=>e=.returned (.bool true)/\Hid (Below w.heap.size w d/\d.heap[w.heap.size]?=some (kY o))):=by
  intro a b c W E n q;have G:=iN a b c W;rw[E]at G;refine G.mono ?_;rintro e d ⟨rfl,N⟩;exact⟨rfl,n.trans (N.mono n.size),(N.block _ (aD.1 q).1).trans q⟩
 have i:Hid (∀W,Below w.heap.size w W->Calls Tryz.prog 47 #[.pointer (some ⟨be,0,none⟩),vC o false] W λe d=>e=.returned (.tuple #[])/\Hid (∃g f,az d be bj z y v f0 f1 g f x (o::L) (o::L)/\(∀k,g=some k->m=some k∨w.heap.size<=k)/\(∀k,f k->l k∨w.heap.size<=k)/\Turned (λk=>k=be∨m=some k∨l k) w d)):=by
  intro W n;refine(Oh be bj z y v f0 f1 m l x L ⟨o,false⟩ W (h.below n) t (λe=>by cases e) (by omega)).mono ?_;rintro e d ⟨rfl,g,f,U,X,Q,V⟩;have hs:=n.size;refine⟨rfl,g,f,U,λk e=>(X k e).imp id (λe=>by omega),λk e=>(Q k e).imp id (λe=>by omega),(Turned.of_below (S:=λk=>k=be∨m=some k∨l k) n).trans V (λ_ _ e=>e)⟩
 have A:Hid (Below w.heap.size w (w.alloc (kY o))/\(w.alloc (kY o)).heap[w.heap.size]?=some (kY o)):=⟨wh _ _,vw w (kY o)⟩;have hlt:=h.blt;have F:=jy A.out.2;have T:=hid M;have R:=hid I;have H:=hid P;clear h M I P t;simp only[vO];simp only[vC]at i;go_enter Tryz.func166,Tryz.ntmps166;go_wp2_with fail;refine(r.out _ _ _ _ T.out A.out.1 A.out.2).mono ?_;rintro e w1 ⟨rfl,C⟩;have B:=jy C.out.2;clear F;go_wp2_with fail;refine(r.out _ _ _ _ R.out C.out.1 C.out.2).mono ?_;rintro e w2 ⟨rfl,u⟩;have j:=jy u.out.2;clear B;cases hl:o.hl
 .rw[hl]at j i;go_wp2_with fail;refine(i.out _ u.out.1).mono ?_;rintro e K ⟨rfl,s⟩;go_wp2;go_ret;exact⟨rfl,s.out⟩
 .cases hr:o.hr
  .rw[hl,hr]at j i;go_wp2_with fail;refine(i.out _ u.out.1).mono ?_;rintro e K ⟨rfl,s⟩;go_wp2;go_ret;exact⟨rfl,s.out⟩
  .have p:=H.out hl hr;rw[hl,hr]at j i
   have hn:(o.lk !=o.rk)=false:=by rw[p];simp
   clear p H hl hr;go_wp2_with fail;refine(i.out _ u.out.1).mono ?_;rintro e K ⟨rfl,s⟩;go_wp2;go_ret;exact⟨rfl,s.out⟩
end
section
theorem zQ(be bj f:Nat)(l i:Value)(f0 f1:Int)(n:Option Nat)(m:Nat->Prop)(x:J)(L A:List O)(g off c:Nat)(a b d:Int)(w:World)(h:az w be bj f l i f0 f1 n m x L A)
  (T:0<=a/\a<=9223372036854775807) (U:0<=b/\b<=9223372036854775807) (hd:0<=d/\d<=9223372036854775807) (X:g<w.heap.size)
  (M:w.cell? ⟨g,off,none⟩=some (.int .i64 a)) (I:w.cell? ⟨g,off+1,none⟩=some (.int .i64 b)) (C:w.cell? ⟨g,off+2,none⟩=some (.int .i64 d)) (B:g≠be) (F:g≠bj):
  Calls Tryz.prog 162 #[.pointer (some ⟨be,0,none⟩),.slice (some ⟨g,off,none⟩) 3 c] w λe p=>e=.returned (.bool true)/\az p be bj f l i a b n m { x with late:=d} L A/\Turned (aT bj f l i n m) w p:=by
 have t:=Tryz.slices_Min_int g off 3 c [a,b,d] w (by omega) (by simp) (by omega) (by
  intro j Z
  match j,Z with
  |0,_=>exact M
  |1,_=>exact I
  |2,_=>exact C)
 have hm:0<=Lib.minOf (List.take 3 [a,b,d]):=by
  show 0<=min (min (min a a) b) d;omega
 have Q:max d 0=d:=by omega
 have r:Hid (az (((w.setCell ⟨be,4,none⟩ (.int .i64 a)).setCell ⟨be,5,none⟩ (.int .i64 b)).drew) be bj f l i a b n m x L A/\Turned (aT bj f l i n m) w (((w.setCell ⟨be,4,none⟩ (.int .i64 a)).setCell ⟨be,5,none⟩ (.int .i64 b)).drew)/\(((w.setCell ⟨be,4,none⟩ (.int .i64 a)).setCell ⟨be,5,none⟩ (.int .i64 b)).drew).heap[g]?=w.heap[g]?):=by
  have e1:=h.setf 4 a a f1 (.inl ⟨rfl,rfl,rfl⟩) T;have e2:=e1.setf 5 b a b (.inr ⟨rfl,rfl,rfl⟩) U
  have V:∀k,k=be->aT bj f l i n m k:=λk e=>.inr (.inr (by rw[e];exact h.inS))
  refine⟨e2.below ((zI _ _).drew),?_,?_⟩
  .exact(((Turned.of_below (S:=aT bj f l i n m) (zI _ w)).trans (bC (b:=be) (o:=4) (u:= .int .i64 a)) (λk _ e=>V k e)).trans (bC (b:=be) (o:=5) (u:= .int .i64 b)) (λk _ e=>V k e)).trans (Turned.of_below (S:=λ_=>False) ((zI _ _).drew)) (λ_ _ e=>e.elim)
  .exact(zw _ _ _ _ B).trans (zw _ _ _ _ B)
 have HJ:Hid (∀W s,az W be bj f l i a b n m x L A->Turned (aT bj f l i n m) w W->W.heap[g]?=w.heap[g]? ->Below W.heap.size W s->Calls Tryz.prog 241 #[.pointer (some ⟨bj,0,none⟩),.int .i64 d] s λe p=>e=.returned (.tuple #[])/\(p.cell? ⟨be,3,none⟩=some (.pointer (some ⟨bj,0,none⟩))/\p.cell? ⟨g,off+2,none⟩=some (.int .i64 d))/\Hid (az p be bj f l i a b n m { x with late:=d} L A/\Turned (aT bj f l i n m) w p)):=by
  intro W s hE P G q;have z:=hE.below q;refine(zP 0 bj f l i x d s z.join).mono ?_;rintro e p ⟨rfl,R,K⟩;rw[Q]at R;have N:Turned (eP bj f l i) s p:=K.mono (λk e=>.inl e);have v:=z.joined R ⟨rfl,rfl,rfl⟩ N (λk e=>.inl e);have y:g<W.heap.size:=fO X P.size;refine⟨rfl,⟨v.cells.2.2.2.1,?_⟩,v,(P.trans (Turned.of_below (S:=λ_=>False) q) (λ_ _ e=>e.elim)).trans N (λ_ _ e=>.inl e)⟩;exact(World.cell?_of_block (w:=w) (a:=⟨g,off+2,none⟩) (((K.block g (fO y q.size) F).trans (q.block g y)).trans G)).trans C
 have hlt:=h.blt;have H:=h.cells;clear h T U hd Q;go_enter Tryz.func162,Tryz.ntmps162;go_wp2_with fail;refine t.mono ?_;rintro e p ⟨rfl,E⟩;have E:=E.symm;subst E;clear t;generalize Lib.minOf (List.take 3 [a,b,d])=mm at *;go_wp2_with fail
 go_region
 revert r;generalize((w.setCell ⟨be,4,none⟩ (.int .i64 a)).setCell ⟨be,5,none⟩ (.int .i64 b)).drew=w1;intro r;have hc1:w1.cell? ⟨be,3,none⟩=some (.pointer (some ⟨bj,0,none⟩))/\w1.cell? ⟨g,off+2,none⟩=some (.int .i64 d):=⟨r.out.1.cells.2.2.2.1,(World.cell?_of_block (w:=w) (a:=⟨g,off+2,none⟩) r.out.2.2).trans C⟩;have hg1:g<w1.heap.size:=fO X r.out.2.1.size;have he1:be<w1.heap.size:=r.out.1.blt;have Y:Hid (Below w1.heap.size w1 w1.drew):=(zI _ _).drew;clear M I C H hm;go_wp2
 go_region_held3 (λW=>W.cell? ⟨be,3,none⟩=some (.pointer (some ⟨bj,0,none⟩))/\W.cell? ⟨g,off+2,none⟩=some (.int .i64 d)) (first|(go_keep;done)|fail) (first
  |(go_at_call 241;refine(HJ.out w1 _ r.out.1 r.out.2.1 r.out.2.2 Y.out).mono ?_;rintro e w2 ⟨rfl,hc2,h3⟩)
  |fail)
 go_wp2;go_ret;exact⟨rfl,h3.out⟩
end
end Go.Proofs.YthfpipieboophaaGreatDoor
