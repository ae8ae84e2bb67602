import Derived.Test.YthfpipieboophaaGreatDoorZGru
import Derived.Test.YthfpipieboophaaGreatDoorZShelfP
namespace Go.Proofs.YthfpipieboophaaGreatDoor
set_option maxRecDepth 100000
set_option maxHeartbeats 40000000
open Go.RowKit Go.Sort
section
open Go.Proofs.Tryz Go.Maps Go.Shelf
def vOf(k:Int):Option Tl->Value
 |none=>.tuple #[.agg #[.int .i64 0,.int .i64 0,.int .i64 0,.int .i64 0,.int .i64 0,.bool false],.iface 24 (.int .i64 8)]
 |some τ=>.tuple #[vG k τ,.nilIface]
theorem OT{D:DataW Value}{l:Int->Nat×Nat}{G:Int->Option Tl}{w:World}{v n:Nat}(hd:wB D l G)(d:w.ownsMap prog 3 gR v n D):
  (intKeys D).Nodup/\∀k,k∈intKeys D↔(G k).isSome=true:=by
 obtain⟨m,rfl,r,u⟩:=d.entries fJ
 have b:∀p∈m,∃k τ,p.1=gi k/\G k=some τ:=λp a=>by
  obtain⟨k,τ,e,h⟩:=hd.keys p.1 (List.any_eq_true.2 ⟨p,a,WideAt.sameKey_self (u p a)⟩);exact⟨k,τ,e,h⟩
 refine⟨?_,λk=>?_⟩
 .unfold intKeys;rw[List.Nodup,List.pairwise_map];refine List.Pairwise.imp_of_mem ?_ r;intro p q c o f e;obtain⟨g,_,i,_⟩:=b p c;obtain⟨s,_,t,_⟩:=b q o;rw[i,t]at e f;exact f (by rw[show g=s from e])
 .unfold intKeys;rw[List.mem_map]
  constructor
  .rintro⟨p,a,e⟩;obtain⟨g,τ,i,c⟩:=b p a;rw[i]at e;rw[<-show g=k from e,c];rfl
  .intro h;obtain⟨τ,j⟩:=qC.1 h;have c:=hd.has k (hd.wf k τ j);rw[j]at c;obtain⟨p,a,e⟩:=List.any_eq_true.1 c;refine⟨p,a,?_⟩;rw[WideAt.sameKey_eq e];rfl
theorem Tryz.sortsG(m:Nat):AnyZI.SortsIn prog Tryz.sortedG_ren Fence.wide m:=
 ⟨λblk off cap ss W c a b=>Dx.2 (AnyM.slices_Sort_int Tryz.sortG blk off cap ss W c a b),
 λp cap W=>Dx.2 (AnyM.slices_Sort_int_none Tryz.sortG p cap W)⟩
theorem OU(a:Option Nat)(W:World):Calls prog 129 #[.map a] W λe b=>e=.returned (.func (.func 211) #[] #[.pointer (some ⟨W.heap.size,0,none⟩)])/\b=W.alloc (.cells #[.map a] 104):=
 (Dx (n:=5)).1 (AnyZI.keys_in Tryz.keysG Fence.wide 5 trivial rfl a W)
theorem EB(g b o m:Nat)(F:Option Nat)(L:Int->Nat×Nat)(G:Int->Option Tl)(W:World)(h:CB W b o F L m G)(hm:m<=100000000)(p:g<W.heap.size)(H:W.cell? ⟨g,0,none⟩=some (.map F)):
  Calls prog 128 #[.func (.func 211) #[] #[.pointer (some ⟨g,0,none⟩)]] W λe C=>∃(v:Value) (ks:List Int),e=.returned v/\ks.Pairwise (λx y=>x<y)/\(∀k,k∈ks↔(G k).isSome=true)/\ks.length<=m/\C.ownsRow W.heap.size 3 1 v ks.length (ks.map encZ)/\Below W.heap.size W C:=by
 rcases h.map with⟨rfl,rfl⟩|⟨M,n,D,rfl,l⟩
 .have d:SeqGives Fence.wide 2 prog 211 #[.pointer (some ⟨g,0,none⟩)] encZ (λss:List Int=>ss=[]) 0 W:=
   AnyZI.keys_gives_nil (ρ:=Tryz.keysG_ren) { Tryz.keysG with} Fence.wide _ trivial rfl g W p H
  have s:=AnyZI.sorted_in Tryz.sortedG Fence.wide 5 trivial trivial trivial trivial rfl (by omega) (Tryz.sortsG _) (enters_of func131 (by kernel_rfl) rfl) 211 #[.pointer (some ⟨g,0,none⟩)] trivial (enters_of func211 (by kernel_rfl) rfl) _ 0 (gy _) (by omega) W d;refine((Dx (n:=5)).1 s).mono ?_;rintro e E ⟨v,ss,rfl,rfl,f,q,A⟩;exact⟨v,[],rfl,List.Pairwise.nil,λk=>by simp,by simp,by have u:E.ownsRow W.heap.size 3 1 v 0 (([].mergeSort (λx y=>decide (x<=y))).map encZ):=f;simpa using u,A⟩
 .have z:=l.own.size_le;have hnm:=l.le
  have d:SeqGives Fence.wide 2 prog 211 #[.pointer (some ⟨g,0,none⟩)] encZ (λss=>ss.Perm (intKeys D)) (Maps.size D) W:=
   AnyZI.keys_gives (ρ:=Tryz.keysG_ren) { Tryz.keysG with} Fence.wide _ trivial rfl (by omega) g M n D W p H l.own
  have s:=AnyZI.sorted_in Tryz.sortedG Fence.wide 5 trivial trivial trivial trivial rfl (by omega) (Tryz.sortsG _) (enters_of func131 (by kernel_rfl) rfl) 211 #[.pointer (some ⟨g,0,none⟩)] trivial (enters_of func211 (by kernel_rfl) rfl) _ (Maps.size D) (by unfold maxLen;omega) (by omega) W d;refine((Dx (n:=5)).1 s).mono ?_;rintro e E ⟨v,ss,rfl,w,f,q,A⟩;obtain⟨t,r⟩:=OT l.dat l.own;have j:(ss.mergeSort (λx y=>decide (x<=y))).Perm ss:=List.mergeSort_perm ss _;have B:(ss.mergeSort (λx y=>decide (x<=y))).Pairwise (λx y=>decide (x<=y)=true):=List.pairwise_mergeSort (λa b c I u=>by simp at *;omega) (λa b=>by simp;omega) ss;have K:(ss.mergeSort (λx y=>decide (x<=y))).Nodup:=(j.trans w).nodup_iff.2 t;have i:(ss.mergeSort (λx y=>decide (x<=y))).length=ss.length:=j.length_eq
  have hsz:(intKeys D).length<=n:=by
   obtain⟨es,rfl,_,_⟩:=l.own.entries fJ;simpa[intKeys,Maps.size]using z
  refine⟨v,_,rfl,?_,λk=>by rw[(j.trans w).mem_iff];exact r k,by rw[i,w.length_eq];omega,by rw[i];exact f,A⟩
  refine(B.and K).imp λ{x y} h=>?_
  have I:x<=y:=by simpa using h.1
  have u:x≠y:=h.2;omega
end
section
open Go.Proofs.Tryz Go.Joins Go.Maps Go.Shelf
variable{w W:World}{base n a d:Nat}{v:Value}{ks:List Int}{G:Int->Option Tl}
def fZ(k:Int)(τ:Tl):List Value:=[.int .i64 k,.int .i64 τ.c,.int .i64 τ.s,.int .i64 (lo τ.R),.int .i64 (hi τ.R),.bool (some? τ.R)]
def gE(G:Int->Option Tl)(k:Int):List Value:=fZ k ((G k).getD τ0)
def zG:Value:= .agg #[.int .i64 0,.int .i64 0,.int .i64 0,.int .i64 0,.int .i64 0,.bool false]
theorem OD:(prog.info? 140).map (λi=>(i.zero,i.size,i.bytes))=some (some zG,6,48):=by kernel_rfl
theorem yo(k:Int)(τ:Tl):∀u∈fZ k τ,u.oneCell'=true:=by
 intro u b;simp[fZ]at b;rcases b with rfl|rfl|rfl|rfl|rfl|rfl <;>rfl
theorem dA{c:World}{e:TypeId}{size:Nat}{xs:List Value}(h:w.ownsRow base e size v n xs)(b:Below w.heap.size w c):c.ownsRow base e size v n xs:=
 h.kept (row:=none) ⟨b.os,b.tape,b.output,b.size,λk f _=>b.block k f⟩ (by cases h':v.ownBlock with|none=>exact .inl rfl|some g=>exact .inr (by simp))
theorem JV(g o:Nat):(⟨g,0,none⟩:Addr).add o=⟨g,o,none⟩:=by
 unfold Addr.add;split
 .rename_i h;rw[h]
 .simp
theorem Cy(h:W.ownsRow base 3 1 (.slice (some ⟨a,0,none⟩) n d) n (ks.map encZ))(k:Nat)(x:Int)(b:ks[k]?=some x):W.cell? ⟨a,k,none⟩=some (.int .i64 x):=by
 have:=h.cells (g:=a) rfl k (encZ x) (by simp[b]);simpa[JV,encZ]using this
theorem OV{b o m:Nat}{e:Option Nat}{f:Int->Nat×Nat}(h:CB w b o e f m G):∃N:Nat,N<=m/\(Builtin.len_ #[104] 3 #[.map e]).run prog w=.ok (.int .i64 N) w:=by
 rcases h.map with⟨rfl,rfl⟩|⟨bm,n,D,rfl,c⟩
 .exact⟨0,gy _,by kernel_rfl⟩
 .exact⟨Maps.size D,di c.own.size_le c.le,c.own.len underlying104 3⟩
structure Ga(w:World)(a d:Nat)(ks:List Int)(G:Int->Option Tl)(k:Nat)(v:Value)(W:World):Prop where
 below:Below w.heap.size w W
 row:W.ownsRow w.heap.size 140 6 v k ((ks.take k).flatMap (gE G))
 keys:W.ownsRow w.heap.size 3 1 (.slice (some ⟨a,0,none⟩) ks.length d) ks.length (ks.map encZ)
 ne:v.ownBlock≠some a
theorem Ga.step{w5 w6:World}{k:Nat}{v':Value}{o:Obj}(h:Ga w a d ks G k v W)(l:Below W.heap.size W w5){x:Int}(r:ks[k]?=some x)
  (b:w6.ownsRow w.heap.size 140 6 v' (k+1) ((ks.take k).flatMap (gE G)++gE G x)) (p:(w5.alloc o).grownBy w6 v.ownBlock) (c:v'.ownBlock=v.ownBlock∨v'.ownBlock=some (w5.alloc o).heap.size):Ga w a d ks G (k+1) v' w6:=by
 have q:=h.below.size;have hs5:=l.size
 have hgs:a<W.heap.size:=by
  rcases h.keys.2 with⟨f,_⟩|⟨g,cap,cur,f,_,s,_⟩
  .cases f
  .cases f;exact(aD.1 s).1
 have m:w5.ownsRow w.heap.size 3 1 (.slice (some ⟨a,0,none⟩) ks.length d) ks.length (ks.map encZ):=dA h.keys l;have i:Below w.heap.size w w5:=h.below.trans (l.mono q);refine⟨(i.alloc (by omega) o).grown p (by simp;omega) (λj e=>?_),?_,(m.alloc o).kept p (.inr (by simpa[Value.ownBlock]using λe=>h.ne e.symm)),?_⟩
 .rcases h.row.2 with⟨rfl,_⟩|⟨g,cap,cur,rfl,f,_⟩
  .simp[Value.ownBlock]at e
  .simp[Value.ownBlock]at e;omega
 .rw[List.take_add_one,r,List.flatMap_append];simpa using b
 .rcases c with e|e
  .rw[e];exact h.ne
  .rw[e];simp;omega
theorem Og(b o m:Nat)(S:Nat->Prop)(G:Int->Option Tl)(w:World)(h:lu w b o m S G)(hm:m<=1000000):
  Calls prog 72 #[.pointer (some ⟨b,o,none⟩)] w λe V=>∃(v:Value) (ks:List Int),e=.returned v/\ks.Pairwise (λx y=>x<y)/\(∀k,k∈ks↔(G k).isSome=true)/\ks.length<=m/\V.ownsRow w.heap.size 140 6 v ks.length (ks.flatMap (gE G))/\Below w.heap.size w V:=by
 obtain⟨i0,M,P,R,T⟩:=Dw OD;obtain⟨Q,X,U,hS,C⟩:=h;have hc:=U.cell;have hblt:=U.blt;obtain⟨N,hN,hlen⟩:=OV U;have HG:=hid U;clear U hS C;go_enter func72,ntmps72
 go_wp2_with (first
  |(refine wpList_make_own _ rfl _ _ 74 rfl w.heap.size 140 i0 zG 6 underlying74 M P R .i64 .i64 _ N rfl rfl rfl (by rw[T];omega) (by unfold maxLen;omega) (aO _) ?_;intro Y xB K;have p:Below w.heap.size w Y:=(zI _ w).grown K (aO _) (λk e=>by cases e);have hc1:=(HG.out.below p).cell)
  |(go_at_call 129;refine(OU Q _).mono ?_;rintro e w2 ⟨rfl,rfl⟩)
  |fail)
 have A:Below w.heap.size w (Y.alloc (.cells #[.map Q] 104)):=p.alloc p.size _;have j:=xB.alloc (.cells #[.map Q] 104);have hz1':=p.size
 have hgw1:w.heap.size<Y.heap.size:=by
  rcases xB.2 with⟨E,_⟩|⟨g,cap,cur,E,_,h4,_⟩
  .cases E
  .cases E;exact(aD.1 h4).1
 refine(EB Y.heap.size b o m Q X G _ (HG.out.below A) (by omega) (by simp) (by simp)).mono ?_;rintro e Z ⟨v,ks,rfl,Gp,f,L,l,u⟩;have Dn:Below w.heap.size w Z:=A.trans (u.mono (by simp;omega));have c:Z.ownsRow w.heap.size 140 6 (.slice (some ⟨w.heap.size,0,none⟩) 0 N) 0 []:=dA j u;have F:Hid (ks.Pairwise (λx y=>x<y)/\(∀k,k∈ks↔(G k).isSome=true)/\ks.length<=m):=⟨Gp,f,L⟩
 rcases ownsRow_forms l with⟨rfl,h0⟩|⟨a,d,rfl⟩
 .have hx0:ks=[]:=nD h0;subst hx0;clear l Gp f;go_wp2;refine wp_loop_rounds 1 ?_;rw[rounds_succ];go_wp2;go_ret;exact⟨_,[],rfl,F.out.1,F.out.2.1,F.out.2.2,c,Dn⟩
 .have hgs:w.heap.size<a:=by
   rcases l.2 with⟨E,_⟩|⟨g,cap,cur,E,h5,h4,_⟩
   .cases E
   .cases E;simp at h5;omega
  have Nq:Z.ownsRow w.heap.size 3 1 (.slice (some ⟨a,0,none⟩) ks.length d) ks.length (ks.map encZ):=ownsRow_le l (by simp;omega);have HA:Hid (Ga w a d ks G 0 (.slice (some ⟨w.heap.size,0,none⟩) 0 N) Z):=⟨Dn,c,Nq,by simp[Value.ownBlock];omega⟩
  have hkm:ks.length<=1000000:=by omega
  clear l Gp f xB j K p A u hc1 Nq c Dn L;go_wp2
  go_loopg [3,19] ks.length (λg v i wr=>∃k:Nat,k<=ks.length/\g=ks.length -k/\i=.int .i64 k/\Hid (Ga w a d ks G k v wr))
  case atStart=>
   exact⟨0,gy _,rfl,rfl,HA.out⟩
  case round=>
   obtain⟨k,hk,xC,rfl,HR⟩:=hrel;have HGk:=hid xC;clear xC
   by_cases C:k<ks.length
   .obtain⟨x,hx⟩:∃x,ks[k]?=some x:=⟨_,dK C⟩;have q:=HR.out;have hq:=Cy q.keys k x hx;have I:(G x).isSome=true:=(F.out.2.1 x).1 (mh hx);obtain⟨τ,H⟩:=qC.1 I;have z:=HG.out.below q.below
    obtain⟨bm,n,D,hom,hM⟩:∃bm n D,Q=some bm/\fe wr b bm X m G n D:=by
     rcases z.map with⟨_,rfl⟩|h
     .cases H
     .exact h
    have hlk:=hM.look1 rfl (hM.dat.wf x τ H) H;rw[<-hom]at hlk;have hcb:=z.cell;have hgr:Hid (Calls prog 130 #[tp (X x).1,.int .i64 x] wr λe V=>e=.returned (vG x τ)/\Below wr.heap.size wr V):=Lf _ _ m τ wr (hM.tals x τ H) x;have RH:=q.below.size;have hbr:=q.below;have XR:=q.row
    have HE:Hid (gE G x=fZ x τ):=by show gE G x=fZ x τ;unfold gE;rw[H];rfl
    have h1:(0:Int)<=(k:Int):=by omega
    have h2:(k:Int)<(ks.length:Int):=by omega
    clear hM z q I H hom;generalize(X x).1=t at *
    go_wp2_with (first
     |(go_at_call 130;refine Calls.mono (Hid.out hgr) ?_;rintro e w5 ⟨rfl,s⟩;simp only[vG])
     |(at_builtin;refine wpList_append_own_at _ rfl _ _ 74 rfl w.heap.size 140 i0 zG 6 48 underlying74 M P R T rfl (by decide) _ _ _ rfl ((dA XR s).alloc _) ⟨w5.heap.size,0,none⟩ 1 1 (fZ x τ) rfl rfl (World.news_of_block (World.alloc_heap_new w5 _)) (yo x τ) (by unfold maxLen;omega) (by omega) (by have:=s.size;simp;omega) ?_;intro v' w6 B Gq _ qa)
     |fail)
    go_roundg (ks.length -(k+1))
    case measure=>have:=HGk.out;omega
    case rel=>exact⟨k+1,by omega,rfl,by go_num,HR.out.step s hx (by rw[HE.out];exact B) Gq qa⟩
   .have e1:k=ks.length:=by omega
    have hge:¬((k:Int)<(ks.length:Int)):=by omega
    go_wp2;go_ret;have q:=HR.out;have r:=q.row;rw[e1,List.take_length]at r;exact⟨_,rfl,ks,F.out.1,F.out.2.1,F.out.2.2,r,q.below⟩
end
section
variable{τ τ':Tl}{b m:Nat}{M L f:List O}{x:O}{k:Int}{w:World}{G d:Int->Option Tl}
def bD:List O->Tl
 |[]=>τ0
 |x::M=>bE (bD M) x
def gK(L:List O)(k:Int):List O:=L.filter λo=>o.k==k
def bK(L:List O)(k:Int):Option Tl:=if gK L k=[]then none else some (bD (gK L k))
structure vF(τ τ':Tl):Prop where
 c:τ.c=τ'.c
 s:τ.s=τ'.s
 R:τ.R.Perm τ'.R
theorem vF.refl(τ:Tl):vF τ τ:=⟨rfl,rfl,List.Perm.refl _⟩
theorem vF.symm(h:vF τ τ'):vF τ' τ:=⟨h.c.symm,h.s.symm,h.R.symm⟩
theorem vF.trans{a b c:Tl}(h:vF a b)(k:vF b c):vF a c:=⟨h.c.trans k.c,h.s.trans k.s,h.R.trans k.R⟩
theorem vF.put(h:vF τ τ')(x:O):vF (bE τ x) (bE τ' x):=by
 refine⟨by simp[bE,h.c],by simp[bE,h.s],?_⟩
 cases hr:x.hr <;>simp[bE,hr,h.R]
theorem vF.take(h:vF τ τ')(x:O):vF (gP τ x) (gP τ' x):=by
 refine⟨by simp[gP,h.c],by simp[gP,h.s],?_⟩;cases hr:x.hr
 .simpa[gP,hr]using h.R
 .simpa[gP,hr]using h.R.erase x.rv
theorem Lh(n:Int):wrap64 (wrap64 n)=wrap64 n:=by unfold wrap64;omega
theorem NT(M:List O):wrap64 (bD M).s=(bD M).s:=by
 induction M with
 |nil=>show wrap64 0=0;unfold wrap64;omega
 |cons x M ih=>
  show wrap64 (bE (bD M) x).s=(bE (bD M) x).s;cases hl:x.hl
  .simpa[bE,hl]using ih
  .simp[bE,hl,Lh]
theorem OW(τ:Tl)(x y:O):vF (bE (bE τ x) y) (bE (bE τ y) x):=by
 refine⟨by simp[bE],?_,?_⟩
 .cases hx:x.hl <;>cases hy:y.hl <;>simp[bE,hx,hy]
  unfold wrap64;omega
 .cases hx:x.hr <;>cases hy:y.hr <;>simp[bE,hx,hy]
  exact List.Perm.swap _ _ _
theorem rQ{a:List O}(h:M.Perm a):vF (bD M) (bD a):=by
 induction h with
 |nil=>exact vF.refl _
 |cons x _ ih=>exact ih.put x
 |swap x y l=>exact OW _ _ _
 |trans _ _ h1 h2=>exact h1.trans h2
theorem OX(M:List O)(x:O):vF (gP (bE (bD M) x) x) (bD M):=by
 refine⟨by simp[bE,gP],?_,?_⟩
 .cases hl:x.hl
  .simp[bE,gP,hl]
  .have:=NT M;simp only[bE,gP,hl,if_true];unfold wrap64 at *;omega
 .cases hr:x.hr <;>simp[bE,gP,hr]
theorem jZ(M:List O):(bD M).c=M.length:=by
 induction M with
 |nil=>rfl
 |cons x M ih=>show(bD M).c+1=_;rw[ih];rfl
theorem Li(h:x∈M)(a:x.hr=true):x.rv∈(bD M).R:=by
 induction M with
 |nil=>cases h
 |cons y M ih=>
  show x.rv∈(bE (bD M) y).R
  rcases qh.1 h with rfl|h
  .simp[bE,a]
  .have:=ih h;cases hy:y.hr
   .simpa[bE,hy]using this
   .simp[bE,hy,this]
theorem yl(x:O)(L:List O):gK (x::L) x.k=x::gK L x.k:=by simp[gK]
theorem uf(x:O)(L:List O)(h:k≠x.k):gK (x::L) k=gK L k:=by simp[gK,Ne.symm h]
theorem ym(h:L.Perm f)(k:Int):(gK L k).Perm (gK f k):=h.filter _
theorem Cv:x∈gK L x.k↔x∈L:=by simp[gK]
def JH(G d:Int->Option Tl):Prop:=∀k,(G k=none/\d k=none)∨∃τ τ',G k=some τ/\d k=some τ'/\vF τ τ'
theorem JH.refl(G:Int->Option Tl):JH G G:=λk=>by
 cases h:G k with
 |none=>exact .inl ⟨rfl,rfl⟩
 |some τ=>exact .inr ⟨τ,τ,rfl,rfl,vF.refl τ⟩
theorem Co:bK []=λ_=>none:=by funext k;simp[bK,gK]
theorem SC(L:List O)(x:O):yz (bK L) x=bK (x::L):=by
 funext k
 by_cases e:k=x.k
 .subst e
  have a:bK (x::L) x.k=some (bE (bD (gK L x.k)) x):=by
   unfold bK;rw[yl];exact if_neg (by simp)
  have c:(bK L x.k).getD τ0=bD (gK L x.k):=by
   unfold bK
   by_cases h:gK L x.k=[]
   .rw[if_pos h,h];rfl
   .rw[if_neg h];rfl
  unfold yz;rw[dL,a,c]
 .unfold yz;rw[aJ _ _ e];unfold bK;rw[uf x L e]
theorem Eo(h:L.Perm f):JH (bK L) (bK f):=λk=>by
 have a:=ym h k;unfold bK
 by_cases e:gK L k=[]
 .have c:gK f k=[]:=by rw[e]at a;exact a.symm.eq_nil
  exact .inl ⟨if_pos e,if_pos c⟩
 .have c:gK f k≠[]:=λg=>e (by rw[g]at a;exact a.eq_nil)
  exact .inr ⟨_,_,if_neg e,if_neg c,rQ a⟩
theorem JG(h:x∈L):bK L x.k=some (bD (gK L x.k)):=by
 unfold bK;rw[if_neg (List.ne_nil_of_mem (Cv.2 h))]
theorem SE(h:x∈L):OQ x (bD (gK L x.k)):=λa=>Li (Cv.2 h) a
theorem OY(h:x∈L):JH (qi (bK L) x (bD (gK L x.k))) (bK (L.erase x)):=λk=>by
 have g:=ym (List.perm_cons_erase h) k
 by_cases e:k=x.k
 .subst e;rw[yl]at g;unfold qi;rw[dL];have a:=g.length_eq;simp only[List.length_cons]at a
  by_cases h1:(bD (gK L x.k)).c=1
  .rw[if_pos h1];rw[jZ]at h1;refine .inl ⟨rfl,?_⟩;unfold bK;rw[if_pos (nD (by omega))]
  .rw[if_neg h1];rw[jZ]at h1;refine .inr ⟨_,bD (gK (L.erase x) x.k),rfl,?_,?_⟩
   .unfold bK;rw[if_neg (λe=>by rw[e]at a;simp at a;omega)]
   .exact((rQ g).take x).trans (OX _ x)
 .rw[uf x _ e]at g;unfold qi;rw[aJ _ _ e];unfold bK
  by_cases h0:gK L k=[]
  .have i:gK (L.erase x) k=[]:=by rw[h0]at g;exact g.symm.eq_nil
   exact .inl ⟨if_pos h0,if_pos i⟩
  .have i:gK (L.erase x) k≠[]:=λj=>h0 (by rw[j]at g;exact g.eq_nil)
   exact .inr ⟨_,_,if_neg h0,if_neg i,rQ g⟩
theorem fD.same{t r:Nat}(h:fD w t r m τ)(e:vF τ τ'):fD w t r m τ':=by
 obtain⟨n,D,i,a,g⟩:=h.own;refine⟨by rw[<-e.c,<-e.s];exact h.blk,⟨n,D,i,a,g.perm e.R⟩,by rw[<-e.c];exact h.lo,by rw[<-e.c];exact h.hi,by rw[<-e.R.length_eq];exact h.len⟩
theorem JH.back(e:JH G d)(h:d k=some τ'):∃τ,G k=some τ/\vF τ τ':=by
 rcases e k with⟨_,a⟩|⟨τ,τ2,g,a,c⟩
 .rw[a]at h;cases h
 .rw[a]at h;cases h;exact⟨τ,g,c⟩
theorem JH.on(e:JH G d)(h:G k=some τ):∃τ',d k=some τ'/\vF τ τ':=by
 rcases e k with⟨a,_⟩|⟨τ1,τ2,a,c,g⟩
 .rw[a]at h;cases h
 .rw[a]at h;cases h;exact⟨τ2,c,g⟩
theorem fe.same{p n:Nat}{o:Int->Nat×Nat}{D:DataW Value}(h:fe w b p o m G n D)(e:JH G d):fe w b p o m d n D:=by
 refine⟨h.le,h.own,⟨h.dat.isMap,λk c=>?_,λk τ c=>?_,λl q=>?_,λk τ c=>?_⟩,λk τ c=>?_,h.bmb,λk τ c=>?_,λk s τ τ' c i j=>?_⟩
 .rw[h.dat.has k c]
  rcases e k with⟨a,g⟩|⟨τ,τ2,a,g,_⟩ <;>rw[a,g] <;>rfl
 .obtain⟨τ1,a,_⟩:=e.back c;exact h.dat.at_ k τ1 a
 .obtain⟨k,τ,r,a⟩:=h.dat.keys l q;obtain⟨τ',g,_⟩:=e.on a;exact⟨k,τ',r,g⟩
 .obtain⟨τ1,a,_⟩:=e.back c;exact h.dat.wf k τ1 a
 .obtain⟨τ1,a,g⟩:=e.back c;exact(h.tals k τ1 a).same g
 .obtain⟨τ1,a,_⟩:=e.back c;exact h.nb k τ1 a
 .obtain⟨τ1,a,_⟩:=e.back c;obtain⟨τ2,g,_⟩:=e.back i;exact h.inj k s τ1 τ2 a g j
theorem lu.same{o:Nat}{S:Nat->Prop}(h:lu w b o m S G)(e:JH G d):lu w b o m S d:=by
 obtain⟨r,c,a,i,l⟩:=h;refine⟨r,c,⟨a.blk,?_⟩,λj g=>i j ?_,l⟩
 .rcases a.map with⟨rfl,rfl⟩|⟨p,n,D,rfl,q⟩
  .refine .inl ⟨rfl,?_⟩
   funext k
   rcases e k with⟨_,h⟩|⟨_,_,h,_⟩
   .exact h
   .cases h
  .exact .inr ⟨p,n,D,rfl,q.same e⟩
 .rcases g with h|h|⟨k,τ,hk,h⟩
  .exact .inl h
  .exact .inr (.inl h)
  .obtain⟨τ1,a,_⟩:=e.back hk;exact .inr (.inr ⟨k,τ1,a,h⟩)
theorem SF(h:vF τ τ')(k:Int):fZ k τ=fZ k τ':=by
 have a:∀x,x∈τ.R↔x∈τ'.R:=λx=>h.R.mem_iff
 unfold fZ;rw[h.c,h.s,Ct a,Cu a,tZ a]
theorem JS(e:JH G d)(k:Int):gE G k=gE d k:=by
 unfold gE
 rcases e k with⟨c,a⟩|⟨τ,τ',c,a,g⟩
 .rw[c,a]
 .rw[c,a];exact SF g k
theorem keys_eq{ks c:List Int}(e:JH G d)(g:ks.Pairwise (λx y=>x<y))(i:c.Pairwise (λx y=>x<y))(m1:∀k,k∈ks↔(G k).isSome=true)(n:∀k,k∈c↔(d k).isSome=true):ks=c:=by
 have l:∀k,k∈ks↔k∈c:=λk=>by
  rw[m1,n]
  rcases e k with⟨g,i⟩|⟨τ,τ',g,i,_⟩ <;>rw[g,i]
  simp
 have j:ks.Nodup:=g.imp λh=>by omega
 have o:c.Nodup:=i.imp λh=>by omega
 refine List.Perm.eq_of_pairwise (le:=λa b=>a<b) (λa b _ _ h3 h4=>by omega) g i ((List.perm_ext_iff_of_nodup j o).2 l)
theorem D8(b o m:Nat)(S:Nat->Prop)(L:List O)(w:World)(h:lu w b o m S (bK L))(x:O)(l:x.wf)(i:m<100000000):
  Calls Tryz.prog 108 #[.pointer (some ⟨b,o,none⟩),WW x false] w λe a=>e=.returned .nilIface/\lu a b o (m+1) (More S w a) (bK (x::L))/\kF S b o w a:=
 (Ia b o m S (bK L) w h x l i).mono λ_ _ ⟨j,c,g⟩=>⟨j,by rw[<-SC];exact c,g⟩
theorem Cq(b o m:Nat)(S:Nat->Prop)(L:List O)(w:World)(h:lu w b o m S (bK L))(x:O)(n:x.wf)(a:x∈L)(i:m<100000000):
  Calls Tryz.prog 108 #[.pointer (some ⟨b,o,none⟩),WW x true] w λe c=>e=.returned .nilIface/\lu c b o (m+1) (More S w c) (bK (L.erase x))/\kF S b o w c:=
 (EA b o m S (bK L) w h x n _ (JG a) (SE a) i).mono λ_ _ ⟨j,g,l⟩=>⟨j,g.same (OY a),l⟩
end
end Go.Proofs.YthfpipieboophaaGreatDoor
