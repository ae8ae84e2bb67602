import Derived.Test.YthfpipieboophaaGreatDoorZRjk
import Derived.Test.YthfpipieboophaaGreatDoorZDkb
import Derived.Test.YthfpipieboophaaGreatDoorZRba
namespace Go.Proofs.YthfpipieboophaaGreatDoor
set_option maxRecDepth 100000
set_option maxHeartbeats 40000000
open Go.Shelf Go.RowKit
section
open Go.Proofs.Tryz Go.Joins
variable{b:Nat}{c a:Value}{x:RJ}
theorem yL(lo hi mode:Int)(w:World):Calls prog 49 #[.agg #[.int .i64 lo,.int .i64 hi,.int .i64 mode]] w λe f=>e=.returned (.int .i64 (aS lo hi mode))/\Below w.heap.size w f:=by
 have k:=λW=>bG lo (-1048576) 1048576 W
 have h:=λW=>bG hi (-1048576) 1048576 W
 have j:=λW=>bG mode 0 3 W
 by_cases h1: -1048576<=lo/\lo<=1048576
 .have g:iG (-1048576) 1048576 lo=true:=by simp[iG];omega
  rw[g]at k
  by_cases h2: -1048576<=hi/\hi<=1048576
  .have i:iG (-1048576) 1048576 hi=true:=by simp[iG];omega
   rw[i]at h
   by_cases h3:hi<lo
   .have d:aS lo hi mode=10:=by unfold aS;rw[if_neg (by omega),if_pos h3]
    rw[d];clear h1 h2 g i d j;go_enter func49,ntmps49;go_wp2_with fail;refine(k _).mono ?_;rintro e f ⟨rfl,rfl⟩;go_wp2_with fail;refine(h _).mono ?_;rintro e f ⟨rfl,rfl⟩;go_wp2;go_ret;exact⟨rfl,wh _ _⟩
   .by_cases h4:0<=mode/\mode<=3
    .have l:iG 0 3 mode=true:=by simp[iG];omega
     rw[l]at j
     have d:aS lo hi mode=0:=by unfold aS;rw[if_neg (by omega),if_neg h3,if_neg (by omega)]
     rw[d];clear h1 h2 g i d l h4;go_enter func49,ntmps49;go_wp2_with fail;refine(k _).mono ?_;rintro e f ⟨rfl,rfl⟩;go_wp2_with fail;refine(h _).mono ?_;rintro e f ⟨rfl,rfl⟩;go_wp2_with fail;refine(j _).mono ?_;rintro e f ⟨rfl,rfl⟩;go_wp2;go_ret;exact⟨rfl,wh _ _⟩
    .have l:iG 0 3 mode=false:=by
      rw[<-Bool.not_eq_true];simp only[iG,Bool.and_eq_true,decide_eq_true_eq];exact h4
     rw[l]at j
     have d:aS lo hi mode=1:=by unfold aS;rw[if_neg (by omega),if_neg h3,if_pos h4]
     rw[d];clear h1 h2 g i d l h4;go_enter func49,ntmps49;go_wp2_with fail;refine(k _).mono ?_;rintro e f ⟨rfl,rfl⟩;go_wp2_with fail;refine(h _).mono ?_;rintro e f ⟨rfl,rfl⟩;go_wp2_with fail;refine(j _).mono ?_;rintro e f ⟨rfl,rfl⟩;go_wp2;go_ret;exact⟨rfl,wh _ _⟩
  .have i:iG (-1048576) 1048576 hi=false:=by
    rw[<-Bool.not_eq_true];simp only[iG,Bool.and_eq_true,decide_eq_true_eq];exact h2
   rw[i]at h
   have d:aS lo hi mode=2:=by unfold aS;rw[if_pos (Or.inr h2)]
   rw[d];clear h1 h2 g i d j;go_enter func49,ntmps49;go_wp2_with fail;refine(k _).mono ?_;rintro e f ⟨rfl,rfl⟩;go_wp2_with fail;refine(h _).mono ?_;rintro e f ⟨rfl,rfl⟩;go_wp2;go_ret;exact⟨rfl,wh _ _⟩
 .have g:iG (-1048576) 1048576 lo=false:=by
   rw[<-Bool.not_eq_true];simp only[iG,Bool.and_eq_true,decide_eq_true_eq];exact h1
  rw[g]at k
  have d:aS lo hi mode=2:=by unfold aS;rw[if_pos (Or.inl h1)]
  rw[d];clear h1 g d h j;go_enter func49,ntmps49;go_wp2_with fail;refine(k _).mono ?_;rintro e f ⟨rfl,rfl⟩;go_wp2;go_ret;exact⟨rfl,wh _ _⟩
def yh(lo hi mode:Int):RJ:=⟨lo,hi,mode,-1099511627777,-1099511627777,0,0,[],[]⟩
theorem PX(lo hi mode:Int)(w:World):Calls prog 50 #[.agg #[.int .i64 lo,.int .i64 hi,.int .i64 mode]] w λe d=>∃b,e=.returned (.pointer (some ⟨b,0,none⟩))/\w.heap.size<=b/\dh d 0 b (.slice none 0 0) (.slice none 0 0) (yh lo hi mode)/\Below w.heap.size w d:=by
 go_enter func50,ntmps50;go_wp2;go_ret;refine⟨_,rfl,?_,⟨?_,Ak _ _ _ _,Ak _ _ _ _,λg e=>by simp[Value.ownBlock]at e⟩,?_⟩
 .simp
 .first
   |exact vw _ _
   |exact aM (by simp)
 .first
   |exact wT _ _ _
   |exact wh _ _
   |exact below_alloc3 _ _ _ _
theorem IP(b:Nat)(s tm:Int)(w:World)(h:iG 0 1 s=false):Calls prog 16 #[.pointer (some ⟨b,0,none⟩),.int .i64 s,.int .i64 tm] w λe f=>e=.returned (.int .i64 1)/\f=w:=by
 have d:=λW=>bG s 0 1 W
 rw[h]at d;go_enter func16,ntmps16;go_wp2_with fail;refine(d _).mono ?_;rintro e f ⟨rfl,g⟩;rw[g];go_wp2;go_ret;exact⟨rfl,rfl⟩
theorem FC(b:Nat)(s tm:Int)(w:World)(j:iG 0 1 s=true)(i:iG (-1099511627776) 1099511627776 tm=false):Calls prog 16 #[.pointer (some ⟨b,0,none⟩),.int .i64 s,.int .i64 tm] w λe f=>e=.returned (.int .i64 2)/\f=w:=by
 have g:=λW=>bG s 0 1 W
 have h:=λW=>bG tm (-1099511627776) 1099511627776 W
 rw[j]at g;rw[i]at h;go_enter func16,ntmps16;go_wp2_with fail;refine(g _).mono ?_;rintro e f ⟨rfl,d⟩;rw[d];clear d f;go_wp2_with fail;refine(h _).mono ?_;rintro e f ⟨rfl,d⟩;rw[d];go_wp2;go_ret;exact⟨rfl,rfl⟩
theorem FD(tm:Int)(w:World)(h:dh w 0 b c a x)(i:iG (-1099511627776) 1099511627776 tm=true)(hm:tm<x.m0):Calls prog 16 #[.pointer (some ⟨b,0,none⟩),.int .i64 0,.int .i64 tm] w λe d=>e=.returned (.int .i64 10)/\Below w.heap.size w d:=by
 have j:∀W,Calls prog 52 #[.int .i64 0,.int .i64 0,.int .i64 1] W λe d=>e=.returned (.bool true)/\d=W:=λW=>bG 0 0 1 W
 have g:=λW=>bG tm (-1099511627776) 1099511627776 W
 rw[i]at g;have c5:=h.cells.2.2.2.2.2.1;have hlt:=h.lt;clear h;go_enter func16,ntmps16;go_wp2_with fail;refine(j _).mono ?_;rintro e d ⟨rfl,f⟩;rw[f];clear f d;go_wp2_with fail;refine(g _).mono ?_;rintro e d ⟨rfl,f⟩;rw[f];clear f d;go_wp2;go_ret;exact⟨rfl,zI _ _⟩
theorem FE(tm:Int)(w:World)(h:dh w 0 b c a x)(i:iG (-1099511627776) 1099511627776 tm=true)(hm:tm<x.m1):Calls prog 16 #[.pointer (some ⟨b,0,none⟩),.int .i64 1,.int .i64 tm] w λe d=>e=.returned (.int .i64 10)/\Below w.heap.size w d:=by
 have j:∀W,Calls prog 52 #[.int .i64 1,.int .i64 0,.int .i64 1] W λe d=>e=.returned (.bool true)/\d=W:=λW=>bG 1 0 1 W
 have g:=λW=>bG tm (-1099511627776) 1099511627776 W
 rw[i]at g;have c6:=h.cells.2.2.2.2.2.2.1;have hlt:=h.lt;clear h;go_enter func16,ntmps16;go_wp2_with fail;refine(j _).mono ?_;rintro e d ⟨rfl,f⟩;rw[f];clear f d;go_wp2_with fail;refine(g _).mono ?_;rintro e d ⟨rfl,f⟩;rw[f];clear f d;go_wp2;go_ret;exact⟨rfl,zI _ _⟩
end
section
open Go.Proofs.Tryz Go.Joins
structure nM(w:World)(be bj:Nat)(v v0 v1:Value)(x:RJ)(M:List O)(f0 f1:Int):Prop where
 bag:gT (.pointer (some ⟨bj,0,none⟩)) (.int .i64 f0) (.int .i64 f1) w 0 be v M
 join:dh w 0 bj v0 v1 x
theorem nM.below{w c:World}{be bj:Nat}{v d a:Value}{x:RJ}{M:List O}{f0 f1:Int}(h:nM w be bj v d a x M f0 f1)(b:Below w.heap.size w c):nM c be bj v d a x M f0 f1:=⟨h.bag.below b,h.join.below b⟩
theorem oF(lo hi mode:Int)(w:World)(b:aS lo hi mode≠0):Calls prog 14 #[.agg #[.int .i64 lo,.int .i64 hi,.int .i64 mode]] w λe d=>e=.returned (.tuple #[.pointer none,.int .i64 (aS lo hi mode)])/\Below w.heap.size w d:=by
 have H:=λW=>yL lo hi mode W
 have hne:(aS lo hi mode==0)=false:=by simp[b]
 have hne2:(aS lo hi mode !=0)=true:=by simp[b]
 generalize aS lo hi mode=c at *;go_enter func14,ntmps14;go_wp2_with fail;refine(H _).mono ?_;rintro e w2 ⟨rfl,a⟩;go_wp2;go_ret2;exact⟨rfl,by first|exact a|exact(wh _ _).trans (a.mono (by simp))⟩
theorem lN(lo hi mode:Int)(w:World)(k:aS lo hi mode=0):Calls prog 14 #[.agg #[.int .i64 lo,.int .i64 hi,.int .i64 mode]] w λe l=>∃be bj,e=.returned (.tuple #[.pointer (some ⟨be,0,none⟩),.int .i64 0])/\w.heap.size<=be/\w.heap.size<=bj/\nM l be bj (.slice none 0 0) (.slice none 0 0) (.slice none 0 0) (yh lo hi mode) [] 0 0/\Below w.heap.size w l:=by
 have H:=λW=>yL lo hi mode W
 rw[k]at H
 have m:=λW=>PX lo hi mode W
 clear k;go_enter func14,ntmps14;go_wp2_with fail;refine(H _).mono ?_;rintro e g ⟨rfl,b⟩;have d:Hid (Below w.heap.size w g):=(wh _ _).trans (b.mono (by simp));have a:g.heap[w.heap.size]?=some (.cells #[.int .i64 lo,.int .i64 hi,.int .i64 mode] 45):=(b.block _ (by simp)).trans (vw _ _)
 have d0:g.cell? ⟨w.heap.size,0,none⟩=some (.int .i64 lo):=by rw[vE a];rfl
 have d1:g.cell? ⟨w.heap.size,1,none⟩=some (.int .i64 hi):=by rw[vE a];rfl
 have d2:g.cell? ⟨w.heap.size,2,none⟩=some (.int .i64 mode):=by rw[vE a];rfl
 clear b H a;go_wp2_with fail;refine(m _).mono ?_;rintro e o ⟨bj,rfl,i,j,f⟩;have c:Hid (Below w.heap.size w o):=d.out.trans (f.mono d.out.size);have h:=hid j;have n:w.heap.size<=bj:=di d.out.size i;clear m j f;go_wp2;go_ret2;refine⟨_,bj,rfl,c.out.size,n,⟨⟨vw _ _,Ak _ _ _ _⟩,h.out.below (wh _ _)⟩,c.out.alloc c.out.size _⟩
end
section
open Go.Joins
variable{w r W z:World}{base k n d bj g:Nat}{e:TypeId}{v v' y m i f:Value}{A:List Value}{S:Nat->Prop}{x:RJ}{M:List O}{f0 f1:Int}{C:List Ch}{c:Ch}
def kK(M:List O)(c:Ch):List O:=if c.g=true then M.erase c.x else M++[c.x]
theorem PY(M:List O)(c:Ch):(kK M c).length<=M.length+1:=by
 unfold kK
 split
 .have:=List.length_erase_le (a:=c.x) (l:=M);omega
 .simp
theorem Bg:∀(C:List Ch) (M:List O),(C.foldl kK M).length<=M.length+C.length
 |[],M=>by simp
 |c::C,M=>by
  have h1:=Bg C (kK M c);have h2:=PY M c;simp only[List.foldl_cons,List.length_cons];omega
theorem IB(pj f0 f1:Value)(d:Nat)(v:Value)(M:List O)(w:World)(h:gT pj f0 f1 w 0 d v M)(c:Ch)(o:M.length<=1000000):
  Calls Tryz.prog 41 #[.pointer (some ⟨d,1,none⟩),vC c.x c.g] w λe a=>∃n v',e=.returned (.int .i64 n)/\gT pj f0 f1 a 0 d v' (kK M c)/\nJ d v.ownBlock w a/\Moves w v.ownBlock v'.ownBlock:=by
 obtain⟨x,g⟩:=c
 cases g with
 |false=>
  refine(PU pj f0 f1 0 d v M w h x o (gy _)).mono ?_;rintro e a ⟨rfl,v',b,j,l⟩;exact⟨0,v',rfl,b,j,l⟩
 |true=>
  by_cases hm:x∈M
  .refine(LX pj f0 f1 0 d v M w h x o (gy _) hm).mono ?_;rintro e a ⟨rfl,v',b,j,l⟩;exact⟨0,v',rfl,b,j,l⟩
  .refine(LQ pj f0 f1 0 d v M w h x o hm).mono ?_;rintro e a ⟨rfl,p⟩;refine⟨8,v,rfl,?_,nJ.of_below p,Or.inl rfl⟩
   have:kK M ⟨x,true⟩=M:=by unfold kK;rw[if_pos rfl];exact List.erase_of_not_mem hm
   rw[this];exact h.below p
theorem dZ{b T:Nat}{cs:Array Value}(h:w.ownsRow base e k v n A)(o:w.heap[b]?=some (.cells cs T))(l:T≠e):v.ownBlock≠some b:=by
 rcases h.2 with⟨rfl,_⟩|⟨g,cap,cur,rfl,_,j,_⟩
 .simp[Value.ownBlock]
 .intro a;simp[Value.ownBlock]at a;subst a;rw[o]at j;cases j;exact l rfl
theorem mV{base' q l:Nat}{b:TypeId}{xs':List Value}(h:w.ownsRow base e k v n A)(o:w.ownsRow base' b q v' l xs')(j:e≠b)(g:Nat)(a:v.ownBlock=some g):v'.ownBlock≠some g:=by
 rcases h.2 with⟨rfl,_⟩|⟨g1,cap,cur,rfl,_,p,_⟩
 .simp[Value.ownBlock]at a
 .simp[Value.ownBlock]at a;subst a;exact dZ o p j
structure Ef(w r:World)(d bj:Nat)(S:Nat->Prop)(y v m i:Value)(x:RJ)(M:List O)(f0 f1:Int)(f:Value)(C:List Ch)(W:World):Prop where
 at1:nM W d bj v m i x M f0 f1
 ox:W.ownsRow w.heap.size 95 10 f C.length (C.flatMap aQ)
 tr:Turned (λg=>g=d∨y.ownBlock=some g∨S g) w W
 mv:Moves w y.ownBlock v.ownBlock
 sz:w.heap.size<=r.heap.size/\r.heap.size<=W.heap.size
theorem Ef.go(h:Ef w r d bj S y v m i x M f0 f1 f C W)(a:Below W.heap.size W z):Ef w r d bj S y v m i x M f0 f1 f C z:=
 ⟨h.at1.below a,ag h.ox (λg e=>a.block g (h.ox.lt g e).2),h.tr.trans (Turned.of_below (S:=λ_=>False) a) (λ_ _ e=>e.elim),h.mv,⟨h.sz.1,di h.sz.2 a.size⟩⟩
theorem Ef.apply{B:List O}(h:Ef w r d bj S y v m i x M f0 f1 f C W)(F:gT (.pointer (some ⟨bj,0,none⟩)) (.int .i64 f0) (.int .i64 f1) z 0 d v' B)(l:nJ d v.ownBlock W z)(G:Moves W v.ownBlock v'.ownBlock):Ef w r d bj S y v' m i x B f0 f1 f C z:=by
 have j:=h.at1.join;have a:=h.at1.bag;have keep:∀q,q<W.heap.size->q≠d->v.ownBlock≠some q->z.heap[q]?=W.heap[q]? :=l.block
 have s:bj≠d:=λe=>by have b:=j.blk;rw[e,a.blk]at b;cases b
 have row:∀(n:Nat) (u:Value) (A:List Value),W.ownsRow 0 117 5 u n A->z.ownsRow 0 117 5 u n A:=λn u A o=>ag o (λq e=>keep q (o.lt q e).2 (λp=>dZ o a.blk (by omega) (by rw[e,p])) (mV o a.row (by decide) q e))
 refine⟨⟨F,⟨(keep bj j.lt s (dZ a.row j.blk (by omega))).trans j.blk,row _ _ _ j.r0,row _ _ _ j.r1,j.apart⟩⟩,ag h.ox (λq e=>keep q (h.ox.lt q e).2 (λp=>dZ h.ox a.blk (by omega) (by rw[e,p])) (mV h.ox a.row (by decide) q e)),?_,?_,⟨h.sz.1,di h.sz.2 l.size⟩⟩
 .refine h.tr.trans (S':=λg=>g=d∨v.ownBlock=some g) ⟨l.os,l.tape,l.output,l.size,λq t E=>l.block q t (λe=>E (Or.inl e)) (λe=>E (Or.inr e))⟩ ?_;rintro q t (e|e)
  .exact Or.inl e
  .rcases h.mv with b|⟨g,b,h2⟩
   .exact Or.inr (Or.inl (by rw[<-b];exact e))
   .rw[b]at e
    injection e with e
    omega
 .rcases G with b|⟨g,b,h2⟩
  .rw[b];exact h.mv
  .exact Or.inr ⟨g,b,by have:=h.sz;omega⟩
theorem J7(h:W.heap[g]?=some (.cells #[.int .i64 c.x.k,.int .i64 c.x.lk,.int .i64 c.x.lt,.int .i64 c.x.lv,.int .i64 c.x.rk,.int .i64 c.x.rt,.int .i64 c.x.rv,.bool c.x.hl,.bool c.x.hr,.bool c.g] 95)):W.cell? ⟨g,0,none⟩=some (.int .i64 c.x.k)/\W.cell? ⟨g,1,none⟩=some (.int .i64 c.x.lk)/\W.cell? ⟨g,2,none⟩=some (.int .i64 c.x.lt)/\W.cell? ⟨g,3,none⟩=some (.int .i64 c.x.lv)/\W.cell? ⟨g,4,none⟩=some (.int .i64 c.x.rk)/\W.cell? ⟨g,5,none⟩=some (.int .i64 c.x.rt)/\W.cell? ⟨g,6,none⟩=some (.int .i64 c.x.rv)/\W.cell? ⟨g,7,none⟩=some (.bool c.x.hl)/\W.cell? ⟨g,8,none⟩=some (.bool c.x.hr)/\W.cell? ⟨g,9,none⟩=some (.bool c.g):=by
 refine⟨?_,?_,?_,?_,?_,?_,?_,?_,?_,?_⟩ <;>(rw[vE h];rfl)
theorem CP{cap q:Nat}(h:W.ownsRow base 95 10 (.slice (some ⟨g,0,none⟩) n cap) n (C.flatMap aQ))(hn:C.length=n)(a:C[q]?=some c):W.cell? ⟨g,q*10,none⟩=some (.int .i64 c.x.k)/\W.cell? ⟨g,q*10+1,none⟩=some (.int .i64 c.x.lk)/\W.cell? ⟨g,q*10+2,none⟩=some (.int .i64 c.x.lt)/\W.cell? ⟨g,q*10+3,none⟩=some (.int .i64 c.x.lv)/\W.cell? ⟨g,q*10+4,none⟩=some (.int .i64 c.x.rk)/\W.cell? ⟨g,q*10+5,none⟩=some (.int .i64 c.x.rt)/\W.cell? ⟨g,q*10+6,none⟩=some (.int .i64 c.x.rv)/\W.cell? ⟨g,q*10+7,none⟩=some (.bool c.x.hl)/\W.cell? ⟨g,q*10+8,none⟩=some (.bool c.x.hr)/\W.cell? ⟨g,q*10+9,none⟩=some (.bool c.g):=by
 have hl:q<C.length:=(kH.1 a).1
 have e:∀j,j<10->W.cell? ⟨g,q*10+j,none⟩=(aQ c)[j]? :=λj b=>by
  rw[h.cellAt (q*10+j) (by omega),cB aQ 10 kC C q j c a b]
 exact⟨e 0 (by omega),e 1 (by omega),e 2 (by omega),e 3 (by omega),e 4 (by omega),e 5 (by omega),e 6 (by omega),e 7 (by omega),e 8 (by omega),e 9 (by omega)⟩
def PZ:Op:= .load 3 (.tmp 32)
theorem P5{s w5:World}{I l:Value}{K:RJ}{o:Obj}(h:nM w d bj v m i x M f0 f1)(q:Below w.heap.size w s)(p:s.heap[w.heap.size]?=some o)(F:∀g,S g->g=bj∨m.ownBlock=some g∨i.ownBlock=some g)(E:w5.ownsRow s.heap.size 95 10 f C.length (C.flatMap aQ))(L:dh w5 0 bj I l K)(j:Turned S s w5):Ef w w5 d bj S v v I l K M f0 f1 f C w5/\w5.heap[w.heap.size]?=some o:=by
 have b:=h.join;have a:=h.bag
 have u:bj≠d:=λe=>by have H:=b.blk;rw[e,a.blk]at H;cases H
 have t:¬S d:=λe=>by
  rcases F d e with e|e|e
  .exact u e.symm
  .exact dZ b.r0 a.blk (by omega) e
  .exact dZ b.r1 a.blk (by omega) e
 have N:∀g,v.ownBlock=some g->¬S g:=λg G e=>by
  rcases F g e with e|e|e
  .exact dZ a.row b.blk (by omega) (by rw[G,e])
  .exact mV a.row b.r0 (by decide) g G e
  .exact mV a.row b.r1 (by decide) g G e
 have nr:¬S w.heap.size:=λe=>by
  rcases F _ e with e|e|e
  .have:=b.lt;omega
  .have:=(b.r0.lt _ e).2;omega
  .have:=(b.r1.lt _ e).2;omega
 have B:w.heap.size<s.heap.size:=(aD.1 p).1;refine⟨⟨⟨⟨(j.block d (by have:=a.lt;omega) t).trans ((q.block d a.lt).trans a.blk),ag a.row (λg e=>(j.block g (by have:=(a.row.lt g e).2;omega) (N g e)).trans (q.block g (a.row.lt g e).2))⟩,L⟩,World.ownsRow.mono E q.size,?_,Or.inl rfl,⟨di q.size j.size,aO _⟩⟩,(j.block _ B nr).trans p⟩;exact(Turned.of_below q).trans (j.mono (λg e=>Or.inr (Or.inr e))) (λ_ _ e=>e)
theorem S9(h:Ef w r d bj S y v m i x M f0 f1 f C W):Ef w r d bj S y v m i x M (f0+1) f1 f C (W.setCell ⟨d,2,none⟩ (.int .i64 (f0+1))):=by
 have b:=h.at1.join;have a:=h.at1.bag
 have s:bj≠d:=λe=>by have t:=b.blk;rw[e,a.blk]at t;cases t
 have l:∀(u:Value) (o q:Nat),q≠d->(W.setCell ⟨d,o,none⟩ u).heap[q]?=W.heap[q]? :=λu o q p=>zw _ _ _ _ p
 refine⟨⟨⟨by rw[yc a.blk];rfl,ag a.row (λg e=>l _ _ g (λj=>dZ a.row a.blk (by omega) (by rw[e,j])))⟩,⟨(l _ _ bj s).trans b.blk,ag b.r0 (λg e=>l _ _ g (λj=>dZ b.r0 a.blk (by omega) (by rw[e,j]))),ag b.r1 (λg e=>l _ _ g (λj=>dZ b.r1 a.blk (by omega) (by rw[e,j]))),b.apart⟩⟩,ag h.ox (λg e=>l _ _ g (λj=>dZ h.ox a.blk (by omega) (by rw[e,j]))),?_,h.mv,⟨h.sz.1,by simp;exact h.sz.2⟩⟩;exact h.tr.trans (S':=λq=>q=d) ⟨rfl,rfl,rfl,by simp,λq _ p=>l _ _ q p⟩ (λq _ e=>Or.inl e)
theorem Ta(h:Ef w r d bj S y v m i x M f0 f1 f C W):Ef w r d bj S y v m i x M f0 (f1+1) f C (W.setCell ⟨d,3,none⟩ (.int .i64 (f1+1))):=by
 have b:=h.at1.join;have a:=h.at1.bag
 have s:bj≠d:=λe=>by have t:=b.blk;rw[e,a.blk]at t;cases t
 have l:∀(u:Value) (o q:Nat),q≠d->(W.setCell ⟨d,o,none⟩ u).heap[q]?=W.heap[q]? :=λu o q p=>zw _ _ _ _ p
 refine⟨⟨⟨by rw[yc a.blk];rfl,ag a.row (λg e=>l _ _ g (λj=>dZ a.row a.blk (by omega) (by rw[e,j])))⟩,⟨(l _ _ bj s).trans b.blk,ag b.r0 (λg e=>l _ _ g (λj=>dZ b.r0 a.blk (by omega) (by rw[e,j]))),ag b.r1 (λg e=>l _ _ g (λj=>dZ b.r1 a.blk (by omega) (by rw[e,j]))),b.apart⟩⟩,ag h.ox (λg e=>l _ _ g (λj=>dZ h.ox a.blk (by omega) (by rw[e,j]))),?_,h.mv,⟨h.sz.1,by simp;exact h.sz.2⟩⟩;exact h.tr.trans (S':=λq=>q=d) ⟨rfl,rfl,rfl,by simp,λq _ p=>l _ _ q p⟩ (λq _ e=>Or.inl e)
theorem wG{p:Prop}(h:p):Hid p:=h
theorem kG{B p:Int}(s cd k t u:Int)(w:World)(h:nM w d bj v m i x M f0 f1)(S:Nat->Prop)(Y:List Ch->RJ->Value->Value->Prop)(hM:M.length<=900000)
  (hsc:s=0/\(cd=0∨cd=10)/\B=f0+1/\p=f1/\(-1000000000<=f0/\f0<=1000000000)∨s=1/\(cd=0∨cd=10)/\B=f0/\p=f1+1/\(-1000000000<=f1/\f1<=1000000000)∨(cd=1∨cd=12)/\B=f0/\p=f1)
  (hS:∀g,S g->g=bj∨m.ownBlock=some g∨i.ownBlock=some g)
  (hF:∀W,w.heap.size<=W.heap.size->dh W 0 bj m i x->Calls Tryz.prog 44 #[.pointer (some ⟨bj,0,none⟩),.int .i64 s,.agg #[.int .i64 k,.int .i64 t,.int .i64 u]] W λe H=>∃(f E a:Value) (C:List Ch) (F:RJ),e=.returned (.tuple #[f,.int .i64 cd])/\H.ownsRow W.heap.size 95 10 f C.length (C.flatMap aQ)/\C.length<=1000/\dh H 0 bj E a F/\Turned S W H/\Y C F E a):
  Calls Tryz.prog 10 #[.pointer (some ⟨d,0,none⟩),.int .i64 s,.agg #[.int .i64 k,.int .i64 t,.int .i64 u]] w λe H=>∃(f v' E a:Value) (C:List Ch) (F:RJ),e=.returned (.tuple #[f,.int .i64 cd])/\H.ownsRow w.heap.size 95 10 f C.length (C.flatMap aQ)/\nM H d bj v' E a F (C.foldl kK M) B p/\Y C F E a/\Turned (λg=>g=d∨v.ownBlock=some g∨S g) w H/\Moves w v.ownBlock v'.ownBlock:=by
 have HE:=wG h
 have cb:w.cell? ⟨d,0,none⟩=some (.pointer (some ⟨bj,0,none⟩)):=by rw[vE h.bag.blk];rfl
 have hlt:=h.bag.lt;clear h;have B1:=wG (wh w (.cells #[.int .i64 k,.int .i64 t,.int .i64 u] 37)).drew;have R1:Hid ((w.alloc (.cells #[.int .i64 k,.int .i64 t,.int .i64 u] 37)).drew.heap[w.heap.size]?=_):=vw _ _;have HF:=wG hF;have HS:=wG hS;have HSC:Hid (s=0/\(cd=0∨cd=10)/\Hid (B=f0+1)/\Hid (p=f1)/\(-1000000000<=f0/\f0<=1000000000)∨s=1/\(cd=0∨cd=10)/\Hid (B=f0)/\Hid (p=f1+1)/\(-1000000000<=f1/\f1<=1000000000)∨(cd=1∨cd=12)/\Hid (B=f0)/\Hid (p=f1)):=hsc;clear hF hS hsc;go_enter Tryz.func10,Tryz.ntmps10;go_wp2_with fail
 go_region_held3 (λV=>V.cell? ⟨d,0,none⟩=some (.pointer (some ⟨bj,0,none⟩))/\V.cell? ⟨w.heap.size,0,none⟩=some (.int .i64 k)/\V.cell? ⟨w.heap.size,1,none⟩=some (.int .i64 t)/\V.cell? ⟨w.heap.size,2,none⟩=some (.int .i64 u)) (first|exact YW|(go_keep;done)|fail) (first
  |(go_at_call 44;refine(HF.out _ B1.out.size (HE.out.join.below B1.out)).mono ?_;rintro e w5 ⟨f,E,a,C,F,rfl,R,Ud,hj5,htr,U⟩;have N:=P5 HE.out B1.out R1.out HS.out R hj5 htr;have b:=wG N.1;have HPs:=wG U;have YW:w5.cell? ⟨d,0,none⟩=some (.pointer (some ⟨bj,0,none⟩))/\w5.cell? ⟨w.heap.size,0,none⟩=some (.int .i64 k)/\w5.cell? ⟨w.heap.size,1,none⟩=some (.int .i64 t)/\w5.cell? ⟨w.heap.size,2,none⟩=some (.int .i64 u):=(by refine⟨?_,?_,?_,?_⟩;(rw[vE N.1.at1.bag.blk];rfl);(rw[vE N.2];rfl);(rw[vE N.2];rfl);(rw[vE N.2];rfl));clear R hj5 htr U N)
  |fail)
 have sx:=aj b.out.ox;obtain⟨px,dx,rfl⟩:=sx
 rcases HSC.out with⟨rfl,l,Q,o,b0,b1⟩|⟨rfl,l,Q,o,b0,b1⟩|⟨l,Q,o⟩
 case' inl=>
  have cf:w5.cell? ⟨d,2,none⟩=some (.int .i64 f0)/\w5.frozen? ⟨d,2,none⟩=false/\d<w5.heap.size:=⟨by rw[vE b.out.at1.bag.blk];rfl,x9 b.out.at1.bag.blk 2,b.out.at1.bag.lt⟩
  rcases l with rfl|rfl
  all_goals
   go_wp2_with fail;have L:PZ=Op.load 3 (.tmp 32):=rfl;rw[<-L]
   go_region_held3 (λV=>True) (exact trivial) (fail)
   have j:=wG ((S9 b.out).go (zI _ _).drew);clear b cf YW;go_wp2_with fail;revert j;generalize(w5.setCell ⟨d,2,none⟩ (.int .i64 (f0+1))).drew=w6;intro j;rw[<-Q.out,<-o.out]at j
 case' inr.inl=>
  have cf:w5.cell? ⟨d,3,none⟩=some (.int .i64 f1)/\w5.frozen? ⟨d,3,none⟩=false/\d<w5.heap.size:=⟨by rw[vE b.out.at1.bag.blk];rfl,x9 b.out.at1.bag.blk 3,b.out.at1.bag.lt⟩
  rcases l with rfl|rfl
  all_goals
   go_wp2_with fail;have L:PZ=Op.load 3 (.tmp 32):=rfl;rw[<-L]
   go_region_held3 (λV=>True) (exact trivial) (fail)
   have j:=wG ((Ta b.out).go (zI _ _).drew);clear b cf YW;go_wp2_with fail;revert j;generalize(w5.setCell ⟨d,3,none⟩ (.int .i64 (f1+1))).drew=w6;intro j;rw[<-Q.out,<-o.out]at j
 case' inr.inr=>
  have j:=b;rw[<-Q.out,<-o.out]at j;clear b YW
  rcases l with rfl|rfl
  all_goals go_wp2_with fail
 all_goals as_aux_lemma=>
  go_loopg [40] C.length (λgg v40 wr=>∃(q:Nat) (P:Value),q<=C.length/\gg=C.length -q/\v40=.int .i64 q/\Hid (Ef w w5 d bj S v P E a F ((C.take q).foldl kK M) B p (.slice px C.length dx) C wr))
  case atStart=>exact⟨0,v,gy _,rfl,rfl,j⟩
  case round=>
   obtain⟨q,P,hq,Z,rfl,I⟩:=hrel;have HG:=wG Z;clear Z j
   by_cases uD:q<C.length
   .obtain⟨gx,o⟩:∃gx,px=some ⟨gx,0,none⟩:=by
     obtain⟨g,cg,e⟩:=yg I.out.ox (by omega)
     injection e with o
     exact⟨g,o⟩
    subst o;obtain⟨c,hcq⟩:∃c,C[q]?=some c:=⟨_,dK uD⟩;have ch:=CP I.out.ox rfl hcq
    have HK:Hid ((C.take (q+1)).foldl kK M=kK ((C.take q).foldl kK M) c):=by
     show(C.take (q+1)).foldl kK M=_;rw[List.take_add_one,hcq];simp
    have Hf:((C.take q).foldl kK M).length<=1000000:=by
     have h1:=Bg (C.take q) M;have h2:=ve q C;omega
    have A1:=wG (I.out.go (wh wr (qZ c)));have G:=vw wr (qZ c);have AJ:=wG G;have cb:=J7 G
    have j1:(0:Int)<=(q:Int):=by omega
    have j2:(q:Int)<(C.length:Int):=by omega
    have K:=IB _ _ _ d P ((C.take q).foldl kK M) (wr.alloc (qZ c)).drew (A1.out.go (zI _ _).drew).at1.bag c Hf;simp only[vC]at K;clear hcq G I;generalize hX:(C.take q).foldl kK M=X at *;have T:=wG (λ(w9:World) (v9:Value) (YX:gT (.pointer (some ⟨bj,0,none⟩)) (.int .i64 B) (.int .i64 p) w9 0 d v9 (kK X c)) (Yb:nJ d P.ownBlock (wr.alloc (qZ c)).drew w9) (YY:Moves (wr.alloc (qZ c)).drew P.ownBlock v9.ownBlock)=>And.intro ((A1.out.go (zI _ _).drew).apply YX Yb YY) (J7 ((Yb.block wr.heap.size (by show wr.heap.size<(wr.alloc (qZ c)).heap.size;simp) (λe=>by have:=A1.out.at1.bag.blk;rw[<-e,AJ.out]at this;cases this) (λe=>dZ A1.out.at1.bag.row AJ.out (by decide) e)).trans AJ.out)));go_wp2_with fail
    go_region_held3 (λV=>V.cell? ⟨wr.heap.size,0,none⟩=some (.int .i64 c.x.k)/\V.cell? ⟨wr.heap.size,1,none⟩=some (.int .i64 c.x.lk)/\V.cell? ⟨wr.heap.size,2,none⟩=some (.int .i64 c.x.lt)/\V.cell? ⟨wr.heap.size,3,none⟩=some (.int .i64 c.x.lv)/\V.cell? ⟨wr.heap.size,4,none⟩=some (.int .i64 c.x.rk)/\V.cell? ⟨wr.heap.size,5,none⟩=some (.int .i64 c.x.rt)/\V.cell? ⟨wr.heap.size,6,none⟩=some (.int .i64 c.x.rv)/\V.cell? ⟨wr.heap.size,7,none⟩=some (.bool c.x.hl)/\V.cell? ⟨wr.heap.size,8,none⟩=some (.bool c.x.hr)/\V.cell? ⟨wr.heap.size,9,none⟩=some (.bool c.g)) (first|exact cs9|exact cb|fail) (first
     |(go_at_call 41;refine K.mono ?_;rintro e w9 ⟨nn,v9,rfl,YX,Yb,YY⟩;have ZP:=T.out w9 v9 YX Yb YY;have HE9:Hid _:=ZP.1;have cs9:=ZP.2;clear YX Yb YY ZP)
     |fail)
    clear ch cb K A1 AJ T;go_wp2
    go_roundg (C.length -(q+1))
    case measure=>have:=HG.out;omega
    case rel=>
     refine⟨q+1,v9,by omega,rfl,by go_num,?_⟩;show Ef _ _ _ _ _ _ _ _ _ _ _ _ _ _ _ _;rw[HK.out];exact HE9.out
   .have o:q=C.length:=by omega
    subst o
    have i1:¬((C.length:Nat):Int)<(C.length:Int):=by omega
    have I1:=I.out;rw[List.take_length]at I1;have HI:Hid _:=I1;clear I I1;go_wp2;go_ret2;exact⟨_,rfl,P,E,a,C,HI.out.ox,F,HI.out.at1,HPs.out,HI.out.tr,HI.out.mv⟩
end
section
open Go.Proofs.Tryz
theorem FT(y:List UInt8)(w:World)(i:aU w)(d:y.length<=1000000):
  Calls prog 36 #[.string ⟨y.toArray⟩] w λe j=>e=.returned (.tuple #[.int .i64 ((numOf y).getD 0),.bool (numOf y).isSome])/\Below w.heap.size w j:=by
 cases hp:Lib.parseIntB 64 y with
 |ok v=>
  have f:=rC hp;have k:=xJ hp d w
  have p:Hid (∀W,Below w.heap.size w W->Calls prog 86 #[.int .i64 v,.int .i64 10] W λe j=>e=.returned (.string ⟨(Lib.itoa v).toArray⟩)/\Below w.heap.size w j):=λW m=>(qz f W (aG i.g.tab m)).mono λe j h=>⟨h.1,m.trans (h.2.mono m.size)⟩
  have hv1: -9223372036854775808<=v:=f.1;have hv2:v<=9223372036854775807:=f.2
  by_cases hq:Lib.itoa v=y
  .have b:numOf y=some v:=by unfold numOf;rw[hp];simp[hq]
   have r:(Lib.itoa v==y)=true:=by simpa using hq
   have l:(Lib.itoa v !=y)=false:=by simpa using hq
   rw[b];clear i d hp b f hq;go_enter func36,ntmps36;go_wp2_with fail;refine k.mono ?_;rintro e o ⟨rfl,a⟩;go_wp2_with fail;refine(p.out _ a).mono ?_;rintro e q ⟨rfl,c⟩;go_wp2;go_ret2;exact⟨rfl,c⟩
  .have b:numOf y=none:=by unfold numOf;rw[hp];simp[hq]
   have r:(Lib.itoa v==y)=false:=by simpa using hq
   have l:(Lib.itoa v !=y)=true:=by simpa using hq
   rw[b];clear i d hp b f;go_enter func36,ntmps36;go_wp2_with fail;refine k.mono ?_;rintro e o ⟨rfl,a⟩;go_wp2_with fail;refine(p.out _ a).mono ?_;rintro e q ⟨rfl,c⟩;go_wp2;go_ret2;exact⟨rfl,c⟩
 |_=>
  have b:numOf y=none:=by unfold numOf;rw[hp]
  have k:=tC (y:=y) (λv e=>by rw[hp]at e;cases e) d w i;rw[b];clear i d hp b;go_enter func36,ntmps36;go_wp2_with fail;refine k.mono ?_;rintro e o ⟨n,t,u,rfl,a⟩;go_wp2;go_ret2;exact⟨rfl,a⟩
end
end Go.Proofs.YthfpipieboophaaGreatDoor
