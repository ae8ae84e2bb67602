import Derived.Test.YthfpipieboophaaGreatDoorZRjk
import Derived.Test.YthfpipieboophaaGreatDoorZDkb
import Derived.Test.YthfpipieboophaaGreatDoorZRba
namespace Go.Proofs.YthfpipieboophaaGreatDoor
set_option maxRecDepth 100000
set_option maxHeartbeats 40000000
open Go.Shelf Go.RowKit
section
open Go.Proofs.Tryz Go.Joins
variable{b:Nat}{c a:Value}{x:RJ}
theorem yL(lo hi mode:Int)(w:World):Calls prog 49 #[.agg #[.int .i64 lo,.int .i64 hi,.int .i64 mode]] w λe f=>e=.returned (.int .i64 (aS lo hi mode))/\Below w.heap.size w f:=by
 have i:=λW=>bG lo (-1048576) 1048576 W
 have h:=λW=>bG hi (-1048576) 1048576 W
 have k:=λW=>bG mode 0 3 W
 by_cases h1: -1048576<=lo/\lo<=1048576
 .have g:iG (-1048576) 1048576 lo=true:=by simp[iG];omega
  rw[g]at i
  by_cases h2: -1048576<=hi/\hi<=1048576
  .have j:iG (-1048576) 1048576 hi=true:=by simp[iG];omega
   rw[j]at h
   by_cases h3:hi<lo
   .have d:aS lo hi mode=10:=by unfold aS;rw[if_neg (by omega),if_pos h3]
    rw[d];clear h1 h2 g j d k;go_enter func49,ntmps49;go_wp2_with fail;refine(i _).mono ?_;rintro e f ⟨rfl,rfl⟩;go_wp2_with fail;refine(h _).mono ?_;rintro e f ⟨rfl,rfl⟩;go_wp2;go_ret;exact⟨rfl,fC _ _⟩
   .by_cases h4:0<=mode/\mode<=3
    .have l:iG 0 3 mode=true:=by simp[iG];omega
     rw[l]at k
     have d:aS lo hi mode=0:=by unfold aS;rw[if_neg (by omega),if_neg h3,if_neg (by omega)]
     rw[d];clear h1 h2 g j d l h4;go_enter func49,ntmps49;go_wp2_with fail;refine(i _).mono ?_;rintro e f ⟨rfl,rfl⟩;go_wp2_with fail;refine(h _).mono ?_;rintro e f ⟨rfl,rfl⟩;go_wp2_with fail;refine(k _).mono ?_;rintro e f ⟨rfl,rfl⟩;go_wp2;go_ret;exact⟨rfl,fC _ _⟩
    .have l:iG 0 3 mode=false:=by
      rw[<-Bool.not_eq_true];simp only[iG,Bool.and_eq_true,decide_eq_true_eq];exact h4
     rw[l]at k
     have d:aS lo hi mode=1:=by unfold aS;rw[if_neg (by omega),if_neg h3,if_pos h4]
     rw[d];clear h1 h2 g j d l h4;go_enter func49,ntmps49;go_wp2_with fail;refine(i _).mono ?_;rintro e f ⟨rfl,rfl⟩;go_wp2_with fail;refine(h _).mono ?_;rintro e f ⟨rfl,rfl⟩;go_wp2_with fail;refine(k _).mono ?_;rintro e f ⟨rfl,rfl⟩;go_wp2;go_ret;exact⟨rfl,fC _ _⟩
  .have j:iG (-1048576) 1048576 hi=false:=by
    rw[<-Bool.not_eq_true];simp only[iG,Bool.and_eq_true,decide_eq_true_eq];exact h2
   rw[j]at h
   have d:aS lo hi mode=2:=by unfold aS;rw[if_pos (Or.inr h2)]
   rw[d];clear h1 h2 g j d k;go_enter func49,ntmps49;go_wp2_with fail;refine(i _).mono ?_;rintro e f ⟨rfl,rfl⟩;go_wp2_with fail;refine(h _).mono ?_;rintro e f ⟨rfl,rfl⟩;go_wp2;go_ret;exact⟨rfl,fC _ _⟩
 .have g:iG (-1048576) 1048576 lo=false:=by
   rw[<-Bool.not_eq_true];simp only[iG,Bool.and_eq_true,decide_eq_true_eq];exact h1
  rw[g]at i
  have d:aS lo hi mode=2:=by unfold aS;rw[if_pos (Or.inl h1)]
  rw[d];clear h1 g d h k;go_enter func49,ntmps49;go_wp2_with fail;refine(i _).mono ?_;rintro e f ⟨rfl,rfl⟩;go_wp2;go_ret;exact⟨rfl,fC _ _⟩
def yh(lo hi mode:Int):RJ:=⟨lo,hi,mode,-1099511627777,-1099511627777,0,0,[],[]⟩
theorem PX(lo hi mode:Int)(w:World):Calls prog 50 #[.agg #[.int .i64 lo,.int .i64 hi,.int .i64 mode]] w λe d=>∃b,e=.returned (.pointer (some ⟨b,0,none⟩))/\w.heap.size<=b/\dh d 0 b (.slice none 0 0) (.slice none 0 0) (yh lo hi mode)/\Below w.heap.size w d:=by
 go_enter func50,ntmps50;go_wp2;go_ret;refine⟨_,rfl,?_,⟨?_,iR _ _ _ _,iR _ _ _ _,λg e=>by simp[Value.ownBlock]at e⟩,?_⟩
 .simp
 .first
   |exact eZ _ _
   |exact aM (by simp)
 .first
   |exact fK _ _ _
   |exact fC _ _
   |exact below_alloc3 _ _ _ _
theorem FC(b:Nat)(s tm:Int)(w:World)(j:iG 0 1 s=true)(i:iG (-1099511627776) 1099511627776 tm=false):Calls prog 16 #[.pointer (some ⟨b,0,none⟩),.int .i64 s,.int .i64 tm] w λe f=>e=.returned (.int .i64 2)/\f=w:=by
 have h:=λW=>bG s 0 1 W
 have g:=λW=>bG tm (-1099511627776) 1099511627776 W
 rw[j]at h;rw[i]at g;go_enter func16,ntmps16;go_wp2_with fail;refine(h _).mono ?_;rintro e f ⟨rfl,d⟩;rw[d];clear d f;go_wp2_with fail;refine(g _).mono ?_;rintro e f ⟨rfl,d⟩;rw[d];go_wp2;go_ret;exact⟨rfl,rfl⟩
theorem FD(tm:Int)(w:World)(h:dh w 0 b c a x)(j:iG (-1099511627776) 1099511627776 tm=true)(hm:tm<x.m0):Calls prog 16 #[.pointer (some ⟨b,0,none⟩),.int .i64 0,.int .i64 tm] w λe d=>e=.returned (.int .i64 10)/\Below w.heap.size w d:=by
 have i:∀W,Calls prog 52 #[.int .i64 0,.int .i64 0,.int .i64 1] W λe d=>e=.returned (.bool true)/\d=W:=λW=>bG 0 0 1 W
 have g:=λW=>bG tm (-1099511627776) 1099511627776 W
 rw[j]at g;have c5:=h.cells.2.2.2.2.2.1;have hlt:=h.lt;clear h;go_enter func16,ntmps16;go_wp2_with fail;refine(i _).mono ?_;rintro e d ⟨rfl,f⟩;rw[f];clear f d;go_wp2_with fail;refine(g _).mono ?_;rintro e d ⟨rfl,f⟩;rw[f];clear f d;go_wp2;go_ret;exact⟨rfl,iL _ _⟩
theorem FE(tm:Int)(w:World)(h:dh w 0 b c a x)(j:iG (-1099511627776) 1099511627776 tm=true)(hm:tm<x.m1):Calls prog 16 #[.pointer (some ⟨b,0,none⟩),.int .i64 1,.int .i64 tm] w λe d=>e=.returned (.int .i64 10)/\Below w.heap.size w d:=by
 have i:∀W,Calls prog 52 #[.int .i64 1,.int .i64 0,.int .i64 1] W λe d=>e=.returned (.bool true)/\d=W:=λW=>bG 1 0 1 W
 have g:=λW=>bG tm (-1099511627776) 1099511627776 W
 rw[j]at g;have c6:=h.cells.2.2.2.2.2.2.1;have hlt:=h.lt;clear h;go_enter func16,ntmps16;go_wp2_with fail;refine(i _).mono ?_;rintro e d ⟨rfl,f⟩;rw[f];clear f d;go_wp2_with fail;refine(g _).mono ?_;rintro e d ⟨rfl,f⟩;rw[f];clear f d;go_wp2;go_ret;exact⟨rfl,iL _ _⟩
end
section
open Go.Proofs.Tryz Go.Joins
structure nM(w:World)(be bj:Nat)(v v0 v1:Value)(x:RJ)(M:List O)(f0 f1:Int):Prop where
 bag:gT (.pointer (some ⟨bj,0,none⟩)) (.int .i64 f0) (.int .i64 f1) w 0 be v M
 join:dh w 0 bj v0 v1 x
theorem nM.below{w a:World}{be bj:Nat}{v c b:Value}{x:RJ}{M:List O}{f0 f1:Int}(h:nM w be bj v c b x M f0 f1)(d:Below w.heap.size w a):nM a be bj v c b x M f0 f1:=⟨h.bag.below d,h.join.below d⟩
theorem oF(lo hi mode:Int)(w:World)(b:aS lo hi mode≠0):Calls prog 14 #[.agg #[.int .i64 lo,.int .i64 hi,.int .i64 mode]] w λe d=>e=.returned (.tuple #[.pointer none,.int .i64 (aS lo hi mode)])/\Below w.heap.size w d:=by
 have H:=λW=>yL lo hi mode W
 have hne:(aS lo hi mode==0)=false:=by simp[b]
 have hne2:(aS lo hi mode !=0)=true:=by simp[b]
 generalize aS lo hi mode=c at *;go_enter func14,ntmps14;go_wp2_with fail;refine(H _).mono ?_;rintro e w2 ⟨rfl,a⟩;go_wp2;go_ret2;exact⟨rfl,by first|exact a|exact(fC _ _).trans (a.mono (by simp))⟩
theorem lN(lo hi mode:Int)(w:World)(l:aS lo hi mode=0):Calls prog 14 #[.agg #[.int .i64 lo,.int .i64 hi,.int .i64 mode]] w λe j=>∃be bj,e=.returned (.tuple #[.pointer (some ⟨be,0,none⟩),.int .i64 0])/\w.heap.size<=be/\w.heap.size<=bj/\nM j be bj (.slice none 0 0) (.slice none 0 0) (.slice none 0 0) (yh lo hi mode) [] 0 0/\Below w.heap.size w j:=by
 have H:=λW=>yL lo hi mode W
 rw[l]at H
 have k:=λW=>PX lo hi mode W
 clear l;go_enter func14,ntmps14;go_wp2_with fail;refine(H _).mono ?_;rintro e f ⟨rfl,d⟩;have c:Hid (Below w.heap.size w f):=(fC _ _).trans (d.mono (by simp));have a:f.heap[w.heap.size]?=some (.cells #[.int .i64 lo,.int .i64 hi,.int .i64 mode] 45):=(d.block _ (by simp)).trans (eZ _ _)
 have d0:f.cell? ⟨w.heap.size,0,none⟩=some (.int .i64 lo):=by rw[fq a];rfl
 have d1:f.cell? ⟨w.heap.size,1,none⟩=some (.int .i64 hi):=by rw[fq a];rfl
 have d2:f.cell? ⟨w.heap.size,2,none⟩=some (.int .i64 mode):=by rw[fq a];rfl
 clear d H a;go_wp2_with fail;refine(k _).mono ?_;rintro e n ⟨bj,rfl,i,m,g⟩;have b:Hid (Below w.heap.size w n):=c.out.trans (g.mono c.out.size);have h:=hid m;have o:w.heap.size<=bj:=aH c.out.size i;clear k m g;go_wp2;go_ret2;refine⟨_,bj,rfl,b.out.size,o,⟨⟨eZ _ _,iR _ _ _ _⟩,h.out.below (fC _ _)⟩,b.out.alloc b.out.size _⟩
end
section
open Go.Joins
variable{w y W A:World}{base k n d bj g:Nat}{e:TypeId}{v i z r m f:Value}{B:List Value}{S:Nat->Prop}{x:RJ}{M:List O}{f0 f1 F:Int}{C:List Ch}{c:Ch}
def kK(M:List O)(c:Ch):List O:=if c.g=true then M.erase c.x else M++[c.x]
theorem PY(M:List O)(c:Ch):(kK M c).length<=M.length+1:=by
 unfold kK
 split
 .have:=List.length_erase_le (a:=c.x) (l:=M);omega
 .simp
theorem Bg:∀(C:List Ch) (M:List O),(C.foldl kK M).length<=M.length+C.length
 |[],M=>by simp
 |c::C,M=>by
  have h1:=Bg C (kK M c);have h2:=PY M c;simp only[List.foldl_cons,List.length_cons];omega
theorem IB(pj f0 f1:Value)(d:Nat)(v:Value)(M:List O)(w:World)(h:gT pj f0 f1 w 0 d v M)(c:Ch)(j:M.length<=1000000):
  Calls Tryz.prog 41 #[.pointer (some ⟨d,1,none⟩),vC c.x c.g] w λe a=>∃n i,e=.returned (.int .i64 n)/\gT pj f0 f1 a 0 d i (kK M c)/\nJ d v.ownBlock w a/\Moves w v.ownBlock i.ownBlock:=by
 obtain⟨x,g⟩:=c
 cases g with
 |false=>
  refine(PU pj f0 f1 0 d v M w h x j (aW _)).mono ?_;rintro e a ⟨rfl,i,o,b,l⟩;exact⟨0,i,rfl,o,b,l⟩
 |true=>
  by_cases hm:x∈M
  .refine(LX pj f0 f1 0 d v M w h x j (aW _) hm).mono ?_;rintro e a ⟨rfl,i,o,b,l⟩;exact⟨0,i,rfl,o,b,l⟩
  .refine(LQ pj f0 f1 0 d v M w h x j hm).mono ?_;rintro e a ⟨rfl,p⟩;refine⟨8,v,rfl,?_,nJ.of_below p,Or.inl rfl⟩
   have:kK M ⟨x,true⟩=M:=by unfold kK;rw[if_pos rfl];exact List.erase_of_not_mem hm
   rw[this];exact h.below p
theorem dZ{b T:Nat}{cs:Array Value}(h:w.ownsRow base e k v n B)(o:w.heap[b]?=some (.cells cs T))(l:T≠e):v.ownBlock≠some b:=by
 rcases h.2 with⟨rfl,_⟩|⟨g,cap,cur,rfl,_,j,_⟩
 .simp[Value.ownBlock]
 .intro a;simp[Value.ownBlock]at a;subst a;rw[o]at j;cases j;exact l rfl
theorem mV{base' q j:Nat}{b:TypeId}{xs':List Value}(h:w.ownsRow base e k v n B)(l:w.ownsRow base' b q i j xs')(o:e≠b)(g:Nat)(a:v.ownBlock=some g):i.ownBlock≠some g:=by
 rcases h.2 with⟨rfl,_⟩|⟨g1,cap,cur,rfl,_,p,_⟩
 .simp[Value.ownBlock]at a
 .simp[Value.ownBlock]at a;subst a;exact dZ l p o
structure Ef(w y:World)(d bj:Nat)(S:Nat->Prop)(z v r m:Value)(x:RJ)(M:List O)(f0 f1:Int)(f:Value)(C:List Ch)(W:World):Prop where
 at1:nM W d bj v r m x M f0 f1
 ox:W.ownsRow w.heap.size 95 10 f C.length (C.flatMap aQ)
 tr:Turned (λg=>g=d∨z.ownBlock=some g∨S g) w W
 mv:Moves w z.ownBlock v.ownBlock
 sz:w.heap.size<=y.heap.size/\y.heap.size<=W.heap.size
theorem Ef.go(h:Ef w y d bj S z v r m x M f0 f1 f C W)(a:Below W.heap.size W A):Ef w y d bj S z v r m x M f0 f1 f C A:=
 ⟨h.at1.below a,ag h.ox (λg e=>a.block g (h.ox.lt g e).2),h.tr.trans (Turned.of_below (S:=λ_=>False) a) (λ_ _ e=>e.elim),h.mv,⟨h.sz.1,aH h.sz.2 a.size⟩⟩
theorem Ef.apply{t:List O}(h:Ef w y d bj S z v r m x M f0 f1 f C W)(H:gT (.pointer (some ⟨bj,0,none⟩)) (.int .i64 f0) (.int .i64 f1) A 0 d i t)(j:nJ d v.ownBlock W A)(I:Moves W v.ownBlock i.ownBlock):Ef w y d bj S z i r m x t f0 f1 f C A:=by
 have l:=h.at1.join;have a:=h.at1.bag;have keep:∀q,q<W.heap.size->q≠d->v.ownBlock≠some q->A.heap[q]?=W.heap[q]? :=j.block
 have p:bj≠d:=λe=>by have b:=l.blk;rw[e,a.blk]at b;cases b
 have row:∀(n:Nat) (u:Value) (B:List Value),W.ownsRow 0 117 5 u n B->A.ownsRow 0 117 5 u n B:=λn u B o=>ag o (λq e=>keep q (o.lt q e).2 (λs=>dZ o a.blk (by omega) (by rw[e,s])) (mV o a.row (by decide) q e))
 refine⟨⟨H,⟨(keep bj l.lt p (dZ a.row l.blk (by omega))).trans l.blk,row _ _ _ l.r0,row _ _ _ l.r1,l.apart⟩⟩,ag h.ox (λq e=>keep q (h.ox.lt q e).2 (λs=>dZ h.ox a.blk (by omega) (by rw[e,s])) (mV h.ox a.row (by decide) q e)),?_,?_,⟨h.sz.1,aH h.sz.2 j.size⟩⟩
 .refine h.tr.trans (S':=λg=>g=d∨v.ownBlock=some g) ⟨j.os,j.tape,j.output,j.size,λq E G=>j.block q E (λe=>G (Or.inl e)) (λe=>G (Or.inr e))⟩ ?_;rintro q E (e|e)
  .exact Or.inl e
  .rcases h.mv with b|⟨g,b,h2⟩
   .exact Or.inr (Or.inl (by rw[<-b];exact e))
   .rw[b]at e
    injection e with e
    omega
 .rcases I with b|⟨g,b,h2⟩
  .rw[b];exact h.mv
  .exact Or.inr ⟨g,b,by have:=h.sz;omega⟩
theorem J7(h:W.heap[g]?=some (.cells #[.int .i64 c.x.k,.int .i64 c.x.lk,.int .i64 c.x.lt,.int .i64 c.x.lv,.int .i64 c.x.rk,.int .i64 c.x.rt,.int .i64 c.x.rv,.bool c.x.hl,.bool c.x.hr,.bool c.g] 95)):W.cell? ⟨g,0,none⟩=some (.int .i64 c.x.k)/\W.cell? ⟨g,1,none⟩=some (.int .i64 c.x.lk)/\W.cell? ⟨g,2,none⟩=some (.int .i64 c.x.lt)/\W.cell? ⟨g,3,none⟩=some (.int .i64 c.x.lv)/\W.cell? ⟨g,4,none⟩=some (.int .i64 c.x.rk)/\W.cell? ⟨g,5,none⟩=some (.int .i64 c.x.rt)/\W.cell? ⟨g,6,none⟩=some (.int .i64 c.x.rv)/\W.cell? ⟨g,7,none⟩=some (.bool c.x.hl)/\W.cell? ⟨g,8,none⟩=some (.bool c.x.hr)/\W.cell? ⟨g,9,none⟩=some (.bool c.g):=by
 refine⟨?_,?_,?_,?_,?_,?_,?_,?_,?_,?_⟩ <;>(rw[fq h];rfl)
theorem CP{cap q:Nat}(h:W.ownsRow base 95 10 (.slice (some ⟨g,0,none⟩) n cap) n (C.flatMap aQ))(hn:C.length=n)(a:C[q]?=some c):W.cell? ⟨g,q*10,none⟩=some (.int .i64 c.x.k)/\W.cell? ⟨g,q*10+1,none⟩=some (.int .i64 c.x.lk)/\W.cell? ⟨g,q*10+2,none⟩=some (.int .i64 c.x.lt)/\W.cell? ⟨g,q*10+3,none⟩=some (.int .i64 c.x.lv)/\W.cell? ⟨g,q*10+4,none⟩=some (.int .i64 c.x.rk)/\W.cell? ⟨g,q*10+5,none⟩=some (.int .i64 c.x.rt)/\W.cell? ⟨g,q*10+6,none⟩=some (.int .i64 c.x.rv)/\W.cell? ⟨g,q*10+7,none⟩=some (.bool c.x.hl)/\W.cell? ⟨g,q*10+8,none⟩=some (.bool c.x.hr)/\W.cell? ⟨g,q*10+9,none⟩=some (.bool c.g):=by
 have hl:q<C.length:=(bP.1 a).1
 have e:∀j,j<10->W.cell? ⟨g,q*10+j,none⟩=(aQ c)[j]? :=λj b=>by
  rw[h.cellAt (q*10+j) (by omega),cB aQ 10 kC C q j c a b]
 exact⟨e 0 (by omega),e 1 (by omega),e 2 (by omega),e 3 (by omega),e 4 (by omega),e 5 (by omega),e 6 (by omega),e 7 (by omega),e 8 (by omega),e 9 (by omega)⟩
def PZ:Op:= .load 3 (.tmp 32)
theorem P5{s l:World}{L t:Value}{P:RJ}{o:Obj}(h:nM w d bj v r m x M f0 f1)(p:Below w.heap.size w s)(q:s.heap[w.heap.size]?=some o)(K:∀g,S g->g=bj∨r.ownBlock=some g∨m.ownBlock=some g)(G:l.ownsRow s.heap.size 95 10 f C.length (C.flatMap aQ))(R:dh l 0 bj L t P)(j:Turned S s l):Ef w l d bj S v v L t P M f0 f1 f C l/\l.heap[w.heap.size]?=some o:=by
 have b:=h.join;have a:=h.bag
 have u:bj≠d:=λe=>by have N:=b.blk;rw[e,a.blk]at N;cases N
 have H:¬S d:=λe=>by
  rcases K d e with e|e|e
  .exact u e.symm
  .exact dZ b.r0 a.blk (by omega) e
  .exact dZ b.r1 a.blk (by omega) e
 have Q:∀g,v.ownBlock=some g->¬S g:=λg E e=>by
  rcases K g e with e|e|e
  .exact dZ a.row b.blk (by omega) (by rw[E,e])
  .exact mV a.row b.r0 (by decide) g E e
  .exact mV a.row b.r1 (by decide) g E e
 have nr:¬S w.heap.size:=λe=>by
  rcases K _ e with e|e|e
  .have:=b.lt;omega
  .have:=(b.r0.lt _ e).2;omega
  .have:=(b.r1.lt _ e).2;omega
 have I:w.heap.size<s.heap.size:=(ax.1 q).1;refine⟨⟨⟨⟨(j.block d (by have:=a.lt;omega) H).trans ((p.block d a.lt).trans a.blk),ag a.row (λg e=>(j.block g (by have:=(a.row.lt g e).2;omega) (Q g e)).trans (p.block g (a.row.lt g e).2))⟩,R⟩,World.ownsRow.mono G p.size,?_,Or.inl rfl,⟨aH p.size j.size,aC _⟩⟩,(j.block _ I nr).trans q⟩;exact(Turned.of_below p).trans (j.mono (λg e=>Or.inr (Or.inr e))) (λ_ _ e=>e)
theorem S9(h:Ef w y d bj S z v r m x M f0 f1 f C W):Ef w y d bj S z v r m x M F f1 f C (W.setCell ⟨d,2,none⟩ (.int .i64 F)):=by
 have b:=h.at1.join;have a:=h.at1.bag
 have s:bj≠d:=λe=>by have t:=b.blk;rw[e,a.blk]at t;cases t
 have l:∀(u:Value) (o q:Nat),q≠d->(W.setCell ⟨d,o,none⟩ u).heap[q]?=W.heap[q]? :=λu o q p=>iJ _ _ _ _ p
 refine⟨⟨⟨by rw[fZ a.blk];rfl,ag a.row (λg e=>l _ _ g (λj=>dZ a.row a.blk (by omega) (by rw[e,j])))⟩,⟨(l _ _ bj s).trans b.blk,ag b.r0 (λg e=>l _ _ g (λj=>dZ b.r0 a.blk (by omega) (by rw[e,j]))),ag b.r1 (λg e=>l _ _ g (λj=>dZ b.r1 a.blk (by omega) (by rw[e,j]))),b.apart⟩⟩,ag h.ox (λg e=>l _ _ g (λj=>dZ h.ox a.blk (by omega) (by rw[e,j]))),?_,h.mv,⟨h.sz.1,by simp;exact h.sz.2⟩⟩;exact h.tr.trans (S':=λq=>q=d) ⟨rfl,rfl,rfl,by simp,λq _ p=>l _ _ q p⟩ (λq _ e=>Or.inl e)
theorem Ta(h:Ef w y d bj S z v r m x M f0 f1 f C W):Ef w y d bj S z v r m x M f0 F f C (W.setCell ⟨d,3,none⟩ (.int .i64 F)):=by
 have b:=h.at1.join;have a:=h.at1.bag
 have s:bj≠d:=λe=>by have t:=b.blk;rw[e,a.blk]at t;cases t
 have l:∀(u:Value) (o q:Nat),q≠d->(W.setCell ⟨d,o,none⟩ u).heap[q]?=W.heap[q]? :=λu o q p=>iJ _ _ _ _ p
 refine⟨⟨⟨by rw[fZ a.blk];rfl,ag a.row (λg e=>l _ _ g (λj=>dZ a.row a.blk (by omega) (by rw[e,j])))⟩,⟨(l _ _ bj s).trans b.blk,ag b.r0 (λg e=>l _ _ g (λj=>dZ b.r0 a.blk (by omega) (by rw[e,j]))),ag b.r1 (λg e=>l _ _ g (λj=>dZ b.r1 a.blk (by omega) (by rw[e,j]))),b.apart⟩⟩,ag h.ox (λg e=>l _ _ g (λj=>dZ h.ox a.blk (by omega) (by rw[e,j]))),?_,h.mv,⟨h.sz.1,by simp;exact h.sz.2⟩⟩;exact h.tr.trans (S':=λq=>q=d) ⟨rfl,rfl,rfl,by simp,λq _ p=>l _ _ q p⟩ (λq _ e=>Or.inl e)
theorem wG{p:Prop}(h:p):Hid p:=h
theorem ES{E G:Int}(s cd k t u:Int)(w:World)(h:nM w d bj v r m x M f0 f1)(S:Nat->Prop)(Pst:List Ch->RJ->Value->Value->Prop)(hM:M.length<=900000)
  (hsc:s=0/\(cd=0∨cd=10)/\E=wrap64 (f0+1)/\G=f1∨s=1/\(cd=0∨cd=10)/\E=f0/\G=wrap64 (f1+1)∨(cd=1∨cd=12)/\E=f0/\G=f1)
  (hS:∀g,S g->g=bj∨r.ownBlock=some g∨m.ownBlock=some g)
  (hF:∀W,w.heap.size<=W.heap.size->dh W 0 bj r m x->Calls Tryz.prog 44 #[.pointer (some ⟨bj,0,none⟩),.int .i64 s,.agg #[.int .i64 k,.int .i64 t,.int .i64 u]] W λe Q=>∃(f H a:Value) (C:List Ch) (K:RJ),e=.returned (.tuple #[f,.int .i64 cd])/\Q.ownsRow W.heap.size 95 10 f C.length (C.flatMap aQ)/\C.length<=1000/\dh Q 0 bj H a K/\Turned S W Q/\Pst C K H a):
  Calls Tryz.prog 10 #[.pointer (some ⟨d,0,none⟩),.int .i64 s,.agg #[.int .i64 k,.int .i64 t,.int .i64 u]] w λe Q=>∃(f i H a:Value) (C:List Ch) (K:RJ),e=.returned (.tuple #[f,.int .i64 cd])/\Q.ownsRow w.heap.size 95 10 f C.length (C.flatMap aQ)/\nM Q d bj i H a K (C.foldl kK M) E G/\Pst C K H a/\Turned (λg=>g=d∨v.ownBlock=some g∨S g) w Q/\Moves w v.ownBlock i.ownBlock:=by
 have HE:=wG h
 have cb:w.cell? ⟨d,0,none⟩=some (.pointer (some ⟨bj,0,none⟩)):=by rw[fq h.bag.blk];rfl
 have hlt:=h.bag.lt;clear h;have B1:=wG (fC w (.cells #[.int .i64 k,.int .i64 t,.int .i64 u] 37)).drew;have R1:Hid ((w.alloc (.cells #[.int .i64 k,.int .i64 t,.int .i64 u] 37)).drew.heap[w.heap.size]?=_):=eZ _ _;have HF:=wG hF;have HS:=wG hS;have HSC:Hid (s=0/\(cd=0∨cd=10)/\Hid (E=wrap64 (f0+1))/\Hid (G=f1)∨s=1/\(cd=0∨cd=10)/\Hid (E=f0)/\Hid (G=wrap64 (f1+1))∨(cd=1∨cd=12)/\Hid (E=f0)/\Hid (G=f1)):=hsc;clear hF hS hsc;go_enter Tryz.func10,Tryz.ntmps10;go_wp2_with fail
 go_region_held3 (λV=>V.cell? ⟨d,0,none⟩=some (.pointer (some ⟨bj,0,none⟩))/\V.cell? ⟨w.heap.size,0,none⟩=some (.int .i64 k)/\V.cell? ⟨w.heap.size,1,none⟩=some (.int .i64 t)/\V.cell? ⟨w.heap.size,2,none⟩=some (.int .i64 u)) (first|exact YW|(go_keep;done)|fail) (first
  |(go_at_call 44;refine(HF.out _ B1.out.size (HE.out.join.below B1.out)).mono ?_;rintro e j ⟨f,H,a,C,K,rfl,hox,Ud,hj5,Z,hps⟩;have R:=P5 HE.out B1.out R1.out HS.out hox hj5 Z;have b:=wG R.1;have HPs:=wG hps;have YW:j.cell? ⟨d,0,none⟩=some (.pointer (some ⟨bj,0,none⟩))/\j.cell? ⟨w.heap.size,0,none⟩=some (.int .i64 k)/\j.cell? ⟨w.heap.size,1,none⟩=some (.int .i64 t)/\j.cell? ⟨w.heap.size,2,none⟩=some (.int .i64 u):=(by refine⟨?_,?_,?_,?_⟩;(rw[fq R.1.at1.bag.blk];rfl);(rw[fq R.2];rfl);(rw[fq R.2];rfl);(rw[fq R.2];rfl));clear hox hj5 Z hps R)
  |fail)
 have sx:=aj b.out.ox;obtain⟨px,dx,rfl⟩:=sx
 rcases HSC.out with⟨rfl,p,U,o⟩|⟨rfl,p,U,o⟩|⟨p,U,o⟩
 case' inl=>
  have cf:j.cell? ⟨d,2,none⟩=some (.int .i64 f0)/\j.frozen? ⟨d,2,none⟩=false/\d<j.heap.size:=⟨by rw[fq b.out.at1.bag.blk];rfl,fV b.out.at1.bag.blk 2,b.out.at1.bag.lt⟩
  rcases p with rfl|rfl
  all_goals
   go_wp2_with fail;have N:PZ=Op.load 3 (.tmp 32):=rfl;rw[<-N]
   go_region_held3 (λV=>True) (exact trivial) (fail)
   have l:=wG ((S9 (F:=wrap64 (f0+1)) b.out).go (iL _ _).drew);clear b cf YW;go_wp2_with fail;revert l;generalize(j.setCell ⟨d,2,none⟩ (.int .i64 (wrap64 (f0+1)))).drew=w6;intro l;rw[<-U.out,<-o.out]at l
 case' inr.inl=>
  have cf:j.cell? ⟨d,3,none⟩=some (.int .i64 f1)/\j.frozen? ⟨d,3,none⟩=false/\d<j.heap.size:=⟨by rw[fq b.out.at1.bag.blk];rfl,fV b.out.at1.bag.blk 3,b.out.at1.bag.lt⟩
  rcases p with rfl|rfl
  all_goals
   go_wp2_with fail;have N:PZ=Op.load 3 (.tmp 32):=rfl;rw[<-N]
   go_region_held3 (λV=>True) (exact trivial) (fail)
   have l:=wG ((Ta (F:=wrap64 (f1+1)) b.out).go (iL _ _).drew);clear b cf YW;go_wp2_with fail;revert l;generalize(j.setCell ⟨d,3,none⟩ (.int .i64 (wrap64 (f1+1)))).drew=w6;intro l;rw[<-U.out,<-o.out]at l
 case' inr.inr=>
  have l:=b;rw[<-U.out,<-o.out]at l;clear b YW
  rcases p with rfl|rfl
  all_goals go_wp2_with fail
 all_goals as_aux_lemma=>
  go_loopg [40] C.length (λgg v40 wr=>∃(q:Nat) (T:Value),q<=C.length/\gg=C.length -q/\v40=.int .i64 q/\Hid (Ef w j d bj S v T H a K ((C.take q).foldl kK M) E G (.slice px C.length dx) C wr))
  case atStart=>exact⟨0,v,aW _,rfl,rfl,l⟩
  case round=>
   obtain⟨q,T,hq,hgg,rfl,I⟩:=hrel;have HG:=wG hgg;clear hgg l
   by_cases uD:q<C.length
   .obtain⟨gx,o⟩:∃gx,px=some ⟨gx,0,none⟩:=by
     obtain⟨g,cg,e⟩:=gy I.out.ox (by omega)
     injection e with o
     exact⟨g,o⟩
    subst o;obtain⟨c,hcq⟩:∃c,C[q]?=some c:=⟨_,aO uD⟩;have ch:=CP I.out.ox rfl hcq
    have HK:Hid ((C.take (q+1)).foldl kK M=kK ((C.take q).foldl kK M) c):=by
     show(C.take (q+1)).foldl kK M=_;rw[List.take_add_one,hcq];simp
    have Hf:((C.take q).foldl kK M).length<=1000000:=by
     have h1:=Bg (C.take q) M;have h2:=eG q C;omega
    have Y:=wG (I.out.go (fC wr (qZ c)));have L:=eZ wr (qZ c);have AJ:=wG L;have cb:=J7 L
    have j1:(0:Int)<=(q:Int):=by omega
    have j2:(q:Int)<(C.length:Int):=by omega
    have P:=IB _ _ _ d T ((C.take q).foldl kK M) (wr.alloc (qZ c)).drew (Y.out.go (iL _ _).drew).at1.bag c Hf;simp only[vC]at P;clear hcq L I;generalize hX:(C.take q).foldl kK M=X at *;have HST:=wG (λ(w9:World) (v9:Value) (YX:gT (.pointer (some ⟨bj,0,none⟩)) (.int .i64 E) (.int .i64 G) w9 0 d v9 (kK X c)) (Yb:nJ d T.ownBlock (wr.alloc (qZ c)).drew w9) (YY:Moves (wr.alloc (qZ c)).drew T.ownBlock v9.ownBlock)=>And.intro ((Y.out.go (iL _ _).drew).apply YX Yb YY) (J7 ((Yb.block wr.heap.size (by show wr.heap.size<(wr.alloc (qZ c)).heap.size;simp) (λe=>by have:=Y.out.at1.bag.blk;rw[<-e,AJ.out]at this;cases this) (λe=>dZ Y.out.at1.bag.row AJ.out (by decide) e)).trans AJ.out)));go_wp2_with fail
    go_region_held3 (λV=>V.cell? ⟨wr.heap.size,0,none⟩=some (.int .i64 c.x.k)/\V.cell? ⟨wr.heap.size,1,none⟩=some (.int .i64 c.x.lk)/\V.cell? ⟨wr.heap.size,2,none⟩=some (.int .i64 c.x.lt)/\V.cell? ⟨wr.heap.size,3,none⟩=some (.int .i64 c.x.lv)/\V.cell? ⟨wr.heap.size,4,none⟩=some (.int .i64 c.x.rk)/\V.cell? ⟨wr.heap.size,5,none⟩=some (.int .i64 c.x.rt)/\V.cell? ⟨wr.heap.size,6,none⟩=some (.int .i64 c.x.rv)/\V.cell? ⟨wr.heap.size,7,none⟩=some (.bool c.x.hl)/\V.cell? ⟨wr.heap.size,8,none⟩=some (.bool c.x.hr)/\V.cell? ⟨wr.heap.size,9,none⟩=some (.bool c.g)) (first|exact cs9|exact cb|fail) (first
     |(go_at_call 41;refine P.mono ?_;rintro e w9 ⟨nn,v9,rfl,YX,Yb,YY⟩;have ZP:=HST.out w9 v9 YX Yb YY;have HE9:Hid _:=ZP.1;have cs9:=ZP.2;clear YX Yb YY ZP)
     |fail)
    clear ch cb P Y AJ HST;go_wp2
    go_roundg (C.length -(q+1))
    case measure=>have:=HG.out;omega
    case rel=>
     refine⟨q+1,v9,by omega,rfl,by go_num,?_⟩;show Ef _ _ _ _ _ _ _ _ _ _ _ _ _ _ _ _;rw[HK.out];exact HE9.out
   .have o:q=C.length:=by omega
    subst o
    have i1:¬((C.length:Nat):Int)<(C.length:Int):=by omega
    have I1:=I.out;rw[List.take_length]at I1;have HI:Hid _:=I1;clear I I1;go_wp2;go_ret2;exact⟨_,rfl,T,H,a,C,HI.out.ox,K,HI.out.at1,HPs.out,HI.out.tr,HI.out.mv⟩
end
section
open Go.Proofs.Tryz
theorem FT(y:List UInt8)(w:World)(f:aU w)(d:y.length<=1000000):
  Calls prog 36 #[.string ⟨y.toArray⟩] w λe j=>e=.returned (.tuple #[.int .i64 ((numOf y).getD 0),.bool (numOf y).isSome])/\Below w.heap.size w j:=by
 cases hp:Lib.parseIntB 64 y with
 |ok v=>
  have i:=rC hp;have k:=xJ hp d w
  have o:Hid (∀W,Below w.heap.size w W->Calls prog 86 #[.int .i64 v,.int .i64 10] W λe j=>e=.returned (.string ⟨(Lib.itoa v).toArray⟩)/\Below w.heap.size w j):=λW m=>(qz i W (aG f.g.tab m)).mono λe j h=>⟨h.1,m.trans (h.2.mono m.size)⟩
  have hv1: -9223372036854775808<=v:=i.1;have hv2:v<=9223372036854775807:=i.2
  by_cases hq:Lib.itoa v=y
  .have b:numOf y=some v:=by unfold numOf;rw[hp];simp[hq]
   have r:(Lib.itoa v==y)=true:=by simpa using hq
   have l:(Lib.itoa v !=y)=false:=by simpa using hq
   rw[b];clear f d hp b i hq;go_enter func36,ntmps36;go_wp2_with fail;refine k.mono ?_;rintro e p ⟨rfl,a⟩;go_wp2_with fail;refine(o.out _ a).mono ?_;rintro e q ⟨rfl,c⟩;go_wp2;go_ret2;exact⟨rfl,c⟩
  .have b:numOf y=none:=by unfold numOf;rw[hp];simp[hq]
   have r:(Lib.itoa v==y)=false:=by simpa using hq
   have l:(Lib.itoa v !=y)=true:=by simpa using hq
   rw[b];clear f d hp b i;go_enter func36,ntmps36;go_wp2_with fail;refine k.mono ?_;rintro e p ⟨rfl,a⟩;go_wp2_with fail;refine(o.out _ a).mono ?_;rintro e q ⟨rfl,c⟩;go_wp2;go_ret2;exact⟨rfl,c⟩
 |_=>
  have b:numOf y=none:=by unfold numOf;rw[hp]
  have k:=tC (y:=y) (λv e=>by rw[hp]at e;cases e) d w f;rw[b];clear f d hp b;go_enter func36,ntmps36;go_wp2_with fail;refine k.mono ?_;rintro e p ⟨n,t,u,rfl,a⟩;go_wp2;go_ret2;exact⟨rfl,a⟩
end
end Go.Proofs.YthfpipieboophaaGreatDoor
