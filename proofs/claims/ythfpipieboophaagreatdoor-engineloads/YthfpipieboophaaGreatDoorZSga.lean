import Derived.Sort.LotA
import Derived.Sort.LotD4
import Derived.Test.YthfpipieboophaaGreatDoorZHd
namespace Go.Proofs.YthfpipieboophaaGreatDoor
set_option maxRecDepth 100000
set_option maxHeartbeats 40000000
open Go.Joins Go.RowKit Go.Sort
section
open Go.Proofs.Tryz
variable{α:Type}{B blk n lf c:Nat}{lb f:Array Value}
structure si{α:Type}[Inhabited α](lt:α->α->Bool)(B blk n:Nat)(lf:Nat)(lb:Array Value)(c:Nat)(f:Array Value)(Hd:Array α->World->Prop):Prop where
 size:∀d W,Hd d W->d.size=n
 low:∀d W,Hd d W->blk<B/\B<=W.heap.size
 kept:∀d W W',Hd d W->Below B W W'->Hd d W'
 enters:∀args w,(callFunc lf args).run prog w=.ok (.enter lf args) w
 less:∀d W i j,Hd d W->i<n->j<n->Calls prog lf (#[.int .i64 (i:Nat),.int .i64 (j:Nat)]++lb) W λe w'=>e=.returned (.bool (lt d[i]! d[j]!))/\Below W.heap.size W w'
 swap:∀d W i j,Hd d W->i<n->j<n->∃W',(callFunc c (#[.int .i64 (i:Nat),.int .i64 (j:Nat)]++f)).run prog W=.ok (.value (.tuple #[])) W'/\Hd (swp d i j) W'/\W.grownBy W' (some blk)
theorem si.still[Inhabited α]{lt:α->α->Bool}{a:Array α->World->Prop}(S:si lt B blk n lf lb c f a)(d:Array α)(W b:World)(h:a d W)(e:Below W.heap.size W b):a d b:=
 S.kept d W b h (e.mono (S.low d W h).2)
theorem si.blt[Inhabited α]{lt:α->α->Bool}{a:Array α->World->Prop}(S:si lt B blk n lf lb c f a)(d:Array α)(W:World)(h:a d W):blk<W.heap.size:=
 aR (S.low d W h).1 (S.low d W h).2
theorem WA[Inhabited α]{lt:α->α->Bool}{q:Array α->World->Prop}(S:si lt B blk n lf lb c f q)(d:Array α)(a b:Nat)(w:World)(hd:q d w)(h2:b<=n)(hn:n<=1000000)(ha:a<=1000000):
  Calls prog 208 #[.agg #[.func (.func lf) #[] lb,.func (.func c) #[] f],.int .i64 a,.int .i64 b] w λe w'=>e=.returned (.tuple #[])/\q (insertionSort lt d a b) w'/\w.grownBy w' (some blk):=by
 have hlt:=S.blt d w hd;have F:=hid S;have HD:=hid hd;have OZ:=S.enters
 have i3:(b:Int)<=1000000:=by omega
 have i5:(a:Int)<=1000000:=by omega
 clear S hd;go_enter func208,ntmps208;go_wp2
 go_loopg [6] (b+1 -(a+1)) (λg v6 wr=>∃(i:Nat) (p:Array α),a+1<=i/\i<=1000001/\g=b+1 -i/\v6=.int .i64 i/\insOuter lt a b i p=insertionSort lt d a b/\q p wr/\w.grownBy wr (some blk)/\wr.heap[w.heap.size]?=some (.cells #[.func (.func lf) #[] lb,.func (.func c) #[] f] 215))
 case atStart=>exact⟨a+1,d,aC _,by omega,rfl,by go_num,rfl,F.out.still _ _ _ HD.out (fC _ _),iV _ _ _,eZ _ _⟩
 case round=>
  obtain⟨i,p,hi,hi2,T,rfl,t,U,X,W⟩:=hrel;have Z:=hid T;have HH:=hid U;have HB:=hid X;have HX:=hid W;have HR:=hid t;clear T t U X W
  by_cases hib:i<b
  .have k1:(i:Int)<(b:Int):=by omega
   have k2:(a:Int)<(i:Int):=by omega
   have u:Hid (insOuter lt a b (i+1) (insInner lt a i p)=insertionSort lt d a b):=by
    have m:=HR.out;rw[insOuter,if_pos hib]at m;exact m
   go_wp2
   go_loopg [7] (i+1) (λg v7 wr=>∃(j:Nat) (d2:Array α),a<=j/\j<=i/\g=j+1/\v7=.int .i64 j/\insInner lt a j d2=insInner lt a i p/\q d2 wr/\w.grownBy wr (some blk)/\wr.heap[w.heap.size]?=some (.cells #[.func (.func lf) #[] lb,.func (.func c) #[] f] 215))
   case atStart=>exact⟨i,p,by omega,aC _,rfl,rfl,rfl,HH.out,HB.out,HX.out⟩
   case round=>
    obtain⟨j,d2,hj,hji,E,rfl,z,y,v,G⟩:=hrel;have N:=hid E;have M:=hid y;have x:=hid v;have R:=hid G;have L:=hid z
    have c0:wr.cell? ⟨w.heap.size,0,none⟩=some (.func (.func lf) #[] lb):=by rw[fq G];rfl
    have Q:w.heap.size<wr.heap.size:=(ax.1 G).1;clear E y v G z
    by_cases hja:a<j
    .obtain⟨h,rfl⟩:∃h,j=h+1:=⟨j -1,by omega⟩
     have m1:(a:Int)<((h+1:Nat):Int):=by omega
     have m2:((h+1:Nat):Int) -1=(h:Int):=by omega
     have m3:((h+1:Nat):Int)<=1000000:=by omega
     have hl:=F.out.less d2 wr (h+1) h M.out (by omega) (by omega);generalize hjj:((h+1:Nat):Int)=J at *;go_wp2_with fail;refine hl.mono ?_;rintro e s ⟨rfl,l⟩;have V:Hid (q d2 s):=F.out.still _ _ _ M.out l;have A:Hid (w.grownBy s (some blk)):=x.out.trans ⟨l.os,l.tape,l.output,l.size,λk hk _=>l.block k hk⟩;have I:Hid (s.heap[w.heap.size]?=some (.cells #[.func (.func lf) #[] lb,.func (.func c) #[] f] 215)):=(l.block _ Q).trans R.out;have H:w.heap.size<s.heap.size:=aR Q l.size
     have c3:s.cell? ⟨w.heap.size,1,none⟩=some (.func (.func c) #[] f):=by rw[fq I.out];rfl
     clear hl l c0
     by_cases hless:lt d2[h+1]! d2[h]! =true
     .rw[hless];obtain⟨K,C,Y,r⟩:=F.out.swap d2 s (h+1) h V.out (by omega) (by omega);rw[hjj]at C
      have P:Hid (q (swp d2 (h+1) h) K/\w.grownBy K (some blk)/\K.heap[w.heap.size]?=some (.cells #[.func (.func lf) #[] lb,.func (.func c) #[] f] 215)):=
       ⟨Y,A.out.trans r,(r.block _ H (by simp;omega)).trans I.out⟩
      have o:Hid (insInner lt a h (swp d2 (h+1) h)=insInner lt a i p):=by
       have m:=L.out;rw[insInner,if_pos (by simp[hless];omega)]at m;exact m
      clear Y r hless;go_wp2
      go_roundg (h+1)
      case measure=>have:=N.out;omega
      case rel=>exact⟨h,_,by omega,by omega,rfl,by first|rfl|go_num|(congr 1),o.out,P.out.1,P.out.2.1,P.out.2.2⟩
     .rw[Bool.not_eq_true]at hless;rw[hless]
      have o:Hid (insInner lt a i p=d2):=by
       have m:=L.out;rw[insInner,if_neg (by simp[hless])]at m;exact m.symm
      clear hless;go_wp2
      go_roundg (b+1 -(i+1))
      case measure=>have:=Z.out;omega
      case rel=>exact⟨i+1,d2,by omega,by omega,rfl,by go_num,by rw[<-o.out];exact u.out,V.out,A.out,I.out⟩
    .have e1:j=a:=by omega
     have m1:¬((a:Int)<(j:Int)):=by omega
     have o:Hid (insInner lt a i p=d2):=by
      have m:=L.out
      cases j with
      |zero=>exact m.symm
      |succ h=>rw[insInner,if_neg (by simp;omega)]at m;exact m.symm
     go_wp2
     go_roundg (b+1 -(i+1))
     case measure=>have:=Z.out;omega
     case rel=>exact⟨i+1,d2,by omega,by omega,rfl,by go_num,by rw[<-o.out];exact u.out,M.out,x.out,R.out⟩
  .clear i3
   have k1:¬((i:Int)<(b:Int)):=by omega
   go_wp2
   go_end0
   refine⟨rfl,?_,HB.out⟩;rw[<-HR.out,insOuter,if_neg hib];exact HH.out
end
section
open Go.Proofs.Tryz
variable{α:Type}{B blk n lf c:Nat}{lb f:Array Value}
theorem IV[Inhabited α]{lt:α->α->Bool}{k:Array α->World->Prop}(S:si lt B blk n lf lb c f k)(d:Array α)(a b:Nat)(w:World)(hd:k d w)(hb:b<=n)(hab:a<b)(hn:n<=1000000):
  Calls prog 258 #[.agg #[.func (.func lf) #[] lb,.func (.func c) #[] f],.int .i64 a,.int .i64 b] w λe t=>e=.returned (.tuple #[])/\k (reverseRange d a b) t/\w.grownBy t (some blk):=by
 have hlt:=S.blt d w hd;have z:=hid S;have M:=hid hd
 have L:(b:Int) -1=((b -1:Nat):Int):=by omega
 have i3:(b:Int)<=1000000:=by omega
 clear S hd;go_enter func258,ntmps258;go_wp2
 go_loopg [6,7] (b -a) (λg H E wr=>∃(i j:Nat) (l:Array α),i<=j+1/\j<n/\g=j+1 -i/\H=.int .i64 i/\E=.int .i64 j/\reverseLoop i j l=reverseRange d a b/\k l wr/\w.grownBy wr (some blk)/\wr.heap[w.heap.size]?=some (.cells #[.func (.func lf) #[] lb,.func (.func c) #[] f] 215))
 case atStart=>exact⟨a,b -1,d,by omega,by omega,by omega,rfl,by first|rfl|(rw[L])|(congr 1),rfl,z.out.still _ _ _ M.out (fC _ _),iV _ _ _,eZ _ _⟩
 case round=>
  obtain⟨i,j,l,hij,hj,u,rfl,rfl,A,o,p,m⟩:=hrel;have C:=hid u;have K:=hid o;have I:=hid p;have x:=hid A
  have c1:wr.cell? ⟨w.heap.size,1,none⟩=some (.func (.func c) #[] f):=by rw[fq m];rfl
  have F:w.heap.size<wr.heap.size:=(ax.1 m).1;clear u A
  by_cases hlt2:i<j
  .obtain⟨r,hrun,v,h⟩:=z.out.swap _ wr i j o (by omega) (by omega);have q:Hid (k (swp l i j) r/\w.grownBy r (some blk)/\r.heap[w.heap.size]?=some (.cells #[.func (.func lf) #[] lb,.func (.func c) #[] f] 215)):=⟨v,p.trans h,(h.block _ F (by simp;omega)).trans m⟩
   have s:Hid (reverseLoop (i+1) (j -1) (swp l i j)=reverseRange d a b):=by
    have y:=x.out;rw[reverseLoop,if_pos hlt2]at y;exact y
   have G:(i:Int)<(j:Int):=by omega
   have k2:(j:Int)<=1000000:=by omega
   clear o p m v h;go_wp2
   go_roundg (j -1+1 -(i+1))
   case measure=>have:=C.out;omega
   case rel=>exact⟨i+1,j -1,_,by omega,by omega,rfl,by go_num,by first|go_num|(congr 1;omega),s.out,q.out.1,q.out.2.1,q.out.2.2⟩
  .have G:¬((i:Int)<(j:Int)):=by omega
   clear o p m;go_wp2
   go_end0
   refine⟨rfl,?_,I.out⟩;rw[<-x.out,reverseLoop,if_neg hlt2];exact K.out
structure kT(cb:Nat)(s:Int)(W:World):Prop where
 blk:W.heap[cb]?=some (.cells #[.int .i64 s] 3)
theorem kT.cells{cb:Nat}{s:Int}{W:World}(h:kT cb s W):W.cell? ⟨cb,0,none⟩=some (.int .i64 s)/\W.frozen? ⟨cb,0,none⟩=false/\cb<W.heap.size:=
 ⟨by rw[fq h.blk];rfl,fV h.blk 0,(ax.1 h.blk).1⟩
theorem Mw[Inhabited α]{lt:α->α->Bool}{j:Array α->World->Prop}(S:si lt B blk n lf lb c f j)(d:Array α)(a b cb:Nat)(s:Nat)(w:World)(hd:j d w)(C:a<n)(z:b<n)(hn:n<=1000000)(hs:s<=1000)(o:kT cb s w)(G:B<=cb):
  Calls prog 318 #[.agg #[.func (.func lf) #[] lb,.func (.func c) #[] f],.int .i64 a,.int .i64 b,.pointer (some ⟨cb,0,none⟩)] w λe h=>e=.returned (.tuple #[.int .i64 (order2 lt d a b s).1,.int .i64 (order2 lt d a b s).2.1])/\j d h/\kT cb ((order2 lt d a b s).2.2:Nat) h/\w.grownBy h (some cb):=by
 have q:=hid S;have OZ:=S.enters;have l:=o.cells
 have m:Hid (∀W,Below w.heap.size w W->Calls prog lf (#[.int .i64 (b:Nat),.int .i64 (a:Nat)]++lb) W λe h=>e=.returned (.bool (lt d[b]! d[a]!))/\(h.cell? ⟨cb,0,none⟩=some (.int .i64 s)/\h.frozen? ⟨cb,0,none⟩=false/\cb<h.heap.size)/\Hid (Below w.heap.size w h)):=by
  intro W g;refine(q.out.less d W b a (q.out.still _ _ _ hd g) z C).mono ?_;rintro e h ⟨rfl,t⟩;have u:=g.trans (t.mono g.size);have A:kT cb s h:=⟨(u.block _ l.2.2).trans o.blk⟩;exact⟨rfl,A.cells,u⟩
 have v:Hid (Below w.heap.size w (w.alloc (.cells #[.func (.func lf) #[] lb,.func (.func c) #[] f] 215))):=fC _ _
 have y:Hid (∀W,Below w.heap.size w W->j d W/\kT cb s W/\w.grownBy W (some cb)):=λW g=>⟨q.out.still _ _ _ hd g,⟨(g.block _ l.2.2).trans o.blk⟩,⟨g.os,g.tape,g.output,g.size,λk x _=>g.block k x⟩⟩
 have F:Hid (∀W,Below w.heap.size w W->j d (W.setCell ⟨cb,0,none⟩ (.int .i64 ((s+1:Nat):Int)))/\kT cb ((s+1:Nat):Int) (W.setCell ⟨cb,0,none⟩ (.int .i64 ((s+1:Nat):Int)))/\w.grownBy (W.setCell ⟨cb,0,none⟩ (.int .i64 ((s+1:Nat):Int))) (some cb)):=by
  intro W g;have i:=y.out W g;refine⟨q.out.kept _ W _ i.1 ((iL B W).setCell (p:=⟨cb,0,none⟩) G _),⟨by rw[fZ i.2.1.blk];rfl⟩,i.2.2.trans ⟨rfl,rfl,rfl,by simp,λk x r=>iJ _ _ _ _ (λe=>r (by rw[e]))⟩⟩
 have i1:(a:Int)<=1000000:=by omega
 have i2:(b:Int)<=1000000:=by omega
 have i4:(s:Int)<=1000:=by omega
 unfold order2;clear S hd o
 cases hl:lt d[b]! d[a]! with
 |true=>
  rw[hl]at m;simp only[if_true];go_enter func318,ntmps318;go_wp2_with fail;refine(m.out _ v.out).mono ?_;rintro e E ⟨rfl,c1,i⟩;go_wp2;go_ret2;exact⟨rfl,F.out _ i.out⟩
 |false=>
  rw[hl]at m;simp only[Bool.false_eq_true,if_false];go_enter func318,ntmps318;go_wp2_with fail;refine(m.out _ v.out).mono ?_;rintro e E ⟨rfl,c1,i⟩;go_wp2;go_ret2;exact⟨rfl,y.out _ i.out⟩
end
section
variable{α:Type}
theorem order2_lt[Inhabited α](lt:α->α->Bool)(d:Array α)(a b s n:Nat)(e:a<n)(c:b<n):(order2 lt d a b s).1<n/\(order2 lt d a b s).2.1<n/\(order2 lt d a b s).2.2<=s+1:=by
 unfold order2
 split
 .exact⟨c,e,aC _⟩
 .exact⟨e,c,Nat.le_succ _⟩
structure gm{α:Type}(Hd:Array α->World->Prop)(d:Array α)(cb:Nat)(s:Nat)(bx:Nat)(o:Obj)(w W:World):Prop where
 hd:Hd d W
 c:kT cb s W
 box:W.heap[bx]?=some o
 g:w.grownBy W (some cb)
theorem uN[Inhabited α]{lt:α->α->Bool}{B blk n lf h:Nat}{lb i:Array Value}{k:Array α->World->Prop}(S:si lt B blk n lf lb h i k)(d:Array α)(a b c cb:Nat)(s:Nat)(w:World)(hd:k d w)(L:a<n)(I:b<n)(p:c<n)(R:n<=1000000)(hs:s<=900)(H:kT cb s w)(T:B<=cb):
  Calls Tryz.prog 298 #[.agg #[.func (.func lf) #[] lb,.func (.func h) #[] i],.int .i64 a,.int .i64 b,.int .i64 c,.pointer (some ⟨cb,0,none⟩)] w λe f=>e=.returned (.int .i64 (median lt d a b c s).1)/\k d f/\kT cb ((median lt d a b c s).2:Nat) f/\w.grownBy f (some cb):=by
 have t:=H.cells
 have F:Hid (∀(x y m:Nat) (W:World) (r:Nat×Nat×Nat),order2 lt d x y m=r->x<n->y<n->m<=1000->Hid (gm k d cb m w.heap.size (.cells #[.func (.func lf) #[] lb,.func (.func h) #[] i] 215) w W)->Calls Tryz.prog 318 #[.agg #[.func (.func lf) #[] lb,.func (.func h) #[] i],.int .i64 x,.int .i64 y,.pointer (some ⟨cb,0,none⟩)] W λe f=>e=.returned (.tuple #[.int .i64 r.1,.int .i64 r.2.1])/\(f.cell? ⟨w.heap.size,0,none⟩=some (.func (.func lf) #[] lb)/\f.cell? ⟨w.heap.size,1,none⟩=some (.func (.func h) #[] i))/\Hid (gm k d cb r.2.2 w.heap.size (.cells #[.func (.func lf) #[] lb,.func (.func h) #[] i] 215) w f)):=by
  rintro x y m W r rfl Q P C o;refine(Mw S d x y cb m W o.out.hd Q P R C o.out.c T).mono ?_;rintro e f ⟨rfl,E,A,l⟩;have N:=(ax.1 o.out.box).1;have j:=(l.block _ N (by simp;omega)).trans o.out.box;exact⟨rfl,⟨by rw[fq j];rfl,by rw[fq j];rfl⟩,E,A,j,o.out.g.trans l⟩
 have M:Hid (gm k d cb s w.heap.size (.cells #[.func (.func lf) #[] lb,.func (.func h) #[] i] 215) w (w.alloc (.cells #[.func (.func lf) #[] lb,.func (.func h) #[] i] 215))):=⟨S.still _ _ _ hd (fC _ _),⟨(gL _ _ _ t.2.2).trans H.blk⟩,eZ _ _,iV _ _ _⟩;have q:=order2_lt lt d a b s n L I;obtain⟨r1,e1⟩:∃r,order2 lt d a b s=r:=⟨_,rfl⟩;rw[e1]at q;have G:=order2_lt lt d r1.2.1 c r1.2.2 n q.2.1 p;obtain⟨r2,e2⟩:∃r,order2 lt d r1.2.1 c r1.2.2=r:=⟨_,rfl⟩;rw[e2]at G;obtain⟨r3,e3⟩:∃r,order2 lt d r1.1 r2.1 r2.2.2=r:=⟨_,rfl⟩
 have K:median lt d a b c s=(r3.2.1,r3.2.2):=by simp only[median,e1,e2,e3]
 rw[K];have v:Hid (order2 lt d a b s=r1/\a<n/\b<n/\s<=1000):=⟨e1,L,I,by omega⟩;have u:Hid (order2 lt d r1.2.1 c r1.2.2=r2/\r1.2.1<n/\c<n/\r1.2.2<=1000):=⟨e2,q.2.1,p,by omega⟩;have z:Hid (order2 lt d r1.1 r2.1 r2.2.2=r3/\r1.1<n/\r2.1<n/\r2.2.2<=1000):=⟨e3,q.1,G.1,by omega⟩;clear S hd H t q G e1 e2 e3 K;go_enter Tryz.func298,Tryz.ntmps298;go_wp2_with fail;refine(F.out a b s _ r1 v.out.1 v.out.2.1 v.out.2.2.1 v.out.2.2.2 M).mono ?_;rintro e w1 ⟨rfl,c1,E⟩;go_wp2_with fail;refine(F.out r1.2.1 c r1.2.2 _ r2 u.out.1 u.out.2.1 u.out.2.2.1 u.out.2.2.2 E).mono ?_;rintro e w2 ⟨rfl,c2,A⟩;clear c1;go_wp2_with fail;refine(F.out r1.1 r2.1 r2.2.2 _ r3 z.out.1 z.out.2.1 z.out.2.2.1 z.out.2.2.2 A).mono ?_;rintro e w3 ⟨rfl,c3,l⟩;go_wp2;go_ret;exact⟨rfl,l.out.hd,l.out.c,l.out.g⟩
end
section
variable{α:Type}
theorem Mx[Inhabited α](lt:α->α->Bool)(d:Array α)(a b c s n:Nat)(f:a<n)(h:b<n)(i:c<n):(median lt d a b c s).1<n/\(median lt d a b c s).2<=s+3:=by
 have e:=order2_lt lt d a b s n f h;have g:=order2_lt lt d (order2 lt d a b s).2.1 c (order2 lt d a b s).2.2 n e.2.1 i;have j:=order2_lt lt d (order2 lt d a b s).1 (order2 lt d (order2 lt d a b s).2.1 c (order2 lt d a b s).2.2).1 (order2 lt d (order2 lt d a b s).2.1 c (order2 lt d a b s).2.2).2.2 n e.1 g.1;refine⟨j.2.1,?_⟩;show(order2 lt d (order2 lt d a b s).1 (order2 lt d (order2 lt d a b s).2.1 c (order2 lt d a b s).2.2).1 (order2 lt d (order2 lt d a b s).2.1 c (order2 lt d a b s).2.2).2.2).2.2<=s+3;omega
theorem MB[Inhabited α]{lt:α->α->Bool}{B blk n lf f:Nat}{lb g:Array Value}{i:Array α->World->Prop}(S:si lt B blk n lf lb f g i)(d:Array α)(a cb:Nat)(s:Nat)(w:World)(hd:i d w)(h:1<=a)(u:a+1<n)(t:n<=1000000)(r:s<=900)(j:kT cb s w)(v:B<=cb):
  Calls Tryz.prog 297 #[.agg #[.func (.func lf) #[] lb,.func (.func f) #[] g],.int .i64 a,.pointer (some ⟨cb,0,none⟩)] w λe b=>e=.returned (.int .i64 (medianAdjacent lt d a s).1)/\i d b/\kT cb ((medianAdjacent lt d a s).2:Nat) b/\w.grownBy b (some cb):=by
 have c:=j.cells;unfold medianAdjacent
 have l:(a:Int) -1=((a -1:Nat):Int):=by omega
 have k:(a:Int)+1=((a+1:Nat):Int):=by omega
 have i3:(a:Int)<=1000000:=by omega
 have i4:(1:Int)<=(a:Int):=by omega
 have q:Hid (Calls Tryz.prog 298 #[.agg #[.func (.func lf) #[] lb,.func (.func f) #[] g],.int .i64 ((a:Int) -1),.int .i64 a,.int .i64 ((a:Int)+1),.pointer (some ⟨cb,0,none⟩)] (w.alloc (.cells #[.func (.func lf) #[] lb,.func (.func f) #[] g] 215)) λe b=>e=.returned (.int .i64 (median lt d (a -1) a (a+1) s).1)/\Hid (i d b/\kT cb ((median lt d (a -1) a (a+1) s).2:Nat) b/\w.grownBy b (some cb))):=by
  rw[l,k];refine(uN S d (a -1) a (a+1) cb s (w.alloc (.cells #[.func (.func lf) #[] lb,.func (.func f) #[] g] 215)) (S.still _ _ _ hd (fC _ _)) (by omega) (by omega) u t r ⟨(gL _ _ _ c.2.2).trans j.blk⟩ v).mono ?_;rintro e b ⟨rfl,h,o,p⟩;exact⟨rfl,h,o,(iV _ _ _).trans p⟩
 clear S hd j c l k;generalize(median lt d (a -1) a (a+1) s).1=m at *;generalize(median lt d (a -1) a (a+1) s).2=s' at *;go_enter Tryz.func297,Tryz.ntmps297;go_wp2_with fail;refine q.out.mono ?_;rintro e w1 ⟨rfl,h⟩;go_wp2;go_ret;exact⟨rfl,h.out⟩
end
section
open Go.Proofs.Tryz
variable{α:Type}{B blk n lf f:Nat}{lb g:Array Value}
structure Uv{α:Type}(Hd:Array α->World->Prop)(d:Array α)(s:Nat)(o:Obj)(w W:World):Prop where
 hd:Hd d W
 c:kT (w.heap.size+1) s W
 box:W.heap[w.heap.size]?=some o
 low:Below w.heap.size w W
theorem Uv.next{b:Array α->World->Prop}{d:Array α}{s c:Nat}{o:Obj}{w W a:World}(h:Uv b d s o w W)(l:b d a)(j:kT (w.heap.size+1) c a)(i:W.grownBy a (some (w.heap.size+1))):Uv b d c o w a:=
 ⟨l,j,(i.block _ (ax.1 h.box).1 (by simp)).trans h.box,h.low.grown i h.low.size (λk e=>by cases e;omega)⟩
theorem CZ[Inhabited α]{lt:α->α->Bool}{c:Array α->World->Prop}(S:si lt B blk n lf lb f g c)(d:Array α)(a b:Nat)(w:World)(hd:c d w)(hab:a<=b)(hb:b<=n)(hn:n<=1000000)(h8:b -a<8):
  Calls prog 257 #[.agg #[.func (.func lf) #[] lb,.func (.func f) #[] g],.int .i64 a,.int .i64 b] w λe h=>e=.returned (.tuple #[.int .i64 (choosePivot lt d a b).1,.int .i64 (hintCode (choosePivot lt d a b).2)])/\c d h/\Below w.heap.size w h:=by
 have i:Hid (c d ((w.alloc (.cells #[.func (.func lf) #[] lb,.func (.func f) #[] g] 215)).alloc (.cells #[.int .i64 0] 3))/\Below w.heap.size w ((w.alloc (.cells #[.func (.func lf) #[] lb,.func (.func f) #[] g] 215)).alloc (.cells #[.int .i64 0] 3))):=⟨S.still _ _ _ hd (fK _ _ _),fK _ _ _⟩
 have i1:(b:Int) -(a:Int)=((b -a:Nat):Int):=by omega
 have i2:(a:Int)<=1000000:=by omega
 have i3:(b:Int)<=1000000:=by omega
 have i4:((b -a:Nat):Int)<8:=by omega
 clear S hd;go_enter func257,ntmps257;go_wp2;go_ret2;refine⟨?_,i.out⟩;rw[choosePivot_eq];unfold rawPivot;rw[if_neg (by omega)];show _=Ending.returned (.tuple #[.int .i64 ((a+(b -a)/4*2:Nat):Int),.int .i64 1]);rw[show((a+(b -a)/4*2:Nat):Int)=(a:Int)+((b -a:Nat):Int)/4*2 by omega];rfl
theorem Kq(s:Nat):(s=0/\hintCode (hintOf s)=1)∨(s=12/\hintCode (hintOf s)=2)∨((s:Int)≠0/\(s:Int)≠12/\hintCode (hintOf s)=0):=by
 unfold hintOf
 by_cases h0:s=0
 .exact .inl ⟨h0,by rw[if_pos h0];rfl⟩
 .by_cases h1:s=12
  .exact .inr (.inl ⟨h1,by rw[if_neg h0,if_pos h1];rfl⟩)
  .exact .inr (.inr ⟨by omega,by omega,by rw[if_neg h0,if_neg h1];rfl⟩)
theorem zY[Inhabited α]{lt:α->α->Bool}{j:Array α->World->Prop}(S:si lt B blk n lf lb f g j)(d:Array α)(a b:Nat)(w:World)(hd:j d w)(hab:a<=b)(hb:b<=n)(z:n<=1000000)(x:8<=b -a)(h50:b -a<50):
  Calls prog 257 #[.agg #[.func (.func lf) #[] lb,.func (.func f) #[] g],.int .i64 a,.int .i64 b] w λe h=>e=.returned (.tuple #[.int .i64 (choosePivot lt d a b).1,.int .i64 (hintCode (choosePivot lt d a b).2)])/\j d h/\Below w.heap.size w h:=by
 have v:choosePivot lt d a b=((rawPivot lt d a b).1,hintOf (rawPivot lt d a b).2):=choosePivot_eq lt d a b
 have u:rawPivot lt d a b=median lt d (a+(b -a)/4*1) (a+(b -a)/4*2) (a+(b -a)/4*3) 0:=by
  unfold rawPivot;rw[if_pos x,if_neg (by omega)]
 have A:=(S.low d w hd).2
 have k:Uv j d 0 (.cells #[.func (.func lf) #[] lb,.func (.func f) #[] g] 215) w ((w.alloc (.cells #[.func (.func lf) #[] lb,.func (.func f) #[] g] 215)).alloc (.cells #[.int .i64 0] 3)):=by
  refine⟨S.still _ _ _ hd (fK _ _ _),⟨?_⟩,(gL _ _ _ (by simp)).trans (eZ _ _),fK _ _ _⟩;have:=eZ (w.alloc (.cells #[.func (.func lf) #[] lb,.func (.func f) #[] g] 215)) (.cells #[.int .i64 0] 3)
  rwa [World.size_alloc]at this
 have p:Hid (Calls prog 298 #[.agg #[.func (.func lf) #[] lb,.func (.func f) #[] g],.int .i64 ((a:Int)+((b -a:Nat):Int)/4),.int .i64 ((a:Int)+((b -a:Nat):Int)/4*2),.int .i64 ((a:Int)+((b -a:Nat):Int)/4*3),.pointer (some ⟨w.heap.size+1,0,none⟩)] ((w.alloc (.cells #[.func (.func lf) #[] lb,.func (.func f) #[] g] 215)).alloc (.cells #[.int .i64 0] 3)) λe h=>e=.returned (.int .i64 (rawPivot lt d a b).1)/\(h.cell? ⟨w.heap.size+1,0,none⟩=some (.int .i64 ((rawPivot lt d a b).2:Nat)))/\Hid (j d h/\Below w.heap.size w h)):=by
  rw[show(a:Int)+((b -a:Nat):Int)/4=((a+(b -a)/4*1:Nat):Int) by omega,show(a:Int)+((b -a:Nat):Int)/4*2=((a+(b -a)/4*2:Nat):Int) by omega,show(a:Int)+((b -a:Nat):Int)/4*3=((a+(b -a)/4*3:Nat):Int) by omega,u];refine(uN S d _ _ _ (w.heap.size+1) 0 _ k.hd (by omega) (by omega) (by omega) z (by omega) k.c (by omega)).mono ?_;rintro e h ⟨rfl,i,t,y⟩;have r:=k.next i t y;exact⟨rfl,t.cells.1,r.hd,r.low⟩
 rw[v];simp only;clear v u k A S hd;generalize(rawPivot lt d a b).1=m at *;generalize(rawPivot lt d a b).2=s at *
 have i1:(b:Int) -(a:Int)=((b -a:Nat):Int):=by omega
 have i2:(a:Int)<=1000000:=by omega
 have i3:(b:Int)<=1000000:=by omega
 have i4:((b -a:Nat):Int)<50:=by omega
 have i5:(8:Int)<=((b -a:Nat):Int):=by omega
 rcases Kq s with⟨o,l⟩|⟨o,l⟩|⟨o,k1,l⟩
 all_goals (rw[l];clear l)
 .subst o;go_enter func257,ntmps257;go_wp2_with fail;refine p.out.mono ?_;rintro e q ⟨rfl,c1,i⟩;go_wp2;go_ret2;exact⟨rfl,i.out⟩
 .subst o;go_enter func257,ntmps257;go_wp2_with fail;refine p.out.mono ?_;rintro e q ⟨rfl,c1,i⟩;go_wp2;go_ret2;exact⟨rfl,i.out⟩
 .go_enter func257,ntmps257;go_wp2_with fail;refine p.out.mono ?_;rintro e q ⟨rfl,c1,i⟩;go_wp2;go_ret2;exact⟨rfl,i.out⟩
end
section
open Go.Proofs.Tryz
variable{α:Type}{B blk n lf f:Nat}{lb g:Array Value}
theorem uO[Inhabited α](lt:α->α->Bool)(d:Array α)(a s n:Nat)(h1:1<=a)(b:a+1<n):(medianAdjacent lt d a s).1<n/\(medianAdjacent lt d a s).2<=s+3:=Mx lt d (a -1) a (a+1) s n (by omega) (by omega) b
theorem zZ[Inhabited α]{lt:α->α->Bool}{q:Array α->World->Prop}(S:si lt B blk n lf lb f g q)(d:Array α)(a b:Nat)(w:World)(hd:q d w)(hab:a<=b)(hb:b<=n)(U:n<=1000000)(K:50<=b -a):
  Calls prog 257 #[.agg #[.func (.func lf) #[] lb,.func (.func f) #[] g],.int .i64 a,.int .i64 b] w λe k=>e=.returned (.tuple #[.int .i64 (choosePivot lt d a b).1,.int .i64 (hintCode (choosePivot lt d a b).2)])/\q d k/\Below w.heap.size w k:=by
 have R:choosePivot lt d a b=((rawPivot lt d a b).1,hintOf (rawPivot lt d a b).2):=choosePivot_eq lt d a b;have Z:=(S.low d w hd).2
 have I:Hid (Uv q d 0 (.cells #[.func (.func lf) #[] lb,.func (.func f) #[] g] 215) w ((w.alloc (.cells #[.func (.func lf) #[] lb,.func (.func f) #[] g] 215)).alloc (.cells #[.int .i64 0] 3))):=by
  refine⟨S.still _ _ _ hd (fK _ _ _),⟨?_⟩,(gL _ _ _ (by simp)).trans (eZ _ _),fK _ _ _⟩;have:=eZ (w.alloc (.cells #[.func (.func lf) #[] lb,.func (.func f) #[] g] 215)) (.cells #[.int .i64 0] 3)
  rwa [World.size_alloc]at this
 have p:Hid (∀(X:Int) (x y:Nat) (W:World) (r:Nat×Nat),X=(x:Int)->medianAdjacent lt d x y=r->1<=x->x+1<n->y<=900->Hid (Uv q d y (.cells #[.func (.func lf) #[] lb,.func (.func f) #[] g] 215) w W)->Calls prog 297 #[.agg #[.func (.func lf) #[] lb,.func (.func f) #[] g],.int .i64 X,.pointer (some ⟨w.heap.size+1,0,none⟩)] W λe k=>e=.returned (.int .i64 r.1)/\(k.cell? ⟨w.heap.size,0,none⟩=some (.func (.func lf) #[] lb)/\k.cell? ⟨w.heap.size,1,none⟩=some (.func (.func f) #[] g))/\Hid (Uv q d r.2 (.cells #[.func (.func lf) #[] lb,.func (.func f) #[] g] 215) w k)):=by
  rintro X x y W r rfl rfl o l F u;refine(MB S d x (w.heap.size+1) y W u.out.hd o l U F u.out.c (by omega)).mono ?_;rintro e k ⟨rfl,g1,Y,g3⟩;have v:=u.out.next g1 Y g3;exact⟨rfl,⟨by rw[fq v.box];rfl,by rw[fq v.box];rfl⟩,v⟩
 obtain⟨r1,e1⟩:∃r,medianAdjacent lt d (a+(b -a)/4*1) 0=r:=⟨_,rfl⟩;obtain⟨r2,e2⟩:∃r,medianAdjacent lt d (a+(b -a)/4*2) r1.2=r:=⟨_,rfl⟩;obtain⟨r3,e3⟩:∃r,medianAdjacent lt d (a+(b -a)/4*3) r2.2=r:=⟨_,rfl⟩;have L:=uO lt d (a+(b -a)/4*1) 0 n (by omega) (by omega);have M:=uO lt d (a+(b -a)/4*2) r1.2 n (by omega) (by omega);have H:=uO lt d (a+(b -a)/4*3) r2.2 n (by omega) (by omega);rw[e1]at L;rw[e2]at M;rw[e3]at H
 have T:rawPivot lt d a b=median lt d r1.1 r2.1 r3.1 r3.2:=by
  unfold rawPivot;rw[if_pos (by omega),if_pos K,e1,e2,e3]
 have j:Hid ((a:Int)+((b -a:Nat):Int)/4=((a+(b -a)/4*1:Nat):Int)/\medianAdjacent lt d (a+(b -a)/4*1) 0=r1/\1<=a+(b -a)/4*1/\a+(b -a)/4*1+1<n/\0<=900):=⟨by omega,e1,by omega,by omega,by omega⟩;have i:Hid ((a:Int)+((b -a:Nat):Int)/4*2=((a+(b -a)/4*2:Nat):Int)/\medianAdjacent lt d (a+(b -a)/4*2) r1.2=r2/\1<=a+(b -a)/4*2/\a+(b -a)/4*2+1<n/\r1.2<=900):=⟨by omega,e2,by omega,by omega,by omega⟩;have h:Hid ((a:Int)+((b -a:Nat):Int)/4*3=((a+(b -a)/4*3:Nat):Int)/\medianAdjacent lt d (a+(b -a)/4*3) r2.2=r3/\1<=a+(b -a)/4*3/\a+(b -a)/4*3+1<n/\r2.2<=900):=⟨by omega,e3,by omega,by omega,by omega⟩
 have G:Hid (∀W,Hid (Uv q d r3.2 (.cells #[.func (.func lf) #[] lb,.func (.func f) #[] g] 215) w W)->Calls prog 298 #[.agg #[.func (.func lf) #[] lb,.func (.func f) #[] g],.int .i64 r1.1,.int .i64 r2.1,.int .i64 r3.1,.pointer (some ⟨w.heap.size+1,0,none⟩)] W λe k=>e=.returned (.int .i64 (rawPivot lt d a b).1)/\(k.cell? ⟨w.heap.size+1,0,none⟩=some (.int .i64 ((rawPivot lt d a b).2:Nat)))/\Hid (q d k/\Below w.heap.size w k)):=by
  intro W u;rw[T];refine(uN S d _ _ _ (w.heap.size+1) r3.2 W u.out.hd L.1 M.1 H.1 U (by omega) u.out.c (by omega)).mono ?_;rintro e k ⟨rfl,o,l,t⟩;have v:=u.out.next o l t;exact⟨rfl,l.cells.1,v.hd,v.low⟩
 rw[R];simp only;clear R T Z S hd e1 e2 e3 L M H;generalize(rawPivot lt d a b).1=m at *;generalize(rawPivot lt d a b).2=s at *
 have i1:(b:Int) -(a:Int)=((b -a:Nat):Int):=by omega
 have i2:(a:Int)<=1000000:=by omega
 have i3:(b:Int)<=1000000:=by omega
 have i4:(50:Int)<=((b -a:Nat):Int):=by omega
 rcases Kq s with⟨C,E⟩|⟨C,E⟩|⟨C,k1,E⟩
 all_goals (rw[E];clear E)
 .subst C;go_enter func257,ntmps257;go_wp2_with fail;refine(p.out _ _ 0 _ r1 j.out.1 j.out.2.1 j.out.2.2.1 j.out.2.2.2.1 j.out.2.2.2.2 I).mono ?_;rintro e P ⟨rfl,c1,o⟩;go_wp2_with fail;refine(p.out _ _ r1.2 _ r2 i.out.1 i.out.2.1 i.out.2.2.1 i.out.2.2.2.1 i.out.2.2.2.2 o).mono ?_;rintro e V ⟨rfl,A,l⟩;clear c1;go_wp2_with fail;refine(p.out _ _ r2.2 _ r3 h.out.1 h.out.2.1 h.out.2.2.1 h.out.2.2.2.1 h.out.2.2.2.2 l).mono ?_;rintro e Q ⟨rfl,c3,t⟩;clear A;go_wp2_with fail;refine(G.out _ t).mono ?_;rintro e N ⟨rfl,c4,z⟩;clear c3;go_wp2;go_ret2;exact⟨rfl,z.out⟩
 .subst C;go_enter func257,ntmps257;go_wp2_with fail;refine(p.out _ _ 0 _ r1 j.out.1 j.out.2.1 j.out.2.2.1 j.out.2.2.2.1 j.out.2.2.2.2 I).mono ?_;rintro e P ⟨rfl,c1,o⟩;go_wp2_with fail;refine(p.out _ _ r1.2 _ r2 i.out.1 i.out.2.1 i.out.2.2.1 i.out.2.2.2.1 i.out.2.2.2.2 o).mono ?_;rintro e V ⟨rfl,A,l⟩;clear c1;go_wp2_with fail;refine(p.out _ _ r2.2 _ r3 h.out.1 h.out.2.1 h.out.2.2.1 h.out.2.2.2.1 h.out.2.2.2.2 l).mono ?_;rintro e Q ⟨rfl,c3,t⟩;clear A;go_wp2_with fail;refine(G.out _ t).mono ?_;rintro e N ⟨rfl,c4,z⟩;clear c3;go_wp2;go_ret2;exact⟨rfl,z.out⟩
 .skip
  go_enter func257,ntmps257;go_wp2_with fail;refine(p.out _ _ 0 _ r1 j.out.1 j.out.2.1 j.out.2.2.1 j.out.2.2.2.1 j.out.2.2.2.2 I).mono ?_;rintro e P ⟨rfl,c1,o⟩;go_wp2_with fail;refine(p.out _ _ r1.2 _ r2 i.out.1 i.out.2.1 i.out.2.2.1 i.out.2.2.2.1 i.out.2.2.2.2 o).mono ?_;rintro e V ⟨rfl,A,l⟩;clear c1;go_wp2_with fail;refine(p.out _ _ r2.2 _ r3 h.out.1 h.out.2.1 h.out.2.2.1 h.out.2.2.2.1 h.out.2.2.2.2 l).mono ?_;rintro e Q ⟨rfl,c3,t⟩;clear A;go_wp2_with fail;refine(G.out _ t).mono ?_;rintro e N ⟨rfl,c4,z⟩;clear c3;go_wp2;go_ret2;exact⟨rfl,z.out⟩
theorem QN[Inhabited α]{lt:α->α->Bool}{j:Array α->World->Prop}(S:si lt B blk n lf lb f g j)(d:Array α)(a b:Nat)(w:World)(hd:j d w)(c:a<=b)(i:b<=n)(k:n<=1000000):
  Calls prog 257 #[.agg #[.func (.func lf) #[] lb,.func (.func f) #[] g],.int .i64 a,.int .i64 b] w λe l=>e=.returned (.tuple #[.int .i64 (choosePivot lt d a b).1,.int .i64 (hintCode (choosePivot lt d a b).2)])/\j d l/\Below w.heap.size w l:=by
 rcases Nat.lt_or_ge (b -a) 8 with h|h
 .exact CZ S d a b w hd c i k h
 .rcases Nat.lt_or_ge (b -a) 50 with h2|h2
  .exact zY S d a b w hd c i k h h2
  .exact zZ S d a b w hd c i k h2
end
end Go.Proofs.YthfpipieboophaaGreatDoor
