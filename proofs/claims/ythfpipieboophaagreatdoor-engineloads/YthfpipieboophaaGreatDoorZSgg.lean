import Derived.Test.YthfpipieboophaaGreatDoorZSga
namespace Go.Proofs.YthfpipieboophaaGreatDoor
set_option maxRecDepth 100000
set_option maxHeartbeats 40000000
open Go.Proofs.Tryz Go.RowKit Go.Sort
section
open Go.Joins
variable{α:Type}{lf a blk B n:Nat}{lb b:Array Value}
abbrev bq(lf:Nat)(lb:Array Value)(a:Nat)(b:Array Value):Obj:= .cells #[.func (.func lf) #[] lb,.func (.func a) #[] b] 215
structure aF{α:Type}(Hd:Array α->World->Prop)(d:Array α)(blk:Nat)(o:Obj)(w W:World):Prop where
 hd:Hd d W
 g:w.grownBy W (some blk)
 box:W.heap[w.heap.size]?=some o
theorem aF.cells{c:Array α->World->Prop}{d:Array α}{w W:World}(h:aF c d blk (bq lf lb a b) w W):W.cell? ⟨w.heap.size,0,none⟩=some (.func (.func lf) #[] lb)/\W.cell? ⟨w.heap.size,1,none⟩=some (.func (.func a) #[] b):=
 ⟨by rw[fq h.box];rfl,by rw[fq h.box];rfl⟩
theorem kU[Inhabited α]{lt:α->α->Bool}{c:Array α->World->Prop}(S:si lt B blk n lf lb a b c)(d:Array α)(w:World)(hd:c d w):aF c d blk (bq lf lb a b) w (w.alloc (bq lf lb a b)):=⟨S.still _ _ _ hd (fC _ _),iV _ _ _,eZ _ _⟩
theorem sO[Inhabited α]{lt:α->α->Bool}{i:Array α->World->Prop}(S:si lt B blk n lf lb a b i)(d:Array α)(w W:World)(X Y:Int)(x y:Nat)(m:X=(x:Int))(q:Y=(y:Int))(o:x<n)(l:y<n)(h:aF i d blk (bq lf lb a b) w W):
  Calls prog lf (#[.int .i64 X,.int .i64 Y]++lb) W λe f=>e=.returned (.bool (lt d[x]! d[y]!))/\(f.cell? ⟨w.heap.size,0,none⟩=some (.func (.func lf) #[] lb)/\f.cell? ⟨w.heap.size,1,none⟩=some (.func (.func a) #[] b))/\Hid (aF i d blk (bq lf lb a b) w f):=by
 subst m q;refine(S.less d W x y h.hd o l).mono ?_;rintro e f ⟨rfl,c⟩;have j:aF i d blk (bq lf lb a b) w f:=⟨S.still _ _ _ h.hd c,h.g.trans ⟨c.os,c.tape,c.output,c.size,λk p _=>c.block k p⟩,(c.block _ (ax.1 h.box).1).trans h.box⟩;exact⟨rfl,j.cells,j⟩
theorem sP[Inhabited α]{lt:α->α->Bool}{e:Array α->World->Prop}(S:si lt B blk n lf lb a b e)(d:Array α)(w W:World)(X Y:Int)(x y:Nat)(k:X=(x:Int))(o:Y=(y:Int))(l:x<n)(i:y<n)(hl:blk<w.heap.size)(h:aF e d blk (bq lf lb a b) w W):
  ∃c,(callFunc a (#[.int .i64 X,.int .i64 Y]++b)).run prog W=.ok (.value (.tuple #[])) c/\Hid (aF e (swp d x y) blk (bq lf lb a b) w c):=by
 subst k o;obtain⟨c,m,j,f⟩:=S.swap d W x y h.hd l i;exact⟨c,m,j,h.g.trans f,(f.block _ (ax.1 h.box).1 (by simp;omega)).trans h.box⟩
theorem dw[Inhabited α]{lt:α->α->Bool}{d:Array α->World->Prop}(S:si lt B blk n lf lb a b d)(w:World):∀(X Y:Int) (x y:Nat) (c:Array α) (W:World),X=(x:Int)->Y=(y:Int)->x<n->y<n->Hid (aF d c blk (bq lf lb a b) w W)->Calls prog lf (#[.int .i64 X,.int .i64 Y]++lb) W λe f=>e=.returned (.bool (lt c[x]! c[y]!))/\(f.cell? ⟨w.heap.size,0,none⟩=some (.func (.func lf) #[] lb)/\f.cell? ⟨w.heap.size,1,none⟩=some (.func (.func a) #[] b))/\Hid (aF d c blk (bq lf lb a b) w f):=λX Y x y c W h i j g k=>sO S c w W X Y x y h i j g k.out
theorem aaO[Inhabited α]{lt:α->α->Bool}{d:Array α->World->Prop}(S:si lt B blk n lf lb a b d)(w:World):∀(X Y:Int) (x y:Nat) (c:Array α) (W:World) (r:Bool),lt c[x]! c[y]! =r->X=(x:Int)->Y=(y:Int)->x<n->y<n->Hid (aF d c blk (bq lf lb a b) w W)->Calls prog lf (#[.int .i64 X,.int .i64 Y]++lb) W λe f=>e=.returned (.bool r)/\(f.cell? ⟨w.heap.size,0,none⟩=some (.func (.func lf) #[] lb)/\f.cell? ⟨w.heap.size,1,none⟩=some (.func (.func a) #[] b))/\Hid (aF d c blk (bq lf lb a b) w f):=λX Y x y c W r h i j k g l=>by
 rw[<-h];exact sO S c w W X Y x y i j k g l.out
theorem ek[Inhabited α]{lt:α->α->Bool}{e:Array α->World->Prop}(S:si lt B blk n lf lb a b e)(w:World)(d:blk<w.heap.size):∀(X Y:Int) (x y:Nat) (c:Array α) (W:World),X=(x:Int)->Y=(y:Int)->x<n->y<n->Hid (aF e c blk (bq lf lb a b) w W)->∃f,(callFunc a (#[.int .i64 X,.int .i64 Y]++b)).run prog W=.ok (.value (.tuple #[])) f/\Hid (aF e (swp c x y) blk (bq lf lb a b) w f):=λX Y x y c W h i j g k=>sP S c w W X Y x y h i j g d k.out
theorem TH[Inhabited α]{lt:α->α->Bool}{r:Array α->World->Prop}(S:si lt B blk n lf lb a b r)(d:Array α)(i hi first:Nat)(w:World)(hd:r d w)(q:first+hi<=n)(j:i<=hi)(hn:n<=1000000):
  Calls prog 294 #[.agg #[.func (.func lf) #[] lb,.func (.func a) #[] b],.int .i64 i,.int .i64 hi,.int .i64 first] w λe y=>e=.returned (.tuple #[])/\r (siftDown lt hi first i d) y/\w.grownBy y (some blk):=by
 have s:=S.blt d w hd;have OZ:=S.enters;have x:=hid (kU S d w hd);have u:=hid (aaO S w);have F:=hid (ek S w s)
 have i1:(hi:Int)<=1000000:=by omega
 have i2:(first:Int)<=1000000:=by omega
 clear S hd;go_enter func294,ntmps294;go_wp2
 go_loopg [8] (hi+1 -i) (λg P wr=>∃(root:Nat) (f:Array α),root<=hi/\g=hi+1 -root/\P=.int .i64 root/\siftDown lt hi first root f=siftDown lt hi first i d/\Hid (aF r f blk (bq lf lb a b) w wr))
 case atStart=>exact⟨i,d,j,rfl,rfl,rfl,x⟩
 case round=>
  obtain⟨root,f,hr,z,rfl,G,p⟩:=hrel;have I:=hid z;have C:=hid G;have c0:=p.out.cells
  have i3:(root:Int)<=1000000:=by omega
  clear z G x
  by_cases hA:hi<=2*root+1
  .have L:¬(2*(root:Int)+1)<(hi:Int):=by omega
   have h:Hid (siftDown lt hi first i d=f):=by
    rw[<-C.out,siftDown,dif_pos hA];rfl
   go_wp2
   first
    |go_end0
    |((try simp only[Exit.inBlock,Exit.then]);refine ja (results_none rfl _ _ _) rfl ?_)
   exact⟨rfl,by rw[h.out];exact p.out.hd,p.out.g⟩
  .have L:(2*(root:Int)+1)<(hi:Int):=by omega
   have K:∀c,c=2*root+1∨c=2*root+2->(decide (2*root+1+1<hi)&&lt f[first+(2*root+1)]! f[first+(2*root+1)+1]!)=decide (c=2*root+2)->c<hi->(lt f[first+root]! f[first+c]! =true->siftDown lt hi first c (swp f (first+root) (first+c))=siftDown lt hi first i d)/\(lt f[first+root]! f[first+c]! =false->siftDown lt hi first i d=f):=by
    intro c Q A hch;rw[<-C.out]
    rcases Q with rfl|rfl
    .have l:¬(decide (2*root+1+1<hi)&&lt f[first+(2*root+1)]! f[first+(2*root+1)+1]!)=true:=by rw[A];simp
     exact⟨λe=>by conv=>rhs;rw[siftDown,dif_neg (by omega),if_neg l,if_neg (by rw[e];simp)],λe=>by rw[siftDown,dif_neg (by omega),if_neg l,if_pos (by rw[e];rfl)]⟩
    .have l:(decide (2*root+1+1<hi)&&lt f[first+(2*root+1)]! f[first+(2*root+1)+1]!)=true:=by rw[A];simp
     exact⟨λe=>by conv=>rhs;rw[siftDown,dif_neg (by omega),if_pos l,if_neg (by rw[e];simp),dif_pos (by omega)],λe=>by rw[siftDown,dif_neg (by omega),if_pos l,if_pos (by rw[e];rfl)]⟩
   by_cases hB:2*root+1+1<hi
   case' pos=>
    have R:(2*(root:Int)+1+1)<(hi:Int):=by omega
    cases e1:lt f[first+(2*root+1)]! f[first+(2*root+1)+1]!
    case' true=>(obtain⟨c,HC⟩:∃c,Hid (c=2*root+2):=⟨_,rfl⟩;have t:=trivial;have k:=hid (K c (.inr HC.out) (by rw[e1,eu hB,HC.out];simp) (by have:=HC.out;omega)))
    case' false=>(obtain⟨c,HC⟩:∃c,Hid (c=2*root+1):=⟨_,rfl⟩;have k:=hid (K c (.inl HC.out) (by rw[e1,HC.out];simp) (by have:=HC.out;omega)))
    all_goals
     have H:=hid e1;clear e1 K;go_wp2_with fail;refine(u.out _ _ (first+(2*root+1)) (first+(2*root+1)+1) f _ _ H.out (by omega) (by omega) (by omega) (by omega) p).mono ?_;rintro e w1 ⟨rfl,c1,q⟩;clear c0 H
   case' neg=>(obtain⟨c,HC⟩:∃c,Hid (c=2*root+1):=⟨_,rfl⟩;have k:=hid (K c (.inl HC.out) (by rw[dJ hB,HC.out];simp) (by have:=HC.out;omega));have R:¬(2*(root:Int)+1+1)<(hi:Int):=(by omega);have c1:=c0;have q:=p;clear c0 K)
   all_goals
    cases e2:lt f[first+root]! f[first+c]! with
    |true=>
     have h:=hid (k.out.1 e2);have m:=hid e2;clear e2 k;go_wp2_with fail;refine(u.out _ _ (first+root) (first+c) f _ _ m.out (by omega) (by have:=HC.out;omega) (by omega) (by have:=HC.out;omega) q).mono ?_;rintro e v ⟨rfl,M,j⟩;clear c1 m
     (first
      |(have _:=t;obtain⟨N,o,E⟩:=F.out ((first:Int)+(root:Int)) ((first:Int)+(2*(root:Int)+1+1)) (first+root) (first+c) f v (by omega) (by have:=HC.out;omega) (by omega) (by have:=HC.out;omega) j)
      |obtain⟨N,o,E⟩:=F.out ((first:Int)+(root:Int)) ((first:Int)+(2*(root:Int)+1)) (first+root) (first+c) f v (by omega) (by have:=HC.out;omega) (by omega) (by have:=HC.out;omega) j)
     go_wp2
     go_roundg (hi+1 -c)
     case measure=>have:=I.out;have:=HC.out;omega
     case rel=>exact⟨c,_,by have:=HC.out;omega,rfl,by first|rfl|(congr 1;have:=HC.out;omega),h.out,E⟩
    |false=>
     have h:=hid (k.out.2 e2);have m:=hid e2;clear e2 k;go_wp2_with fail;refine(u.out _ _ (first+root) (first+c) f _ _ m.out (by omega) (by have:=HC.out;omega) (by omega) (by have:=HC.out;omega) q).mono ?_;rintro e v ⟨rfl,M,j⟩;clear c1 m;go_wp2
     (try simp only[Exit.inBlock,Exit.then])
     refine ja (results_none rfl _ _ _) rfl ?_;exact⟨rfl,by rw[h.out];exact j.out.hd,j.out.g⟩
end
section
theorem TI{α:Type}[Inhabited α]{lt:α->α->Bool}{B blk n lf c:Nat}{lb h:Array Value}{j:Array α->World->Prop}(S:si lt B blk n lf lb c h j)(d:Array α)(a b:Nat)(w:World)(hd:j d w)(hab:a<b)(hb:b<=n)(hn:n<=1000000):
  Calls prog 255 #[.agg #[.func (.func lf) #[] lb,.func (.func c) #[] h],.int .i64 a,.int .i64 b] w λe i=>e=.returned (.tuple #[])/\j (heapSort lt d a b) i/\w.grownBy i (some blk):=by
 have u:=S.blt d w hd;have F:=hid (kU S d w hd);have C:=hid (ek S w u)
 have t:Hid (∀(X Y:Int) (x hi:Nat) (f:Array α) (W:World),X=(x:Int)->Y=(hi:Int)->a+hi<=n->x<=hi->Hid (aF j f blk (bq lf lb c h) w W)->Calls prog 294 #[.agg #[.func (.func lf) #[] lb,.func (.func c) #[] h],.int .i64 X,.int .i64 Y,.int .i64 a] W λe i=>e=.returned (.tuple #[])/\Hid (aF j (siftDown lt hi a x f) blk (bq lf lb c h) w i)):=by
  rintro X Y x hi f W rfl rfl U P s;refine(TH S f x hi a W s.out.hd U P hn).mono ?_;rintro e i ⟨rfl,V,H⟩;exact⟨rfl,V,s.out.g.trans H,(H.block _ (ax.1 s.out.box).1 (by simp;omega)).trans s.out.box⟩
 have i1:(b:Int) -(a:Int)=((b -a:Nat):Int):=by omega
 have i2:(a:Int)<=1000000:=by omega
 have i3:(b:Int)<=1000000:=by omega
 have i4:(1:Int)<=((b -a:Nat):Int):=by omega
 clear S hd;go_enter func255,ntmps255;go_wp2
 go_loopg [9] ((b -a -1)/2+1) (λg R wr=>∃(k:Nat) (f:Array α),k<=(b -a -1)/2+1/\g=k/\R=.int .i64 ((k:Int) -1)/\heapBuild lt (b -a) a k f=heapBuild lt (b -a) a ((b -a -1)/2+1) d/\Hid (aF j f blk (bq lf lb c h) w wr))
 case atStart=>exact⟨(b -a -1)/2+1,d,aC _,rfl,by first|rfl|(congr 1;omega),rfl,F⟩
 case round=>
  obtain⟨k,f,hk,G,rfl,M,E⟩:=hrel;have T:=hid G;have I:=hid M;have c0:=E.out.cells;clear G M F
  cases k with
  |zero=>
   have Q:¬(0:Int)<=((0:Nat):Int) -1:=by omega
   go_wp2
   go_loopg [10] (b -a) (λg v wr=>∃(k:Nat) (d2:Array α),k<=b -a/\g=k/\v=.int .i64 ((k:Int) -1)/\heapPop lt a k d2=heapSort lt d a b/\Hid (aF j d2 blk (bq lf lb c h) w wr))
   case atStart=>
    refine⟨b -a,f,aC _,rfl,by first|rfl|(congr 1;omega),?_,E⟩;unfold heapSort;rw[<-I.out];rfl
   case round=>
    obtain⟨k,d2,hk2,p,rfl,q,r⟩:=hrel;have z:=hid p;have m:=hid q;have c2:=r.out.cells;clear p q c0
    cases k with
    |zero=>
     have q2:¬(0:Int)<=((0:Nat):Int) -1:=by omega
     go_wp2
     go_end0
     refine⟨rfl,?_,r.out.g⟩;rw[<-m.out];exact r.out.hd
    |succ k=>
     have q2:(0:Int)<=((k+1:Nat):Int) -1:=by omega
     have o:((k+1:Nat):Int) -1=(k:Int):=by omega
     have Z:(k:Int)<=1000000:=by omega
     obtain⟨K,hrun,L⟩:=C.out (a:Int) ((a:Int)+(k:Int)) a (a+k) d2 wr rfl (by omega) (by omega) (by omega) r;have l:=t.out 0 (k:Int) 0 k (swp d2 a (a+k)) K rfl rfl (by omega) (by omega) L;have A:Hid (Calls prog 294 #[.agg #[.func (.func lf) #[] lb,.func (.func c) #[] h],.int .i64 0,.int .i64 (k:Int),.int .i64 a] K λe i=>e=.returned (.tuple #[])/\Hid (aF j (siftDown lt k a 0 (swp d2 a (a+k))) blk (bq lf lb c h) w i)):=l;have c3:=L.out.cells;rw[o];clear l o t C;go_wp2_with fail;refine A.out.mono ?_;rintro e N ⟨rfl,y⟩;go_wp2
     go_roundg k
     case measure=>have:=z.out;omega
     case rel=>exact⟨k,_,by omega,rfl,by first|rfl|go_num,m.out,y⟩
  |succ k=>
   have Q:(0:Int)<=((k+1:Nat):Int) -1:=by omega
   have o:((k+1:Nat):Int) -1=(k:Int):=by omega
   have Z:(k:Int)<=1000000:=by omega
   have l:Hid (Calls prog 294 #[.agg #[.func (.func lf) #[] lb,.func (.func c) #[] h],.int .i64 (k:Int),.int .i64 ((b -a:Nat):Int),.int .i64 a] wr λe i=>e=.returned (.tuple #[])/\Hid (aF j (siftDown lt (b -a) a k f) blk (bq lf lb c h) w i)):=t.out (k:Int) ((b -a:Nat):Int) k (b -a) f wr rfl rfl (by omega) (by omega) E;rw[o];clear o t C;go_wp2_with fail;refine l.out.mono ?_;rintro e N ⟨rfl,y⟩;go_wp2
   go_roundg k
   case measure=>have:=T.out;omega
   case rel=>exact⟨k,_,by omega,rfl,by first|rfl|go_num,I.out,y⟩
end
end Go.Proofs.YthfpipieboophaaGreatDoor
