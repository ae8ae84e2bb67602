import Derived.Test.YthfpipieboophaaGreatDoorZSga
namespace Go.Proofs.YthfpipieboophaaGreatDoor
set_option maxRecDepth 100000
set_option maxHeartbeats 40000000
open Go.Proofs.Tryz Go.RowKit Go.Sort
section
open Go.Joins
variable{α:Type}{lf b blk B n:Nat}{lb a:Array Value}
abbrev bq(lf:Nat)(lb:Array Value)(b:Nat)(a:Array Value):Obj:= .cells #[.func (.func lf) #[] lb,.func (.func b) #[] a] 215
structure aF{α:Type}(Hd:Array α->World->Prop)(d:Array α)(blk:Nat)(o:Obj)(w W:World):Prop where
 hd:Hd d W
 g:w.grownBy W (some blk)
 box:W.heap[w.heap.size]?=some o
theorem aF.cells{c:Array α->World->Prop}{d:Array α}{w W:World}(h:aF c d blk (bq lf lb b a) w W):W.cell? ⟨w.heap.size,0,none⟩=some (.func (.func lf) #[] lb)/\W.cell? ⟨w.heap.size,1,none⟩=some (.func (.func b) #[] a):=
 ⟨by rw[vE h.box];rfl,by rw[vE h.box];rfl⟩
theorem kU[Inhabited α]{lt:α->α->Bool}{c:Array α->World->Prop}(S:si lt B blk n lf lb b a c)(d:Array α)(w:World)(hd:c d w):aF c d blk (bq lf lb b a) w (w.alloc (bq lf lb b a)):=⟨S.still _ _ _ hd (wh _ _),AB _ _ _,vw _ _⟩
theorem sO[Inhabited α]{lt:α->α->Bool}{i:Array α->World->Prop}(S:si lt B blk n lf lb b a i)(d:Array α)(w W:World)(X Y:Int)(x y:Nat)(l:X=(x:Int))(q:Y=(y:Int))(m:x<n)(o:y<n)(h:aF i d blk (bq lf lb b a) w W):
  Calls prog lf (#[.int .i64 X,.int .i64 Y]++lb) W λe f=>e=.returned (.bool (lt d[x]! d[y]!))/\(f.cell? ⟨w.heap.size,0,none⟩=some (.func (.func lf) #[] lb)/\f.cell? ⟨w.heap.size,1,none⟩=some (.func (.func b) #[] a))/\Hid (aF i d blk (bq lf lb b a) w f):=by
 subst l q;refine(S.less d W x y h.hd m o).mono ?_;rintro e f ⟨rfl,c⟩;have j:aF i d blk (bq lf lb b a) w f:=⟨S.still _ _ _ h.hd c,h.g.trans ⟨c.os,c.tape,c.output,c.size,λk p _=>c.block k p⟩,(c.block _ (aD.1 h.box).1).trans h.box⟩;exact⟨rfl,j.cells,j⟩
theorem sP[Inhabited α]{lt:α->α->Bool}{e:Array α->World->Prop}(S:si lt B blk n lf lb b a e)(d:Array α)(w W:World)(X Y:Int)(x y:Nat)(i:X=(x:Int))(o:Y=(y:Int))(k:x<n)(l:y<n)(hl:blk<w.heap.size)(h:aF e d blk (bq lf lb b a) w W):
  ∃c,(callFunc b (#[.int .i64 X,.int .i64 Y]++a)).run prog W=.ok (.value (.tuple #[])) c/\Hid (aF e (swp d x y) blk (bq lf lb b a) w c):=by
 subst i o;obtain⟨c,j,m,f⟩:=S.swap d W x y h.hd k l;exact⟨c,j,m,h.g.trans f,(f.block _ (aD.1 h.box).1 (by simp;omega)).trans h.box⟩
theorem dw[Inhabited α]{lt:α->α->Bool}{f:Array α->World->Prop}(S:si lt B blk n lf lb b a f)(w:World):∀(X Y:Int) (x y:Nat) (c:Array α) (W:World),X=(x:Int)->Y=(y:Int)->x<n->y<n->Hid (aF f c blk (bq lf lb b a) w W)->Calls prog lf (#[.int .i64 X,.int .i64 Y]++lb) W λe d=>e=.returned (.bool (lt c[x]! c[y]!))/\(d.cell? ⟨w.heap.size,0,none⟩=some (.func (.func lf) #[] lb)/\d.cell? ⟨w.heap.size,1,none⟩=some (.func (.func b) #[] a))/\Hid (aF f c blk (bq lf lb b a) w d):=λX Y x y c W i h k j g=>sO S c w W X Y x y i h k j g.out
theorem aaO[Inhabited α]{lt:α->α->Bool}{f:Array α->World->Prop}(S:si lt B blk n lf lb b a f)(w:World):∀(X Y:Int) (x y:Nat) (c:Array α) (W:World) (r:Bool),lt c[x]! c[y]! =r->X=(x:Int)->Y=(y:Int)->x<n->y<n->Hid (aF f c blk (bq lf lb b a) w W)->Calls prog lf (#[.int .i64 X,.int .i64 Y]++lb) W λe d=>e=.returned (.bool r)/\(d.cell? ⟨w.heap.size,0,none⟩=some (.func (.func lf) #[] lb)/\d.cell? ⟨w.heap.size,1,none⟩=some (.func (.func b) #[] a))/\Hid (aF f c blk (bq lf lb b a) w d):=λX Y x y c W r i j h l k g=>by
 rw[<-i];exact sO S c w W X Y x y j h l k g.out
theorem ek[Inhabited α]{lt:α->α->Bool}{e:Array α->World->Prop}(S:si lt B blk n lf lb b a e)(w:World)(d:blk<w.heap.size):∀(X Y:Int) (x y:Nat) (c:Array α) (W:World),X=(x:Int)->Y=(y:Int)->x<n->y<n->Hid (aF e c blk (bq lf lb b a) w W)->∃f,(callFunc b (#[.int .i64 X,.int .i64 Y]++a)).run prog W=.ok (.value (.tuple #[])) f/\Hid (aF e (swp c x y) blk (bq lf lb b a) w f):=λX Y x y c W i h k j g=>sP S c w W X Y x y i h k j d g.out
theorem TH[Inhabited α]{lt:α->α->Bool}{r:Array α->World->Prop}(S:si lt B blk n lf lb b a r)(d:Array α)(i hi first:Nat)(w:World)(hd:r d w)(q:first+hi<=n)(j:i<=hi)(hn:n<=1000000):
  Calls prog 294 #[.agg #[.func (.func lf) #[] lb,.func (.func b) #[] a],.int .i64 i,.int .i64 hi,.int .i64 first] w λe C=>e=.returned (.tuple #[])/\r (siftDown lt hi first i d) C/\w.grownBy C (some blk):=by
 have u:=S.blt d w hd;have OZ:=S.enters;have A:=hid (kU S d w hd);have t:=hid (aaO S w);have z:=hid (ek S w u)
 have i1:(hi:Int)<=1000000:=by omega
 have i2:(first:Int)<=1000000:=by omega
 clear S hd;go_enter func294,ntmps294;go_wp2
 go_loopg [8] (hi+1 -i) (λg Q wr=>∃(root:Nat) (f:Array α),root<=hi/\g=hi+1 -root/\Q=.int .i64 root/\siftDown lt hi first root f=siftDown lt hi first i d/\Hid (aF r f blk (bq lf lb b a) w wr))
 case atStart=>exact⟨i,d,j,rfl,rfl,rfl,A⟩
 case round=>
  obtain⟨root,f,hr,H,rfl,E,p⟩:=hrel;have L:=hid H;have y:=hid E;have c0:=p.out.cells
  have i3:(root:Int)<=1000000:=by omega
  clear H E A
  by_cases hA:hi<=2*root+1
  .have N:¬(2*(root:Int)+1)<(hi:Int):=by omega
   have h:Hid (siftDown lt hi first i d=f):=by
    rw[<-y.out,siftDown,dif_pos hA];rfl
   go_wp2
   first
    |go_end0
    |((try simp only[Exit.inBlock,Exit.then]);refine CU (results_none rfl _ _ _) rfl ?_)
   exact⟨rfl,by rw[h.out];exact p.out.hd,p.out.g⟩
  .have N:(2*(root:Int)+1)<(hi:Int):=by omega
   have K:∀c,c=2*root+1∨c=2*root+2->(decide (2*root+1+1<hi)&&lt f[first+(2*root+1)]! f[first+(2*root+1)+1]!)=decide (c=2*root+2)->c<hi->(lt f[first+root]! f[first+c]! =true->siftDown lt hi first c (swp f (first+root) (first+c))=siftDown lt hi first i d)/\(lt f[first+root]! f[first+c]! =false->siftDown lt hi first i d=f):=by
    intro c R F hch;rw[<-y.out]
    rcases R with rfl|rfl
    .have o:¬(decide (2*root+1+1<hi)&&lt f[first+(2*root+1)]! f[first+(2*root+1)+1]!)=true:=by rw[F];simp
     exact⟨λe=>by conv=>rhs;rw[siftDown,dif_neg (by omega),if_neg o,if_neg (by rw[e];simp)],λe=>by rw[siftDown,dif_neg (by omega),if_neg o,if_pos (by rw[e];rfl)]⟩
    .have o:(decide (2*root+1+1<hi)&&lt f[first+(2*root+1)]! f[first+(2*root+1)+1]!)=true:=by rw[F];simp
     exact⟨λe=>by conv=>rhs;rw[siftDown,dif_neg (by omega),if_pos o,if_neg (by rw[e];simp),dif_pos (by omega)],λe=>by rw[siftDown,dif_neg (by omega),if_pos o,if_pos (by rw[e];rfl)]⟩
   by_cases hB:2*root+1+1<hi
   case' pos=>
    have P:(2*(root:Int)+1+1)<(hi:Int):=by omega
    cases e1:lt f[first+(2*root+1)]! f[first+(2*root+1)+1]!
    case' true=>(obtain⟨c,HC⟩:∃c,Hid (c=2*root+2):=⟨_,rfl⟩;have s:=trivial;have k:=hid (K c (.inr HC.out) (by rw[e1,sS hB,HC.out];simp) (by have:=HC.out;omega)))
    case' false=>(obtain⟨c,HC⟩:∃c,Hid (c=2*root+1):=⟨_,rfl⟩;have k:=hid (K c (.inl HC.out) (by rw[e1,HC.out];simp) (by have:=HC.out;omega)))
    all_goals
     have G:=hid e1;clear e1 K;go_wp2_with fail;refine(t.out _ _ (first+(2*root+1)) (first+(2*root+1)+1) f _ _ G.out (by omega) (by omega) (by omega) (by omega) p).mono ?_;rintro e w1 ⟨rfl,c1,q⟩;clear c0 G
   case' neg=>(obtain⟨c,HC⟩:∃c,Hid (c=2*root+1):=⟨_,rfl⟩;have k:=hid (K c (.inl HC.out) (by rw[o9 hB,HC.out];simp) (by have:=HC.out;omega));have P:¬(2*(root:Int)+1+1)<(hi:Int):=(by omega);have c1:=c0;have q:=p;clear c0 K)
   all_goals
    cases e2:lt f[first+root]! f[first+c]! with
    |true=>
     have h:=hid (k.out.1 e2);have m:=hid e2;clear e2 k;go_wp2_with fail;refine(t.out _ _ (first+root) (first+c) f _ _ m.out (by omega) (by have:=HC.out;omega) (by omega) (by have:=HC.out;omega) q).mono ?_;rintro e v ⟨rfl,M,j⟩;clear c1 m
     (first
      |(have _:=s;obtain⟨I,l,x⟩:=z.out ((first:Int)+(root:Int)) ((first:Int)+(2*(root:Int)+1+1)) (first+root) (first+c) f v (by omega) (by have:=HC.out;omega) (by omega) (by have:=HC.out;omega) j)
      |obtain⟨I,l,x⟩:=z.out ((first:Int)+(root:Int)) ((first:Int)+(2*(root:Int)+1)) (first+root) (first+c) f v (by omega) (by have:=HC.out;omega) (by omega) (by have:=HC.out;omega) j)
     go_wp2
     go_roundg (hi+1 -c)
     case measure=>have:=L.out;have:=HC.out;omega
     case rel=>exact⟨c,_,by have:=HC.out;omega,rfl,by first|rfl|(congr 1;have:=HC.out;omega),h.out,x⟩
    |false=>
     have h:=hid (k.out.2 e2);have m:=hid e2;clear e2 k;go_wp2_with fail;refine(t.out _ _ (first+root) (first+c) f _ _ m.out (by omega) (by have:=HC.out;omega) (by omega) (by have:=HC.out;omega) q).mono ?_;rintro e v ⟨rfl,M,j⟩;clear c1 m;go_wp2
     (try simp only[Exit.inBlock,Exit.then])
     refine CU (results_none rfl _ _ _) rfl ?_;exact⟨rfl,by rw[h.out];exact j.out.hd,j.out.g⟩
end
section
theorem TI{α:Type}[Inhabited α]{lt:α->α->Bool}{B blk n lf c:Nat}{lb h:Array Value}{i:Array α->World->Prop}(S:si lt B blk n lf lb c h i)(d:Array α)(a b:Nat)(w:World)(hd:i d w)(hab:a<b)(hb:b<=n)(hn:n<=1000000):
  Calls prog 255 #[.agg #[.func (.func lf) #[] lb,.func (.func c) #[] h],.int .i64 a,.int .i64 b] w λe j=>e=.returned (.tuple #[])/\i (heapSort lt d a b) j/\w.grownBy j (some blk):=by
 have v:=S.blt d w hd;have K:=hid (kU S d w hd);have A:=hid (ek S w v)
 have s:Hid (∀(X Y:Int) (x hi:Nat) (f:Array α) (W:World),X=(x:Int)->Y=(hi:Int)->a+hi<=n->x<=hi->Hid (aF i f blk (bq lf lb c h) w W)->Calls prog 294 #[.agg #[.func (.func lf) #[] lb,.func (.func c) #[] h],.int .i64 X,.int .i64 Y,.int .i64 a] W λe j=>e=.returned (.tuple #[])/\Hid (aF i (siftDown lt hi a x f) blk (bq lf lb c h) w j)):=by
  rintro X Y x hi f W rfl rfl P Q t;refine(TH S f x hi a W t.out.hd P Q hn).mono ?_;rintro e j ⟨rfl,T,F⟩;exact⟨rfl,T,t.out.g.trans F,(F.block _ (aD.1 t.out.box).1 (by simp;omega)).trans t.out.box⟩
 have i1:(b:Int) -(a:Int)=((b -a:Nat):Int):=by omega
 have i2:(a:Int)<=1000000:=by omega
 have i3:(b:Int)<=1000000:=by omega
 have i4:(1:Int)<=((b -a:Nat):Int):=by omega
 clear S hd;go_enter func255,ntmps255;go_wp2
 go_loopg [9] ((b -a -1)/2+1) (λg v9 wr=>∃(k:Nat) (f:Array α),k<=(b -a -1)/2+1/\g=k/\v9=.int .i64 ((k:Int) -1)/\heapBuild lt (b -a) a k f=heapBuild lt (b -a) a ((b -a -1)/2+1) d/\Hid (aF i f blk (bq lf lb c h) w wr))
 case atStart=>exact⟨(b -a -1)/2+1,d,aO _,rfl,by first|rfl|(congr 1;omega),rfl,K⟩
 case round=>
  obtain⟨k,f,hk,M,rfl,L,y⟩:=hrel;have R:=hid M;have H:=hid L;have c0:=y.out.cells;clear M L K
  cases k with
  |zero=>
   have N:¬(0:Int)<=((0:Nat):Int) -1:=by omega
   go_wp2
   go_loopg [10] (b -a) (λg C wr=>∃(k:Nat) (d2:Array α),k<=b -a/\g=k/\C=.int .i64 ((k:Int) -1)/\heapPop lt a k d2=heapSort lt d a b/\Hid (aF i d2 blk (bq lf lb c h) w wr))
   case atStart=>
    refine⟨b -a,f,aO _,rfl,by first|rfl|(congr 1;omega),?_,y⟩;unfold heapSort;rw[<-H.out];rfl
   case round=>
    obtain⟨k,d2,hk2,p,rfl,q,r⟩:=hrel;have u:=hid p;have o:=hid q;have c2:=r.out.cells;clear p q c0
    cases k with
    |zero=>
     have V:¬(0:Int)<=((0:Nat):Int) -1:=by omega
     go_wp2
     go_end0
     refine⟨rfl,?_,r.out.g⟩;rw[<-o.out];exact r.out.hd
    |succ k=>
     have V:(0:Int)<=((k+1:Nat):Int) -1:=by omega
     have m:((k+1:Nat):Int) -1=(k:Int):=by omega
     have U:(k:Int)<=1000000:=by omega
     obtain⟨I,hrun,G⟩:=A.out (a:Int) ((a:Int)+(k:Int)) a (a+k) d2 wr rfl (by omega) (by omega) (by omega) r;have l:=s.out 0 (k:Int) 0 k (swp d2 a (a+k)) I rfl rfl (by omega) (by omega) G;have z:Hid (Calls prog 294 #[.agg #[.func (.func lf) #[] lb,.func (.func c) #[] h],.int .i64 0,.int .i64 (k:Int),.int .i64 a] I λe j=>e=.returned (.tuple #[])/\Hid (aF i (siftDown lt k a 0 (swp d2 a (a+k))) blk (bq lf lb c h) w j)):=l;have c3:=G.out.cells;rw[m];clear l m s A;go_wp2_with fail;refine z.out.mono ?_;rintro e Z ⟨rfl,E⟩;go_wp2
     go_roundg k
     case measure=>have:=u.out;omega
     case rel=>exact⟨k,_,by omega,rfl,by first|rfl|go_num,o.out,E⟩
  |succ k=>
   have N:(0:Int)<=((k+1:Nat):Int) -1:=by omega
   have m:((k+1:Nat):Int) -1=(k:Int):=by omega
   have U:(k:Int)<=1000000:=by omega
   have l:Hid (Calls prog 294 #[.agg #[.func (.func lf) #[] lb,.func (.func c) #[] h],.int .i64 (k:Int),.int .i64 ((b -a:Nat):Int),.int .i64 a] wr λe j=>e=.returned (.tuple #[])/\Hid (aF i (siftDown lt (b -a) a k f) blk (bq lf lb c h) w j)):=s.out (k:Int) ((b -a:Nat):Int) k (b -a) f wr rfl rfl (by omega) (by omega) y;rw[m];clear m s A;go_wp2_with fail;refine l.out.mono ?_;rintro e Z ⟨rfl,E⟩;go_wp2
   go_roundg k
   case measure=>have:=R.out;omega
   case rel=>exact⟨k,_,by omega,rfl,by first|rfl|go_num,H.out,E⟩
end
end Go.Proofs.YthfpipieboophaaGreatDoor
