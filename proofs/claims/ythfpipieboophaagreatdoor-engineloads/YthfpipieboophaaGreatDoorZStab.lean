import Derived.Sort.LotA
import Derived.Test.YthfpipieboophaaGreatDoorZHd
namespace Go.Proofs.YthfpipieboophaaGreatDoor
set_option maxRecDepth 100000
set_option maxHeartbeats 40000000
open Go.Sort
section
open Go.Proofs.Tryz Go.Joins Go.RowKit
variable{blk n lf h:Nat}{lb l:Array Value}{c:Array O->World->Prop}
structure jK(blk n:Nat)(lf:Nat)(lb:Array Value)(h:Nat)(l:Array Value)(c:Array O->World->Prop):Prop where
 size:∀d W,c d W->d.size=n
 lt:∀d W,c d W->blk<W.heap.size
 kept:∀d W W',c d W->Below W.heap.size W W'->c d W'
 enters:∀args w,(callFunc lf args).run prog w=.ok (.enter lf args) w
 less:∀d W i j,c d W->i<n->j<n->Calls prog lf (#[.int .i64 (i:Nat),.int .i64 (j:Nat)]++lb) W λe w'=>e=.returned (.bool (decide (cO d[i]! d[j]! < 0)))/\Below W.heap.size W w'
 swap:∀d W i j,c d W->i<n->j<n->∃W',(callFunc h (#[.int .i64 (i:Nat),.int .i64 (j:Nat)]++l)).run prog W=.ok (.value (.tuple #[])) W'/\c (swp d i j) W'/\W.grownBy W' (some blk)
def iO(d:Array O)(a b:Nat):Nat->Array O
 |0=>d
 |k+1=>swp (iO d a b k) (a+k) (b+k)
theorem lT(S:jK blk n lf lb h l c)(d:Array O)(a b k:Nat)(w:World)(hd:c d w)(ha:a+k<=n)(hb:b+k<=n)(hn:n<=1000000):
  Calls prog 307 #[.agg #[.func (.func lf) #[] lb,.func (.func h) #[] l],.int .i64 a,.int .i64 b,.int .i64 k] w λe v=>e=.returned (.tuple #[])/\c (iO d a b k) v/\w.grownBy v (some blk):=by
 have hlt:=S.lt d w hd;have z:=hid S;have G:=hid hd;clear S hd;go_enter func307,ntmps307;go_wp2
 go_loopg [8] k (λg i wr=>∃j:Nat,j<=k/\g=k -j/\i=.int .i64 j/\c (iO d a b j) wr/\w.grownBy wr (some blk)/\wr.heap[w.heap.size]?=some (.cells #[.func (.func lf) #[] lb,.func (.func h) #[] l] 215))
 case atStart=>exact⟨0,aW _,rfl,rfl,z.out.kept _ _ _ G.out (fC _ _),iV _ _ _,eZ _ _⟩
 case round=>
  obtain⟨j,hj,x,rfl,p,q,m⟩:=hrel;have A:=hid x;have F:=hid p;have E:=hid q;have HX:=hid m
  have c1:wr.cell? ⟨w.heap.size,1,none⟩=some (.func (.func h) #[] l):=by rw[fq m];rfl
  clear x
  by_cases hlt2:j<k
  .obtain⟨s,o,y,f⟩:=z.out.swap _ wr (a+j) (b+j) p (by omega) (by omega);have B:w.heap.size<wr.heap.size:=(ax.1 m).1
   have r:Hid (c (iO d a b (j+1)) s/\w.grownBy s (some blk)/\s.heap[w.heap.size]?=some (.cells #[.func (.func lf) #[] lb,.func (.func h) #[] l] 215)):=
    ⟨y,q.trans f,(f.block _ B (by simp;omega)).trans m⟩
   have u:(a:Int)+(j:Int)=((a+j:Nat):Int):=by omega
   have t:(b:Int)+(j:Int)=((b+j:Nat):Int):=by omega
   have i3:(j:Int)<(k:Int):=by omega
   have i4:(k:Int)<=1000000:=by omega
   have i5:(a:Int)<=1000000:=by omega
   have i6:(b:Int)<=1000000:=by omega
   rw[<-u,<-t]at o;clear p q m y f u t;go_wp2
   go_roundg (k -(j+1))
   case measure=>have:=A.out;omega
   case rel=>exact⟨j+1,by omega,rfl,by go_num,r.out.1,r.out.2.1,r.out.2.2⟩
  .have C:j=k:=by omega
   subst C
   have hge:¬((j:Int)<(j:Int)):=by omega
   clear p q m;go_wp2
   go_end0
   exact⟨rfl,F.out,E.out⟩
def l9:Nat->Array O->Nat->Nat->Nat->Array O
 |0,d,_,_,_=>d
 |f+1,d,m,i,j=>if i=j then iO d (m -i) m i else if j<i then l9 f (iO d (m -i) m j) m (i -j) j else l9 f (iO d (m -i) (m+j -i) i) m i (j -i)
theorem ze(S:jK blk n lf lb h l c)(d:Array O)(a m b:Nat)(w:World)(hd:c d w)(h1:a<m)(h2:m<b)(h3:b<=n)(C:n<=1000000):
  Calls prog 265 #[.agg #[.func (.func lf) #[] lb,.func (.func h) #[] l],.int .i64 a,.int .i64 m,.int .i64 b] w λe s=>e=.returned (.tuple #[])/\c (l9 (b -a) d m (m -a) (b -m)) s/\w.grownBy s (some blk):=by
 have hlt:=S.lt d w hd;have x:=hid S;have Q:=hid hd
 have i1:(m:Int) -(a:Int)=((m -a:Nat):Int):=by omega
 have i2:(b:Int) -(m:Int)=((b -m:Nat):Int):=by omega
 have i3:(b:Int)<=1000000:=by omega
 have i4:(m:Int)<=1000000:=by omega
 have i5:(a:Int)<=1000000:=by omega
 clear S hd;go_enter func265,ntmps265;go_wp2;generalize hR:l9 (b -a) d m (m -a) (b -m)=R
 go_loopg [8,9] (b -a) (λg N L wr=>∃(i j:Nat) (p:Array O),0<i/\0<j/\i+j<=g/\i<=m -a/\j<=b -m/\N=.int .i64 i/\L=.int .i64 j/\l9 g p m i j=R/\c p wr/\w.grownBy wr (some blk)/\wr.heap[w.heap.size]?=some (.cells #[.func (.func lf) #[] lb,.func (.func h) #[] l] 215))
 case atStart=>
  refine⟨m -a,b -m,d,by omega,by omega,by omega,aC _,aC _,?_,?_,hR,x.out.kept _ _ _ Q.out (fC _ _),iV _ _ _,eZ _ _⟩
  .first|rfl|(congr 1)
  .first|rfl|(congr 1)
 case round=>
  obtain⟨i,j,p,hi,M,hij,z,y,rfl,rfl,r,H,I,v⟩:=hrel;have E:=hid H;have A:=hid I;have K:=hid v
  have c0:wr.cell? ⟨w.heap.size,0,none⟩=some (.func (.func lf) #[] lb):=by rw[fq v];rfl
  have c1:wr.cell? ⟨w.heap.size,1,none⟩=some (.func (.func h) #[] l):=by rw[fq v];rfl
  have G:w.heap.size<wr.heap.size:=(ax.1 v).1;have B:=hid r
  have q:((m -i:Nat):Int)=(m:Int) -(i:Int):=by omega
  have j1:(i:Int)<=1000000:=by omega
  have j2:(j:Int)<=1000000:=by omega
  have j3:(0:Int)<(i:Int):=by omega
  have j4:(0:Int)<(j:Int):=by omega
  clear r H I v
  by_cases e:i=j
  .subst e;have o:=lT x.out p (m -i) m i wr E.out (by omega) (by omega) C;rw[q]at o;clear q
   go_wp2_with (go_at_call 307;refine o.mono ?_;rintro e s ⟨rfl,t,k⟩)
   go_end0
   refine⟨rfl,?_,A.out.trans k⟩;rw[hR,<-B.out];obtain⟨f,rfl⟩:∃f,gk=f+1:=⟨gk -1,by omega⟩;rw[l9,if_pos rfl];exact t
  .have e':(i:Int)≠(j:Int):=by omega
   by_cases hgt:j<i
   .have o:=lT x.out p (m -i) m j wr E.out (by omega) (by omega) C;rw[q]at o
    have adB:(j:Int)<(i:Int):=by omega
    have P:(i:Int) -(j:Int)=((i -j:Nat):Int):=by omega
    clear q
    go_wp2_with (go_at_call 307;refine o.mono ?_;rintro e s ⟨rfl,t,k⟩)
    go_roundg (gk -1)
    case measure=>omega
    case rel=>
     obtain⟨f,rfl⟩:∃f,gk=f+1:=⟨gk -1,by omega⟩;have u:=B.out;rw[l9,if_neg e,if_pos hgt]at u;exact⟨i -j,j,_,by omega,M,by omega,by omega,y,by first|rfl|(congr 1),rfl,u,t,A.out.trans k,(k.block _ G (by simp;omega)).trans K.out⟩
   .have o:=lT x.out p (m -i) (m+j -i) i wr E.out (by omega) (by omega) C
    have hle:(i:Int)<=(j:Int):=by omega
    have F:((m+j -i:Nat):Int)=(m:Int)+(j:Int) -(i:Int):=by omega
    have P:(j:Int) -(i:Int)=((j -i:Nat):Int):=by omega
    rw[q,F]at o;clear q F
    go_wp2_with (go_at_call 307;refine o.mono ?_;rintro e s ⟨rfl,t,k⟩)
    go_roundg (gk -1)
    case measure=>omega
    case rel=>
     obtain⟨f,rfl⟩:∃f,gk=f+1:=⟨gk -1,by omega⟩;have u:=B.out;rw[l9,if_neg e,if_neg hgt]at u;exact⟨i,j -i,_,hi,by omega,by omega,z,by omega,rfl,by first|rfl|(congr 1),u,t,A.out.trans k,(k.block _ G (by simp;omega)).trans K.out⟩
end
section
open Go.Joins Go.RowKit
abbrev dD(x y:O):Bool:=decide (cO x y<0)
theorem J4{blk n lf o:Nat}{lb r:Array Value}{p:Array O->World->Prop}(S:jK blk n lf lb o r p)(d:Array O)(a b:Nat)(w:World)(hd:p d w)(h2:b<=n)(hn:n<=1000000)(ha:a<=1000000):
  Calls Tryz.prog 208 #[.agg #[.func (.func lf) #[] lb,.func (.func o) #[] r],.int .i64 a,.int .i64 b] w λe w'=>e=.returned (.tuple #[])/\p (insertionSort dD d a b) w'/\w.grownBy w' (some blk):=by
 have hlt:=S.lt d w hd;have E:=hid S;have HD:=hid hd;have OZ:=S.enters
 have i3:(b:Int)<=1000000:=by omega
 have i5:(a:Int)<=1000000:=by omega
 clear S hd;go_enter Tryz.func208,Tryz.ntmps208;go_wp2
 go_loopg [6] (b+1 -(a+1)) (λg v6 wr=>∃(i:Nat) (m:Array O),a+1<=i/\i<=1000001/\g=b+1 -i/\v6=.int .i64 i/\insOuter dD a b i m=insertionSort dD d a b/\p m wr/\w.grownBy wr (some blk)/\wr.heap[w.heap.size]?=some (.cells #[.func (.func lf) #[] lb,.func (.func o) #[] r] 215))
 case atStart=>exact⟨a+1,d,aC _,by omega,rfl,by go_num,rfl,E.out.kept _ _ _ HD.out (fC _ _),iV _ _ _,eZ _ _⟩
 case round=>
  obtain⟨i,m,hi,hi2,R,rfl,t,T,W,V⟩:=hrel;have Y:=hid R;have HH:=hid T;have HB:=hid W;have HX:=hid V;have HR:=hid t;clear R t T W V
  by_cases hib:i<b
  .have k1:(i:Int)<(b:Int):=by omega
   have k2:(a:Int)<(i:Int):=by omega
   have u:Hid (insOuter dD a b (i+1) (insInner dD a i m)=insertionSort dD d a b):=by
    have h:=HR.out;rw[insOuter,if_pos hib]at h;exact h
   go_wp2
   go_loopg [7] (i+1) (λg v7 wr=>∃(j:Nat) (d2:Array O),a<=j/\j<=i/\g=j+1/\v7=.int .i64 j/\insInner dD a j d2=insInner dD a i m/\p d2 wr/\w.grownBy wr (some blk)/\wr.heap[w.heap.size]?=some (.cells #[.func (.func lf) #[] lb,.func (.func o) #[] r] 215))
   case atStart=>exact⟨i,m,by omega,aC _,rfl,rfl,rfl,HH.out,HB.out,HX.out⟩
   case round=>
    obtain⟨j,d2,hj,hji,C,rfl,z,y,v,F⟩:=hrel;have M:=hid C;have L:=hid y;have x:=hid v;have Q:=hid F;have K:=hid z
    have c0:wr.cell? ⟨w.heap.size,0,none⟩=some (.func (.func lf) #[] lb):=by rw[fq F];rfl
    have P:w.heap.size<wr.heap.size:=(ax.1 F).1;clear C y v F z
    by_cases hja:a<j
    .obtain⟨c,rfl⟩:∃c,j=c+1:=⟨j -1,by omega⟩
     have m1:(a:Int)<((c+1:Nat):Int):=by omega
     have m2:((c+1:Nat):Int) -1=(c:Int):=by omega
     have m3:((c+1:Nat):Int)<=1000000:=by omega
     have Z:=E.out.less d2 wr (c+1) c L.out (by omega) (by omega);generalize hjj:((c+1:Nat):Int)=J at *;go_wp2_with fail;refine Z.mono ?_;rintro e s ⟨rfl,f⟩;have U:Hid (p d2 s):=E.out.kept _ _ _ L.out f;have A:Hid (w.grownBy s (some blk)):=x.out.trans ⟨f.os,f.tape,f.output,f.size,λk hk _=>f.block k hk⟩;have H:Hid (s.heap[w.heap.size]?=some (.cells #[.func (.func lf) #[] lb,.func (.func o) #[] r] 215)):=(f.block _ P).trans Q.out;have G:w.heap.size<s.heap.size:=aR P f.size
     have c3:s.cell? ⟨w.heap.size,1,none⟩=some (.func (.func o) #[] r):=by rw[fq H.out];rfl
     clear Z f c0
     by_cases hless:cO d2[c+1]! d2[c]! < 0
     .rw[eu hless];obtain⟨I,B,X,q⟩:=E.out.swap d2 s (c+1) c U.out (by omega) (by omega);rw[hjj]at B
      have N:Hid (p (swp d2 (c+1) c) I/\w.grownBy I (some blk)/\I.heap[w.heap.size]?=some (.cells #[.func (.func lf) #[] lb,.func (.func o) #[] r] 215)):=
       ⟨X,A.out.trans q,(q.block _ G (by simp;omega)).trans H.out⟩
      have l:Hid (insInner dD a c (swp d2 (c+1) c)=insInner dD a i m):=by
       have h:=K.out;rw[insInner,if_pos (by simp[dD,hless];omega)]at h;exact h
      clear X q hless;go_wp2
      go_roundg (c+1)
      case measure=>have:=M.out;omega
      case rel=>exact⟨c,_,by omega,by omega,rfl,by first|rfl|go_num|(congr 1),l.out,N.out.1,N.out.2.1,N.out.2.2⟩
     .rw[dJ hless]
      have l:Hid (insInner dD a i m=d2):=by
       have h:=K.out;rw[insInner,if_neg (by simp[dD,hless])]at h;exact h.symm
      clear hless;go_wp2
      go_roundg (b+1 -(i+1))
      case measure=>have:=Y.out;omega
      case rel=>exact⟨i+1,d2,by omega,by omega,rfl,by go_num,by rw[<-l.out];exact u.out,U.out,A.out,H.out⟩
    .have e1:j=a:=by omega
     have m1:¬((a:Int)<(j:Int)):=by omega
     have l:Hid (insInner dD a i m=d2):=by
      have h:=K.out
      cases j with
      |zero=>exact h.symm
      |succ c=>rw[insInner,if_neg (by simp;omega)]at h;exact h.symm
     go_wp2
     go_roundg (b+1 -(i+1))
     case measure=>have:=Y.out;omega
     case rel=>exact⟨i+1,d2,by omega,by omega,rfl,by go_num,by rw[<-l.out];exact u.out,L.out,x.out,Q.out⟩
  .clear i3
   have k1:¬((i:Int)<(b:Int)):=by omega
   go_wp2
   go_end0
   refine⟨rfl,?_,HB.out⟩;rw[<-HR.out,insOuter,if_neg hib];exact HH.out
end
section
variable{lt:O->O->Bool}{d r d2:Array O}{a b s n t:Nat}
theorem fP(d:Array O)(a b k:Nat):(iO d a b k).size=d.size:=by
 induction k with
 |zero=>rfl
 |succ k ih=>rw[iO,swp_size,ih]
theorem qJ(d:Array O)(a b k:Nat)(h1:a+k<=b)(h2:b+k<=d.size)(p:Nat):
  (iO d a b k)[p]! =if a<=p/\p<a+k then d[p+(b -a)]! else if b<=p/\p<b+k then d[p -(b -a)]! else d[p]! :=by
 induction k generalizing p with
 |zero=>rw[iO,if_neg (by omega),if_neg (by omega)]
 |succ k ih=>
  have c:=ih (by omega) (by omega);rw[iO,swp_get _ (by rw[fP];omega) (by rw[fP];omega)]
  by_cases e1:p=b+k
  .subst e1;rw[if_pos rfl,c,if_neg (by omega),if_neg (by omega),if_neg (by omega),if_pos (by omega)];congr 1;omega
  .rw[if_neg e1]
   by_cases e2:p=a+k
   .subst e2;rw[if_pos rfl,c,if_neg (by omega),if_neg (by omega),if_pos (by omega)];congr 1;omega
   .rw[if_neg e2,c]
    by_cases c1:a<=p/\p<a+k
    .rw[if_pos c1,if_pos (by omega)]
    .by_cases c2:b<=p/\p<b+k
     .rw[if_neg c1,if_pos c2,if_neg (by omega),if_pos (by omega)]
     .rw[if_neg c1,if_neg c2,if_neg (by omega),if_neg (by omega)]
theorem oI(d:Array O)(a b k lo hi:Nat)(h1:lo<=a)(h2:lo<=b)(h3:a+k<=hi)(h4:b+k<=hi)(h5:hi<=d.size):PermIn lo hi d (iO d a b k):=by
 induction k with
 |zero=>exact permIn_refl _ _ _
 |succ k ih=>
  refine permIn_trans _ _ _ _ _ (ih (by omega) (by omega)) ?_;rw[iO];exact swp_permIn _ _ _ _ _ (by omega) (by omega) (by omega) (by omega) (by rw[fP];omega)
def pK(d r:Array O)(s m e:Nat):Prop:=
 ∀p,r[p]! =if s<=p/\p<s+(e -m)then d[p+(m -s)]! else if s+(e -m)<=p/\p<e then d[p -(e -m)]! else d[p]!
theorem Bc(f:Nat)(d:Array O)(m i j lo hi:Nat)(h1:lo+i<=m)(h2:m+j<=hi)(c:hi<=d.size):PermIn lo hi d (l9 f d m i j):=by
 induction f generalizing d i j with
 |zero=>exact permIn_refl _ _ _
 |succ f ih=>
  rw[l9]
  split
  .exact oI _ _ _ _ _ _ (by omega) (by omega) (by omega) (by omega) c
  .split
   .exact permIn_trans _ _ _ _ _ (oI _ _ _ _ _ _ (by omega) (by omega) (by omega) (by omega) c) (ih _ _ _ (by omega) (by omega) (by rw[fP];exact c))
   .exact permIn_trans _ _ _ _ _ (oI _ _ _ _ _ _ (by omega) (by omega) (by omega) (by omega) c) (ih _ _ _ (by omega) (by omega) (by rw[fP];exact c))
theorem vN(f:Nat)(d:Array O)(m i j:Nat)(hf:i+j<=f)(hi:0<i)(c:0<j)(h1:i<=m)(h2:m+j<=d.size):pK d (l9 f d m i j) (m -i) m (m+j):=by
 induction f generalizing d i j with
 |zero=>omega
 |succ f ih=>
  intro p;rw[l9]
  split
  .rename_i e
   subst e;rw[qJ _ _ _ _ (by omega) (by omega)]
   by_cases c1:m -i<=p/\p<m -i+i
   .rw[if_pos c1,if_pos (by omega)]
   .by_cases c2:m<=p/\p<m+i
    .rw[if_neg c1,if_pos c2,if_neg (by omega),if_pos (by omega)];congr 1;omega
    .rw[if_neg c1,if_neg c2,if_neg (by omega),if_neg (by omega)]
  .rename_i e
   split
   .rename_i e2
    rw[ih _ _ _ (by omega) (by omega) c (by omega) (by rw[fP];omega) p];simp only[qJ d (m -i) m j (by omega) (by omega)]
    by_cases c0:p<m -i∨m+j<=p
    .rw[if_neg (by omega),if_neg (by omega),if_neg (by omega),if_neg (by omega),if_neg (by omega),if_neg (by omega)]
    .by_cases c1:p<m -i+j
     .rw[if_neg (by omega),if_neg (by omega),if_pos (by omega),if_pos (by omega)]
     .by_cases c2:p<m -(i -j)+(m+j -m)
      .rw[if_pos (by omega),if_neg (by omega),if_pos (by omega),if_neg (by omega),if_pos (by omega)];congr 1;omega
      .rw[if_neg (by omega),if_pos (by omega),if_neg (by omega),if_neg (by omega),if_neg (by omega),if_pos (by omega)]
   .rename_i e2
    rw[ih _ _ _ (by omega) hi (by omega) (by omega) (by rw[fP];omega) p];simp only[qJ d (m -i) (m+j -i) i (by omega) (by omega)]
    by_cases c0:p<m -i∨m+j<=p
    .rw[if_neg (by omega),if_neg (by omega),if_neg (by omega),if_neg (by omega),if_neg (by omega),if_neg (by omega)]
    .by_cases c1:m+j -i<=p
     .rw[if_neg (by omega),if_neg (by omega),if_neg (by omega),if_pos (by omega),if_neg (by omega),if_pos (by omega)];congr 1;omega
     .by_cases c2:p<m -i+(m+(j -i) -m)
      .rw[if_pos (by omega),if_neg (by omega),if_neg (by omega),if_pos (by omega)]
      .rw[if_neg (by omega),if_pos (by omega),if_pos (by omega),if_pos (by omega)];congr 1;omega
def wD(d:Array O)(a:Nat):Nat->Array O
 |0=>d
 |k+1=>swp (wD d a k) (a+k) (a+k+1)
theorem uA(d:Array O)(a k:Nat):(wD d a k).size=d.size:=by
 induction k with
 |zero=>rfl
 |succ k ih=>rw[wD,swp_size,ih]
theorem PN(d:Array O)(a k:Nat)(h:a+k<d.size)(p:Nat):(wD d a k)[p]! =if a<=p/\p<a+k then d[p+1]! else if p=a+k then d[a]! else d[p]! :=by
 induction k generalizing p with
 |zero=>
  rw[wD,if_neg (by omega)]
  split
  .rename_i e;subst e;rfl
  .rfl
 |succ k ih=>
  have c:=ih (by omega);rw[wD,swp_get _ (by rw[uA];omega) (by rw[uA];omega)]
  by_cases e1:p=a+k+1
  .subst e1;rw[if_pos rfl,c,if_neg (by omega),if_pos rfl,if_neg (by omega),if_pos (by omega)]
  .rw[if_neg e1]
   by_cases e2:p=a+k
   .subst e2;rw[if_pos rfl,c,if_neg (by omega),if_neg (by omega),if_pos (by omega)]
   .rw[if_neg e2,c]
    by_cases c1:a<=p/\p<a+k
    .rw[if_pos c1,if_pos (by omega)]
    .rw[if_neg c1,if_neg (by omega),if_neg (by omega),if_neg (by omega)]
theorem LH(d:Array O)(a k lo hi:Nat)(h1:lo<=a)(h3:a+k<hi)(h5:hi<=d.size):PermIn lo hi d (wD d a k):=by
 induction k with
 |zero=>exact permIn_refl _ _ _
 |succ k ih=>
  refine permIn_trans _ _ _ _ _ (ih (by omega)) ?_;rw[wD];exact swp_permIn _ _ _ _ _ (by omega) (by omega) (by omega) (by omega) (by rw[uA];omega)
def wE(d:Array O)(m:Nat):Nat->Array O
 |0=>d
 |k+1=>swp (wE d m k) (m -k) (m -k -1)
theorem uB(d:Array O)(m k:Nat):(wE d m k).size=d.size:=by
 induction k with
 |zero=>rfl
 |succ k ih=>rw[wE,swp_size,ih]
theorem PO(d:Array O)(m k:Nat)(h:k<=m)(h2:m<d.size)(p:Nat):(wE d m k)[p]! =if m -k<p/\p<=m then d[p -1]! else if p=m -k then d[m]! else d[p]! :=by
 induction k generalizing p with
 |zero=>
  rw[wE,if_neg (by omega)]
  split
  .rename_i e;subst e;rfl
  .rfl
 |succ k ih=>
  have c:=ih (by omega);rw[wE,swp_get _ (by rw[uB];omega) (by rw[uB];omega)]
  by_cases e1:p=m -k -1
  .rw[if_pos e1,c,if_neg (by omega),if_pos rfl,if_neg (by omega),if_pos (by omega)]
  .rw[if_neg e1]
   by_cases e2:p=m -k
   .rw[if_pos e2,c,if_neg (by omega),if_neg (by omega),if_pos (by omega)];congr 1;omega
   .rw[if_neg e2,c]
    by_cases c1:m -k<p/\p<=m
    .rw[if_pos c1,if_pos (by omega)]
    .rw[if_neg c1,if_neg (by omega),if_neg (by omega),if_neg (by omega)]
theorem LJ(d:Array O)(m k lo hi:Nat)(h:lo+k<=m)(h3:m<hi)(h5:hi<=d.size):PermIn lo hi d (wE d m k):=by
 induction k with
 |zero=>exact permIn_refl _ _ _
 |succ k ih=>
  refine permIn_trans _ _ _ _ _ (ih (by omega)) ?_;rw[wE];exact swp_permIn _ _ _ _ _ (by omega) (by omega) (by omega) (by omega) (by rw[uB];omega)
theorem LK(j:SWO lt)(d:Array O)(a b i:Nat)(h1:a+1<=i)(h2:i<=b)(h3:b<=d.size)(h:SortedIn lt (a+1) b d)
  (c:i=a+1∨lt d[i -1]! d[a]! =true) (f:i=b∨lt d[i]! d[a]! =false):SortedIn lt a b (wD d a (i -1 -a)):=by
 have g:=PN d a (i -1 -a) (by omega);intro p q hp hpq hq;rw[g,g]
 by_cases c1:q<i -1
 .rw[if_pos (by omega),if_pos (by omega)];exact h _ _ (by omega) (by omega) (by omega)
 .by_cases c2:q=i -1
  .rw[if_neg (by omega),if_pos (by omega),if_pos (by omega)]
   rcases c with c|c
   .omega
   .have k:lt d[p+1]! d[a]! =true:=by
     by_cases e:p+1=i -1
     .rw[e];exact c
     .cases hh:lt d[p+1]! d[a]! with
      |true=>rfl
      |false=>
       have:=j.ntrans _ _ _ (h (p+1) (i -1) (by omega) (by omega) (by omega)) hh;rw[this]at c;cases c
    exact j.asymmA k
  .rw[if_neg (by omega),if_neg (by omega)]
   by_cases c3:p<i -1
   .rw[if_pos (by omega)];exact h _ _ (by omega) (by omega) (by omega)
   .by_cases c4:p=i -1
    .rw[if_neg (by omega),if_pos (by omega)]
     rcases f with f|f
     .omega
     .by_cases e:q=i
      .rw[e];exact f
      .exact j.ntrans _ _ _ (h i q (by omega) (by omega) (by omega)) f
    .rw[if_neg (by omega),if_neg (by omega)];exact h _ _ (by omega) (by omega) (by omega)
theorem LM(j:SWO lt)(d:Array O)(a m i:Nat)(h1:a<=i)(h2:i<=m)(k:m<d.size)(h:SortedIn lt a m d)
  (f:i=a∨lt d[m]! d[i -1]! =false) (c:i=m∨lt d[m]! d[i]! =true):SortedIn lt a (m+1) (wE d m (m -i)):=by
 have g:=PO d m (m -i) (by omega) k;intro p q hp hpq hq;rw[g,g]
 by_cases c1:q<i
 .rw[if_neg (by omega),if_neg (by omega),if_neg (by omega),if_neg (by omega)];exact h _ _ (by omega) (by omega) (by omega)
 .by_cases c2:q=i
  .rw[if_neg (by omega),if_pos (by omega),if_neg (by omega),if_neg (by omega)]
   rcases f with f|f
   .omega
   .by_cases e:p=i -1
    .rw[e];exact f
    .exact j.ntrans _ _ _ f (h p (i -1) (by omega) (by omega) (by omega))
  .rw[if_pos (by omega)]
   by_cases c3:p<i
   .rw[if_neg (by omega),if_neg (by omega)];exact h _ _ (by omega) (by omega) (by omega)
   .by_cases c4:p=i
    .rw[if_neg (by omega),if_pos (by omega)]
     rcases c with c|c
     .omega
     .have l:lt d[m]! d[q -1]! =true:=by
       by_cases e:q -1=i
       .rw[e];exact c
       .cases hh:lt d[m]! d[q -1]! with
        |true=>rfl
        |false=>
         have:=j.ntrans _ _ _ hh (h i (q -1) (by omega) (by omega) (by omega));rw[this]at c;cases c
      exact j.asymmA l
    .rw[if_pos (by omega)];exact h _ _ (by omega) (by omega) (by omega)
structure kJ(lt:O->O->Bool)(a s mid e b:Nat)(d:Array O):Prop where
 h1:SortedIn lt a s d
 h2:SortedIn lt s mid d
 h3:SortedIn lt mid e d
 h4:SortedIn lt e b d
 cross:∀i j,a<=i->i<mid->mid<=j->j<b->lt d[j]! d[i]! =false
theorem Be(k:SWO lt)(d r:Array O)(a m b s mid:Nat)(ham:a<m)(hmid:mid=(a+b)/2)(o:SortedIn lt a m d)(l:SortedIn lt m b d)
  (x:a<=s) (hlo2:mid+m<=b+s) (hhi:s<=m) (hhi2:s<=mid)
  (q:s=a∨mid+m=b+s∨lt d[mid+m -s]! d[s -1]! =false) (u:s=m∨s=mid∨lt d[mid+m -s -1]! d[s]! =true)
  (g:pK d r s m (mid+m -s)):kJ lt a s mid (mid+m -s) b r:=by
 have G:s+(mid+m -s -m)=mid:=by omega
 have F:mid+m -s -m=mid -s:=by omega
 unfold pK at g;rw[G,F]at g
 have A:∀p,p<s->r[p]! =d[p]! :=λp w=>by rw[g,if_neg (by omega),if_neg (by omega)]
 have B:∀p,s<=p->p<mid->r[p]! =d[p+(m -s)]! :=λp w z=>by rw[g,if_pos (by omega)]
 have C:∀p,mid<=p->p<mid+m -s->r[p]! =d[p -(mid -s)]! :=λp w z=>by rw[g,if_neg (by omega),if_pos (by omega)]
 have D:∀p,mid+m -s<=p->r[p]! =d[p]! :=λp w=>by rw[g,if_neg (by omega),if_neg (by omega)]
 have le:∀(lo hi i j:Nat),SortedIn lt lo hi d->lo<=i->i<=j->j<hi->lt d[j]! d[i]! =false:=λlo hi i j h H a2 E=>by
  by_cases e:i=j
  .subst e;exact k.irrefl _
  .exact h i j H (by omega) E
 refine⟨?_,?_,?_,?_,?_⟩
 .intro i j hi c f;rw[A i (by omega),A j f];exact o i j hi c (by omega)
 .intro i j hi c f;rw[B i hi (by omega),B j (by omega) f];exact l _ _ (by omega) (by omega) (by omega)
 .intro i j hi c f;rw[C i hi (by omega),C j (by omega) f];exact o _ _ (by omega) (by omega) (by omega)
 .intro i j hi c f;rw[D i hi,D j (by omega)];exact l _ _ (by omega) (by omega) (by omega)
 .intro i j hi v f y
  by_cases ci:i<s
  .rw[A i ci]
   by_cases cj:j<mid+m -s
   .rw[C j f cj];exact o _ _ hi (by omega) (by omega)
   .rw[D j (by omega)]
    rcases q with q|q|q
    .omega
    .omega
    .exact k.ntrans _ _ _ (le m b (mid+m -s) j l (by omega) (by omega) y) (k.ntrans _ _ _ q (le a m i (s -1) o hi (by omega) (by omega)))
  .rw[B i (by omega) v]
   by_cases cj:j<mid+m -s
   .rw[C j f cj]
    rcases u with u|u|u
    .omega
    .omega
    .exact k.ntrans _ _ _ (le a m s (j -(mid -s)) o x (by omega) (by omega)) (k.ntrans _ _ _ (k.asymmA u) (le m b (i+(m -s)) (mid+m -s -1) l (by omega) (by omega) (by omega)))
   .rw[D j (by omega)];exact l _ _ (by omega) (by omega) (by omega)
theorem oJ(d:Array O)(a b:Nat)(h:b<=a):SortedIn lt a b d:=λ_ _ _ _ _=>by omega
theorem dX(h:SortedIn lt a b d)(f:∀p,a<=p->p<b->r[p]! =d[p]!):SortedIn lt a b r:=λi j hi c e=>by
 rw[f i hi (by omega),f j (by omega) e];exact h i j hi c e
theorem E8{a mid b:Nat}(g:SortedIn lt a mid d)(f:SortedIn lt mid b d)(h:∀i j,a<=i->i<mid->mid<=j->j<b->lt d[j]! d[i]! =false):SortedIn lt a b d:=λi j hi c e=>by
 by_cases c1:j<mid
 .exact g i j hi c c1
 .by_cases c2:i<mid
  .exact h i j hi c2 (by omega) e
  .exact f i j (by omega) c e
theorem Iw{a mid b:Nat}(hb:b<=d.size)(hm:mid<=b)(m:∀i j,a<=i->i<mid->mid<=j->j<b->lt d[j]! d[i]! =false)(h:PermIn a mid d r):∀i j,a<=i->i<mid->mid<=j->j<b->lt r[j]! r[i]! =false:=by
 intro i j hi e g f;rw[h.2.1 j (Or.inr g)];exact permIn_all d r a mid (λx=>lt d[j]! x=false) (by omega) h (λk l c=>m k j l c g f) i hi e
theorem E9{a mid b:Nat}(m:b<=d.size)(o:∀i j,a<=i->i<mid->mid<=j->j<b->lt d[j]! d[i]! =false)(g:PermIn mid b d r):∀i j,a<=i->i<mid->mid<=j->j<b->lt r[j]! r[i]! =false:=by
 intro i j hi c l f;rw[g.2.1 i (Or.inl c)];exact permIn_all d r mid b (λx=>lt x d[i]! =false) m g (λk h e=>o i k hi c h e) j l f
def Merged(lt:O->O->Bool)(a b:Nat)(d r:Array O):Prop:=PermIn a b d r/\SortedIn lt a b r
theorem kJ.done{a s mid e b:Nat}{d3:Array O}(h:kJ lt a s mid e b d)(i:b<=d.size)(g:a<=mid)(c:mid<=b)(m1:Merged lt a mid d d2)(f:Merged lt mid b d2 d3):Merged lt a b d d3:=by
 have z:d2.size=d.size:=m1.1.1;refine⟨permIn_trans _ _ _ _ _ (permIn_mono _ _ _ _ _ _ (aC _) c i m1.1) (permIn_mono _ _ _ _ _ _ g (aC _) (by omega) f.1),E8 ?_ f.2 ?_⟩
 .exact dX m1.2 λp _ j=>f.1.2.1 p (Or.inl j)
 .exact E9 (by omega) (Iw i c h.cross m1.1) f.1
theorem kJ.right{a s mid e b:Nat}(h:kJ lt a s mid e b d)(m1:Merged lt a mid d d2):SortedIn lt mid e d2/\SortedIn lt e b d2∨e<mid:=by
 by_cases c:e<mid
 .exact Or.inr c
 .exact Or.inl ⟨dX h.h3 λp f _=>m1.1.2.1 p (Or.inr f),dX h.h4 λp f _=>m1.1.2.1 p (Or.inr (by omega))⟩
theorem dY(g:SortedIn lt a s d)(f:SortedIn lt s b d)(h:s<=a∨b<=s):Merged lt a b d d:=by
 refine⟨permIn_refl _ _ _,?_⟩;intro i j hi c e
 rcases h with h|h
 .exact f i j (by omega) c e
 .exact g i j hi c (by omega)
def Ro(lt:O->O->Bool)(s n:Nat)(d:Array O):Prop:=∀c,SortedIn lt (c*s) (min (c*s+s) n) d
structure rW(lt:O->O->Bool)(s n t:Nat)(d:Array O):Prop where
 two:∀c,c<t->SortedIn lt (c*(2*s)) (c*(2*s)+2*s) d
 one:∀c,2*t<=c->SortedIn lt (c*s) (min (c*s+s) n) d
theorem Ro.mid(h:Ro lt s n d):rW lt s n 0 d:=⟨λ_ hc=>by omega,λc _=>h c⟩
theorem yH{c:Nat}(h:c<t):c*s+s<=t*s:=by
 rw[<-Nat.succ_mul];exact Nat.mul_le_mul_right s h
theorem uC(t s:Nat):(2*t)*s=t*(2*s):=by rw[Nat.mul_comm 2 t,Nat.mul_assoc]
theorem rW.step(h:rW lt s n t d)(m:Merged lt (t*(2*s)) (t*(2*s)+2*s) d r):rW lt s n (t+1) r:=by
 refine⟨λc f=>?_,λc f=>?_⟩
 .by_cases e:c=t
  .subst e;exact m.2
  .have:=yH (s:=2*s) (show c<t by omega)
   exact dX (h.two c (by omega)) λp _ g=>m.1.2.1 p (Or.inl (by omega))
 .have q:(2*(t+1))*s<=c*s:=Nat.mul_le_mul_right s f;rw[uC,Nat.succ_mul]at q
  exact dX (h.one c (by omega)) λp g _=>m.1.2.1 p (Or.inr (by omega))
theorem rW.ahead(h:rW lt s n t d):SortedIn lt (t*(2*s)) (min (t*(2*s)+s) n) d:=by
 have:=h.one (2*t) (aC _);rw[uC]at this;exact this
theorem rW.next(h:rW lt s n t d):SortedIn lt (t*(2*s)+s) (min (t*(2*s)+2*s) n) d:=by
 have:=h.one (2*t+1) (by omega);rw[Nat.succ_mul,uC]at this;rw[show t*(2*s)+2*s=t*(2*s)+s+s by omega];exact this
theorem rW.done(h:rW lt s n t d)(h2:n<t*(2*s)+2*s)(m:Merged lt (t*(2*s)) n d r):Ro lt (2*s) n r:=by
 intro c
 by_cases e:c<t
 .have:=yH (s:=2*s) e
  refine dX (d:=d) ?_ λp _ hp=>m.1.2.1 p (Or.inl (by omega))
  intro i j hi f g;exact h.two c e i j hi f (by omega)
 .by_cases e2:c=t
  .subst e2;intro i j hi f g;exact m.2 i j hi f (by omega)
  .have:=yH (s:=2*s) (show t<c by omega);exact oJ _ _ _ (by omega)
theorem rW.last(h:rW lt s n t d)(c:n<=t*(2*s)+s):Merged lt (t*(2*s)) n d d:=by
 refine⟨permIn_refl _ _ _,?_⟩;have:=h.ahead;rw[Nat.min_eq_right c]at this;exact this
theorem Ro.whole(h:Ro lt s n d)(c:n<=s):SortedIn lt 0 n d:=by
 have:=h 0;rw[Nat.zero_mul,Nat.zero_add,Nat.min_eq_right c]at this;exact this
def qK(lt:O->O->Bool)(t:Nat)(d:Array O):Prop:=∀c,c<t->SortedIn lt (c*20) (c*20+20) d
theorem qK.step(h:qK lt t d)(f:PermIn (t*20) (t*20+20) d r)(g:SortedIn lt (t*20) (t*20+20) r):qK lt (t+1) r:=by
 intro c hc
 by_cases e:c=t
 .subst e;exact g
 .exact dX (h c (by omega)) λp _ hq=>f.2.1 p (Or.inl (by omega))
theorem qK.blk(h:qK lt t d)(h2:n<t*20+20)(g:PermIn (t*20) n d r)(l:SortedIn lt (t*20) n r):Ro lt 20 n r:=by
 intro c
 by_cases e:c<t
 .refine dX (d:=d) ?_ λp _ hq=>g.2.1 p (Or.inl (by omega))
  intro i j hi f k;exact h c e i j hi f (by omega)
 .by_cases e2:c=t
  .subst e2;intro i j hi f k;exact l i j hi f (by omega)
  .exact oJ _ _ _ (by omega)
end
section
open Go.Proofs.Tryz Go.Joins Go.RowKit
variable{blk n lf f:Nat}{lb l:Array Value}{c:Array O->World->Prop}{d:Array O}{w wr o:World}
structure dP(blk lf:Nat)(lb:Array Value)(f:Nat)(l:Array Value)(c:Array O->World->Prop)(w:World)(d':Array O)(wr:World):Prop where
 hd:c d' wr
 grown:w.grownBy wr (some blk)
 box:wr.heap[w.heap.size]?=some (.cells #[.func (.func lf) #[] lb,.func (.func f) #[] l] 215)
theorem dP.start(S:jK blk n lf lb f l c)(hd:c d w):
  dP blk lf lb f l c w d (w.alloc (.cells #[.func (.func lf) #[] lb,.func (.func f) #[] l] 215)):=
 ⟨S.kept _ _ _ hd (fC _ _),iV _ _ _,eZ _ _⟩
theorem dP.lt(h:dP blk lf lb f l c w d wr):w.heap.size<wr.heap.size:=(ax.1 h.box).1
theorem dP.c0(h:dP blk lf lb f l c w d wr):wr.cell? ⟨w.heap.size,0,none⟩=some (.func (.func lf) #[] lb):=by rw[fq h.box];rfl
theorem dP.c1(h:dP blk lf lb f l c w d wr):wr.cell? ⟨w.heap.size,1,none⟩=some (.func (.func f) #[] l):=by rw[fq h.box];rfl
theorem dP.below(S:jK blk n lf lb f l c)(h:dP blk lf lb f l c w d wr)(a:Below wr.heap.size wr o):dP blk lf lb f l c w d o:=
 ⟨S.kept _ _ _ h.hd a,h.grown.trans ⟨a.os,a.tape,a.output,a.size,λk b _=>a.block k b⟩,(a.block _ h.lt).trans h.box⟩
theorem dP.turn{d2:Array O}(h:dP blk lf lb f l c w d wr)(hb:blk<w.heap.size)(b:c d2 o)(a:wr.grownBy o (some blk)):dP blk lf lb f l c w d2 o:=
 ⟨b,h.grown.trans a,(a.block _ h.lt (by simp;omega)).trans h.box⟩
theorem TT(S:jK blk n lf lb f l c)(M:SWO dD)(d:Array O)(a m b:Nat)(w:World)(hd:c d w)(h1:m<=a+1)(h1':a<m)(h2:m<b)(h3:b<=n)(hn:n<=1000000)(Q:SortedIn dD m b d):
  Calls prog 209 #[.agg #[.func (.func lf) #[] lb,.func (.func f) #[] l],.int .i64 a,.int .i64 m,.int .i64 b] w λe F=>e=.returned (.tuple #[])/\∃P,c P F/\Merged dD a b d P/\w.grownBy F (some blk):=by
 have y:=S.lt d w hd;have s:=S.size d w hd;have HZ:=hid s;have Y:=hid M;have r9:=hid Q;have x:=hid S;have HD:=hid hd;have OZ:=S.enters
 have i1:(m:Int) -(a:Int)=1:=by omega
 have i3:(b:Int)<=1000000:=by omega
 have i4:(m:Int)<=1000000:=by omega
 have i5:(a:Int)<=1000000:=by omega
 clear S hd Q M s;go_enter func209,ntmps209;go_wp2
 go_loopg [8,9] (b -m) (λg v8 U wr=>∃(i j:Nat),m<=i/\i<=j/\j<=b/\j -i<=g/\v8=.int .i64 i/\U=.int .i64 j/\Hid ((i=m∨dD d[i -1]! d[a]! =true)/\(j=b∨dD d[j]! d[a]! =false))/\Hid (dP blk lf lb f l c w d wr))
 case atStart=>exact⟨m,b,aC _,by omega,aC _,aC _,rfl,rfl,⟨Or.inl rfl,Or.inl rfl⟩,dP.start x.out HD.out⟩
 case round=>
  obtain⟨i,j,N,hij,h,H,rfl,rfl,I,L⟩:=hrel;have q:=hid H;clear H
  by_cases hlt2:i<j
  .have R:(i:Int)<(j:Int):=by omega
   have k2:(j:Int)<=1000000:=by omega
   have B:=x.out.less d wr ((i+j)/2) a L.out.hd (by omega) (by omega);rw[show(((i+j)/2:Nat):Int)=((i:Int)+(j:Int))/2 by omega]at B;have c0:=L.out.c0;go_wp2_with fail;refine B.mono ?_;rintro e o ⟨rfl,v⟩;have K:Hid (dP blk lf lb f l c w d o):=L.out.below x.out v;clear B v c0 L
   by_cases hless:cO d[(i+j)/2]! d[a]! < 0
   .rw[eu hless];have A:Hid (((i+j)/2+1=m∨dD d[(i+j)/2+1 -1]! d[a]! =true)/\(j=b∨dD d[j]! d[a]! =false)):=⟨Or.inr (by rw[Nat.add_sub_cancel];simp[dD,hless]),I.out.2⟩;clear hless;go_wp2
    go_roundg (j -((i+j)/2+1))
    case measure=>have:=q.out;omega
    case rel=>exact⟨(i+j)/2+1,j,by omega,by omega,h,aC _,by first|rfl|(congr 1;omega)|go_num,rfl,A,K⟩
   .rw[dJ hless];have A:Hid ((i=m∨dD d[i -1]! d[a]! =true)/\((i+j)/2=b∨dD d[(i+j)/2]! d[a]! =false)):=⟨I.out.1,Or.inr (by simp[dD,hless])⟩;clear hless;go_wp2
    go_roundg ((i+j)/2 -i)
    case measure=>have:=q.out;omega
    case rel=>exact⟨i,(i+j)/2,N,by omega,by omega,aC _,rfl,by first|rfl|(congr 1;omega)|go_num,A,K⟩
  .obtain rfl:i=j:=by omega
   have R:¬((i:Int)<(i:Int)):=by omega
   have k2:(i:Int)<=1000000:=by omega
   have k3:(1:Int)<=(i:Int):=by omega
   have k4:(i:Int) -1=((i -1:Nat):Int):=by omega
   have T:Hid (Merged dD a b d (wD d a (i -1 -a))):=by
    have hz:=HZ.out
    obtain rfl:m=a+1:=by omega
    exact⟨LH _ _ _ _ _ (aC _) (by omega) (by omega),LK Y.out d a b i N h (by omega) r9.out I.out.1 I.out.2⟩
   go_wp2
   go_loopg [11] (i -1 -a) (λg C wr=>∃(k:Nat),k<=i -1 -a/\g=i -1 -a -k/\C=.int .i64 ((a+k:Nat):Int)/\Hid (dP blk lf lb f l c w (wD d a k) wr))
   case atStart=>exact⟨0,aW _,rfl,rfl,L⟩
   case round=>
    obtain⟨k,hk,r,rfl,u⟩:=hrel;have z:=hid r;clear r
    have E:((a+k:Nat):Int)+1=((a+k+1:Nat):Int):=by omega
    have q3:((a+k:Nat):Int)<=1000000:=by omega
    have q4:(0:Int)<=((a+k:Nat):Int):=by omega
    by_cases hk2:k<i -1 -a
    .obtain⟨Z,t,G,p⟩:=x.out.swap _ wr (a+k) (a+k+1) u.out.hd (by omega) (by omega);have V:Hid (dP blk lf lb f l c w (wD d a (k+1)) Z):=u.out.turn y G p;have c1:=u.out.c1
     have W:((a+k:Nat):Int)<((i -1:Nat):Int):=by omega
     rw[<-E]at t;clear G p E;generalize hX:((a+k:Nat):Int)=X at *;go_wp2
     go_roundg (i -1 -a -(k+1))
     case measure=>have:=z.out;omega
     case rel=>exact⟨k+1,by omega,rfl,by first|rfl|(congr 1;omega)|go_num,V⟩
    .have e1:Hid (k=i -1 -a):=by show k=i -1 -a;omega
     have W:¬(((a+k:Nat):Int)<((i -1:Nat):Int)):=by omega
     clear E;generalize hX:((a+k:Nat):Int)=X at *;go_wp2
     (try simp only[Exit.inBlock,Exit.then]);refine ja (results_none rfl _ _ _) rfl ?_
     exact⟨rfl,_,u.out.hd,by rw[e1.out];exact T.out,u.out.grown⟩
theorem Q7(S:jK blk n lf lb f l c)(K:SWO dD)(d:Array O)(a m b:Nat)(w:World)(hd:c d w)(h0:a+1<m)(h1:b<=m+1)(h1':m<b)(h3:b<=n)(hn:n<=1000000)(P:SortedIn dD a m d):
  Calls prog 209 #[.agg #[.func (.func lf) #[] lb,.func (.func f) #[] l],.int .i64 a,.int .i64 m,.int .i64 b] w λe E=>e=.returned (.tuple #[])/\∃N,c N E/\Merged dD a b d N/\w.grownBy E (some blk):=by
 have y:=S.lt d w hd;have s:=S.size d w hd;have HZ:=hid s;have Y:=hid K;have r9:=hid P;have x:=hid S;have HD:=hid hd;have OZ:=S.enters
 have i1:((m:Int) -(a:Int)==1)=false:=by rw[beq_eq_false_iff_ne];omega
 have i1':(m:Int) -(a:Int)≠1:=by omega
 have i2:(b:Int) -(m:Int)=1:=by omega
 have i3:(b:Int)<=1000000:=by omega
 have i4:(m:Int)<=1000000:=by omega
 have i5:(a:Int)<=1000000:=by omega
 clear S hd P K s;go_enter func209,ntmps209;go_wp2
 go_loopg [12,13] (m -a) (λg v8 T wr=>∃(i j:Nat),a<=i/\i<=j/\j<=m/\j -i<=g/\v8=.int .i64 i/\T=.int .i64 j/\Hid ((i=a∨dD d[m]! d[i -1]! =false)/\(j=m∨dD d[m]! d[j]! =true))/\Hid (dP blk lf lb f l c w d wr))
 case atStart=>exact⟨a,m,aC _,by omega,aC _,aC _,rfl,rfl,⟨Or.inl rfl,Or.inl rfl⟩,dP.start x.out HD.out⟩
 case round=>
  obtain⟨i,j,M,hij,h,G,rfl,rfl,I,L⟩:=hrel;have q:=hid G;clear G
  by_cases hlt2:i<j
  .have R:(i:Int)<(j:Int):=by omega
   have k2:(j:Int)<=1000000:=by omega
   have C:=x.out.less d wr m ((i+j)/2) L.out.hd (by omega) (by omega);rw[show(((i+j)/2:Nat):Int)=((i:Int)+(j:Int))/2 by omega]at C;have c0:=L.out.c0;go_wp2_with fail;refine C.mono ?_;rintro e o ⟨rfl,v⟩;have H:Hid (dP blk lf lb f l c w d o):=L.out.below x.out v;clear C v c0 L
   by_cases hless:cO d[m]! d[(i+j)/2]! < 0
   .rw[eu hless];have B:Hid ((i=a∨dD d[m]! d[i -1]! =false)/\((i+j)/2=m∨dD d[m]! d[(i+j)/2]! =true)):=⟨I.out.1,Or.inr (by simp[dD,hless])⟩;clear hless;go_wp2
    go_roundg ((i+j)/2 -i)
    case measure=>have:=q.out;omega
    case rel=>exact⟨i,(i+j)/2,M,by omega,by omega,aC _,rfl,by first|rfl|(congr 1;omega)|go_num,B,H⟩
   .rw[dJ hless];have B:Hid (((i+j)/2+1=a∨dD d[m]! d[(i+j)/2+1 -1]! =false)/\(j=m∨dD d[m]! d[j]! =true)):=⟨Or.inr (by rw[Nat.add_sub_cancel];simp[dD,hless]),I.out.2⟩;clear hless;go_wp2
    go_roundg (j -((i+j)/2+1))
    case measure=>have:=q.out;omega
    case rel=>exact⟨(i+j)/2+1,j,by omega,by omega,h,aC _,by first|rfl|(congr 1;omega)|go_num,rfl,B,H⟩
  .obtain rfl:i=j:=by omega
   have R:¬((i:Int)<(i:Int)):=by omega
   have k2:(i:Int)<=1000000:=by omega
   have U:Hid (Merged dD a b d (wE d m (m -i))):=by
    have hz:=HZ.out
    obtain rfl:b=m+1:=by omega
    exact⟨LJ _ _ _ _ _ (by omega) (by omega) (by omega),LM Y.out d a m i M h (by omega) r9.out I.out.1 I.out.2⟩
   go_wp2
   go_loopg [15] (m -i) (λg z wr=>∃(k:Nat),k<=m -i/\g=m -i -k/\z=.int .i64 ((m -k:Nat):Int)/\Hid (dP blk lf lb f l c w (wE d m k) wr))
   case atStart=>exact⟨0,aW _,rfl,rfl,L⟩
   case round=>
    obtain⟨k,hk,r,rfl,u⟩:=hrel;have A:=hid r;clear r
    have q3:((m -k:Nat):Int)<=1000000:=by omega
    have q4:(0:Int)<=((m -k:Nat):Int):=by omega
    by_cases hk2:k<m -i
    .obtain⟨Z,t,F,p⟩:=x.out.swap _ wr (m -k) (m -k -1) u.out.hd (by omega) (by omega)
     have Q:((m -k:Nat):Int) -1=((m -k -1:Nat):Int):=by omega
     have V:Hid (dP blk lf lb f l c w (wE d m (k+1)) Z):=u.out.turn y F p;have c1:=u.out.c1
     have W:(i:Int)<((m -k:Nat):Int):=by omega
     rw[<-Q]at t;clear F p Q;generalize hX:((m -k:Nat):Int)=X at *;go_wp2
     go_roundg (m -i -(k+1))
     case measure=>have:=A.out;omega
     case rel=>exact⟨k+1,by omega,rfl,by first|rfl|(congr 1;omega)|go_num,V⟩
    .have e1:Hid (k=m -i):=by show k=m -i;omega
     have W:¬((i:Int)<((m -k:Nat):Int)):=by omega
     generalize hX:((m -k:Nat):Int)=X at *;go_wp2
     (try simp only[Exit.inBlock,Exit.then]);refine ja (results_none rfl _ _ _) rfl ?_
     exact⟨rfl,_,u.out.hd,by rw[e1.out];exact U.out,u.out.grown⟩
end
end Go.Proofs.YthfpipieboophaaGreatDoor
