import Derived.Shelf.Spec.SlicesInsert
import Derived.Lib.AppendZerosOnto
import Derived.Deep.DeepAppendWide
import Derived.Test.YthfpipieboophaaGreatDoorZSida
namespace Go.Proofs.YthfpipieboophaaGreatDoor
set_option maxRecDepth 100000
set_option maxHeartbeats 40000000
open Go.Joins Go.Shelf Go.RowKit
section
open Go.Proofs.Tryz
variable{W:World}{base g n cap size:Nat}{e:TypeId}{c:List Value}
theorem nk{P:Program}(w:World)(dT x ty elem:TypeId)(k:Nat)(b o f p:Nat)(a:Addr)(d m:Nat)(cs:List Value)
  (u:P.underlying dT=some (.slice elem)) (q:(P.info? elem).map (·.size)=some k) (y:cs.length=Nat.min d f*k)
  (l:∀j v,cs[j]?=some v->w.cell? (a.add j)=some v) (z:∀j,j<cs.length->(w.cell? ⟨b,o+j,none⟩).isSome=true) (t:∀j,j<cs.length->w.frozen? ⟨b,o+j,none⟩=false) (s:∀v∈cs,v.oneCell'=true):
  (Builtin.copy_ #[dT,x] ty #[.slice (some ⟨b,o,none⟩) f p,.slice (some a) d m]).run P w=.ok (goInt (Nat.min d f)) (w.setCells b o cs):=by
 have r:=run_loadCells_list (P:=P) w a cs l;have h:=run_storeCells_cells (P:=P) b o cs 0 w (by simpa using z) (by simpa using t) s
 cases hq:P.info? elem with
 |none=>simp[hq]at q
 |some i=>
  have hi:i.size=k:=by simpa[hq]using q
  rw[y]at r;simp only[Nat.add_zero]at h;simp[Builtin.copy_,run_underlying u,Builtin.lenOf,Builtin.firstCells,sizeOf,typeInfo,hq,hi,r,h]
theorem xq:(prog.info? 130).map (·.size)=some 4:=by kernel_rfl
theorem xu(vs:List Value):∀(c:List Value) (o:Nat),o+vs.length<=c.length->ni c o vs=c.take o++vs++c.drop (o+vs.length):=by
 induction vs with
 |nil=>intro c o h;simp[ni]
 |cons v r ih=>
  intro c o h
  have d:o+1+r.length<=(c.set o v).length:=by simp at h⊢;omega
  rw[ni,ih (c.set o v) (o+1) d]
  have a:(c.set o v).take (o+1)=c.take o++[v]:=by
   rw[List.take_add_one,List.take_set_of_le (aO _),List.getElem?_set_self (by simp at h;omega)];rfl
  have b:(c.set o v).drop (o+1+r.length)=c.drop (o+(v::r).length):=by
   rw[List.drop_set_of_lt (by omega)];congr 1;simp;omega
  rw[a,b];simp
def bT(R:List D)(i:Nat)(x:D):List D:=R.take i++x::R.drop i
theorem xK(R:List D)(i:Nat)(x:D):(bT R i x).length=R.length+1:=by simp[bT];omega
theorem za(M:List D)(i:Nat):(M.drop i).flatMap ak=(M.flatMap ak).drop (i*4):=by
 induction M generalizing i with
 |nil=>simp
 |cons a r ih=>
  cases i with
  |zero=>simp
  |succ i=>
   rw[List.drop_succ_cons,List.flatMap_cons,ih,List.drop_append,bS,tT (show(ak a).length<=(i+1)*4 by rw[bS];omega),List.nil_append,show(i+1)*4 -4=i*4 by omega]
theorem MO(R:List D)(i:Nat)(x:D)(hi:i<=R.length)(c:List Value)(b:c.length=(R.length+1)*4)(f:c.take (R.length*4)=R.flatMap ak):
  ni (ni c ((i+1)*4) ((R.drop i).flatMap ak)) (i*4) (ak x)=(bT R i x).flatMap ak:=by
 have hd:((R.drop i).flatMap ak).length=(R.length -i)*4:=by rw[gG,List.length_drop]
 have d:ni c ((i+1)*4) ((R.drop i).flatMap ak)=c.take ((i+1)*4)++(R.drop i).flatMap ak:=by
  rw[xu _ _ _ (by rw[hd,b];omega),hd,tT (show c.length<=(i+1)*4+(R.length -i)*4 by rw[b];omega),List.append_nil]
 have a:(c.take ((i+1)*4)).length=(i+1)*4:=by rw[List.length_take,b];omega
 rw[d,xu _ _ _ (by rw[bS,List.length_append,a];omega),bS]
 have h:(c.take ((i+1)*4)++(R.drop i).flatMap ak).take (i*4)=(R.take i).flatMap ak:=by
  rw[List.take_append_of_le_length (by rw[a];omega),List.take_take,Nat.min_eq_left (by omega),qU,<-f,List.take_take,Nat.min_eq_left (by omega)]
 have j:(c.take ((i+1)*4)++(R.drop i).flatMap ak).drop (i*4+4)=(R.drop i).flatMap ak:=by
  rw[show i*4+4=(i+1)*4 by omega,List.drop_append_of_le_length (by rw[a];omega),tT (by rw[a];omega),List.nil_append]
 rw[h,j];simp[bT]
theorem Jf(h:W.ownsRow base e size (.slice (some ⟨g,0,none⟩) n cap) n c)(m:Nat)(d:m<=cap)(b:n<=m):
  ∃ys,W.ownsRow base e size (.slice (some ⟨g,0,none⟩) m cap) m ys/\ys.take (n*size)=c:=by
 rcases h.2 with⟨a,_⟩|⟨g',cap',cur,a,k,o,h2,j,f,i⟩
 .cases a
 .cases a;have hx:m*size<=cap*size:=Nat.mul_le_mul_right _ d;have l:n*size<=m*size:=Nat.mul_le_mul_right _ b;exact⟨cur.toList.take (m*size),⟨by rw[List.length_take,Array.length_toList,f];omega,.inr ⟨g,cap,cur,rfl,k,o,d,j,f,rfl⟩⟩,by rw[List.take_take,Nat.min_eq_left l,i]⟩
theorem uT(h:W.ownsRow base e size (.slice (some ⟨g,0,none⟩) n cap) n c):∃cur,W.heap[g]?=some (.cells cur e (0,0))/\cur.size=cap*size:=by
 rcases h.2 with⟨a,_⟩|⟨g',cap',cur,a,hb,b,h2,h3,d,h5⟩
 .cases a
 .cases a;exact⟨cur,b,d⟩
theorem Jg(base bv:Nat)(vs:Value)(R:List D)(x:D)(w:World)(h:w.ownsRow base 130 4 vs R.length (R.flatMap ak))(hR:R.length<=100000)(B:base<=w.heap.size)
  (p:w.heap[bv]?=some (.cells #[.int .i64 x.k,.int .i64 x.t,.int .i64 x.v,.int .i64 x.n] 130)):
  Calls prog 173 #[vs,.int .i64 R.length,.slice (some ⟨bv,0,none⟩) 1 1] w λe z=>∃v',e=.returned v'/\z.ownsRow base 130 4 v' (R.length+1) ((bT R R.length x).flatMap ak)/\w.grownBy z vs.ownBlock/\(v'.ownBlock=vs.ownBlock∨v'.ownBlock=some w.heap.size):=by
 obtain⟨s,hi,f,i,l⟩:=Dw xm;have r:=hid h;have y:Hid (∀j u,(ak x)[j]?=some u->w.cell? ((⟨bv,0,none⟩:Addr).add j)=some u):=World.news_of_block p
 have i1:(R.length:Int)<=100000:=by omega
 have i2:(0:Int)<=(R.length:Int):=by omega
 rcases ownsRow_forms h with⟨rfl,E⟩|⟨gs,m,rfl⟩
 .obtain rfl:R=[]:=nD E;clear h;go_enter func173,ntmps173
  go_wp2_with (first
   |(refine wpList_append_lies _ rfl _ _ _ rfl base 130 s zD 4 32 underlying67 hi f i l rfl (by omega) (.slice none 0 0) 0 [] rfl r.out ⟨bv,0,none⟩ 1 1 (ak x) rfl rfl y.out (mo x) (by omega) (by unfold maxLen;omega) (by omega) B _ rfl ?_;intro G H C b a o d)
   |fail)
  go_ret;exact⟨_,rfl,by simpa[bT]using b,a,o.elim (λe=>Or.inl e.symm) (λe=>Or.inr (by rw[e];rfl))⟩
 .have hck:R.length<=m:=by
   rcases h.2 with⟨q,_⟩|⟨g',cap',cur,q,_,_,F,_⟩
   .cases q
   .cases q;exact F
  obtain⟨A,hA⟩:∃A:Addr,(if m=R.length then some (⟨gs,0,none⟩:Addr)else some ⟨gs,R.length*4,none⟩)=some A:=by
   by_cases e:m=R.length
   .exact⟨⟨gs,0,none⟩,by simp[e]⟩
   .exact⟨⟨gs,R.length*4,none⟩,by simp[e]⟩
  clear h;go_enter func173,ntmps173
  go_wp2_with (first
   |(refine wpList_append_lies _ rfl _ _ _ rfl base 130 s zD 4 32 underlying67 hi f i l rfl (by omega) (.slice (some ⟨gs,0,none⟩) R.length m) R.length (R.flatMap ak) rfl r.out ⟨bv,0,none⟩ 1 1 (ak x) rfl rfl y.out (mo x) (by omega) (by unfold maxLen;omega) (by omega) B _ rfl ?_;intro G H C b a o d)
   |fail)
  go_ret;exact⟨_,rfl,by simpa[bT,List.flatMap_append]using b,a,o.elim (λe=>Or.inl e.symm) (λe=>Or.inr (by rw[e];rfl))⟩
end
section
open Go.Proofs.Tryz
theorem sizeOf100(w:World):(Go.sizeOf 130).run prog w=.ok 4 w:=by kernel_rfl
theorem FY(base bv gs a i:Nat)(R:List D)(x:D)(w:World)(h:w.ownsRow base 130 4 (.slice (some ⟨gs,0,none⟩) R.length a) R.length (R.flatMap ak))(hR:R.length<=100000)(hi:i<R.length)(q:R.length+1<=a)
  (c:w.heap[bv]?=some (.cells #[.int .i64 x.k,.int .i64 x.t,.int .i64 x.v,.int .i64 x.n] 130)) (C:bv≠gs):
  Calls prog 173 #[.slice (some ⟨gs,0,none⟩) R.length a,.int .i64 i,.slice (some ⟨bv,0,none⟩) 1 1] w λe P=>e=.returned (.slice (some ⟨gs,0,none⟩) (R.length+1) a)/\P.ownsRow base 130 4 (.slice (some ⟨gs,0,none⟩) (R.length+1) a) (R.length+1) ((bT R i x).flatMap ak)/\w.grownBy P (some gs):=by
 obtain⟨cur,G,K⟩:=uT h
 have I:a<=maxLen:=by
  rcases h.2 with⟨F,_⟩|⟨g',cap',cur',F,_,_,_,T,_⟩
  .cases F
  .cases F;exact T
 have Vt:(a:Int)<=9223372036854775807:=by unfold maxLen at I;omega
 obtain⟨ys,m,Q⟩:=Jf h (R.length+1) q (by omega)
 have l:∀j u,(R.flatMap ak)[j]?=some u->w.cell? ⟨gs,j,none⟩=some u:=λj u S=>by
  have:=h.cells (g:=gs) rfl j u S
  rwa [bZ]at this
 have s:∀j,j<(R.length+1)*4->(w.cell? ⟨gs,j,none⟩).isSome=true/\w.frozen? ⟨gs,j,none⟩=false:=λj b=>by
  have H:j<ys.length:=by rw[m.1];exact b
  have A:=m.cells (g:=gs) rfl j _ (dK H);rw[bZ]at A;exact⟨by rw[A];rfl,x9 G j⟩
 have E:∀lb cb,(callFunc 245 #[.slice (some ⟨bv,0,none⟩) 1 1,.slice (some ⟨gs,(i+1)*4,none⟩) lb cb]).run prog w=.ok (.value (.bool false)) w:=λlb cb=>by
  rw[run_callFunc_extern func245 (by kernel_rfl) (by kernel_rfl) (by kernel_rfl) (e:=Extern.SlicesOverlaps.overlaps #[67,67] #[4]) (by kernel_rfl),
   Lib.run_overlaps_apart w 67 4 130 underlying67 4 sizeOf100 ⟨bv,0,none⟩ ⟨gs,(i+1)*4,none⟩ 1 1 lb cb C 130 130 4 (a*4) (by simp[World.shape?,c]) (by simp[World.shape?,G,K]) (by omega) (x9 c 0) (x9 c 4)]
  rfl
 have y:((R.drop i).flatMap ak).length=(R.length -i)*4:=by rw[gG,List.length_drop]
 have o:∀ty r sc,(Builtin.copy_ #[67,67] ty #[.slice (some ⟨gs,(i+1)*4,none⟩) (R.length -i) r,.slice (some ⟨gs,i*4,none⟩) (R.length+1 -i) sc]).run prog w.drew=.ok (goInt (Nat.min (R.length+1 -i) (R.length -i))) (w.drew.setCells gs ((i+1)*4) ((R.drop i).flatMap ak)):=λty r sc=>
  nk w.drew _ _ ty 130 4 gs ((i+1)*4) (R.length -i) r ⟨gs,i*4,none⟩ (R.length+1 -i) sc ((R.drop i).flatMap ak) underlying67 xq (by rw[y];simp only[Nat.min_def];split <;>omega)
   (λj v b=>by rw[Addr.add_lit];exact l (i*4+j) v (by rwa [za,List.getElem?_drop]at b))
   (λj b=>(s _ (by rw[y]at b;omega)).1) (λj b=>(s _ (by rw[y]at b;omega)).2) (uQ _)
 obtain⟨d,hW1⟩:∃d,d=w.drew.setCells gs ((i+1)*4) ((R.drop i).flatMap ak):=⟨_,rfl⟩
 have B:d.ownsRow base 130 4 (.slice (some ⟨gs,0,none⟩) (R.length+1) a) (R.length+1) (ni ys ((i+1)*4) ((R.drop i).flatMap ak)):=by rw[hW1];exact gH _ _ m.drew
 have p:w.grownBy d (some gs):=by rw[hW1];exact kV _ _ ⟨rfl,rfl,rfl,aO _,λ_ _ _=>rfl⟩
 have f:∀j,j<(R.length+1)*4->(d.cell? ⟨gs,j,none⟩).isSome=true/\d.frozen? ⟨gs,j,none⟩=false:=λj b=>by
  obtain⟨c1,L,_⟩:=uT B
  have H:j<(ni ys ((i+1)*4) ((R.drop i).flatMap ak)).length:=by rw[B.1];exact b
  have A:=B.cells (g:=gs) rfl j _ (dK H);rw[bZ]at A;exact⟨by rw[A];rfl,x9 L j⟩
 have N:d.heap[bv]?=some (.cells #[.int .i64 x.k,.int .i64 x.t,.int .i64 x.v,.int .i64 x.n] 130):=(p.block bv (aD.1 c).1 (λe=>C (by cases e;rfl))).trans c
 have z:∀ty r,(Builtin.copy_ #[67,67] ty #[.slice (some ⟨gs,i*4,none⟩) (R.length+1 -i) r,.slice (some ⟨bv,0,none⟩) 1 1]).run prog d=.ok (goInt (Nat.min 1 (R.length+1 -i))) (d.setCells gs (i*4) (ak x)):=λty r=>
  nk d _ _ ty 130 4 gs (i*4) (R.length+1 -i) r ⟨bv,0,none⟩ 1 1 (ak x) underlying67 xq (by rw[bS];simp only[Nat.min_def];split <;>omega)
   (World.news_of_block N) (λj b=>(f _ (by rw[bS]at b;omega)).1) (λj b=>(f _ (by rw[bS]at b;omega)).2) (mo x)
 have M:Hid ((d.setCells gs (i*4) (ak x)).ownsRow base 130 4 (.slice (some ⟨gs,0,none⟩) (R.length+1) a) (R.length+1) ((bT R i x).flatMap ak)/\w.grownBy (d.setCells gs (i*4) (ak x)) (some gs)):=by
  refine⟨?_,kV _ _ p⟩;have:=gH (ak x) (i*4) B;rw[MO R i x (by omega) ys m.1 Q]at this;exact this
 rw[<-hW1]at o
 have i1:(0:Int)<=(i:Int):=by omega
 have i2:(i:Int)<=(R.length:Int):=by omega
 have i3:(R.length:Int)<=100000:=by omega
 have i4:((i:Int)==(R.length:Int))=false:=by rw[beq_eq_false_iff_ne];omega
 have i4':¬((i:Int)=(R.length:Int)):=by omega
 have i5:¬((a:Int)<(R.length:Int)+1):=by omega
 have i6:(R.length:Int)+1<=(a:Int):=by omega
 have hw1:IntKind.i64.wrap ((i:Int)+1)=(i:Int)+1:=by rw[IntKind.wrap_i64];omega
 have htn:((i:Int)+1).toNat=i+1:=by omega
 have htl:((R.length:Int)+1).toNat=R.length+1:=by omega
 have hb1:(0:Int)<=(i:Int)+1:=by omega
 have hb2:(i:Int)+1<=(R.length:Int)+1:=by omega
 have hb3:(i:Int)<=(R.length:Int)+1:=by omega
 have c1:¬(a=i+1):=by omega
 have c2:¬(a=i):=by omega
 have c3:i<=R.length:=by omega
 clear s f l B p N m Q G hW1 h c;go_enter func173,ntmps173
 go_wp2_with (simp only[E])
 go_region_law (refine step_copy_runI rfl _ _ 67 67 rfl _ _ (by simp[Act.eval,Act.put]) (by simp[Act.eval,Act.put]) (o _ _ _) ?_)
 all_goals go_wp2_with (first|(refine wpList_copy_runI _ rfl _ _ 67 67 rfl _ _ rfl rfl (z _ _) ?_)|fail)
 all_goals go_ret
 all_goals exact⟨rfl,M.out.1,M.out.2⟩
end
section
open Go.Proofs.Tryz Go.Lib
theorem Jh(R:List D)(i:Nat)(x:D)(hi:i<=R.length)(zs:List Value)(c:zs.length=(R.length+1 -i)*4):
  ni (ni ((R.take i).flatMap ak++zs) (i*4) (ak x)) ((i+1)*4) ((R.drop i).flatMap ak)=(bT R i x).flatMap ak:=by
 have hd:((R.drop i).flatMap ak).length=(R.length -i)*4:=by rw[gG,List.length_drop]
 have a:((R.take i).flatMap ak).length=i*4:=by rw[gG,List.length_take,Nat.min_eq_left hi]
 have d:ni ((R.take i).flatMap ak++zs) (i*4) (ak x)=(R.take i).flatMap ak++ak x++zs.drop 4:=by
  rw[xu _ _ _ (by rw[bS,List.length_append,a,c];omega),bS,List.take_append_of_le_length (by rw[a];exact aO _),nG (by rw[a];exact aO _),List.drop_append,a,tT (show((R.take i).flatMap ak).length<=i*4+4 by rw[a];omega),List.nil_append,show i*4+4 -i*4=4 by omega]
 have b:((R.take i).flatMap ak++ak x).length=(i+1)*4:=by rw[List.length_append,a,bS];omega
 rw[d,xu _ _ _ (by rw[hd,List.length_append,b,List.length_drop,c];omega),List.take_append_of_le_length (by rw[b];exact aO _),nG (by rw[b];exact aO _),tT (show((R.take i).flatMap ak++ak x++zs.drop 4).length<=(i+1)*4+((R.drop i).flatMap ak).length by rw[List.length_append,b,List.length_drop,c,hd];omega),List.append_nil];simp[bT,List.append_assoc]
theorem FZ(base bv gs d i:Nat)(R:List D)(x:D)(w:World)(h:w.ownsRow base 130 4 (.slice (some ⟨gs,0,none⟩) R.length d) R.length (R.flatMap ak))(hR:R.length<=100000)(hi:i<R.length)(y:d<R.length+1)(C:base<=w.heap.size)
  (A:w.heap[bv]?=some (.cells #[.int .i64 x.k,.int .i64 x.t,.int .i64 x.v,.int .i64 x.n] 130)):
  Calls prog 173 #[.slice (some ⟨gs,0,none⟩) R.length d,.int .i64 i,.slice (some ⟨bv,0,none⟩) 1 1] w λe w'=>∃G,e=.returned (.slice (some ⟨w.heap.size,0,none⟩) (R.length+1) G)/\w'.ownsRow base 130 4 (.slice (some ⟨w.heap.size,0,none⟩) (R.length+1) G) (R.length+1) ((bT R i x).flatMap ak)/\w.grownBy w' none:=by
 obtain⟨i0,T,U,K,L⟩:=Dw xm
 have hck:R.length<=d:=by
  rcases h.2 with⟨h1,_⟩|⟨g',cap',cur',h1,_,_,h2,_⟩
  .cases h1
  .cases h1;exact h2
 have N:gs<w.heap.size:=(h.lt gs rfl).2
 have c:∀j u,(R.flatMap ak)[j]?=some u->w.cell? ⟨gs,j,none⟩=some u:=λj u hu=>by
  have:=h.cells (g:=gs) rfl j u hu
  rwa [bZ]at this
 have F:(R.length:Int)+1 -(i:Int)=((R.length+1 -i:Nat):Int):=by omega
 have B:i+(R.length+1 -i)=R.length+1:=by omega
 have q:(Builtin.firstCells i0.size i (.slice (some ⟨gs,0,none⟩) i d)).run prog w.drew=.ok ((R.take i).flatMap ak).toArray w.drew:=by
  rw[K]
  exact run_firstCells_some w.drew 4 i ⟨gs,0,none⟩ i d ((R.take i).flatMap ak) (by rw[gG,List.length_take];congr 1;omega) (λj v b=>by
   rw[bZ];rw[qU]at b;have V:=(kH.1 b).1;rw[List.length_take]at V;rw[rM (by omega)]at b
   exact c j v b)
 obtain⟨G,hG⟩:∃G,G=grownCap w (R.length+1) d 130:=⟨_,rfl⟩;obtain⟨f,hW1⟩:∃f,f=w.drew.alloc (.cells (((R.take i).flatMap ak).toArray++Builtin.zeroCells zD.cells (R.length+1 -i)++Builtin.zeroCells zD.cells (G -(R.length+1))) 130):=⟨_,rfl⟩
 have S:∀ty,(Builtin.append_ #[67,3] ty #[.slice (some ⟨gs,0,none⟩) i d,.int .i64 ((R.length:Int)+1 -(i:Int))]).run prog w=.ok (.slice (some ⟨w.heap.size,0,none⟩) (R.length+1) G) f:=λty=>by
  have h:=Lib.run_append_grow_zeros w 67 3 ty 130 i0 zD .i64 .i64 underlying67 underlying3 T U (some ⟨gs,0,none⟩) i d ((R.take i).flatMap ak) q (R.length+1 -i) (by omega) (by rw[K];omega) (by omega) (by omega) (by rw[L];omega) (by rw[L,B];exact growslice_fits_wide y (by omega));rw[B]at h;rw[F,hW1,hG];exact h
 have hGn:R.length+1<=G:=by rw[hG];exact grownCap_ge w _ _ _
 have I:G<=maxLen:=by rw[hG];exact grownCap_le_maxLen w (R.length+1) d 130 (by unfold maxLen;omega)
 have m:=C8 (R.length+1 -i)
 have Q:f.ownsRow base 130 4 (.slice (some ⟨w.heap.size,0,none⟩) (R.length+1) G) (R.length+1) ((R.take i).flatMap ak++(Builtin.zeroCells zD.cells (R.length+1 -i)).toList):=by
  have X:((R.take i).flatMap ak).length=i*4:=by rw[gG,List.length_take,Nat.min_eq_left (by omega)]
  refine⟨by rw[List.length_append,X,m];omega,.inr ⟨w.heap.size,G,_,rfl,C,by rw[hW1];exact vw w.drew _,hGn,I,?_,?_⟩⟩
  .have z1:(Builtin.zeroCells zD.cells (R.length+1 -i)).size=(R.length+1 -i)*4:=by rw[<-Array.length_toList];exact m
   have z2:(Builtin.zeroCells zD.cells (G -(R.length+1))).size=(G -(R.length+1))*4:=by rw[<-Array.length_toList];exact C8 _
   rw[Array.size_append,Array.size_append,List.size_toArray,X,z1,z2];omega
  .have hA:((R.take i).flatMap ak++(Builtin.zeroCells zD.cells (R.length+1 -i)).toList).length=(R.length+1)*4:=by rw[List.length_append,X,m];omega
   rw[Array.toList_append,Array.toList_append,List.toList_toArray,List.take_append_of_le_length (by rw[hA];exact aO _),nG (by rw[hA];exact aO _)]
 have a:w.grownBy f none:=by rw[hW1];exact⟨rfl,rfl,rfl,by simp,λk P _=>zk _ _ _ P⟩
 have there:∀{W:World} {xs:List Value},W.ownsRow base 130 4 (.slice (some ⟨w.heap.size,0,none⟩) (R.length+1) G) (R.length+1) xs->∀j,j<(R.length+1)*4->(W.cell? ⟨w.heap.size,j,none⟩).isSome=true/\W.frozen? ⟨w.heap.size,j,none⟩=false:=λ{W xs} Y j b=>by
  obtain⟨c1,Z,_⟩:=uT Y
  have hl:j<xs.length:=by rw[Y.1];exact b
  have hc:=Y.cells (g:=w.heap.size) rfl j _ (dK hl);rw[bZ]at hc;exact⟨by rw[hc];rfl,x9 Z j⟩
 have hbw:bv<w.heap.size:=(aD.1 A).1;have QY:f.heap[bv]?=some (.cells #[.int .i64 x.k,.int .i64 x.t,.int .i64 x.v,.int .i64 x.n] 130):=(a.block bv hbw (by simp)).trans A;obtain⟨o,hW2⟩:∃o,o=f.setCells w.heap.size (i*4) (ak x):=⟨_,rfl⟩
 have H:∀ty z,(Builtin.copy_ #[67,67] ty #[.slice (some ⟨w.heap.size,i*4,none⟩) (R.length+1 -i) z,.slice (some ⟨bv,0,none⟩) 1 1]).run prog f=.ok (goInt (Nat.min 1 (R.length+1 -i))) o:=λty z=>by
  rw[hW2]
  exact nk f _ _ ty 130 4 w.heap.size (i*4) (R.length+1 -i) z ⟨bv,0,none⟩ 1 1 (ak x) underlying67 xq (by rw[bS];simp only[Nat.min_def];split <;>omega)
   (World.news_of_block QY) (λj b=>(there Q _ (by rw[bS]at b;omega)).1) (λj b=>(there Q _ (by rw[bS]at b;omega)).2) (mo x)
 have p:o.ownsRow base 130 4 (.slice (some ⟨w.heap.size,0,none⟩) (R.length+1) G) (R.length+1) (ni ((R.take i).flatMap ak++(Builtin.zeroCells zD.cells (R.length+1 -i)).toList) (i*4) (ak x)):=by rw[hW2];exact gH _ _ Q
 have s:f.grownBy o (some w.heap.size):=by rw[hW2];exact kV _ _ ⟨rfl,rfl,rfl,aO _,λ_ _ _=>rfl⟩
 have r:((R.drop i).flatMap ak).length=(R.length -i)*4:=by rw[gG,List.length_drop]
 have QX:o.heap[gs]?=w.heap[gs]? :=(s.block gs (fO N a.size) (by simp;omega)).trans (a.block gs N (by simp));obtain⟨E,hW3⟩:∃E,E=o.drew.setCells w.heap.size ((i+1)*4) ((R.drop i).flatMap ak):=⟨_,rfl⟩
 have M:∀ty z sc,(Builtin.copy_ #[67,67] ty #[.slice (some ⟨w.heap.size,(i+1)*4,none⟩) (R.length -i) z,.slice (some ⟨gs,i*4,none⟩) (R.length -i) sc]).run prog o.drew=.ok (goInt (Nat.min (R.length -i) (R.length -i))) E:=λty z sc=>by
  rw[hW3]
  exact nk o.drew _ _ ty 130 4 w.heap.size ((i+1)*4) (R.length -i) z ⟨gs,i*4,none⟩ (R.length -i) sc ((R.drop i).flatMap ak) underlying67 xq (by rw[r];simp only[Nat.min_def];split <;>omega)
   (λj v b=>by
    rw[Addr.add_lit];have:=c (i*4+j) v (by rwa [za,List.getElem?_drop]at b);rw[<-this]
    exact World.cell?_of_block QX)
   (λj b=>(there p _ (by rw[r]at b;omega)).1) (λj b=>(there p _ (by rw[r]at b;omega)).2) (uQ _)
 have HE:Hid (E.ownsRow base 130 4 (.slice (some ⟨w.heap.size,0,none⟩) (R.length+1) G) (R.length+1) ((bT R i x).flatMap ak)/\w.grownBy E none):=by
  have h3:=gH ((R.drop i).flatMap ak) ((i+1)*4) p.drew;rw[Jh R i x (by omega) _ m]at h3
  have l:f.grownBy E (some w.heap.size):=by rw[hW3];exact kV _ _ (s.trans ⟨rfl,rfl,rfl,aO _,λ_ _ _=>rfl⟩)
  refine⟨by rw[hW3];exact h3,⟨l.os.trans a.os,l.tape.trans a.tape,l.output.trans a.output,di a.size l.size,λk P hn=>(l.block k (fO P a.size) (by simp;omega)).trans (a.block k P hn)⟩⟩
 have hG63:(G:Int)<=9223372036854775807:=by unfold maxLen at I;omega
 have i1:(0:Int)<=(i:Int):=by omega
 have i2:(i:Int)<=(R.length:Int):=by omega
 have i3:(R.length:Int)<=100000:=by omega
 have i4:((i:Int)==(R.length:Int))=false:=by rw[beq_eq_false_iff_ne];omega
 have i4':¬((i:Int)=(R.length:Int)):=by omega
 have i5:(d:Int)<(R.length:Int)+1:=by omega
 have i6:(i:Int)<=(R.length:Int)+1:=by omega
 have hw1:IntKind.i64.wrap ((i:Int)+1)=(i:Int)+1:=by rw[IntKind.wrap_i64];omega
 have htn:((i:Int)+1).toNat=i+1:=by omega
 have hb1:(0:Int)<=(i:Int)+1:=by omega
 have hb2:(i:Int)+1<=(R.length:Int)+1:=by omega
 have c1:¬(G=i+1):=by omega
 have c2:¬(G=i):=by omega
 have c3:i<=R.length:=by omega
 have c4:¬(d=i):=by omega
 have c5:i<=d:=by omega
 clear c Q a QY p s hW1 hW2 hW3 h A there q QX hG B F;go_enter func173,ntmps173
 go_wp2_with (first
  |(refine Lib.wpList_append_run _ rfl _ _ _ _ rfl _ _ rfl rfl _ _ (S _) ?_)
  |(refine wpList_copy_runI _ rfl _ _ 67 67 rfl _ _ rfl rfl (H _ _) ?_)
  |fail)
 go_region_law (refine step_copy_runI rfl _ _ 67 67 rfl _ _ (by simp[Act.eval,Act.put]) (by simp[Act.eval,Act.put]) (M _ _ _) ?_)
 all_goals go_wp2
 all_goals go_ret
 all_goals exact⟨G,rfl,HE.out.1,HE.out.2⟩
end
section
open Go.Proofs.Tryz
theorem zb(n low a:Int)(b c:Addr)(w:World)(c1:w.cell? b=some (.int .i64 low))(c2:w.cell? c=some (.int .i64 a)):
  Calls prog 242 #[.int .i64 n,.pointer (some b),.pointer (some c)] w λe d=>e=.returned (.bool (iG low a n))/\d=w:=by
 by_cases h1:low<=n
 .go_enter func242,ntmps242;go_wp2;go_ret;exact⟨aN (by simp[iG,h1]),rfl⟩
 .go_enter func242,ntmps242;go_wp2;go_ret;exact⟨aN (by simp[iG];omega),rfl⟩
theorem qV(low a:Int)(w:World):
  Calls prog 169 #[.int .i64 low,.int .i64 a] w λe b=>e=.returned (.func (.func 242) #[] #[.pointer (some ⟨w.heap.size,0,none⟩),.pointer (some ⟨w.heap.size+1,0,none⟩)])/\b=(w.alloc (.cells #[.int .i64 low] 3)).alloc (.cells #[.int .i64 a] 3):=by
 go_enter func169,ntmps169;go_wp2;go_ret;exact⟨rfl,rfl⟩
theorem iN(k t v:Int)(w:World):
  Calls prog 96 #[.agg #[.int .i64 k,.int .i64 t,.int .i64 v]] w λe a=>e=.returned (.bool (au k t v))/\Below w.heap.size w a:=by
 cases h1:iG (-1099511627776) 1099511627776 k
 .go_enter func96,ntmps96
  go_wp2_with (first|(go_at_call 242;go_must (refine(zb _ (-1099511627776) 1099511627776 _ _ _ ?_ ?_).mono ?_;(go_simp);(go_simp);rintro e a ⟨rfl,rfl⟩))|(go_at_call 169;refine(qV _ _ _).mono ?_;rintro e a ⟨rfl,rfl⟩))
  go_ret;exact⟨aN (by simp[au,h1]),(below_alloc3 _ _ _ _)⟩
 .cases h2:iG (-1099511627776) 1099511627776 t
  .go_enter func96,ntmps96
   go_wp2_with (first|(go_at_call 242;go_must (refine(zb _ (-1099511627776) 1099511627776 _ _ _ ?_ ?_).mono ?_;(go_simp);(go_simp);rintro e a ⟨rfl,rfl⟩))|(go_at_call 169;refine(qV _ _ _).mono ?_;rintro e a ⟨rfl,rfl⟩))
   go_ret;exact⟨aN (by simp[au,h1,h2]),(below_alloc3 _ _ _ _)⟩
  .go_enter func96,ntmps96
   go_wp2_with (first|(go_at_call 242;go_must (refine(zb _ (-1099511627776) 1099511627776 _ _ _ ?_ ?_).mono ?_;(go_simp);(go_simp);rintro e a ⟨rfl,rfl⟩))|(go_at_call 169;refine(qV _ _ _).mono ?_;rintro e a ⟨rfl,rfl⟩))
   go_ret;exact⟨aN (by simp[au,h1,h2]),(below_alloc3 _ _ _ _)⟩
theorem Ji(base bv i:Nat)(vs:Value)(R:List D)(x:D)(w:World)(h:w.ownsRow base 130 4 vs R.length (R.flatMap ak))(g:R.length<=100000)(hi:i<=R.length)(a:base<=w.heap.size)
  (c:w.heap[bv]?=some (.cells #[.int .i64 x.k,.int .i64 x.t,.int .i64 x.v,.int .i64 x.n] 130)) (l:vs.ownBlock≠some bv):
  Calls prog 173 #[vs,.int .i64 i,.slice (some ⟨bv,0,none⟩) 1 1] w λe d=>∃v',e=.returned v'/\d.ownsRow base 130 4 v' (R.length+1) ((bT R i x).flatMap ak)/\w.grownBy d vs.ownBlock/\(v'.ownBlock=vs.ownBlock∨v'.ownBlock=some w.heap.size):=by
 by_cases e:i=R.length
 .subst e;exact Jg base bv vs R x w h g a c
 .obtain⟨gs,j,rfl⟩:=yg h (by omega)
  by_cases hroom:R.length+1<=j
  .refine(FY base bv gs j i R x w h g (by omega) hroom c (λe=>l (by rw[e];rfl))).mono ?_;rintro e d ⟨rfl,f,b⟩;exact⟨_,rfl,f,b,Or.inl rfl⟩
  .refine(FZ base bv gs j i R x w h g (by omega) (by omega) a c).mono ?_;rintro e d ⟨G,rfl,f,b⟩;exact⟨_,rfl,f,⟨b.os,b.tape,b.output,b.size,λk m _=>b.block k m (by simp)⟩,Or.inr rfl⟩
end
section
theorem iq{W:World}{B:Nat}{k t v:Int}(h:W.heap[B]?=some (.cells #[.int .i64 k,.int .i64 t,.int .i64 v] 37)):W.cell? ⟨B,0,none⟩=some (.int .i64 k)/\W.cell? ⟨B,1,none⟩=some (.int .i64 t)/\W.cell? ⟨B,2,none⟩=some (.int .i64 v):=by
 refine⟨?_,?_,?_⟩ <;>(rw[vE h];rfl)
end
section
variable{w W:World}{k t v:Int}
theorem uk{n:Int}(h0: -9223372036854775808<=n)(h1:n<=9223372036854775807):IntKind.i64.wrap n=n:=by rw[IntKind.wrap_i64];omega
def QZ:Op:= .load 67 (.tmp 27)
abbrev Db(k t v met:Int):Obj:= .cells #[.int .i64 k,.int .i64 t,.int .i64 v,.int .i64 met] 130
theorem Jj{B:Nat}{a:World}(h:Below B w a):Below B w a.drew:=⟨h.os,h.tape,h.output,h.size,h.block⟩
structure fF(w:World)(k t v:Int)(W:World):Prop where
 low:Below w.heap.size w W
 box:W.heap[w.heap.size]?=some (.cells #[.int .i64 k,.int .i64 t,.int .i64 v] 37)
theorem fF.go{b:World}(h:fF w k t v W)(a:Below W.heap.size W b):fF w k t v b:=
 ⟨h.low.trans (a.mono h.low.size),(a.block _ (aD.1 h.box).1).trans h.box⟩
theorem fF.cells(h:fF w k t v W):W.cell? ⟨w.heap.size,0,none⟩=some (.int .i64 k)/\W.cell? ⟨w.heap.size,1,none⟩=some (.int .i64 t)/\W.cell? ⟨w.heap.size,2,none⟩=some (.int .i64 v):=iq h.box
theorem fF.rows(h:fF w k t v W){base b o:Nat}{a:Value}{R:List D}(c:bB w base b o a R):W.cell? ⟨b,o,none⟩=some a:=(c.below h.low).cell.1
theorem lD(base b o:Nat)(r:Value)(R:List D)(k t v met:Int)(w:World)(h:bB w base b o r R)(hs:ay R)(hR:R.length<300)(x:base<=w.heap.size)(hg:au k t v=true)(hm:0<=met):
  Calls Tryz.prog 104 #[.pointer (some ⟨b,o,none⟩),.agg #[.int .i64 k,.int .i64 t,.int .i64 v],.int .i64 met] w λe d=>e=.returned .nilIface/\∃v',bB d base b o v' (bT R (aV k (t+1) R) ⟨k,t,v,met⟩)/\l8 b o v' r.ownBlock w d/\(v'.ownBlock=r.ownBlock∨∃g,v'.ownBlock=some g/\w.heap.size<=g):=by
 have u:=iN k t v (w.alloc (.cells #[.int .i64 k,.int .i64 t,.int .i64 v] 37));rw[hg]at u;have y:=hid h;have C:=h.lt
 have G:IntKind.i64.wrap (t+1)=t+1:=by
  simp[au,iG]at hg;exact uk (by omega) (by omega)
 have Y:Hid (∀W,fF w k t v W->Calls Tryz.prog 171 #[.pointer (some ⟨b,o,none⟩),.int .i64 k,.int .i64 (IntKind.i64.wrap (t+1))] W λe d=>e=.returned (.int .i64 (aV k (t+1) R))/\fF w k t v d/\Below W.heap.size W d):=by
  intro W l;rw[G];refine(BG base b o r R k (t+1) W (h.below l.low) hs (by omega)).mono ?_;rintro e d ⟨rfl,hb⟩;exact⟨rfl,l.go hb,hb⟩
 have HI:Hid (∀W bv,fF w k t v W->W.heap[bv]?=some (Db k t v met)->w.heap.size<=bv->Calls Tryz.prog 173 #[r,.int .i64 (aV k (t+1) R),.slice (some ⟨bv,0,none⟩) 1 1] W λe d=>∃v',e=.returned v'/\(d.cell? ⟨b,o,none⟩=some r/\d.frozen? ⟨b,o,none⟩=false)/\(d.cell? ⟨w.heap.size,0,none⟩=some (.int .i64 k)/\d.cell? ⟨w.heap.size,1,none⟩=some (.int .i64 t)/\d.cell? ⟨w.heap.size,2,none⟩=some (.int .i64 v))/\(∃F n c,v'=.slice F n c)/\
   Hid (bB (d.setCell ⟨b,o,none⟩ v') base b o v' (bT R (aV k (t+1) R) ⟨k,t,v,met⟩)/\l8 b o v' r.ownBlock w (d.setCell ⟨b,o,none⟩ v')/\(v'.ownBlock=r.ownBlock∨∃g,v'.ownBlock=some g/\w.heap.size<=g))):=by
  intro W bv l S hle;refine(Ji base bv (aV k (t+1) R) r R ⟨k,t,v,met⟩ W (h.below l.low).row (by omega) (QW _ _ _) (di x l.low.size) S (λe=>by have:=(h.row.lt _ e).2;omega)).mono ?_;rintro e d ⟨v',rfl,Z,f,j⟩;have m:d.heap[b]?=w.heap[b]? :=(grown_of l.low f).block b C (λe=>h.own e.symm)
  have Q:v'.ownBlock≠some b:=by
   rcases j with j|j
   .rw[j];exact h.own
   .rw[j];intro e;cases e;have:=l.low.size;omega
  have H:=iq ((f.block w.heap.size (aD.1 l.box).1 (λe=>by have:=(h.row.lt _ e.symm).2;omega)).trans l.box);obtain⟨F,c,e⟩:=jq Z;refine⟨v',rfl,⟨(World.cell?_of_block (w:=w) (a:=⟨b,o,none⟩) m).trans h.cell.1,(World.frozen?_of_block (w:=w) (a:=⟨b,o,none⟩) m).trans h.cell.2⟩,H,⟨F,_,c,e⟩,?_⟩;have E:=vX h (R':=bT R (aV k (t+1) R) ⟨k,t,v,met⟩) (by rw[xK];exact Z) Q (grown_of l.low f);exact⟨E.1,E.2,j.imp id (λe=>⟨_,e,l.low.size⟩)⟩
 obtain⟨F,cv,rfl⟩:=h.form
 have i1:¬(300:Int)<=(R.length:Int):=by omega
 have i2:¬(met<0):=by omega
 clear h hs G;generalize hp:aV k (t+1) R=p at *;clear hp;go_enter Tryz.func104,Tryz.ntmps104
 go_wp2_with (go_at_call 96;refine u.mono ?_;rintro e i ⟨rfl,s⟩;have B:Hid (fF w k t v i):=(show fF w k t v i from⟨(wh w _).trans (s.mono (by simp)),(s.block _ (by simp)).trans (vw _ _)⟩);have hc1:=B.out.rows y.out;clear s)
 clear u;have V:Hid (fF w k t v i.drew):=(show fF w k t v i.drew from⟨Jj B.out.low,B.out.box⟩);have K:Hid (fF w k t v (i.drew.alloc (Db k t v met))/\(i.drew.alloc (Db k t v met)).heap[i.heap.size]?=some (Db k t v met)):=⟨V.out.go (wh _ _),vw _ _⟩;have hc3:(i.drew.alloc (Db k t v met)).cell? ⟨b,o,none⟩=some (.slice F R.length cv):=K.out.1.rows y.out;have hc2:=V.out.rows y.out;have hx1:=B.out.cells;have U:w.heap.size<=i.heap.size:=B.out.low.size
 have hq1:b<i.heap.size:=by omega
 have hq2:¬(b=i.heap.size):=by omega
 have hne1:¬(b=w.heap.size):=by omega
 have hne2:¬(w.heap.size=b):=by omega
 have M:QZ=Op.load 67 (.tmp 27):=rfl;rw[<-M]
 go_region_held3 (λW=>W.cell? ⟨w.heap.size,0,none⟩=some (.int .i64 k)/\W.cell? ⟨w.heap.size,1,none⟩=some (.int .i64 t)/\W.cell? ⟨w.heap.size,2,none⟩=some (.int .i64 v)) (first|(go_keep;done)|fail) (first
  |(go_at_call 171;refine(Y.out _ V.out).mono ?_;rintro e q ⟨rfl,f,j⟩;have z:Hid (fF w k t v q/\fF w k t v (q.alloc (Db k t v met))/\(q.alloc (Db k t v met)).heap[q.heap.size]?=some (Db k t v met)):=⟨f,f.go (wh _ _),vw _ _⟩;have P:=f.cells;have N:=f.rows y.out;have hc5:=z.out.2.1.rows y.out;have A:=f.low.size;have T:b<q.heap.size:=fO C A;have hq4:¬(b=q.heap.size):=Nat.ne_of_lt T;clear f j)
  |(go_at_call 171;refine(Y.out _ K.out.1).mono ?_;rintro e q ⟨rfl,f,j⟩;have z:Hid (fF w k t v q/\q.heap[i.heap.size]?=some (Db k t v met)):=⟨f,(j.block _ (by simp)).trans K.out.2⟩;have P:=f.cells;have N:=f.rows y.out;clear f j)
  |(go_at_call 173;refine(HI.out _ _ z.out.2.1 z.out.2.2 A).mono ?_;rintro e w5 ⟨v5,rfl,L,I,⟨o5,n5,c5,rfl⟩,X⟩)
  |(go_at_call 173;refine(HI.out _ _ z.out.1 z.out.2 U).mono ?_;rintro e w5 ⟨v5,rfl,L,I,⟨o5,n5,c5,rfl⟩,X⟩)
  |fail)
 all_goals (go_wp2;go_ret;exact⟨rfl,_,X.out⟩)
end
end Go.Proofs.YthfpipieboophaaGreatDoor
