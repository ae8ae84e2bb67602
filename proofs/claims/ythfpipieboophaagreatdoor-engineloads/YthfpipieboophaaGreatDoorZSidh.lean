import Derived.Shelf.Spec.SlicesInsert
import Derived.Lib.AppendZerosOnto
import Derived.Deep.DeepAppendWide
import Derived.Test.YthfpipieboophaaGreatDoorZSida
namespace Go.Proofs.YthfpipieboophaaGreatDoor
set_option maxRecDepth 100000
set_option maxHeartbeats 40000000
open Go.Joins Go.Shelf Go.RowKit
section
open Go.Proofs.Tryz
variable{W:World}{base g n cap size:Nat}{e:TypeId}{c:List Value}
theorem nk{P:Program}(w:World)(dT y ty elem:TypeId)(k:Nat)(b o d h:Nat)(a:Addr)(f l:Nat)(cs:List Value)
  (t:P.underlying dT=some (.slice elem)) (r:(P.info? elem).map (·.size)=some k) (u:cs.length=Nat.min f d*k)
  (m:∀j v,cs[j]?=some v->w.cell? (a.add j)=some v) (z:∀j,j<cs.length->(w.cell? ⟨b,o+j,none⟩).isSome=true) (s:∀j,j<cs.length->w.frozen? ⟨b,o+j,none⟩=false) (x:∀v∈cs,v.oneCell'=true):
  (Builtin.copy_ #[dT,y] ty #[.slice (some ⟨b,o,none⟩) d h,.slice (some a) f l]).run P w=.ok (goInt (Nat.min f d)) (w.setCells b o cs):=by
 have q:=run_loadCells_list (P:=P) w a cs m;have p:=run_storeCells_cells (P:=P) b o cs 0 w (by simpa using z) (by simpa using s) x
 cases hq:P.info? elem with
 |none=>simp[hq]at r
 |some i=>
  have hi:i.size=k:=by simpa[hq]using r
  rw[u]at q;simp only[Nat.add_zero]at p;simp[Builtin.copy_,run_underlying t,Builtin.lenOf,Builtin.firstCells,sizeOf,typeInfo,hq,hi,q,p]
theorem xq:(prog.info? 130).map (·.size)=some 4:=by kernel_rfl
theorem xu(vs:List Value):∀(c:List Value) (o:Nat),o+vs.length<=c.length->ni c o vs=c.take o++vs++c.drop (o+vs.length):=by
 induction vs with
 |nil=>intro c o h;simp[ni]
 |cons v r ih=>
  intro c o h
  have b:o+1+r.length<=(c.set o v).length:=by simp at h⊢;omega
  rw[ni,ih (c.set o v) (o+1) b]
  have a:(c.set o v).take (o+1)=c.take o++[v]:=by
   rw[List.take_add_one,List.take_set_of_le (aC _),List.getElem?_set_self (by simp at h;omega)];rfl
  have d:(c.set o v).drop (o+1+r.length)=c.drop (o+(v::r).length):=by
   rw[List.drop_set_of_lt (by omega)];congr 1;simp;omega
  rw[a,d];simp
def bT(R:List D)(i:Nat)(x:D):List D:=R.take i++x::R.drop i
theorem xK(R:List D)(i:Nat)(x:D):(bT R i x).length=R.length+1:=by simp[bT];omega
theorem za(M:List D)(i:Nat):(M.drop i).flatMap ak=(M.flatMap ak).drop (i*4):=by
 induction M generalizing i with
 |nil=>simp
 |cons a r ih=>
  cases i with
  |zero=>simp
  |succ i=>
   rw[List.drop_succ_cons,List.flatMap_cons,ih,List.drop_append,bS,eD (show(ak a).length<=(i+1)*4 by rw[bS];omega),List.nil_append,show(i+1)*4 -4=i*4 by omega]
theorem MO(R:List D)(i:Nat)(x:D)(hi:i<=R.length)(c:List Value)(b:c.length=(R.length+1)*4)(d:c.take (R.length*4)=R.flatMap ak):
  ni (ni c ((i+1)*4) ((R.drop i).flatMap ak)) (i*4) (ak x)=(bT R i x).flatMap ak:=by
 have hd:((R.drop i).flatMap ak).length=(R.length -i)*4:=by rw[gG,List.length_drop]
 have h:ni c ((i+1)*4) ((R.drop i).flatMap ak)=c.take ((i+1)*4)++(R.drop i).flatMap ak:=by
  rw[xu _ _ _ (by rw[hd,b];omega),hd,eD (show c.length<=(i+1)*4+(R.length -i)*4 by rw[b];omega),List.append_nil]
 have a:(c.take ((i+1)*4)).length=(i+1)*4:=by rw[List.length_take,b];omega
 rw[h,xu _ _ _ (by rw[bS,List.length_append,a];omega),bS]
 have f:(c.take ((i+1)*4)++(R.drop i).flatMap ak).take (i*4)=(R.take i).flatMap ak:=by
  rw[List.take_append_of_le_length (by rw[a];omega),List.take_take,Nat.min_eq_left (by omega),qU,<-d,List.take_take,Nat.min_eq_left (by omega)]
 have j:(c.take ((i+1)*4)++(R.drop i).flatMap ak).drop (i*4+4)=(R.drop i).flatMap ak:=by
  rw[show i*4+4=(i+1)*4 by omega,List.drop_append_of_le_length (by rw[a];omega),eD (by rw[a];omega),List.nil_append]
 rw[f,j];simp[bT]
theorem Jf(h:W.ownsRow base e size (.slice (some ⟨g,0,none⟩) n cap) n c)(m:Nat)(d:m<=cap)(a:n<=m):
  ∃ys,W.ownsRow base e size (.slice (some ⟨g,0,none⟩) m cap) m ys/\ys.take (n*size)=c:=by
 rcases h.2 with⟨b,_⟩|⟨g',cap',cur,b,l,o,h2,k,f,j⟩
 .cases b
 .cases b;have hx:m*size<=cap*size:=Nat.mul_le_mul_right _ d;have i:n*size<=m*size:=Nat.mul_le_mul_right _ a;exact⟨cur.toList.take (m*size),⟨by rw[List.length_take,Array.length_toList,f];omega,.inr ⟨g,cap,cur,rfl,l,o,d,k,f,rfl⟩⟩,by rw[List.take_take,Nat.min_eq_left i,j]⟩
theorem uT(h:W.ownsRow base e size (.slice (some ⟨g,0,none⟩) n cap) n c):∃cur,W.heap[g]?=some (.cells cur e (0,0))/\cur.size=cap*size:=by
 rcases h.2 with⟨a,_⟩|⟨g',cap',cur,a,hb,d,h2,h3,b,h5⟩
 .cases a
 .cases a;exact⟨cur,d,b⟩
theorem Jg(base bv:Nat)(vs:Value)(R:List D)(x:D)(w:World)(h:w.ownsRow base 130 4 vs R.length (R.flatMap ak))(hR:R.length<=100000)(s:base<=w.heap.size)
  (p:w.heap[bv]?=some (.cells #[.int .i64 x.k,.int .i64 x.t,.int .i64 x.v,.int .i64 x.n] 130)):
  Calls prog 173 #[vs,.int .i64 R.length,.slice (some ⟨bv,0,none⟩) 1 1] w λe y=>∃m,e=.returned m/\y.ownsRow base 130 4 m (R.length+1) ((bT R R.length x).flatMap ak)/\w.grownBy y vs.ownBlock/\(m.ownBlock=vs.ownBlock∨m.ownBlock=some w.heap.size):=by
 obtain⟨z,hi,f,l,d⟩:=je xm;have B:=hid h;have C:Hid (∀j u,(ak x)[j]?=some u->w.cell? ((⟨bv,0,none⟩:Addr).add j)=some u):=World.news_of_block p
 have i1:(R.length:Int)<=100000:=by omega
 have i2:(0:Int)<=(R.length:Int):=by omega
 rcases ownsRow_forms h with⟨rfl,H⟩|⟨gs,o,rfl⟩
 .obtain rfl:R=[]:=di H;clear h;go_enter func173,ntmps173
  go_wp2_with (first
   |(refine wpList_append_lies _ rfl _ _ _ rfl base 130 z zD 4 32 underlying67 hi f l d rfl (by omega) (.slice none 0 0) 0 [] rfl B.out ⟨bv,0,none⟩ 1 1 (ak x) rfl rfl C.out (mo x) (by omega) (by unfold maxLen;omega) (by omega) s _ rfl ?_;intro I F G b a r i)
   |fail)
  go_ret;exact⟨_,rfl,by simpa[bT]using b,a,r.elim (λe=>Or.inl e.symm) (λe=>Or.inr (by rw[e];rfl))⟩
 .have hck:R.length<=o:=by
   rcases h.2 with⟨q,_⟩|⟨g',cap',cur,q,_,_,E,_⟩
   .cases q
   .cases q;exact E
  obtain⟨A,hA⟩:∃A:Addr,(if o=R.length then some (⟨gs,0,none⟩:Addr)else some ⟨gs,R.length*4,none⟩)=some A:=by
   by_cases e:o=R.length
   .exact⟨⟨gs,0,none⟩,by simp[e]⟩
   .exact⟨⟨gs,R.length*4,none⟩,by simp[e]⟩
  clear h;go_enter func173,ntmps173
  go_wp2_with (first
   |(refine wpList_append_lies _ rfl _ _ _ rfl base 130 z zD 4 32 underlying67 hi f l d rfl (by omega) (.slice (some ⟨gs,0,none⟩) R.length o) R.length (R.flatMap ak) rfl B.out ⟨bv,0,none⟩ 1 1 (ak x) rfl rfl C.out (mo x) (by omega) (by unfold maxLen;omega) (by omega) s _ rfl ?_;intro I F G b a r i)
   |fail)
  go_ret;exact⟨_,rfl,by simpa[bT,List.flatMap_append]using b,a,r.elim (λe=>Or.inl e.symm) (λe=>Or.inr (by rw[e];rfl))⟩
end
section
open Go.Proofs.Tryz
theorem sizeOf100(w:World):(Go.sizeOf 130).run prog w=.ok 4 w:=by kernel_rfl
theorem FY(base bv gs a i:Nat)(R:List D)(x:D)(w:World)(h:w.ownsRow base 130 4 (.slice (some ⟨gs,0,none⟩) R.length a) R.length (R.flatMap ak))(hR:R.length<=100000)(hi:i<R.length)(q:R.length+1<=a)
  (b:w.heap[bv]?=some (.cells #[.int .i64 x.k,.int .i64 x.t,.int .i64 x.v,.int .i64 x.n] 130)) (z:bv≠gs):
  Calls prog 173 #[.slice (some ⟨gs,0,none⟩) R.length a,.int .i64 i,.slice (some ⟨bv,0,none⟩) 1 1] w λe M=>e=.returned (.slice (some ⟨gs,0,none⟩) (R.length+1) a)/\M.ownsRow base 130 4 (.slice (some ⟨gs,0,none⟩) (R.length+1) a) (R.length+1) ((bT R i x).flatMap ak)/\w.grownBy M (some gs):=by
 obtain⟨cur,E,I⟩:=uT h
 have K:a<=maxLen:=by
  rcases h.2 with⟨G,_⟩|⟨g',cap',cur',G,_,_,_,T,_⟩
  .cases G
  .cases G;exact T
 have Vt:(a:Int)<=9223372036854775807:=by unfold maxLen at K;omega
 obtain⟨ys,f,P⟩:=Jf h (R.length+1) q (by omega)
 have l:∀j u,(R.flatMap ak)[j]?=some u->w.cell? ⟨gs,j,none⟩=some u:=λj u S=>by
  have:=h.cells (g:=gs) rfl j u S
  rwa [bZ]at this
 have y:∀j,j<(R.length+1)*4->(w.cell? ⟨gs,j,none⟩).isSome=true/\w.frozen? ⟨gs,j,none⟩=false:=λj c=>by
  have H:j<ys.length:=by rw[f.1];exact c
  have C:=f.cells (g:=gs) rfl j _ (aO H);rw[bZ]at C;exact⟨by rw[C];rfl,fV E j⟩
 have F:∀lb cb,(callFunc 245 #[.slice (some ⟨bv,0,none⟩) 1 1,.slice (some ⟨gs,(i+1)*4,none⟩) lb cb]).run prog w=.ok (.value (.bool false)) w:=λlb cb=>by
  rw[run_callFunc_extern func245 (by kernel_rfl) (by kernel_rfl) (by kernel_rfl) (e:=Extern.SlicesOverlaps.overlaps #[67,67] #[4]) (by kernel_rfl),
   Lib.run_overlaps_apart w 67 4 130 underlying67 4 sizeOf100 ⟨bv,0,none⟩ ⟨gs,(i+1)*4,none⟩ 1 1 lb cb z 130 130 4 (a*4) (by simp[World.shape?,b]) (by simp[World.shape?,E,I]) (by omega) (fV b 0) (fV b 4)]
  rfl
 have s:((R.drop i).flatMap ak).length=(R.length -i)*4:=by rw[gG,List.length_drop]
 have o:∀ty p sc,(Builtin.copy_ #[67,67] ty #[.slice (some ⟨gs,(i+1)*4,none⟩) (R.length -i) p,.slice (some ⟨gs,i*4,none⟩) (R.length+1 -i) sc]).run prog w.drew=.ok (goInt (Nat.min (R.length+1 -i) (R.length -i))) (w.drew.setCells gs ((i+1)*4) ((R.drop i).flatMap ak)):=λty p sc=>
  nk w.drew _ _ ty 130 4 gs ((i+1)*4) (R.length -i) p ⟨gs,i*4,none⟩ (R.length+1 -i) sc ((R.drop i).flatMap ak) underlying67 xq (by rw[s];simp only[Nat.min_def];split <;>omega)
   (λj v c=>by rw[Addr.add_lit];exact l (i*4+j) v (by rwa [za,List.getElem?_drop]at c))
   (λj c=>(y _ (by rw[s]at c;omega)).1) (λj c=>(y _ (by rw[s]at c;omega)).2) (uQ _)
 obtain⟨d,hW1⟩:∃d,d=w.drew.setCells gs ((i+1)*4) ((R.drop i).flatMap ak):=⟨_,rfl⟩
 have B:d.ownsRow base 130 4 (.slice (some ⟨gs,0,none⟩) (R.length+1) a) (R.length+1) (ni ys ((i+1)*4) ((R.drop i).flatMap ak)):=by rw[hW1];exact gH _ _ f.drew
 have r:w.grownBy d (some gs):=by rw[hW1];exact kV _ _ ⟨rfl,rfl,rfl,aC _,λ_ _ _=>rfl⟩
 have m:∀j,j<(R.length+1)*4->(d.cell? ⟨gs,j,none⟩).isSome=true/\d.frozen? ⟨gs,j,none⟩=false:=λj c=>by
  obtain⟨c1,L,_⟩:=uT B
  have H:j<(ni ys ((i+1)*4) ((R.drop i).flatMap ak)).length:=by rw[B.1];exact c
  have C:=B.cells (g:=gs) rfl j _ (aO H);rw[bZ]at C;exact⟨by rw[C];rfl,fV L j⟩
 have N:d.heap[bv]?=some (.cells #[.int .i64 x.k,.int .i64 x.t,.int .i64 x.v,.int .i64 x.n] 130):=(r.block bv (ax.1 b).1 (λe=>z (by cases e;rfl))).trans b
 have A:∀ty p,(Builtin.copy_ #[67,67] ty #[.slice (some ⟨gs,i*4,none⟩) (R.length+1 -i) p,.slice (some ⟨bv,0,none⟩) 1 1]).run prog d=.ok (goInt (Nat.min 1 (R.length+1 -i))) (d.setCells gs (i*4) (ak x)):=λty p=>
  nk d _ _ ty 130 4 gs (i*4) (R.length+1 -i) p ⟨bv,0,none⟩ 1 1 (ak x) underlying67 xq (by rw[bS];simp only[Nat.min_def];split <;>omega)
   (World.news_of_block N) (λj c=>(m _ (by rw[bS]at c;omega)).1) (λj c=>(m _ (by rw[bS]at c;omega)).2) (mo x)
 have Q:Hid ((d.setCells gs (i*4) (ak x)).ownsRow base 130 4 (.slice (some ⟨gs,0,none⟩) (R.length+1) a) (R.length+1) ((bT R i x).flatMap ak)/\w.grownBy (d.setCells gs (i*4) (ak x)) (some gs)):=by
  refine⟨?_,kV _ _ r⟩;have:=gH (ak x) (i*4) B;rw[MO R i x (by omega) ys f.1 P]at this;exact this
 rw[<-hW1]at o
 have i1:(0:Int)<=(i:Int):=by omega
 have i2:(i:Int)<=(R.length:Int):=by omega
 have i3:(R.length:Int)<=100000:=by omega
 have i4:((i:Int)==(R.length:Int))=false:=by rw[beq_eq_false_iff_ne];omega
 have i4':¬((i:Int)=(R.length:Int)):=by omega
 have i5:¬((a:Int)<(R.length:Int)+1):=by omega
 have i6:(R.length:Int)+1<=(a:Int):=by omega
 have hw1:IntKind.i64.wrap ((i:Int)+1)=(i:Int)+1:=by rw[IntKind.wrap_i64];omega
 have htn:((i:Int)+1).toNat=i+1:=by omega
 have htl:((R.length:Int)+1).toNat=R.length+1:=by omega
 have hb1:(0:Int)<=(i:Int)+1:=by omega
 have hb2:(i:Int)+1<=(R.length:Int)+1:=by omega
 have hb3:(i:Int)<=(R.length:Int)+1:=by omega
 have c1:¬(a=i+1):=by omega
 have c2:¬(a=i):=by omega
 have c3:i<=R.length:=by omega
 clear y m l B r N f P E hW1 h b;go_enter func173,ntmps173
 go_wp2_with (simp only[F])
 go_region_law (refine step_copy_runI rfl _ _ 67 67 rfl _ _ (by simp[Act.eval,Act.put]) (by simp[Act.eval,Act.put]) (o _ _ _) ?_)
 all_goals go_wp2_with (first|(refine wpList_copy_runI _ rfl _ _ 67 67 rfl _ _ rfl rfl (A _ _) ?_)|fail)
 all_goals go_ret
 all_goals exact⟨rfl,Q.out.1,Q.out.2⟩
end
section
open Go.Proofs.Tryz Go.Lib
theorem Jh(R:List D)(i:Nat)(x:D)(hi:i<=R.length)(zs:List Value)(c:zs.length=(R.length+1 -i)*4):
  ni (ni ((R.take i).flatMap ak++zs) (i*4) (ak x)) ((i+1)*4) ((R.drop i).flatMap ak)=(bT R i x).flatMap ak:=by
 have hd:((R.drop i).flatMap ak).length=(R.length -i)*4:=by rw[gG,List.length_drop]
 have a:((R.take i).flatMap ak).length=i*4:=by rw[gG,List.length_take,Nat.min_eq_left hi]
 have d:ni ((R.take i).flatMap ak++zs) (i*4) (ak x)=(R.take i).flatMap ak++ak x++zs.drop 4:=by
  rw[xu _ _ _ (by rw[bS,List.length_append,a,c];omega),bS,List.take_append_of_le_length (by rw[a];exact aC _),dA (by rw[a];exact aC _),List.drop_append,a,eD (show((R.take i).flatMap ak).length<=i*4+4 by rw[a];omega),List.nil_append,show i*4+4 -i*4=4 by omega]
 have b:((R.take i).flatMap ak++ak x).length=(i+1)*4:=by rw[List.length_append,a,bS];omega
 rw[d,xu _ _ _ (by rw[hd,List.length_append,b,List.length_drop,c];omega),List.take_append_of_le_length (by rw[b];exact aC _),dA (by rw[b];exact aC _),eD (show((R.take i).flatMap ak++ak x++zs.drop 4).length<=(i+1)*4+((R.drop i).flatMap ak).length by rw[List.length_append,b,List.length_drop,c,hd];omega),List.append_nil];simp[bT,List.append_assoc]
theorem FZ(base bv gs d i:Nat)(R:List D)(x:D)(w:World)(h:w.ownsRow base 130 4 (.slice (some ⟨gs,0,none⟩) R.length d) R.length (R.flatMap ak))(hR:R.length<=100000)(hi:i<R.length)(q:d<R.length+1)(r:base<=w.heap.size)
  (A:w.heap[bv]?=some (.cells #[.int .i64 x.k,.int .i64 x.t,.int .i64 x.v,.int .i64 x.n] 130)):
  Calls prog 173 #[.slice (some ⟨gs,0,none⟩) R.length d,.int .i64 i,.slice (some ⟨bv,0,none⟩) 1 1] w λe w'=>∃G,e=.returned (.slice (some ⟨w.heap.size,0,none⟩) (R.length+1) G)/\w'.ownsRow base 130 4 (.slice (some ⟨w.heap.size,0,none⟩) (R.length+1) G) (R.length+1) ((bT R i x).flatMap ak)/\w.grownBy w' none:=by
 obtain⟨i0,X,T,F,H⟩:=je xm
 have hck:R.length<=d:=by
  rcases h.2 with⟨Z,_⟩|⟨g',cap',cur',Z,_,_,h2,_⟩
  .cases Z
  .cases Z;exact h2
 have K:gs<w.heap.size:=(h.lt gs rfl).2
 have c:∀j u,(R.flatMap ak)[j]?=some u->w.cell? ⟨gs,j,none⟩=some u:=λj u hu=>by
  have:=h.cells (g:=gs) rfl j u hu
  rwa [bZ]at this
 have E:(R.length:Int)+1 -(i:Int)=((R.length+1 -i:Nat):Int):=by omega
 have B:i+(R.length+1 -i)=R.length+1:=by omega
 have hold:(Builtin.firstCells i0.size i (.slice (some ⟨gs,0,none⟩) i d)).run prog w.drew=.ok ((R.take i).flatMap ak).toArray w.drew:=by
  rw[F]
  exact run_firstCells_some w.drew 4 i ⟨gs,0,none⟩ i d ((R.take i).flatMap ak) (by rw[gG,List.length_take];congr 1;omega) (λj v b=>by
   rw[bZ];rw[qU]at b;have hj2:=(bP.1 b).1;rw[List.length_take]at hj2;rw[dQ (by omega)]at b
   exact c j v b)
 obtain⟨G,hG⟩:∃G,G=grownCap w (R.length+1) d 130:=⟨_,rfl⟩;obtain⟨l,hW1⟩:∃l,l=w.drew.alloc (.cells (((R.take i).flatMap ak).toArray++Builtin.zeroCells zD.cells (R.length+1 -i)++Builtin.zeroCells zD.cells (G -(R.length+1))) 130):=⟨_,rfl⟩
 have Y:∀ty,(Builtin.append_ #[67,3] ty #[.slice (some ⟨gs,0,none⟩) i d,.int .i64 ((R.length:Int)+1 -(i:Int))]).run prog w=.ok (.slice (some ⟨w.heap.size,0,none⟩) (R.length+1) G) l:=λty=>by
  have h:=Lib.run_append_grow_zeros w 67 3 ty 130 i0 zD .i64 .i64 underlying67 underlying3 X T (some ⟨gs,0,none⟩) i d ((R.take i).flatMap ak) hold (R.length+1 -i) (by omega) (by rw[F];omega) (by omega) (by omega) (by rw[H];omega) (by rw[H,B];exact growslice_fits_wide q (by omega));rw[B]at h;rw[E,hW1,hG];exact h
 have U:R.length+1<=G:=by rw[hG];exact grownCap_ge w _ _ _
 have I:G<=maxLen:=by rw[hG];exact grownCap_le_maxLen w (R.length+1) d 130 (by unfold maxLen;omega)
 have m:=C8 (R.length+1 -i)
 have P:l.ownsRow base 130 4 (.slice (some ⟨w.heap.size,0,none⟩) (R.length+1) G) (R.length+1) ((R.take i).flatMap ak++(Builtin.zeroCells zD.cells (R.length+1 -i)).toList):=by
  have Q:((R.take i).flatMap ak).length=i*4:=by rw[gG,List.length_take,Nat.min_eq_left (by omega)]
  refine⟨by rw[List.length_append,Q,m];omega,.inr ⟨w.heap.size,G,_,rfl,r,by rw[hW1];exact eZ w.drew _,U,I,?_,?_⟩⟩
  .have z1:(Builtin.zeroCells zD.cells (R.length+1 -i)).size=(R.length+1 -i)*4:=by rw[<-Array.length_toList];exact m
   have z2:(Builtin.zeroCells zD.cells (G -(R.length+1))).size=(G -(R.length+1))*4:=by rw[<-Array.length_toList];exact C8 _
   rw[Array.size_append,Array.size_append,List.size_toArray,Q,z1,z2];omega
  .have hA:((R.take i).flatMap ak++(Builtin.zeroCells zD.cells (R.length+1 -i)).toList).length=(R.length+1)*4:=by rw[List.length_append,Q,m];omega
   rw[Array.toList_append,Array.toList_append,List.toList_toArray,List.take_append_of_le_length (by rw[hA];exact aC _),dA (by rw[hA];exact aC _)]
 have a:w.grownBy l none:=by rw[hW1];exact⟨rfl,rfl,rfl,by simp,λk N _=>gL _ _ _ N⟩
 have there:∀{W:World} {xs:List Value},W.ownsRow base 130 4 (.slice (some ⟨w.heap.size,0,none⟩) (R.length+1) G) (R.length+1) xs->∀j,j<(R.length+1)*4->(W.cell? ⟨w.heap.size,j,none⟩).isSome=true/\W.frozen? ⟨w.heap.size,j,none⟩=false:=λ{W xs} S j b=>by
  obtain⟨c1,hc1,_⟩:=uT S
  have hl:j<xs.length:=by rw[S.1];exact b
  have hc:=S.cells (g:=w.heap.size) rfl j _ (aO hl);rw[bZ]at hc;exact⟨by rw[hc];rfl,fV hc1 j⟩
 have V:bv<w.heap.size:=(ax.1 A).1;have QY:l.heap[bv]?=some (.cells #[.int .i64 x.k,.int .i64 x.t,.int .i64 x.v,.int .i64 x.n] 130):=(a.block bv V (by simp)).trans A;obtain⟨p,hW2⟩:∃p,p=l.setCells w.heap.size (i*4) (ak x):=⟨_,rfl⟩
 have M:∀ty z,(Builtin.copy_ #[67,67] ty #[.slice (some ⟨w.heap.size,i*4,none⟩) (R.length+1 -i) z,.slice (some ⟨bv,0,none⟩) 1 1]).run prog l=.ok (goInt (Nat.min 1 (R.length+1 -i))) p:=λty z=>by
  rw[hW2]
  exact nk l _ _ ty 130 4 w.heap.size (i*4) (R.length+1 -i) z ⟨bv,0,none⟩ 1 1 (ak x) underlying67 xq (by rw[bS];simp only[Nat.min_def];split <;>omega)
   (World.news_of_block QY) (λj b=>(there P _ (by rw[bS]at b;omega)).1) (λj b=>(there P _ (by rw[bS]at b;omega)).2) (mo x)
 have o:p.ownsRow base 130 4 (.slice (some ⟨w.heap.size,0,none⟩) (R.length+1) G) (R.length+1) (ni ((R.take i).flatMap ak++(Builtin.zeroCells zD.cells (R.length+1 -i)).toList) (i*4) (ak x)):=by rw[hW2];exact gH _ _ P
 have y:l.grownBy p (some w.heap.size):=by rw[hW2];exact kV _ _ ⟨rfl,rfl,rfl,aC _,λ_ _ _=>rfl⟩
 have s:((R.drop i).flatMap ak).length=(R.length -i)*4:=by rw[gG,List.length_drop]
 have QX:p.heap[gs]?=w.heap[gs]? :=(y.block gs (aR K a.size) (by simp;omega)).trans (a.block gs K (by simp));obtain⟨C,hW3⟩:∃C,C=p.drew.setCells w.heap.size ((i+1)*4) ((R.drop i).flatMap ak):=⟨_,rfl⟩
 have L:∀ty z sc,(Builtin.copy_ #[67,67] ty #[.slice (some ⟨w.heap.size,(i+1)*4,none⟩) (R.length -i) z,.slice (some ⟨gs,i*4,none⟩) (R.length -i) sc]).run prog p.drew=.ok (goInt (Nat.min (R.length -i) (R.length -i))) C:=λty z sc=>by
  rw[hW3]
  exact nk p.drew _ _ ty 130 4 w.heap.size ((i+1)*4) (R.length -i) z ⟨gs,i*4,none⟩ (R.length -i) sc ((R.drop i).flatMap ak) underlying67 xq (by rw[s];simp only[Nat.min_def];split <;>omega)
   (λj v b=>by
    rw[Addr.add_lit];have:=c (i*4+j) v (by rwa [za,List.getElem?_drop]at b);rw[<-this]
    exact World.cell?_of_block QX)
   (λj b=>(there o _ (by rw[s]at b;omega)).1) (λj b=>(there o _ (by rw[s]at b;omega)).2) (uQ _)
 have HE:Hid (C.ownsRow base 130 4 (.slice (some ⟨w.heap.size,0,none⟩) (R.length+1) G) (R.length+1) ((bT R i x).flatMap ak)/\w.grownBy C none):=by
  have h3:=gH ((R.drop i).flatMap ak) ((i+1)*4) o.drew;rw[Jh R i x (by omega) _ m]at h3
  have f:l.grownBy C (some w.heap.size):=by rw[hW3];exact kV _ _ (y.trans ⟨rfl,rfl,rfl,aC _,λ_ _ _=>rfl⟩)
  refine⟨by rw[hW3];exact h3,⟨f.os.trans a.os,f.tape.trans a.tape,f.output.trans a.output,aH a.size f.size,λk N hn=>(f.block k (aR N a.size) (by simp;omega)).trans (a.block k N hn)⟩⟩
 have hG63:(G:Int)<=9223372036854775807:=by unfold maxLen at I;omega
 have i1:(0:Int)<=(i:Int):=by omega
 have i2:(i:Int)<=(R.length:Int):=by omega
 have i3:(R.length:Int)<=100000:=by omega
 have i4:((i:Int)==(R.length:Int))=false:=by rw[beq_eq_false_iff_ne];omega
 have i4':¬((i:Int)=(R.length:Int)):=by omega
 have i5:(d:Int)<(R.length:Int)+1:=by omega
 have i6:(i:Int)<=(R.length:Int)+1:=by omega
 have hw1:IntKind.i64.wrap ((i:Int)+1)=(i:Int)+1:=by rw[IntKind.wrap_i64];omega
 have htn:((i:Int)+1).toNat=i+1:=by omega
 have hb1:(0:Int)<=(i:Int)+1:=by omega
 have hb2:(i:Int)+1<=(R.length:Int)+1:=by omega
 have c1:¬(G=i+1):=by omega
 have c2:¬(G=i):=by omega
 have c3:i<=R.length:=by omega
 have c4:¬(d=i):=by omega
 have c5:i<=d:=by omega
 clear c P a QY o y hW1 hW2 hW3 h A there hold QX hG B E;go_enter func173,ntmps173
 go_wp2_with (first
  |(refine Lib.wpList_append_run _ rfl _ _ _ _ rfl _ _ rfl rfl _ _ (Y _) ?_)
  |(refine wpList_copy_runI _ rfl _ _ 67 67 rfl _ _ rfl rfl (M _ _) ?_)
  |fail)
 go_region_law (refine step_copy_runI rfl _ _ 67 67 rfl _ _ (by simp[Act.eval,Act.put]) (by simp[Act.eval,Act.put]) (L _ _ _) ?_)
 all_goals go_wp2
 all_goals go_ret
 all_goals exact⟨G,rfl,HE.out.1,HE.out.2⟩
end
section
open Go.Proofs.Tryz
theorem zb(n low a:Int)(b c:Addr)(w:World)(c1:w.cell? b=some (.int .i64 low))(c2:w.cell? c=some (.int .i64 a)):
  Calls prog 242 #[.int .i64 n,.pointer (some b),.pointer (some c)] w λe d=>e=.returned (.bool (iG low a n))/\d=w:=by
 by_cases h1:low<=n
 .go_enter func242,ntmps242;go_wp2;go_ret;exact⟨aN (by simp[iG,h1]),rfl⟩
 .go_enter func242,ntmps242;go_wp2;go_ret;exact⟨aN (by simp[iG];omega),rfl⟩
theorem qV(low a:Int)(w:World):
  Calls prog 169 #[.int .i64 low,.int .i64 a] w λe b=>e=.returned (.func (.func 242) #[] #[.pointer (some ⟨w.heap.size,0,none⟩),.pointer (some ⟨w.heap.size+1,0,none⟩)])/\b=(w.alloc (.cells #[.int .i64 low] 3)).alloc (.cells #[.int .i64 a] 3):=by
 go_enter func169,ntmps169;go_wp2;go_ret;exact⟨rfl,rfl⟩
theorem iN(k t v:Int)(w:World):
  Calls prog 96 #[.agg #[.int .i64 k,.int .i64 t,.int .i64 v]] w λe a=>e=.returned (.bool (au k t v))/\Below w.heap.size w a:=by
 cases h1:iG (-1099511627776) 1099511627776 k
 .go_enter func96,ntmps96
  go_wp2_with (first|(go_at_call 242;go_must (refine(zb _ (-1099511627776) 1099511627776 _ _ _ ?_ ?_).mono ?_;(go_simp);(go_simp);rintro e a ⟨rfl,rfl⟩))|(go_at_call 169;refine(qV _ _ _).mono ?_;rintro e a ⟨rfl,rfl⟩))
  go_ret;exact⟨aN (by simp[au,h1]),(below_alloc3 _ _ _ _)⟩
 .cases h2:iG (-1099511627776) 1099511627776 t
  .go_enter func96,ntmps96
   go_wp2_with (first|(go_at_call 242;go_must (refine(zb _ (-1099511627776) 1099511627776 _ _ _ ?_ ?_).mono ?_;(go_simp);(go_simp);rintro e a ⟨rfl,rfl⟩))|(go_at_call 169;refine(qV _ _ _).mono ?_;rintro e a ⟨rfl,rfl⟩))
   go_ret;exact⟨aN (by simp[au,h1,h2]),(below_alloc3 _ _ _ _)⟩
  .go_enter func96,ntmps96
   go_wp2_with (first|(go_at_call 242;go_must (refine(zb _ (-1099511627776) 1099511627776 _ _ _ ?_ ?_).mono ?_;(go_simp);(go_simp);rintro e a ⟨rfl,rfl⟩))|(go_at_call 169;refine(qV _ _ _).mono ?_;rintro e a ⟨rfl,rfl⟩))
   go_ret;exact⟨aN (by simp[au,h1,h2]),(below_alloc3 _ _ _ _)⟩
theorem Ji(base bv i:Nat)(vs:Value)(R:List D)(x:D)(w:World)(h:w.ownsRow base 130 4 vs R.length (R.flatMap ak))(j:R.length<=100000)(hi:i<=R.length)(a:base<=w.heap.size)
  (c:w.heap[bv]?=some (.cells #[.int .i64 x.k,.int .i64 x.t,.int .i64 x.v,.int .i64 x.n] 130)) (g:vs.ownBlock≠some bv):
  Calls prog 173 #[vs,.int .i64 i,.slice (some ⟨bv,0,none⟩) 1 1] w λe d=>∃f,e=.returned f/\d.ownsRow base 130 4 f (R.length+1) ((bT R i x).flatMap ak)/\w.grownBy d vs.ownBlock/\(f.ownBlock=vs.ownBlock∨f.ownBlock=some w.heap.size):=by
 by_cases e:i=R.length
 .subst e;exact Jg base bv vs R x w h j a c
 .obtain⟨gs,m,rfl⟩:=gy h (by omega)
  by_cases hroom:R.length+1<=m
  .refine(FY base bv gs m i R x w h j (by omega) hroom c (λe=>g (by rw[e];rfl))).mono ?_;rintro e d ⟨rfl,l,b⟩;exact⟨_,rfl,l,b,Or.inl rfl⟩
  .refine(FZ base bv gs m i R x w h j (by omega) (by omega) a c).mono ?_;rintro e d ⟨G,rfl,l,b⟩;exact⟨_,rfl,l,⟨b.os,b.tape,b.output,b.size,λk o _=>b.block k o (by simp)⟩,Or.inr rfl⟩
end
section
open Go.Proofs.Tryz
theorem iq{W:World}{B:Nat}{k t v:Int}(h:W.heap[B]?=some (.cells #[.int .i64 k,.int .i64 t,.int .i64 v] 37)):W.cell? ⟨B,0,none⟩=some (.int .i64 k)/\W.cell? ⟨B,1,none⟩=some (.int .i64 t)/\W.cell? ⟨B,2,none⟩=some (.int .i64 v):=by
 refine⟨?_,?_,?_⟩ <;>(rw[fq h];rfl)
theorem abg(b o:Nat)(k t v met:Int)(w:World)(h:au k t v=false∨met<0):
  Calls prog 104 #[.pointer (some ⟨b,o,none⟩),.agg #[.int .i64 k,.int .i64 t,.int .i64 v],.int .i64 met] w λe f=>e=.returned (.iface 24 (.int .i64 1))/\Below w.heap.size w f:=by
 have c:=iN k t v (w.alloc (.cells #[.int .i64 k,.int .i64 t,.int .i64 v] 37));cases hgo:au k t v
 .rw[hgo]at c;go_enter func104,ntmps104
  go_wp2_with (go_at_call 96;refine c.mono ?_;rintro e d ⟨rfl,a⟩)
  go_ret;exact⟨rfl,(fC w _).trans (a.mono (by simp))⟩
 .have hm:met<0:=by
   rcases h with h|h
   .rw[hgo]at h;cases h
   .exact h
  rw[hgo]at c;go_enter func104,ntmps104
  go_wp2_with (go_at_call 96;refine c.mono ?_;rintro e d ⟨rfl,a⟩)
  go_ret;exact⟨rfl,(fC w _).trans (a.mono (by simp))⟩
theorem aa6(base b o:Nat)(j:Value)(R:List D)(k t v met:Int)(w:World)(h:bB w base b o j R)(hR:300<=R.length)(i:au k t v=true)(hm:0<=met):
  Calls prog 104 #[.pointer (some ⟨b,o,none⟩),.agg #[.int .i64 k,.int .i64 t,.int .i64 v],.int .i64 met] w λe g=>e=.returned (.iface 24 (.int .i64 12))/\Below w.heap.size w g:=by
 have a:=iN k t v (w.alloc (.cells #[.int .i64 k,.int .i64 t,.int .i64 v] 37));rw[i]at a;have l:=hid h;obtain⟨oa,cv,rfl⟩:=h.form
 have i1:(300:Int)<=(R.length:Int):=by omega
 have i2:¬(met<0):=by omega
 clear h;go_enter func104,ntmps104
 go_wp2_with (go_at_call 96;refine a.mono ?_;rintro e f ⟨rfl,c⟩;have d:Hid (Below w.heap.size w f):=(fC w _).trans (c.mono (by simp));have hc1:=(l.out.below d.out).cell;clear c)
 go_ret;exact⟨rfl,d.out⟩
end
section
variable{w W:World}{k t v:Int}
theorem uk{n:Int}(h0: -9223372036854775808<=n)(h1:n<=9223372036854775807):IntKind.i64.wrap n=n:=by rw[IntKind.wrap_i64];omega
def QZ:Op:= .load 67 (.tmp 27)
abbrev Db(k t v met:Int):Obj:= .cells #[.int .i64 k,.int .i64 t,.int .i64 v,.int .i64 met] 130
theorem Jj{B:Nat}{a:World}(h:Below B w a):Below B w a.drew:=⟨h.os,h.tape,h.output,h.size,h.block⟩
structure fF(w:World)(k t v:Int)(W:World):Prop where
 low:Below w.heap.size w W
 box:W.heap[w.heap.size]?=some (.cells #[.int .i64 k,.int .i64 t,.int .i64 v] 37)
theorem fF.go{a:World}(h:fF w k t v W)(b:Below W.heap.size W a):fF w k t v a:=
 ⟨h.low.trans (b.mono h.low.size),(b.block _ (ax.1 h.box).1).trans h.box⟩
theorem fF.cells(h:fF w k t v W):W.cell? ⟨w.heap.size,0,none⟩=some (.int .i64 k)/\W.cell? ⟨w.heap.size,1,none⟩=some (.int .i64 t)/\W.cell? ⟨w.heap.size,2,none⟩=some (.int .i64 v):=iq h.box
theorem fF.rows(h:fF w k t v W){base b o:Nat}{a:Value}{R:List D}(c:bB w base b o a R):W.cell? ⟨b,o,none⟩=some a:=(c.below h.low).cell.1
theorem lD(base b o:Nat)(r:Value)(R:List D)(k t v met:Int)(w:World)(h:bB w base b o r R)(hs:ay R)(hR:R.length<300)(u:base<=w.heap.size)(hg:au k t v=true)(hm:0<=met):
  Calls Tryz.prog 104 #[.pointer (some ⟨b,o,none⟩),.agg #[.int .i64 k,.int .i64 t,.int .i64 v],.int .i64 met] w λe d=>e=.returned .nilIface/\∃f,bB d base b o f (bT R (aV k (t+1) R) ⟨k,t,v,met⟩)/\l8 b o f r.ownBlock w d/\(f.ownBlock=r.ownBlock∨∃g,f.ownBlock=some g/\w.heap.size<=g):=by
 have x:=iN k t v (w.alloc (.cells #[.int .i64 k,.int .i64 t,.int .i64 v] 37));rw[hg]at x;have z:=hid h;have E:=h.lt
 have H:IntKind.i64.wrap (t+1)=t+1:=by
  simp[au,iG]at hg;exact uk (by omega) (by omega)
 have HF:Hid (∀W,fF w k t v W->Calls Tryz.prog 171 #[.pointer (some ⟨b,o,none⟩),.int .i64 k,.int .i64 (IntKind.i64.wrap (t+1))] W λe d=>e=.returned (.int .i64 (aV k (t+1) R))/\fF w k t v d/\Below W.heap.size W d):=by
  intro W m;rw[H];refine(BG base b o r R k (t+1) W (h.below m.low) hs (by omega)).mono ?_;rintro e d ⟨rfl,Y⟩;exact⟨rfl,m.go Y,Y⟩
 have HI:Hid (∀W bv,fF w k t v W->W.heap[bv]?=some (Db k t v met)->w.heap.size<=bv->Calls Tryz.prog 173 #[r,.int .i64 (aV k (t+1) R),.slice (some ⟨bv,0,none⟩) 1 1] W λe d=>∃f,e=.returned f/\(d.cell? ⟨b,o,none⟩=some r/\d.frozen? ⟨b,o,none⟩=false)/\(d.cell? ⟨w.heap.size,0,none⟩=some (.int .i64 k)/\d.cell? ⟨w.heap.size,1,none⟩=some (.int .i64 t)/\d.cell? ⟨w.heap.size,2,none⟩=some (.int .i64 v))/\(∃G n c,f=.slice G n c)/\
   Hid (bB (d.setCell ⟨b,o,none⟩ f) base b o f (bT R (aV k (t+1) R) ⟨k,t,v,met⟩)/\l8 b o f r.ownBlock w (d.setCell ⟨b,o,none⟩ f)/\(f.ownBlock=r.ownBlock∨∃g,f.ownBlock=some g/\w.heap.size<=g))):=by
  intro W bv m K hle;refine(Ji base bv (aV k (t+1) R) r R ⟨k,t,v,met⟩ W (h.below m.low).row (by omega) (QW _ _ _) (aH u m.low.size) K (λe=>by have:=(h.row.lt _ e).2;omega)).mono ?_;rintro e d ⟨f,rfl,h1,i,l⟩;have q:d.heap[b]?=w.heap[b]? :=(grown_of m.low i).block b E (λe=>h.own e.symm)
  have I:f.ownBlock≠some b:=by
   rcases l with l|l
   .rw[l];exact h.own
   .rw[l];intro e;cases e;have:=m.low.size;omega
  have S:=iq ((i.block w.heap.size (ax.1 m.box).1 (λe=>by have:=(h.row.lt _ e.symm).2;omega)).trans m.box);obtain⟨G,c,e⟩:=jq h1;refine⟨f,rfl,⟨(World.cell?_of_block (w:=w) (a:=⟨b,o,none⟩) q).trans h.cell.1,(World.frozen?_of_block (w:=w) (a:=⟨b,o,none⟩) q).trans h.cell.2⟩,S,⟨G,_,c,e⟩,?_⟩;have F:=vX h (R':=bT R (aV k (t+1) R) ⟨k,t,v,met⟩) (by rw[xK];exact h1) I (grown_of m.low i);exact⟨F.1,F.2,l.imp id (λe=>⟨_,e,m.low.size⟩)⟩
 obtain⟨G,cv,rfl⟩:=h.form
 have i1:¬(300:Int)<=(R.length:Int):=by omega
 have i2:¬(met<0):=by omega
 clear h hs H;generalize hp:aV k (t+1) R=p at *;clear hp;go_enter Tryz.func104,Tryz.ntmps104
 go_wp2_with (go_at_call 96;refine x.mono ?_;rintro e j ⟨rfl,y⟩;have B:Hid (fF w k t v j):=(show fF w k t v j from⟨(fC w _).trans (y.mono (by simp)),(y.block _ (by simp)).trans (eZ _ _)⟩);have hc1:=B.out.rows z.out;clear y)
 clear x;have V:Hid (fF w k t v j.drew):=(show fF w k t v j.drew from⟨Jj B.out.low,B.out.box⟩);have N:Hid (fF w k t v (j.drew.alloc (Db k t v met))/\(j.drew.alloc (Db k t v met)).heap[j.heap.size]?=some (Db k t v met)):=⟨V.out.go (fC _ _),eZ _ _⟩;have hc3:(j.drew.alloc (Db k t v met)).cell? ⟨b,o,none⟩=some (.slice G R.length cv):=N.out.1.rows z.out;have hc2:=V.out.rows z.out;have hx1:=B.out.cells;have P:w.heap.size<=j.heap.size:=B.out.low.size
 have hq1:b<j.heap.size:=by omega
 have hq2:¬(b=j.heap.size):=by omega
 have hne1:¬(b=w.heap.size):=by omega
 have hne2:¬(w.heap.size=b):=by omega
 have U:QZ=Op.load 67 (.tmp 27):=rfl;rw[<-U]
 go_region_held3 (λW=>W.cell? ⟨w.heap.size,0,none⟩=some (.int .i64 k)/\W.cell? ⟨w.heap.size,1,none⟩=some (.int .i64 t)/\W.cell? ⟨w.heap.size,2,none⟩=some (.int .i64 v)) (first|(go_keep;done)|fail) (first
  |(go_at_call 171;refine(HF.out _ V.out).mono ?_;rintro e s ⟨rfl,i,l⟩;have A:Hid (fF w k t v s/\fF w k t v (s.alloc (Db k t v met))/\(s.alloc (Db k t v met)).heap[s.heap.size]?=some (Db k t v met)):=⟨i,i.go (fC _ _),eZ _ _⟩;have M:=i.cells;have T:=i.rows z.out;have hc5:=A.out.2.1.rows z.out;have C:=i.low.size;have Q:b<s.heap.size:=aR E C;have hq4:¬(b=s.heap.size):=Nat.ne_of_lt Q;clear i l)
  |(go_at_call 171;refine(HF.out _ N.out.1).mono ?_;rintro e s ⟨rfl,i,l⟩;have A:Hid (fF w k t v s/\s.heap[j.heap.size]?=some (Db k t v met)):=⟨i,(l.block _ (by simp)).trans N.out.2⟩;have M:=i.cells;have T:=i.rows z.out;clear i l)
  |(go_at_call 173;refine(HI.out _ _ A.out.2.1 A.out.2.2 C).mono ?_;rintro e w5 ⟨v5,rfl,X,L,⟨o5,n5,c5,rfl⟩,Z⟩)
  |(go_at_call 173;refine(HI.out _ _ A.out.1 A.out.2 P).mono ?_;rintro e w5 ⟨v5,rfl,X,L,⟨o5,n5,c5,rfl⟩,Z⟩)
  |fail)
 all_goals (go_wp2;go_ret;exact⟨rfl,_,Z.out⟩)
end
end Go.Proofs.YthfpipieboophaaGreatDoor
