import Derived.Test.YthfpipieboophaaGreatDoorZJna
namespace Go.Proofs.YthfpipieboophaaGreatDoor
set_option maxRecDepth 100000
set_option maxHeartbeats 40000000
open Go.Joins Go.RowKit
section
open Go.Proofs.Tryz Go.Shelf
variable{w:World}{b:Nat}
theorem ai.cell4{base d:Nat}{i f:Value}{x:J}(h:ai w base b d i f x)(n:Int):
  ai (w.setCell ⟨b,6,none⟩ (.int .i64 n)) base b d i f { x with late:=n}:=by
 have c:∀k,k≠b->(w.setCell ⟨b,6,none⟩ (.int .i64 n)).heap[k]?=w.heap[k]? :=λk e=>zw _ _ _ _ e
 exact⟨yc h.blk _,(c d h.ne).trans h.mks,ag h.r0 (λg e=>c g (λa=>own_ne h.r0 h.blk (by omega) (by rw[<-a];exact e))),ag h.r1 (λg e=>c g (λa=>own_ne h.r1 h.blk (by omega) (by rw[<-a];exact e))),h.apart⟩
theorem bC{o:Nat}{u:Value}:Turned (λj=>j=b) w (w.setCell ⟨b,o,none⟩ u):=⟨rfl,rfl,rfl,by simp,λk _ a=>zw _ _ _ _ a⟩
theorem AV(base b d:Nat)(f a:Value)(x:J)(w:World)(h:ai w base b d f a x):
  Calls prog 67 #[.pointer (some ⟨b,0,none⟩)] w λe c=>e=.returned (.int .i64 x.late)/\c=w:=by
 have hc:=h.cells;clear h;go_enter func67,ntmps67;go_wp2;go_ret;exact⟨rfl,rfl⟩
theorem Lj(base b d:Nat)(g f:Value)(x:J)(s:Int)(w:World)(h:ai w base b d g f x):
  Calls prog 64 #[.pointer (some ⟨b,0,none⟩),.int .i64 s] w λe c=>e=.returned (.int .i64 (kW x.m0 x.m1 s))/\c=w:=by
 have hc:=h.cells;have a:=jl d x.m0 x.m1 s w h.marks.1 h.marks.2;clear h;go_enter func64,ntmps64
 go_wp2_with (go_at_call 100;refine a.mono ?_;rintro e c ⟨rfl,rfl⟩)
 go_ret;exact⟨rfl,rfl⟩
theorem zP(base b d:Nat)(f a:Value)(x:J)(n:Int)(w:World)(h:ai w base b d f a x):
  Calls prog 241 #[.pointer (some ⟨b,0,none⟩),.int .i64 n] w λe c=>e=.returned (.tuple #[])/\ai c base b d f a { x with late:=max n 0}/\Turned (λj=>j=b) w c:=by
 have hc:=h.cells;have g:=hid h;clear h;go_enter func241,ntmps241;go_wp2
 go_end0
 exact⟨rfl,g.out.cell4 _,bC⟩
theorem O9(b:Nat)(s k t v:Int)(w:World)(h:bM s=false∨au k t v=false):
  Calls prog 45 #[.pointer (some ⟨b,0,none⟩),.int .i64 s,.agg #[.int .i64 k,.int .i64 t,.int .i64 v]] w λe d=>e=.returned (.tuple #[.slice none 0 0,.iface 24 (.int .i64 1)])/\Below w.heap.size w d:=by
 cases hs:bM s
 .go_enter func45,ntmps45
  go_wp2_with (go_at_call 95;refine(bH _ _).mono ?_;rintro e d ⟨rfl,rfl⟩;rw[hs])
  exact CU (v:= .tuple #[.slice none 0 0,.iface 24 (.int .i64 1)]) (by simp[results,Tryz.results45,go_sem]) rfl ⟨rfl,wh _ _⟩
 .have f:au k t v=false:=by
   rcases h with h|h
   .rw[hs]at h;cases h
   .exact h
  have a:=iN k t v (w.alloc (.cells #[.int .i64 k,.int .i64 t,.int .i64 v] 37));rw[f]at a;go_enter func45,ntmps45
  go_wp2_with (first
   |(go_at_call 95;refine(bH _ _).mono ?_;rintro e d ⟨rfl,rfl⟩;rw[hs])
   |(go_at_call 96;refine a.mono ?_;rintro e w1 ⟨rfl,c⟩)
   |fail)
  exact CU (v:= .tuple #[.slice none 0 0,.iface 24 (.int .i64 1)]) (by simp[results,Tryz.results45,go_sem]) rfl ⟨rfl,(wh w _).trans (c.mono (by simp))⟩
theorem UG(base b i:Nat)(d g:Value)(x:J)(w:World)(h:ai w base b i d g x):
  Calls prog 63 #[.pointer (some ⟨b,0,none⟩),.int .i64 0] w λe c=>e=.returned (.int .i64 x.R0.length)/\c=w:=by
 have f:=kg base b 4 d x.R0 w h.side0;have a:bM 0=true:=rfl;clear h;go_enter func63,ntmps63
 go_wp2_with (first
  |(go_at_call 95;refine(bH _ _).mono ?_;rintro e c ⟨rfl,rfl⟩;rw[a])
  |(go_at_call 102;refine f.mono ?_;rintro e c ⟨rfl,rfl⟩)
  |fail)
 go_ret;exact⟨rfl,rfl⟩
theorem Vp(base b l:Nat)(d k:Value)(x:J)(w:World)(h:ai w base b l d k x)(g:x.R0.length<=100000):
  Calls prog 65 #[.pointer (some ⟨b,0,none⟩),.int .i64 0] w λe a=>∃v',e=.returned v'/\a.ownsRow w.heap.size 130 4 v' x.R0.length (x.R0.flatMap ak)/\Below w.heap.size w a:=by
 have j:=EG base b 4 d x.R0 w h.side0 g;have c:bM 0=true:=rfl;clear h;go_enter func65,ntmps65
 go_wp2_with (first
  |(go_at_call 95;refine(bH _ _).mono ?_;rintro e a ⟨rfl,rfl⟩;rw[c])
  |(go_at_call 116;refine j.mono ?_;rintro e a ⟨v',rfl,i,f⟩)
  |fail)
 go_ret;exact⟨v',rfl,i,f⟩
theorem aaT(b:Nat)(s:Int)(o:Nat)(h:s=0/\o=4∨s=1/\o=5)(k t v met:Int)(x:Value)(Q:World->Prop)(w:World)
  (f:∀W,fF w k t v W->Calls prog 104 #[.pointer (some ⟨b,o,none⟩),.agg #[.int .i64 k,.int .i64 t,.int .i64 v],.int .i64 met] W λe a=>e=.returned x/\a.heap[w.heap.size]?=some (.cells #[.int .i64 k,.int .i64 t,.int .i64 v] 37)/\Hid (Q a)):
  Calls prog 164 #[.pointer (some ⟨b,0,none⟩),.int .i64 s,.agg #[.int .i64 k,.int .i64 t,.int .i64 v],.int .i64 met] w λe a=>e=.returned x/\Q a:=by
 have j:=hid f;clear f;have d:Hid (fF w k t v (w.alloc (.cells #[.int .i64 k,.int .i64 t,.int .i64 v] 37)).drew):=(show fF w k t v (w.alloc (.cells #[.int .i64 k,.int .i64 t,.int .i64 v] 37)).drew from⟨(wh _ _).drew,vw _ _⟩);have hx1:=d.out.cells
 rcases h with⟨rfl,rfl⟩|⟨rfl,rfl⟩
 case' inl=>have c:bM 0=true:=rfl
 case' inr=>have c:bM 1=true:=rfl
 all_goals
  go_enter func164,ntmps164
  go_wp2_with (first
   |(go_at_call 95;refine(bH _ _).mono ?_;rintro e a ⟨rfl,rfl⟩;rw[c])
   |fail)
  go_region_held3 (λW=>W.cell? ⟨w.heap.size,0,none⟩=some (.int .i64 k)/\W.cell? ⟨w.heap.size,1,none⟩=some (.int .i64 t)/\W.cell? ⟨w.heap.size,2,none⟩=some (.int .i64 v)) (first|(go_keep;done)|fail) (first
   |(go_at_call 104;refine(j.out _ d.out).mono ?_;rintro e a ⟨rfl,i,g⟩;have hx2:=iq i)
   |fail)
  go_wp2;go_ret;exact⟨rfl,g.out⟩
theorem Pb(base b r:Nat)(d n:Value)(x:J)(k t v met:Int)(w:World)(h:ai w base b r d n x)(i:base<=w.heap.size)(y:ay x.R0)(z:x.R0.length<300)(C:au k t v=true)(s:0<=met):
  Calls prog 164 #[.pointer (some ⟨b,0,none⟩),.int .i64 0,.agg #[.int .i64 k,.int .i64 t,.int .i64 v],.int .i64 met] w λe f=>e=.returned .nilIface/\∃v',ai f base b r v' n { x with R0:=bT x.R0 (aV k (t+1) x.R0) ⟨k,t,v,met⟩}/\Turned (λj=>j=b∨d.ownBlock=some j) w f/\dF w d v':=by
 have B:Hid (∀W,fF w k t v W->Calls prog 104 #[.pointer (some ⟨b,4,none⟩),.agg #[.int .i64 k,.int .i64 t,.int .i64 v],.int .i64 met] W λe f=>e=.returned .nilIface/\f.heap[w.heap.size]?=some (.cells #[.int .i64 k,.int .i64 t,.int .i64 v] 37)/\Hid (∃v',ai f base b r v' n { x with R0:=bT x.R0 (aV k (t+1) x.R0) ⟨k,t,v,met⟩}/\Turned (λj=>j=b∨d.ownBlock=some j) w f/\dF w d v')):=by
  intro W q;have m:=q.low;refine(lD base b 4 d x.R0 k t v met W (h.below m).side0 y z (di i m.size) C s).mono ?_;rintro e f ⟨rfl,v',u,p,A⟩;have l:dF W d v':=A;have o:=(p.block w.heap.size (aD.1 q.box).1 (by have:=h.lt;omega) (λe=>by have:=(h.r0.lt _ e).2;omega)).trans q.box;exact⟨rfl,o,v',(h.below m).put0 u p l,(Turned.of_below m).trans (Turned.of_keep (S:=λj=>j=b∨d.ownBlock=some j) p (Or.inl rfl) (λk e=>Or.inr e)) (λ_ _ e=>e),l.imp id (λ⟨g,a,c⟩=>⟨g,a,di m.size c⟩)⟩
 exact aaT b 0 4 (.inl ⟨rfl,rfl⟩) k t v met _ _ w B.out
theorem UH(base b g:Nat)(i d:Value)(x:J)(w:World)(h:ai w base b g i d x):
  Calls prog 63 #[.pointer (some ⟨b,0,none⟩),.int .i64 1] w λe c=>e=.returned (.int .i64 x.R1.length)/\c=w:=by
 have f:=kg base b 5 d x.R1 w h.side1;have a:bM 1=true:=rfl;clear h;go_enter func63,ntmps63
 go_wp2_with (first
  |(go_at_call 95;refine(bH _ _).mono ?_;rintro e c ⟨rfl,rfl⟩;rw[a])
  |(go_at_call 102;refine f.mono ?_;rintro e c ⟨rfl,rfl⟩)
  |fail)
 go_ret;exact⟨rfl,rfl⟩
theorem Vq(base b k:Nat)(l d:Value)(x:J)(w:World)(h:ai w base b k l d x)(g:x.R1.length<=100000):
  Calls prog 65 #[.pointer (some ⟨b,0,none⟩),.int .i64 1] w λe a=>∃v',e=.returned v'/\a.ownsRow w.heap.size 130 4 v' x.R1.length (x.R1.flatMap ak)/\Below w.heap.size w a:=by
 have j:=EG base b 5 d x.R1 w h.side1 g;have c:bM 1=true:=rfl;clear h;go_enter func65,ntmps65
 go_wp2_with (first
  |(go_at_call 95;refine(bH _ _).mono ?_;rintro e a ⟨rfl,rfl⟩;rw[c])
  |(go_at_call 116;refine j.mono ?_;rintro e a ⟨v',rfl,i,f⟩)
  |fail)
 go_ret;exact⟨v',rfl,i,f⟩
theorem Pd(base b r:Nat)(o d:Value)(x:J)(k t v met:Int)(w:World)(h:ai w base b r o d x)(i:base<=w.heap.size)(y:ay x.R1)(z:x.R1.length<300)(C:au k t v=true)(s:0<=met):
  Calls prog 164 #[.pointer (some ⟨b,0,none⟩),.int .i64 1,.agg #[.int .i64 k,.int .i64 t,.int .i64 v],.int .i64 met] w λe f=>e=.returned .nilIface/\∃v',ai f base b r o v' { x with R1:=bT x.R1 (aV k (t+1) x.R1) ⟨k,t,v,met⟩}/\Turned (λj=>j=b∨d.ownBlock=some j) w f/\dF w d v':=by
 have B:Hid (∀W,fF w k t v W->Calls prog 104 #[.pointer (some ⟨b,5,none⟩),.agg #[.int .i64 k,.int .i64 t,.int .i64 v],.int .i64 met] W λe f=>e=.returned .nilIface/\f.heap[w.heap.size]?=some (.cells #[.int .i64 k,.int .i64 t,.int .i64 v] 37)/\Hid (∃v',ai f base b r o v' { x with R1:=bT x.R1 (aV k (t+1) x.R1) ⟨k,t,v,met⟩}/\Turned (λj=>j=b∨d.ownBlock=some j) w f/\dF w d v')):=by
  intro W q;have m:=q.low;refine(lD base b 5 d x.R1 k t v met W (h.below m).side1 y z (di i m.size) C s).mono ?_;rintro e f ⟨rfl,v',u,p,A⟩;have l:dF W d v':=A;have n:=(p.block w.heap.size (aD.1 q.box).1 (by have:=h.lt;omega) (λe=>by have:=(h.r1.lt _ e).2;omega)).trans q.box;exact⟨rfl,n,v',(h.below m).put1 u p l,(Turned.of_below m).trans (Turned.of_keep (S:=λj=>j=b∨d.ownBlock=some j) p (Or.inl rfl) (λk e=>Or.inr e)) (λ_ _ e=>e),l.imp id (λ⟨g,a,c⟩=>⟨g,a,di m.size c⟩)⟩
 exact aaT b 1 5 (.inr ⟨rfl,rfl⟩) k t v met _ _ w B.out
end
section
open Go.Proofs.Tryz Go.Shelf
theorem aaC(base b d:Nat)(u q:Value)(x:J)(s k t v:Int)(w:World)(h:ai w base b d u q x)(y:au k t v=true)(l:bM s=true)(p:t<=kW x.m0 x.m1 s)(r: -9223372036854775808<=x.late)(n:x.late<=9223372036854775807):
  Calls prog 45 #[.pointer (some ⟨b,0,none⟩),.int .i64 s,.agg #[.int .i64 k,.int .i64 t,.int .i64 v]] w λe g=>e=.returned (.tuple #[.slice none 0 0,.iface 24 (.int .i64 10)])/\ai g base b d u q { x with late:=bR x.late}/\Turned (λj=>j=b) w g:=by
 have c:=iN k t v (w.alloc (.cells #[.int .i64 k,.int .i64 t,.int .i64 v] 37));rw[y]at c
 have z: -1099511627776<=t/\t<=1099511627776:=by simp[au,iG]at y;omega
 have m:=hid h;have hlt:=h.lt;have O6:=h.ltm
 have A:decide (t<=kW x.m0 x.m1 s)=true:=by simpa using p
 have i:=λW=>rT x.late W r n
 clear h p z r n;go_enter func45,ntmps45
 go_wp2_with (first
  |(go_at_call 95;refine(bH _ _).mono ?_;rintro e g ⟨rfl,rfl⟩;rw[l])
  |(go_at_call 96;refine c.mono ?_;rintro e o ⟨rfl,a⟩;have f:Hid (fF w k t v o):=(show fF w k t v o from⟨(wh w _).trans (a.mono (by simp)),(a.block _ (by simp)).trans (vw _ _)⟩);clear a)
  |fail)
 clear c;have hc1:=(m.out.below f.out.low).cells;have hm1:=(m.out.below f.out.low).marks;have hx1:=f.out.cells
 go_region_held3 (λW=>W.cell? ⟨b,3,none⟩=some (.pointer (some ⟨d,0,none⟩))/\W.cell? ⟨w.heap.size,1,none⟩=some (.int .i64 t)/\W.cell? ⟨d,0,none⟩=some (.int .i64 x.m0)/\W.cell? ⟨d,1,none⟩=some (.int .i64 x.m1)) (first|(go_keep;done)|fail) (first
  |(go_at_call 97;refine(gB d x.m0 x.m1 _ t _ ?_ ?_).mono ?_;(go_simp);(go_simp);rintro e g ⟨rfl,rfl⟩;rw[A])
  |fail)
 go_wp2_with (first
  |(go_at_call 98;refine(i _).mono ?_;rintro e g ⟨rfl,rfl⟩)
  |fail)
 refine CU (v:= .tuple #[.slice none 0 0,.iface 24 (.int .i64 10)]) (by simp[results,Tryz.results45,go_sem]) rfl ⟨rfl,(m.out.below f.out.low.drew).cell4 _,?_⟩;exact(Turned.of_below f.out.low.drew).trans bC (λ_ _ e=>e)
theorem aaH(base b a:Nat)(z u:Value)(x:J)(s k t v:Int)(w:World)(h:ai w base b a z u x)(p:au k t v=true)
  (L: -1048576<=x.lo) (E:x.lo<=1048576) (B: -1048576<=x.hi) (C:x.hi<=1048576) (H:s=0/\x.m0<t/\x.m1<t+x.hi/\300<=x.R0.length∨s=1/\x.m1<t/\x.m0<t+ -x.lo/\300<=x.R1.length):
  Calls prog 45 #[.pointer (some ⟨b,0,none⟩),.int .i64 s,.agg #[.int .i64 k,.int .i64 t,.int .i64 v]] w λe d=>e=.returned (.tuple #[.slice none 0 0,.iface 24 (.int .i64 12)])/\Below w.heap.size w d:=by
 have f:=iN k t v (w.alloc (.cells #[.int .i64 k,.int .i64 t,.int .i64 v] 37));rw[p]at f
 have K: -1099511627776<=t/\t<=1099511627776:=by simp[au,iG]at p;omega
 have y:=hid h;have hlt:=h.lt;have O6:=h.ltm
 rcases H with⟨rfl,r,I,m⟩|⟨rfl,r,I,m⟩
 case' inl=>
  have i:bM 0=true:=rfl
  have n:decide (t<=kW x.m0 x.m1 0)=false:=by simp[kW];omega
  have o:kW x.m0 x.m1 1=x.m1:=by simp[kW]
  have F:IntKind.i64.wrap (t+x.lo)=t+x.lo:=uk (by omega) (by omega);have G:IntKind.i64.wrap (t+x.hi)=t+x.hi:=uk (by omega) (by omega)
  have A:=hid λ(W:World) (l:Below w.heap.size w W)=>kg base b 4 z x.R0 W (h.below l).side0
  have j:=trivial
 case' inr=>
  have i:bM 1=true:=rfl
  have n:decide (t<=kW x.m0 x.m1 1)=false:=by simp[kW];omega
  have o:kW x.m0 x.m1 0=x.m0:=by simp[kW]
  have F:IntKind.i64.wrap (t+ -x.hi)=t+ -x.hi:=uk (by omega) (by omega);have G:IntKind.i64.wrap (t+ -x.lo)=t+ -x.lo:=uk (by omega) (by omega)
  have A:=hid λ(W:World) (l:Below w.heap.size w W)=>kg base b 5 u x.R1 W (h.below l).side1
 all_goals
  have i1:=Int.ofNat_le.2 m;clear h r K m;go_enter func45,ntmps45
  go_wp2_with (first
   |(go_at_call 95;refine(bH _ _).mono ?_;rintro e d ⟨rfl,rfl⟩;rw[i])
   |(go_at_call 96;refine f.mono ?_;rintro e q ⟨rfl,c⟩;have g:Hid (fF w k t v q):=(show fF w k t v q from⟨(wh w _).trans (c.mono (by simp)),(c.block _ (by simp)).trans (vw _ _)⟩);clear c)
   |fail)
  clear f;have hc1:=(y.out.below g.out.low).cells;have hm1:=(y.out.below g.out.low).marks;have hx1:=g.out.cells
  go_region_held3 (λW=>W.cell? ⟨b,3,none⟩=some (.pointer (some ⟨a,0,none⟩))/\W.cell? ⟨w.heap.size,1,none⟩=some (.int .i64 t)/\W.cell? ⟨a,0,none⟩=some (.int .i64 x.m0)/\W.cell? ⟨a,1,none⟩=some (.int .i64 x.m1)) (first|(go_keep;done)|fail) (first
   |(go_at_call 97;refine(gB a x.m0 x.m1 _ t _ ?_ ?_).mono ?_;(go_simp);(go_simp);rintro e d ⟨rfl,rfl⟩;rw[n])
   |fail)
  go_wp2_with (first
   |(go_at_call 99;(first|(have _:=j;refine(qG b x.lo x.hi _ (by go_simp) (by go_simp)).mono ?_)|(refine(oH b x.lo x.hi _ (by go_simp) (by go_simp) L E B C).mono ?_));rintro e d ⟨rfl,rfl⟩)
   |fail)
  go_region_held3 (λW=>W.cell? ⟨b,3,none⟩=some (.pointer (some ⟨a,0,none⟩))/\W.cell? ⟨w.heap.size,1,none⟩=some (.int .i64 t)/\W.cell? ⟨a,0,none⟩=some (.int .i64 x.m0)/\W.cell? ⟨a,1,none⟩=some (.int .i64 x.m1)) (first|(go_keep;done)|fail) (first
   |(go_at_call 101;(first|(have _:=j;refine(ig _).mono ?_)|(refine(jm _).mono ?_));rintro e d ⟨rfl,rfl⟩)
   |(go_at_call 100;refine(jl a x.m0 x.m1 _ _ ?_ ?_).mono ?_;(go_simp);(go_simp);rintro e d ⟨rfl,rfl⟩;rw[o])
   |fail)
  go_wp2_with (first
   |(go_at_call 102;refine(A.out _ g.out.low.drew.drew.drew).mono ?_;rintro e d ⟨rfl,rfl⟩)
   |fail)
  exact CU (v:= .tuple #[.slice none 0 0,.iface 24 (.int .i64 12)]) (by simp[results,Tryz.results45,go_sem]) rfl ⟨rfl,g.out.low.drew.drew.drew⟩
end
section
open Go.Proofs.Tryz Go.Shelf
theorem ai.marked{w f:World}{base b a:Nat}{j i:Value}{x:J}{l r:Int}(h:ai w base b a j i x)(k:f.heap[a]?= some (.cells #[.int .i64 l,.int .i64 r] 250))(c:Only a w f):ai f base b a j i { x with m0:=l,m1:=r } :=
  ⟨(c.block b (λe => h.ne e.symm)).trans h.blk,k,ag h.r0 (λg e => c.block g (λd => own_ne h.r0 h.mks (by omega) (by rw[<- d]; exact e))),ag h.r1 (λg e => c.block g (λd => own_ne h.r1 h.mks (by omega) (by rw[<- d]; exact e))),h.apart⟩
theorem GG(k:Int)(w:World):(binOp .neq 29 (.iface 24 (.int .i64 k)) .nilIface).run prog w = .ok (.bool true) w:=by kernel_rfl
theorem Ll(base b d:Nat)(l j:Value)(x:J)(s t:Int)(w:World)(h:ai w base b d l j x)(g:moveE x.m0 x.m1 s t≠0) :
    Calls prog 51 #[.pointer (some ⟨b,0,none⟩),.int .i64 s,.int .i64 t] w λe a => e = .returned (.iface 24 (.int .i64 (moveE x.m0 x.m1 s t)))/\Below w.heap.size w a:=by
  have hc:=h.cells
  have f:Calls prog 111 #[.pointer (some ⟨d,0,none⟩),.int .i64 s,.int .i64 t] w λe a => e = .returned (.iface 24 (.int .i64 (moveE x.m0 x.m1 s t)))/\Below w.heap.size w a:=by
    refine(mQ d x.m0 x.m1 s t w h.mks).mono ?_
    rintro e a ⟨rfl,i,c⟩
    refine⟨by simp[SG,g],c.os,c.tape,c.output,Nat.le_of_eq c.size,λk hk => ?_⟩
    by_cases e:k=d
    · subst e
      rw[i,h.mks]
      simp[uh,uj,g]
    · exact c.block k e
  have hq:=GG
  generalize moveE x.m0 x.m1 s t=E at *
  clear h
  go_enter func51,ntmps51
  go_wp2_with (go_at_call 111; refine f.mono ?_; rintro e a ⟨rfl,m⟩)
  go_ret
  exact⟨rfl,m⟩
theorem AX(base b a:Nat)(l f:Value)(x:J)(t:Int)(w:World)(h:ai w base b a l f x)(i:moveE x.m0 x.m1 0 t=0)(F:x.R1.length<=100000)
    (K : -1048576<=x.lo) (H:x.lo<=1048576) (v : -1048576<=x.hi) (z:x.hi<=1048576) :
    Calls prog 51 #[.pointer (some ⟨b,0,none⟩),.int .i64 0,.int .i64 t] w λe c => e = .returned .nilIface/\∃ v',ai c base b a l v' { x with m0:=t,R1:=keepR (λy => decide (y.t<=t+x.lo)) x.R1 }/\Turned (λj => j=b∨j=a∨f.ownBlock=some j) w c/\v'.ownBlock=f.ownBlock:=by
  have hc:=h.cells
  have G : -1099511627776<=t/\t<=1099511627776:=by
    unfold moveE at i
    rw[if_neg (by decide)]at i
    split at i
    · cases i
    · omega
  have e1:IntKind.i64.wrap (t+x.lo)=t+x.lo:=uk (by omega) (by omega)
  have q:Calls prog 111 #[.pointer (some ⟨a,0,none⟩),.int .i64 0,.int .i64 t] w λe c => e = .returned .nilIface/\ai c base b a l f { x with m0:=t }/\Turned (λj => j=a) w c:=by
    refine(mQ a x.m0 x.m1 0 t w h.mks).mono ?_
    rintro e c ⟨rfl,g,d⟩
    refine⟨by simp[SG,i],?_,d.os,d.tape,d.output,Nat.le_of_eq d.size,λk hk I => d.block k I⟩
    have C:uh x.m0 x.m1 0 t=t:=by simp[uh,i]
    have A:uj x.m0 x.m1 0 t=x.m1:=by simp[uj,i]
    rw[C,A]at g
    exact h.marked g d
  have E:Hid (∀ W,ai W base b a l f { x with m0:=t }->Turned (λj => j=a) w W->Calls prog 112 #[.pointer (some ⟨b,5,none⟩),.int .i64 (t+x.lo)] W λe c => (∃ n,e = .returned (.int .i64 n))/\Hid (∃ v',ai c base b a l v' { x with m0:=t,R1:=keepR (λy => decide (y.t<=t+x.lo)) x.R1 }/\Turned (λj => j=b∨j=a∨f.ownBlock=some j) w c/\v'.ownBlock=f.ownBlock)):=by
    intro W s B
    refine(AY base b 5 f x.R1 (t+x.lo) W s.side1 F).mono ?_
    rintro e c ⟨rfl,v',g,d,m⟩
    refine⟨⟨_,rfl⟩,v',s.put1 g d (Or.inl m),?_,m⟩
    exact(B.mono (S':=λj => j=b∨j=a∨f.ownBlock=some j) (λk e => Or.inr (Or.inl e))).trans (Turned.of_keep (S:=λj => j=b∨j=a∨f.ownBlock=some j) d (Or.inl rfl) (λk e => Or.inr (Or.inr e))) (λ_ _ e => e)
  clear h i G
  go_enter func51,ntmps51
  go_wp2_with (first
    | (go_at_call 111; refine q.mono ?_; rintro e o ⟨rfl,g,d⟩; have hc1:=g.cells; have u:Hid (ai o base b a l f { x with m0:=t }/\Turned (λj => j=a) w o):=⟨g,d⟩; clear g d)
    | (go_at_call 101; refine(ig _).mono ?_; rintro e c ⟨rfl,p⟩; have p:=p.symm; subst p)
    | (go_at_call 99; refine(oH b x.lo x.hi _ (by go_simp) (by go_simp) K H v z).mono ?_; rintro e c ⟨rfl,rfl⟩)
    | fail)
  have r:Hid (ai o.drew.drew base b a l f { x with m0:=t }/\Turned (λj => j=a) w o.drew.drew):=⟨u.out.1.below ((zI _ _).drew.drew),u.out.2.trans (Turned.of_below (S:=λ_ => False) ((zI _ _).drew.drew)) (λ_ _ e => e.elim)⟩
  go_region_held3 (λW => True) (first | trivial | fail) (first
    | (go_at_call 101; refine(ig _).mono ?_; rintro e c ⟨rfl,rfl⟩)
    | (go_at_call 112; refine(E.out _ r.out.1 r.out.2).mono ?_; rintro e w3 ⟨⟨n3,rfl⟩,m⟩)
    | fail)
  go_wp2
  go_ret
  exact⟨rfl,m.out⟩
theorem AZ(base b a:Nat)(f l:Value)(x:J)(t:Int)(w:World)(h:ai w base b a f l x)(g:moveE x.m0 x.m1 1 t=0)(A:x.R0.length<=100000)
    (p3 : -1048576<=x.hi) (p4:x.hi<=1048576) :
    Calls prog 51 #[.pointer (some ⟨b,0,none⟩),.int .i64 1,.int .i64 t] w λe c => e = .returned .nilIface/\∃ v',ai c base b a v' l { x with m1:=t,R0:=keepR (λy => decide (y.t<=t-x.hi)) x.R0 }/\Turned (λj => j=b∨j=a∨f.ownBlock=some j) w c/\v'.ownBlock=f.ownBlock:=by
  have hc:=h.cells
  have E : -1099511627776<=t/\t<=1099511627776:=by
    unfold moveE at g
    rw[if_neg (by decide)]at g
    split at g
    · cases g
    · omega
  have e1:IntKind.i64.wrap (t-x.hi)=t-x.hi:=uk (by omega) (by omega)
  have q:Calls prog 111 #[.pointer (some ⟨a,0,none⟩),.int .i64 1,.int .i64 t] w λe c => e = .returned .nilIface/\ai c base b a f l { x with m1:=t }/\Turned (λj => j=a) w c:=by
    refine(mQ a x.m0 x.m1 1 t w h.mks).mono ?_
    rintro e c ⟨rfl,i,d⟩
    refine⟨by simp[SG,g],?_,d.os,d.tape,d.output,Nat.le_of_eq d.size,λk hk F => d.block k F⟩
    have C:uh x.m0 x.m1 1 t=x.m0:=by simp[uh,g]
    have B:uj x.m0 x.m1 1 t=t:=by simp[uj,g]
    rw[C,B]at i
    exact h.marked i d
  have z:Hid (∀ W,ai W base b a f l { x with m1:=t }->Turned (λj => j=a) w W->Calls prog 112 #[.pointer (some ⟨b,4,none⟩),.int .i64 (t-x.hi)] W λe c => (∃ n,e = .returned (.int .i64 n))/\Hid (∃ v',ai c base b a v' l { x with m1:=t,R0:=keepR (λy => decide (y.t<=t-x.hi)) x.R0 }/\Turned (λj => j=b∨j=a∨f.ownBlock=some j) w c/\v'.ownBlock=f.ownBlock)):=by
    intro W r v
    refine(AY base b 4 f x.R0 (t-x.hi) W r.side0 A).mono ?_
    rintro e c ⟨rfl,v',i,d,m⟩
    refine⟨⟨_,rfl⟩,v',r.put0 i d (Or.inl m),?_,m⟩
    exact(v.mono (S':=λj => j=b∨j=a∨f.ownBlock=some j) (λk e => Or.inr (Or.inl e))).trans (Turned.of_keep (S:=λj => j=b∨j=a∨f.ownBlock=some j) d (Or.inl rfl) (λk e => Or.inr (Or.inr e))) (λ_ _ e => e)
  clear h g E
  go_enter func51,ntmps51
  go_wp2_with (first
    | (go_at_call 111; refine q.mono ?_; rintro e o ⟨rfl,i,d⟩; have hc1:=i.cells; have s:Hid (ai o base b a f l { x with m1:=t }/\Turned (λj => j=a) w o):=⟨i,d⟩; clear i d)
    | (go_at_call 101; refine(jm _).mono ?_; rintro e c ⟨rfl,p⟩; have p:=p.symm; subst p)
    | (go_at_call 99; refine(qG b x.lo x.hi _ (by go_simp) (by go_simp)).mono ?_; rintro e c ⟨rfl,rfl⟩)
    | fail)
  have u:Hid (ai o.drew.drew base b a f l { x with m1:=t }/\Turned (λj => j=a) w o.drew.drew):=⟨s.out.1.below ((zI _ _).drew.drew),s.out.2.trans (Turned.of_below (S:=λ_ => False) ((zI _ _).drew.drew)) (λ_ _ e => e.elim)⟩
  go_region_held3 (λW => True) (first | trivial | fail) (first
    | (go_at_call 101; refine(jm _).mono ?_; rintro e c ⟨rfl,rfl⟩)
    | (go_at_call 112; refine(z.out _ u.out.1 u.out.2).mono ?_; rintro e w3 ⟨⟨n3,rfl⟩,m⟩)
    | fail)
  go_wp2
  go_ret
  exact⟨rfl,m.out⟩
theorem kz(n:Int)(w:World):Calls prog 183 #[.int .i64 n] w λe a => e = .returned (.bool (decide (-1048576<=n/\n<=1048576)))/\a=w:=by
  by_cases h : -1048576<=n
  · go_enter func183,ntmps183
    go_wp2
    go_ret
    exact⟨aN (by simp[h]),rfl⟩
  · go_enter func183,ntmps183
    go_wp2
    go_ret
    exact⟨aN (by simp; omega),rfl⟩
theorem Il(n:Int)(w:World)(h:0<=n/\n<=3):Calls prog 184 #[.int .i64 n] w λe a => e = .returned (.bool true)/\a=w:=by
  have: n=0∨n=1∨n=2∨n=3:=by omega
  rcases this with rfl | rfl | rfl | rfl <;>
    (go_enter func184,ntmps184
     go_wp2
     go_ret
     exact⟨rfl,rfl⟩)
def dn(lo hi mode:Int):Prop:=(-1048576<=lo/\lo<=1048576)/\(-1048576<=hi/\hi<=1048576)/\lo<=hi/\(0<=mode/\mode<=3)
theorem Pf(lo hi mode:Int)(w:World)(h:dn lo hi mode):Calls prog 109 #[.agg #[.int .i64 lo,.int .i64 hi,.int .i64 mode]] w λe a => e = .returned .nilIface/\a=w.alloc (.cells #[.int .i64 lo,.int .i64 hi,.int .i64 mode] 45):=by
  obtain⟨h1,h2,h3,h4⟩:=h
  have d1:decide (-1048576<=lo/\lo<=1048576)=true:=by simp; omega
  have d2:decide (-1048576<=hi/\hi<=1048576)=true:=by simp; omega
  have h3':¬ hi<lo:=by omega
  clear h1 h2 h3
  go_enter func109,ntmps109
  go_wp2_with (first
    | (go_at_call 183; refine(kz _ _).mono ?_; rintro e a ⟨rfl,rfl⟩; first | rw[d1] | rw[d2])
    | (go_at_call 184; refine(Il _ _ h4).mono ?_; rintro e a ⟨rfl,rfl⟩)
    | fail)
  go_ret
  exact⟨rfl,rfl⟩
theorem Sm(lo hi mode:Int)(w:World)(h:dn lo hi mode):Calls prog 48 #[.agg #[.int .i64 lo,.int .i64 hi,.int .i64 mode]] w λe a => ∃ b f,e = .returned (.tuple #[.pointer (some ⟨b,0,none⟩),.nilIface])/\w.heap.size<=b/\w.heap.size<=f/\Below w.heap.size w a/\ai a w.heap.size b f (.slice none 0 0) (.slice none 0 0) ⟨lo,hi,mode,-1099511627777,-1099511627777,0,[],[]⟩:=by
  have c:=λW => Pf lo hi mode W h
  clear h
  go_enter func48,ntmps48
  go_wp2_with (first
    | (go_at_call 109; refine(c _).mono ?_; rintro e a ⟨rfl,rfl⟩)
    | fail)
  go_region_held3 (λW => W.cell? ⟨w.heap.size,0,none⟩=some (.int .i64 lo)/\W.cell? ⟨w.heap.size,1,none⟩=some (.int .i64 hi)/\W.cell? ⟨w.heap.size,2,none⟩=some (.int .i64 mode)) (first | (go_keep; done) | (refine⟨?_,?_,?_⟩ <;> go_simp; done) | fail) (first
    | (go_at_call 110; refine(ED _).mono ?_; rintro e a ⟨rfl,rfl⟩)
    | fail)
  go_wp2
  refine CU (v := .tuple #[.pointer (some ⟨w.heap.size+1+1+1,0,none⟩),.nilIface]) (by simp[results,Tryz.results48,go_sem]) rfl ⟨w.heap.size+1+1+1,w.heap.size+1+1,rfl,by omega,by omega,?_,?_⟩
  · exact(Below.alloc (below_alloc3 w _ _ _) (by simp; omega) _).drew
  · refine⟨?_,?_,Ak _ _ _ _,Ak _ _ _ _,λg e => by cases e⟩
    · have:= vw (((w.alloc (.cells #[.int .i64 lo,.int .i64 hi,.int .i64 mode] 45)).alloc (.cells #[.int .i64 lo,.int .i64 hi,.int .i64 mode] 45)).alloc (.cells #[.int .i64 (-1099511627777),.int .i64 (-1099511627777)] 250)) (.cells #[.int .i64 lo,.int .i64 hi,.int .i64 mode,.pointer (some ⟨w.heap.size+1+1,0,none⟩),.slice none 0 0,.slice none 0 0,.int .i64 0] 186)
      simp only [World.size_alloc]at this
      exact this
    · have d:=vw ((w.alloc (.cells #[.int .i64 lo,.int .i64 hi,.int .i64 mode] 45)).alloc (.cells #[.int .i64 lo,.int .i64 hi,.int .i64 mode] 45)) (.cells #[.int .i64 (-1099511627777),.int .i64 (-1099511627777)] 250)
      have i:=zk (((w.alloc (.cells #[.int .i64 lo,.int .i64 hi,.int .i64 mode] 45)).alloc (.cells #[.int .i64 lo,.int .i64 hi,.int .i64 mode] 45)).alloc (.cells #[.int .i64 (-1099511627777),.int .i64 (-1099511627777)] 250)) (.cells #[.int .i64 lo,.int .i64 hi,.int .i64 mode,.pointer (some ⟨w.heap.size+1+1,0,none⟩),.slice none 0 0,.slice none 0 0,.int .i64 0] 186) (w.heap.size+1+1) (by simp)
      simp only [World.size_alloc]at d
      exact i.trans d
end
section
open Go.Sort
theorem EU(a t1 c d t2 b:Int)(w:World):
  Calls Tryz.prog 168 #[.agg #[.int .i64 a,.int .i64 t1,.int .i64 c],.agg #[.int .i64 d,.int .i64 t2,.int .i64 b]] w λe f=>e=.returned (.agg #[.int .i64 a,.int .i64 a,.int .i64 t1,.int .i64 c,.int .i64 d,.int .i64 t2,.int .i64 b,.bool true,.bool true])/\Below w.heap.size w f:=by
 refine(uq a t1 c d t2 b w).mono ?_;rintro e f ⟨rfl,rfl⟩;exact⟨rfl,(wT _ _ _).trans ((wh _ _).mono (by simp;omega))⟩
end
end Go.Proofs.YthfpipieboophaaGreatDoor
