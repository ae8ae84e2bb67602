import Derived.Test.YthfpipieboophaaGreatDoorZJna
namespace Go.Proofs.YthfpipieboophaaGreatDoor
set_option maxRecDepth 100000
set_option maxHeartbeats 40000000
open Go.Joins Go.RowKit
section
open Go.Proofs.Tryz Go.Shelf
variable{w:World}{b:Nat}
theorem ai.cell4{base c:Nat}{i f:Value}{x:J}(h:ai w base b c i f x)(n:Int):
  ai (w.setCell ⟨b,6,none⟩ (.int .i64 n)) base b c i f { x with late:=n}:=by
 have a:∀k,k≠b->(w.setCell ⟨b,6,none⟩ (.int .i64 n)).heap[k]?=w.heap[k]? :=λk e=>iJ _ _ _ _ e
 exact⟨fZ h.blk _,(a c h.ne).trans h.mks,ag h.r0 (λg e=>a g (λd=>own_ne h.r0 h.blk (by omega) (by rw[<-d];exact e))),ag h.r1 (λg e=>a g (λd=>own_ne h.r1 h.blk (by omega) (by rw[<-d];exact e))),h.apart⟩
theorem bC{o:Nat}{u:Value}:Turned (λj=>j=b) w (w.setCell ⟨b,o,none⟩ u):=⟨rfl,rfl,rfl,by simp,λk _ a=>iJ _ _ _ _ a⟩
theorem AV(base b a:Nat)(f d:Value)(x:J)(w:World)(h:ai w base b a f d x):
  Calls prog 67 #[.pointer (some ⟨b,0,none⟩)] w λe c=>e=.returned (.int .i64 x.late)/\c=w:=by
 have hc:=h.cells;clear h;go_enter func67,ntmps67;go_wp2;go_ret;exact⟨rfl,rfl⟩
theorem Lj(base b c:Nat)(g f:Value)(x:J)(s:Int)(w:World)(h:ai w base b c g f x):
  Calls prog 64 #[.pointer (some ⟨b,0,none⟩),.int .i64 s] w λe d=>e=.returned (.int .i64 (kW x.m0 x.m1 s))/\d=w:=by
 have hc:=h.cells;have a:=jl c x.m0 x.m1 s w h.marks.1 h.marks.2;clear h;go_enter func64,ntmps64
 go_wp2_with (go_at_call 100;refine a.mono ?_;rintro e d ⟨rfl,rfl⟩)
 go_ret;exact⟨rfl,rfl⟩
theorem adt(b:Nat)(s k t v met:Int)(w:World)(c:bM s=false):Calls prog 164 #[.pointer (some ⟨b,0,none⟩),.int .i64 s,.agg #[.int .i64 k,.int .i64 t,.int .i64 v],.int .i64 met] w λe a=>e=.returned (.iface 24 (.int .i64 1))/\Below w.heap.size w a:=by
 go_enter func164,ntmps164
 go_wp2_with (go_at_call 95;refine(bH _ _).mono ?_;rintro e a ⟨rfl,rfl⟩;rw[c])
 go_ret;exact⟨rfl,fC _ _⟩
theorem zP(base b a:Nat)(f d:Value)(x:J)(n:Int)(w:World)(h:ai w base b a f d x):
  Calls prog 241 #[.pointer (some ⟨b,0,none⟩),.int .i64 n] w λe c=>e=.returned (.tuple #[])/\ai c base b a f d { x with late:=max n 0}/\Turned (λj=>j=b) w c:=by
 have hc:=h.cells;have g:=hid h;clear h;go_enter func241,ntmps241;go_wp2
 go_end0
 exact⟨rfl,g.out.cell4 _,bC⟩
theorem O9(b:Nat)(s k t v:Int)(w:World)(h:bM s=false∨au k t v=false):
  Calls prog 45 #[.pointer (some ⟨b,0,none⟩),.int .i64 s,.agg #[.int .i64 k,.int .i64 t,.int .i64 v]] w λe c=>e=.returned (.tuple #[.slice none 0 0,.iface 24 (.int .i64 1)])/\Below w.heap.size w c:=by
 cases hs:bM s
 .go_enter func45,ntmps45
  go_wp2_with (go_at_call 95;refine(bH _ _).mono ?_;rintro e c ⟨rfl,rfl⟩;rw[hs])
  exact ja (v:= .tuple #[.slice none 0 0,.iface 24 (.int .i64 1)]) (by simp[results,Tryz.results45,go_sem]) rfl ⟨rfl,fC _ _⟩
 .have f:au k t v=false:=by
   rcases h with h|h
   .rw[hs]at h;cases h
   .exact h
  have a:=iN k t v (w.alloc (.cells #[.int .i64 k,.int .i64 t,.int .i64 v] 37));rw[f]at a;go_enter func45,ntmps45
  go_wp2_with (first
   |(go_at_call 95;refine(bH _ _).mono ?_;rintro e c ⟨rfl,rfl⟩;rw[hs])
   |(go_at_call 96;refine a.mono ?_;rintro e w1 ⟨rfl,d⟩)
   |fail)
  exact ja (v:= .tuple #[.slice none 0 0,.iface 24 (.int .i64 1)]) (by simp[results,Tryz.results45,go_sem]) rfl ⟨rfl,(fC w _).trans (d.mono (by simp))⟩
theorem Vp(base b g:Nat)(f k:Value)(x:J)(w:World)(h:ai w base b g f k x)(m:x.R0.length<=100000):
  Calls prog 65 #[.pointer (some ⟨b,0,none⟩),.int .i64 0] w λe a=>∃c,e=.returned c/\a.ownsRow w.heap.size 130 4 c x.R0.length (x.R0.flatMap ak)/\Below w.heap.size w a:=by
 have l:=EG base b 4 f x.R0 w h.side0 m;have d:bM 0=true:=rfl;clear h;go_enter func65,ntmps65
 go_wp2_with (first
  |(go_at_call 95;refine(bH _ _).mono ?_;rintro e a ⟨rfl,rfl⟩;rw[d])
  |(go_at_call 116;refine l.mono ?_;rintro e a ⟨c,rfl,j,i⟩)
  |fail)
 go_ret;exact⟨c,rfl,j,i⟩
theorem aaW(b:Nat)(s:Int)(o:Nat)(h:s=0/\o=4∨s=1/\o=5)(k t v met:Int)(x:Value)(Q:World->Prop)(w:World)
  (f:∀W,fF w k t v W->Calls prog 104 #[.pointer (some ⟨b,o,none⟩),.agg #[.int .i64 k,.int .i64 t,.int .i64 v],.int .i64 met] W λe a=>e=.returned x/\a.heap[w.heap.size]?=some (.cells #[.int .i64 k,.int .i64 t,.int .i64 v] 37)/\Hid (Q a)):
  Calls prog 164 #[.pointer (some ⟨b,0,none⟩),.int .i64 s,.agg #[.int .i64 k,.int .i64 t,.int .i64 v],.int .i64 met] w λe a=>e=.returned x/\Q a:=by
 have i:=hid f;clear f;have d:Hid (fF w k t v (w.alloc (.cells #[.int .i64 k,.int .i64 t,.int .i64 v] 37)).drew):=(show fF w k t v (w.alloc (.cells #[.int .i64 k,.int .i64 t,.int .i64 v] 37)).drew from⟨(fC _ _).drew,eZ _ _⟩);have hx1:=d.out.cells
 rcases h with⟨rfl,rfl⟩|⟨rfl,rfl⟩
 case' inl=>have c:bM 0=true:=rfl
 case' inr=>have c:bM 1=true:=rfl
 all_goals
  go_enter func164,ntmps164
  go_wp2_with (first
   |(go_at_call 95;refine(bH _ _).mono ?_;rintro e a ⟨rfl,rfl⟩;rw[c])
   |fail)
  go_region_held3 (λW=>W.cell? ⟨w.heap.size,0,none⟩=some (.int .i64 k)/\W.cell? ⟨w.heap.size,1,none⟩=some (.int .i64 t)/\W.cell? ⟨w.heap.size,2,none⟩=some (.int .i64 v)) (first|(go_keep;done)|fail) (first
   |(go_at_call 104;refine(i.out _ d.out).mono ?_;rintro e a ⟨rfl,g,j⟩;have hx2:=iq g)
   |fail)
  go_wp2;go_ret;exact⟨rfl,j.out⟩
theorem ab5(b:Nat)(k t v met:Int)(w:World)(h:au k t v=false∨met<0):
  Calls prog 164 #[.pointer (some ⟨b,0,none⟩),.int .i64 0,.agg #[.int .i64 k,.int .i64 t,.int .i64 v],.int .i64 met] w λe a=>e=.returned (.iface 24 (.int .i64 1))/\Below w.heap.size w a:=by
 have f:Hid (∀W,fF w k t v W->Calls prog 104 #[.pointer (some ⟨b,4,none⟩),.agg #[.int .i64 k,.int .i64 t,.int .i64 v],.int .i64 met] W λe a=>e=.returned (.iface 24 (.int .i64 1))/\Below w.heap.size w a/\a.heap[w.heap.size]?=some (.cells #[.int .i64 k,.int .i64 t,.int .i64 v] 37)):=λW c=>(abg b 4 k t v met W h).mono (by rintro e a ⟨rfl,d⟩;exact⟨rfl,(c.go d).low,(c.go d).box⟩)
 exact aaW b 0 4 (.inl ⟨rfl,rfl⟩) k t v met _ _ w (λW c=>(f.out W c).mono λ_ _ q=>⟨q.1,q.2.2,q.2.1⟩)
theorem ac3(base b g:Nat)(f l:Value)(x:J)(k t v met:Int)(w:World)(h:ai w base b g f l x)(n:300<=x.R0.length)(i:au k t v=true)(j:0<=met):
  Calls prog 164 #[.pointer (some ⟨b,0,none⟩),.int .i64 0,.agg #[.int .i64 k,.int .i64 t,.int .i64 v],.int .i64 met] w λe a=>e=.returned (.iface 24 (.int .i64 12))/\Below w.heap.size w a:=by
 have m:Hid (∀W,fF w k t v W->Calls prog 104 #[.pointer (some ⟨b,4,none⟩),.agg #[.int .i64 k,.int .i64 t,.int .i64 v],.int .i64 met] W λe a=>e=.returned (.iface 24 (.int .i64 12))/\Below w.heap.size w a/\a.heap[w.heap.size]?=some (.cells #[.int .i64 k,.int .i64 t,.int .i64 v] 37)):=λW c=>(aa6 base b 4 f x.R0 k t v met W (h.below c.low).side0 n i j).mono (by rintro e a ⟨rfl,d⟩;exact⟨rfl,(c.go d).low,(c.go d).box⟩)
 exact aaW b 0 4 (.inl ⟨rfl,rfl⟩) k t v met _ _ w (λW c=>(m.out W c).mono λ_ _ q=>⟨q.1,q.2.2,q.2.1⟩)
theorem Pb(base b o:Nat)(f r:Value)(x:J)(k t v met:Int)(w:World)(h:ai w base b o f r x)(l:base<=w.heap.size)(u:ay x.R0)(E:x.R0.length<300)(y:au k t v=true)(A:0<=met):
  Calls prog 164 #[.pointer (some ⟨b,0,none⟩),.int .i64 0,.agg #[.int .i64 k,.int .i64 t,.int .i64 v],.int .i64 met] w λe i=>e=.returned .nilIface/\∃d,ai i base b o d r { x with R0:=bT x.R0 (aV k (t+1) x.R0) ⟨k,t,v,met⟩}/\Turned (λj=>j=b∨f.ownBlock=some j) w i/\dF w f d:=by
 have C:Hid (∀W,fF w k t v W->Calls prog 104 #[.pointer (some ⟨b,4,none⟩),.agg #[.int .i64 k,.int .i64 t,.int .i64 v],.int .i64 met] W λe i=>e=.returned .nilIface/\i.heap[w.heap.size]?=some (.cells #[.int .i64 k,.int .i64 t,.int .i64 v] 37)/\Hid (∃d,ai i base b o d r { x with R0:=bT x.R0 (aV k (t+1) x.R0) ⟨k,t,v,met⟩}/\Turned (λj=>j=b∨f.ownBlock=some j) w i/\dF w f d)):=by
  intro W s;have n:=s.low;refine(lD base b 4 f x.R0 k t v met W (h.below n).side0 u E (aH l n.size) y A).mono ?_;rintro e i ⟨rfl,d,B,p,z⟩;have m:dF W f d:=z;have q:=(p.block w.heap.size (ax.1 s.box).1 (by have:=h.lt;omega) (λe=>by have:=(h.r0.lt _ e).2;omega)).trans s.box;exact⟨rfl,q,d,(h.below n).put0 B p m,(Turned.of_below n).trans (Turned.of_keep (S:=λj=>j=b∨f.ownBlock=some j) p (Or.inl rfl) (λk e=>Or.inr e)) (λ_ _ e=>e),m.imp id (λ⟨g,a,c⟩=>⟨g,a,aH n.size c⟩)⟩
 exact aaW b 0 4 (.inl ⟨rfl,rfl⟩) k t v met _ _ w C.out
theorem Vq(base b g:Nat)(k f:Value)(x:J)(w:World)(h:ai w base b g k f x)(m:x.R1.length<=100000):
  Calls prog 65 #[.pointer (some ⟨b,0,none⟩),.int .i64 1] w λe a=>∃c,e=.returned c/\a.ownsRow w.heap.size 130 4 c x.R1.length (x.R1.flatMap ak)/\Below w.heap.size w a:=by
 have l:=EG base b 5 f x.R1 w h.side1 m;have d:bM 1=true:=rfl;clear h;go_enter func65,ntmps65
 go_wp2_with (first
  |(go_at_call 95;refine(bH _ _).mono ?_;rintro e a ⟨rfl,rfl⟩;rw[d])
  |(go_at_call 116;refine l.mono ?_;rintro e a ⟨c,rfl,j,i⟩)
  |fail)
 go_ret;exact⟨c,rfl,j,i⟩
theorem ab6(b:Nat)(k t v met:Int)(w:World)(h:au k t v=false∨met<0):
  Calls prog 164 #[.pointer (some ⟨b,0,none⟩),.int .i64 1,.agg #[.int .i64 k,.int .i64 t,.int .i64 v],.int .i64 met] w λe a=>e=.returned (.iface 24 (.int .i64 1))/\Below w.heap.size w a:=by
 have f:Hid (∀W,fF w k t v W->Calls prog 104 #[.pointer (some ⟨b,5,none⟩),.agg #[.int .i64 k,.int .i64 t,.int .i64 v],.int .i64 met] W λe a=>e=.returned (.iface 24 (.int .i64 1))/\Below w.heap.size w a/\a.heap[w.heap.size]?=some (.cells #[.int .i64 k,.int .i64 t,.int .i64 v] 37)):=λW c=>(abg b 5 k t v met W h).mono (by rintro e a ⟨rfl,d⟩;exact⟨rfl,(c.go d).low,(c.go d).box⟩)
 exact aaW b 1 5 (.inr ⟨rfl,rfl⟩) k t v met _ _ w (λW c=>(f.out W c).mono λ_ _ q=>⟨q.1,q.2.2,q.2.1⟩)
theorem ac4(base b g:Nat)(l f:Value)(x:J)(k t v met:Int)(w:World)(h:ai w base b g l f x)(n:300<=x.R1.length)(i:au k t v=true)(j:0<=met):
  Calls prog 164 #[.pointer (some ⟨b,0,none⟩),.int .i64 1,.agg #[.int .i64 k,.int .i64 t,.int .i64 v],.int .i64 met] w λe a=>e=.returned (.iface 24 (.int .i64 12))/\Below w.heap.size w a:=by
 have m:Hid (∀W,fF w k t v W->Calls prog 104 #[.pointer (some ⟨b,5,none⟩),.agg #[.int .i64 k,.int .i64 t,.int .i64 v],.int .i64 met] W λe a=>e=.returned (.iface 24 (.int .i64 12))/\Below w.heap.size w a/\a.heap[w.heap.size]?=some (.cells #[.int .i64 k,.int .i64 t,.int .i64 v] 37)):=λW c=>(aa6 base b 5 f x.R1 k t v met W (h.below c.low).side1 n i j).mono (by rintro e a ⟨rfl,d⟩;exact⟨rfl,(c.go d).low,(c.go d).box⟩)
 exact aaW b 1 5 (.inr ⟨rfl,rfl⟩) k t v met _ _ w (λW c=>(m.out W c).mono λ_ _ q=>⟨q.1,q.2.2,q.2.1⟩)
theorem Pd(base b o:Nat)(r f:Value)(x:J)(k t v met:Int)(w:World)(h:ai w base b o r f x)(l:base<=w.heap.size)(u:ay x.R1)(E:x.R1.length<300)(y:au k t v=true)(A:0<=met):
  Calls prog 164 #[.pointer (some ⟨b,0,none⟩),.int .i64 1,.agg #[.int .i64 k,.int .i64 t,.int .i64 v],.int .i64 met] w λe i=>e=.returned .nilIface/\∃d,ai i base b o r d { x with R1:=bT x.R1 (aV k (t+1) x.R1) ⟨k,t,v,met⟩}/\Turned (λj=>j=b∨f.ownBlock=some j) w i/\dF w f d:=by
 have C:Hid (∀W,fF w k t v W->Calls prog 104 #[.pointer (some ⟨b,5,none⟩),.agg #[.int .i64 k,.int .i64 t,.int .i64 v],.int .i64 met] W λe i=>e=.returned .nilIface/\i.heap[w.heap.size]?=some (.cells #[.int .i64 k,.int .i64 t,.int .i64 v] 37)/\Hid (∃d,ai i base b o r d { x with R1:=bT x.R1 (aV k (t+1) x.R1) ⟨k,t,v,met⟩}/\Turned (λj=>j=b∨f.ownBlock=some j) w i/\dF w f d)):=by
  intro W s;have n:=s.low;refine(lD base b 5 f x.R1 k t v met W (h.below n).side1 u E (aH l n.size) y A).mono ?_;rintro e i ⟨rfl,d,B,p,z⟩;have m:dF W f d:=z;have q:=(p.block w.heap.size (ax.1 s.box).1 (by have:=h.lt;omega) (λe=>by have:=(h.r1.lt _ e).2;omega)).trans s.box;exact⟨rfl,q,d,(h.below n).put1 B p m,(Turned.of_below n).trans (Turned.of_keep (S:=λj=>j=b∨f.ownBlock=some j) p (Or.inl rfl) (λk e=>Or.inr e)) (λ_ _ e=>e),m.imp id (λ⟨g,a,c⟩=>⟨g,a,aH n.size c⟩)⟩
 exact aaW b 1 5 (.inr ⟨rfl,rfl⟩) k t v met _ _ w C.out
end
section
open Go.Proofs.Tryz Go.Shelf
theorem aaC(base b d:Nat)(y u:Value)(x:J)(s k t v:Int)(w:World)(h:ai w base b d y u x)(p:au k t v=true)(i:bM s=true)(o:t<=kW x.m0 x.m1 s)(q: -9223372036854775808<=x.late)(r:x.late<=9223372036854775807):
  Calls prog 45 #[.pointer (some ⟨b,0,none⟩),.int .i64 s,.agg #[.int .i64 k,.int .i64 t,.int .i64 v]] w λe f=>e=.returned (.tuple #[.slice none 0 0,.iface 24 (.int .i64 10)])/\ai f base b d y u { x with late:=bR x.late}/\Turned (λj=>j=b) w f:=by
 have a:=iN k t v (w.alloc (.cells #[.int .i64 k,.int .i64 t,.int .i64 v] 37));rw[p]at a
 have z: -1099511627776<=t/\t<=1099511627776:=by simp[au,iG]at p;omega
 have l:=hid h;have hlt:=h.lt;have O6:=h.ltm
 have el:decide (t<=kW x.m0 x.m1 s)=true:=by simpa using o
 have m:=λW=>rT x.late W q r
 clear h o z q r;go_enter func45,ntmps45
 go_wp2_with (first
  |(go_at_call 95;refine(bH _ _).mono ?_;rintro e f ⟨rfl,rfl⟩;rw[i])
  |(go_at_call 96;refine a.mono ?_;rintro e n ⟨rfl,c⟩;have g:Hid (fF w k t v n):=(show fF w k t v n from⟨(fC w _).trans (c.mono (by simp)),(c.block _ (by simp)).trans (eZ _ _)⟩);clear c)
  |fail)
 clear a;have hc1:=(l.out.below g.out.low).cells;have hm1:=(l.out.below g.out.low).marks;have hx1:=g.out.cells
 go_region_held3 (λW=>W.cell? ⟨b,3,none⟩=some (.pointer (some ⟨d,0,none⟩))/\W.cell? ⟨w.heap.size,1,none⟩=some (.int .i64 t)/\W.cell? ⟨d,0,none⟩=some (.int .i64 x.m0)/\W.cell? ⟨d,1,none⟩=some (.int .i64 x.m1)) (first|(go_keep;done)|fail) (first
  |(go_at_call 97;refine(gB d x.m0 x.m1 _ t _ ?_ ?_).mono ?_;(go_simp);(go_simp);rintro e f ⟨rfl,rfl⟩;rw[el])
  |fail)
 go_wp2_with (first
  |(go_at_call 98;refine(m _).mono ?_;rintro e f ⟨rfl,rfl⟩)
  |fail)
 refine ja (v:= .tuple #[.slice none 0 0,.iface 24 (.int .i64 10)]) (by simp[results,Tryz.results45,go_sem]) rfl ⟨rfl,(l.out.below g.out.low.drew).cell4 _,?_⟩;exact(Turned.of_below g.out.low.drew).trans bC (λ_ _ e=>e)
theorem aaH(base b a:Nat)(p n:Value)(x:J)(s k t v:Int)(w:World)(h:ai w base b a p n x)(u:au k t v=true)
  (G: -1048576<=x.lo) (B:x.lo<=1048576) (A: -1048576<=x.hi) (F:x.hi<=1048576) (K:s=0/\x.m0<t/\x.m1<t+x.hi/\300<=x.R0.length∨s=1/\x.m1<t/\x.m0<t+ -x.lo/\300<=x.R1.length):
  Calls prog 45 #[.pointer (some ⟨b,0,none⟩),.int .i64 s,.agg #[.int .i64 k,.int .i64 t,.int .i64 v]] w λe c=>e=.returned (.tuple #[.slice none 0 0,.iface 24 (.int .i64 12)])/\Below w.heap.size w c:=by
 have d:=iN k t v (w.alloc (.cells #[.int .i64 k,.int .i64 t,.int .i64 v] 37));rw[u]at d
 have H: -1099511627776<=t/\t<=1099511627776:=by simp[au,iG]at u;omega
 have r:=hid h;have hlt:=h.lt;have O6:=h.ltm
 rcases K with⟨rfl,y,I,j⟩|⟨rfl,y,I,j⟩
 case' inl=>
  have i:bM 0=true:=rfl
  have el:decide (t<=kW x.m0 x.m1 0)=false:=by simp[kW];omega
  have o:kW x.m0 x.m1 1=x.m1:=by simp[kW]
  have E:IntKind.i64.wrap (t+x.lo)=t+x.lo:=uk (by omega) (by omega);have C:IntKind.i64.wrap (t+x.hi)=t+x.hi:=uk (by omega) (by omega)
  have m:=hid λ(W:World) (l:Below w.heap.size w W)=>kg base b 4 p x.R0 W (h.below l).side0
  have z:=trivial
 case' inr=>
  have i:bM 1=true:=rfl
  have el:decide (t<=kW x.m0 x.m1 1)=false:=by simp[kW];omega
  have o:kW x.m0 x.m1 0=x.m0:=by simp[kW]
  have E:IntKind.i64.wrap (t+ -x.hi)=t+ -x.hi:=uk (by omega) (by omega);have C:IntKind.i64.wrap (t+ -x.lo)=t+ -x.lo:=uk (by omega) (by omega)
  have m:=hid λ(W:World) (l:Below w.heap.size w W)=>kg base b 5 n x.R1 W (h.below l).side1
 all_goals
  have i1:=Int.ofNat_le.2 j;clear h y H j;go_enter func45,ntmps45
  go_wp2_with (first
   |(go_at_call 95;refine(bH _ _).mono ?_;rintro e c ⟨rfl,rfl⟩;rw[i])
   |(go_at_call 96;refine d.mono ?_;rintro e q ⟨rfl,f⟩;have g:Hid (fF w k t v q):=(show fF w k t v q from⟨(fC w _).trans (f.mono (by simp)),(f.block _ (by simp)).trans (eZ _ _)⟩);clear f)
   |fail)
  clear d;have hc1:=(r.out.below g.out.low).cells;have hm1:=(r.out.below g.out.low).marks;have hx1:=g.out.cells
  go_region_held3 (λW=>W.cell? ⟨b,3,none⟩=some (.pointer (some ⟨a,0,none⟩))/\W.cell? ⟨w.heap.size,1,none⟩=some (.int .i64 t)/\W.cell? ⟨a,0,none⟩=some (.int .i64 x.m0)/\W.cell? ⟨a,1,none⟩=some (.int .i64 x.m1)) (first|(go_keep;done)|fail) (first
   |(go_at_call 97;refine(gB a x.m0 x.m1 _ t _ ?_ ?_).mono ?_;(go_simp);(go_simp);rintro e c ⟨rfl,rfl⟩;rw[el])
   |fail)
  go_wp2_with (first
   |(go_at_call 99;(first|(have _:=z;refine(qG b x.lo x.hi _ (by go_simp) (by go_simp)).mono ?_)|(refine(oH b x.lo x.hi _ (by go_simp) (by go_simp) G B A F).mono ?_));rintro e c ⟨rfl,rfl⟩)
   |fail)
  go_region_held3 (λW=>W.cell? ⟨b,3,none⟩=some (.pointer (some ⟨a,0,none⟩))/\W.cell? ⟨w.heap.size,1,none⟩=some (.int .i64 t)/\W.cell? ⟨a,0,none⟩=some (.int .i64 x.m0)/\W.cell? ⟨a,1,none⟩=some (.int .i64 x.m1)) (first|(go_keep;done)|fail) (first
   |(go_at_call 101;(first|(have _:=z;refine(ig _).mono ?_)|(refine(jm _).mono ?_));rintro e c ⟨rfl,rfl⟩)
   |(go_at_call 100;refine(jl a x.m0 x.m1 _ _ ?_ ?_).mono ?_;(go_simp);(go_simp);rintro e c ⟨rfl,rfl⟩;rw[o])
   |fail)
  go_wp2_with (first
   |(go_at_call 102;refine(m.out _ g.out.low.drew.drew.drew).mono ?_;rintro e c ⟨rfl,rfl⟩)
   |fail)
  exact ja (v:= .tuple #[.slice none 0 0,.iface 24 (.int .i64 12)]) (by simp[results,Tryz.results45,go_sem]) rfl ⟨rfl,g.out.low.drew.drew.drew⟩
end
section
open Go.Proofs.Tryz Go.Shelf
theorem ai.marked{w d:World}{base b a:Nat}{j i:Value}{x:J}{l r:Int}(h:ai w base b a j i x)(k:d.heap[a]?= some (.cells #[.int .i64 l,.int .i64 r] 250))(c:Only a w d):ai d base b a j i { x with m0:=l,m1:=r } :=
  ⟨(c.block b (λe => h.ne e.symm)).trans h.blk,k,ag h.r0 (λg e => c.block g (λf => own_ne h.r0 h.mks (by omega) (by rw[<- f]; exact e))),ag h.r1 (λg e => c.block g (λf => own_ne h.r1 h.mks (by omega) (by rw[<- f]; exact e))),h.apart⟩
theorem GG(k:Int)(w:World):(binOp .neq 29 (.iface 24 (.int .i64 k)) .nilIface).run prog w = .ok (.bool true) w:=by kernel_rfl
theorem Ll(base b d:Nat)(m l:Value)(x:J)(s t:Int)(w:World)(h:ai w base b d m l x)(g:vk x.m0 x.m1 s t≠0) :
    Calls prog 51 #[.pointer (some ⟨b,0,none⟩),.int .i64 s,.int .i64 t] w λe a => e = .returned (.iface 24 (.int .i64 (vk x.m0 x.m1 s t)))/\Below w.heap.size w a:=by
  have hc:=h.cells
  have f:Calls prog 111 #[.pointer (some ⟨d,0,none⟩),.int .i64 s,.int .i64 t] w λe a => e = .returned (.iface 24 (.int .i64 (vk x.m0 x.m1 s t)))/\Below w.heap.size w a:=by
    refine(mQ d x.m0 x.m1 s t w h.mks).mono ?_
    rintro e a ⟨rfl,j,c⟩
    refine⟨by simp[SG,g],c.os,c.tape,c.output,Nat.le_of_eq c.size,λk hk => ?_⟩
    by_cases e:k=d
    · subst e
      rw[j,h.mks]
      simp[uh,uj,g]
    · exact c.block k e
  have hq:=GG
  generalize vk x.m0 x.m1 s t=E at *
  clear h
  go_enter func51,ntmps51
  go_wp2_with (go_at_call 111; refine f.mono ?_; rintro e a ⟨rfl,i⟩)
  go_ret
  exact⟨rfl,i⟩
theorem AX(base b a:Nat)(m f:Value)(x:J)(t:Int)(w:World)(h:ai w base b a m f x)(i:vk x.m0 x.m1 0 t=0)(F:x.R1.length<=100000)
    (G : -1048576<=x.lo) (B:x.lo<=1048576) (z : -1048576<=x.hi) (A:x.hi<=1048576) :
    Calls prog 51 #[.pointer (some ⟨b,0,none⟩),.int .i64 0,.int .i64 t] w λe c => e = .returned .nilIface/\∃ l,ai c base b a m l { x with m0:=t,R1:=keepR (λy => decide (y.t<=t+x.lo)) x.R1 }/\Turned (λj => j=b∨j=a∨f.ownBlock=some j) w c/\l.ownBlock=f.ownBlock:=by
  have hc:=h.cells
  have C : -1099511627776<=t/\t<=1099511627776:=by
    unfold vk at i
    rw[if_neg (by decide)]at i
    split at i
    · cases i
    · omega
  have e1:IntKind.i64.wrap (t+x.lo)=t+x.lo:=uk (by omega) (by omega)
  have q:Calls prog 111 #[.pointer (some ⟨a,0,none⟩),.int .i64 0,.int .i64 t] w λe c => e = .returned .nilIface/\ai c base b a m f { x with m0:=t }/\Turned (λj => j=a) w c:=by
    refine(mQ a x.m0 x.m1 0 t w h.mks).mono ?_
    rintro e c ⟨rfl,g,d⟩
    refine⟨by simp[SG,i],?_,d.os,d.tape,d.output,Nat.le_of_eq d.size,λk hk I => d.block k I⟩
    have K:uh x.m0 x.m1 0 t=t:=by simp[uh,i]
    have L:uj x.m0 x.m1 0 t=x.m1:=by simp[uj,i]
    rw[K,L]at g
    exact h.marked g d
  have H:Hid (∀ W,ai W base b a m f { x with m0:=t }->Turned (λj => j=a) w W->Calls prog 112 #[.pointer (some ⟨b,5,none⟩),.int .i64 (t+x.lo)] W λe c => (∃ n,e = .returned (.int .i64 n))/\Hid (∃ l,ai c base b a m l { x with m0:=t,R1:=keepR (λy => decide (y.t<=t+x.lo)) x.R1 }/\Turned (λj => j=b∨j=a∨f.ownBlock=some j) w c/\l.ownBlock=f.ownBlock)):=by
    intro W s E
    refine(AY base b 5 f x.R1 (t+x.lo) W s.side1 F).mono ?_
    rintro e c ⟨rfl,l,g,d,p⟩
    refine⟨⟨_,rfl⟩,l,s.put1 g d (Or.inl p),?_,p⟩
    exact(E.mono (S':=λj => j=b∨j=a∨f.ownBlock=some j) (λk e => Or.inr (Or.inl e))).trans (Turned.of_keep (S:=λj => j=b∨j=a∨f.ownBlock=some j) d (Or.inl rfl) (λk e => Or.inr (Or.inr e))) (λ_ _ e => e)
  clear h i C
  go_enter func51,ntmps51
  go_wp2_with (first
    | (go_at_call 111; refine q.mono ?_; rintro e o ⟨rfl,g,d⟩; have hc1:=g.cells; have v:Hid (ai o base b a m f { x with m0:=t }/\Turned (λj => j=a) w o):=⟨g,d⟩; clear g d)
    | (go_at_call 101; refine(ig _).mono ?_; rintro e c ⟨rfl,r⟩; have r:=r.symm; subst r)
    | (go_at_call 99; refine(oH b x.lo x.hi _ (by go_simp) (by go_simp) G B z A).mono ?_; rintro e c ⟨rfl,rfl⟩)
    | fail)
  have u:Hid (ai o.drew.drew base b a m f { x with m0:=t }/\Turned (λj => j=a) w o.drew.drew):=⟨v.out.1.below ((iL _ _).drew.drew),v.out.2.trans (Turned.of_below (S:=λ_ => False) ((iL _ _).drew.drew)) (λ_ _ e => e.elim)⟩
  go_region_held3 (λW => True) (first | trivial | fail) (first
    | (go_at_call 101; refine(ig _).mono ?_; rintro e c ⟨rfl,rfl⟩)
    | (go_at_call 112; refine(H.out _ u.out.1 u.out.2).mono ?_; rintro e w3 ⟨⟨n3,rfl⟩,p⟩)
    | fail)
  go_wp2
  go_ret
  exact⟨rfl,p.out⟩
theorem AZ(base b a:Nat)(f l:Value)(x:J)(t:Int)(w:World)(h:ai w base b a f l x)(g:vk x.m0 x.m1 1 t=0)(A:x.R0.length<=100000)
    (p3 : -1048576<=x.hi) (p4:x.hi<=1048576) :
    Calls prog 51 #[.pointer (some ⟨b,0,none⟩),.int .i64 1,.int .i64 t] w λe c => e = .returned .nilIface/\∃ m,ai c base b a m l { x with m1:=t,R0:=keepR (λy => decide (y.t<=t-x.hi)) x.R0 }/\Turned (λj => j=b∨j=a∨f.ownBlock=some j) w c/\m.ownBlock=f.ownBlock:=by
  have hc:=h.cells
  have z : -1099511627776<=t/\t<=1099511627776:=by
    unfold vk at g
    rw[if_neg (by decide)]at g
    split at g
    · cases g
    · omega
  have e1:IntKind.i64.wrap (t-x.hi)=t-x.hi:=uk (by omega) (by omega)
  have r:Calls prog 111 #[.pointer (some ⟨a,0,none⟩),.int .i64 1,.int .i64 t] w λe c => e = .returned .nilIface/\ai c base b a f l { x with m1:=t }/\Turned (λj => j=a) w c:=by
    refine(mQ a x.m0 x.m1 1 t w h.mks).mono ?_
    rintro e c ⟨rfl,i,d⟩
    refine⟨by simp[SG,g],?_,d.os,d.tape,d.output,Nat.le_of_eq d.size,λk hk E => d.block k E⟩
    have F:uh x.m0 x.m1 1 t=x.m0:=by simp[uh,g]
    have B:uj x.m0 x.m1 1 t=t:=by simp[uj,g]
    rw[F,B]at i
    exact h.marked i d
  have G:Hid (∀ W,ai W base b a f l { x with m1:=t }->Turned (λj => j=a) w W->Calls prog 112 #[.pointer (some ⟨b,4,none⟩),.int .i64 (t-x.hi)] W λe c => (∃ n,e = .returned (.int .i64 n))/\Hid (∃ m,ai c base b a m l { x with m1:=t,R0:=keepR (λy => decide (y.t<=t-x.hi)) x.R0 }/\Turned (λj => j=b∨j=a∨f.ownBlock=some j) w c/\m.ownBlock=f.ownBlock)):=by
    intro W v C
    refine(AY base b 4 f x.R0 (t-x.hi) W v.side0 A).mono ?_
    rintro e c ⟨rfl,m,i,d,o⟩
    refine⟨⟨_,rfl⟩,m,v.put0 i d (Or.inl o),?_,o⟩
    exact(C.mono (S':=λj => j=b∨j=a∨f.ownBlock=some j) (λk e => Or.inr (Or.inl e))).trans (Turned.of_keep (S:=λj => j=b∨j=a∨f.ownBlock=some j) d (Or.inl rfl) (λk e => Or.inr (Or.inr e))) (λ_ _ e => e)
  clear h g z
  go_enter func51,ntmps51
  go_wp2_with (first
    | (go_at_call 111; refine r.mono ?_; rintro e p ⟨rfl,i,d⟩; have hc1:=i.cells; have u:Hid (ai p base b a f l { x with m1:=t }/\Turned (λj => j=a) w p):=⟨i,d⟩; clear i d)
    | (go_at_call 101; refine(jm _).mono ?_; rintro e c ⟨rfl,q⟩; have q:=q.symm; subst q)
    | (go_at_call 99; refine(qG b x.lo x.hi _ (by go_simp) (by go_simp)).mono ?_; rintro e c ⟨rfl,rfl⟩)
    | fail)
  have s:Hid (ai p.drew.drew base b a f l { x with m1:=t }/\Turned (λj => j=a) w p.drew.drew):=⟨u.out.1.below ((iL _ _).drew.drew),u.out.2.trans (Turned.of_below (S:=λ_ => False) ((iL _ _).drew.drew)) (λ_ _ e => e.elim)⟩
  go_region_held3 (λW => True) (first | trivial | fail) (first
    | (go_at_call 101; refine(jm _).mono ?_; rintro e c ⟨rfl,rfl⟩)
    | (go_at_call 112; refine(G.out _ s.out.1 s.out.2).mono ?_; rintro e w3 ⟨⟨n3,rfl⟩,o⟩)
    | fail)
  go_wp2
  go_ret
  exact⟨rfl,o.out⟩
theorem kz(n:Int)(w:World):Calls prog 183 #[.int .i64 n] w λe a => e = .returned (.bool (decide (-1048576<=n/\n<=1048576)))/\a=w:=by
  by_cases h : -1048576<=n
  · go_enter func183,ntmps183
    go_wp2
    go_ret
    exact⟨aN (by simp[h]),rfl⟩
  · go_enter func183,ntmps183
    go_wp2
    go_ret
    exact⟨aN (by simp; omega),rfl⟩
theorem Il(n:Int)(w:World)(h:0<=n/\n<=3):Calls prog 184 #[.int .i64 n] w λe a => e = .returned (.bool true)/\a=w:=by
  have: n=0∨n=1∨n=2∨n=3:=by omega
  rcases this with rfl | rfl | rfl | rfl <;>
    (go_enter func184,ntmps184
     go_wp2
     go_ret
     exact⟨rfl,rfl⟩)
def dn(lo hi mode:Int):Prop:=(-1048576<=lo/\lo<=1048576)/\(-1048576<=hi/\hi<=1048576)/\lo<=hi/\(0<=mode/\mode<=3)
theorem Pf(lo hi mode:Int)(w:World)(h:dn lo hi mode):Calls prog 109 #[.agg #[.int .i64 lo,.int .i64 hi,.int .i64 mode]] w λe a => e = .returned .nilIface/\a=w.alloc (.cells #[.int .i64 lo,.int .i64 hi,.int .i64 mode] 45):=by
  obtain⟨h1,h2,h3,h4⟩:=h
  have d1:decide (-1048576<=lo/\lo<=1048576)=true:=by simp; omega
  have d2:decide (-1048576<=hi/\hi<=1048576)=true:=by simp; omega
  have h3':¬ hi<lo:=by omega
  clear h1 h2 h3
  go_enter func109,ntmps109
  go_wp2_with (first
    | (go_at_call 183; refine(kz _ _).mono ?_; rintro e a ⟨rfl,rfl⟩; first | rw[d1] | rw[d2])
    | (go_at_call 184; refine(Il _ _ h4).mono ?_; rintro e a ⟨rfl,rfl⟩)
    | fail)
  go_ret
  exact⟨rfl,rfl⟩
theorem Sm(lo hi mode:Int)(w:World)(h:dn lo hi mode):Calls prog 48 #[.agg #[.int .i64 lo,.int .i64 hi,.int .i64 mode]] w λe a => ∃ b d,e = .returned (.tuple #[.pointer (some ⟨b,0,none⟩),.nilIface])/\w.heap.size<=b/\w.heap.size<=d/\Below w.heap.size w a/\ai a w.heap.size b d (.slice none 0 0) (.slice none 0 0) ⟨lo,hi,mode,-1099511627777,-1099511627777,0,[],[]⟩:=by
  have c:=λW => Pf lo hi mode W h
  clear h
  go_enter func48,ntmps48
  go_wp2_with (first
    | (go_at_call 109; refine(c _).mono ?_; rintro e a ⟨rfl,rfl⟩)
    | fail)
  go_region_held3 (λW => W.cell? ⟨w.heap.size,0,none⟩=some (.int .i64 lo)/\W.cell? ⟨w.heap.size,1,none⟩=some (.int .i64 hi)/\W.cell? ⟨w.heap.size,2,none⟩=some (.int .i64 mode)) (first | (go_keep; done) | (refine⟨?_,?_,?_⟩ <;> go_simp; done) | fail) (first
    | (go_at_call 110; refine(ED _).mono ?_; rintro e a ⟨rfl,rfl⟩)
    | fail)
  go_wp2
  refine ja (v := .tuple #[.pointer (some ⟨w.heap.size+1+1+1,0,none⟩),.nilIface]) (by simp[results,Tryz.results48,go_sem]) rfl ⟨w.heap.size+1+1+1,w.heap.size+1+1,rfl,by omega,by omega,?_,?_⟩
  · exact(Below.alloc (below_alloc3 w _ _ _) (by simp; omega) _).drew
  · refine⟨?_,?_,iR _ _ _ _,iR _ _ _ _,λg e => by cases e⟩
    · have:= eZ (((w.alloc (.cells #[.int .i64 lo,.int .i64 hi,.int .i64 mode] 45)).alloc (.cells #[.int .i64 lo,.int .i64 hi,.int .i64 mode] 45)).alloc (.cells #[.int .i64 (-1099511627777),.int .i64 (-1099511627777)] 250)) (.cells #[.int .i64 lo,.int .i64 hi,.int .i64 mode,.pointer (some ⟨w.heap.size+1+1,0,none⟩),.slice none 0 0,.slice none 0 0,.int .i64 0] 186)
      simp only [World.size_alloc]at this
      exact this
    · have f:=eZ ((w.alloc (.cells #[.int .i64 lo,.int .i64 hi,.int .i64 mode] 45)).alloc (.cells #[.int .i64 lo,.int .i64 hi,.int .i64 mode] 45)) (.cells #[.int .i64 (-1099511627777),.int .i64 (-1099511627777)] 250)
      have i:=gL (((w.alloc (.cells #[.int .i64 lo,.int .i64 hi,.int .i64 mode] 45)).alloc (.cells #[.int .i64 lo,.int .i64 hi,.int .i64 mode] 45)).alloc (.cells #[.int .i64 (-1099511627777),.int .i64 (-1099511627777)] 250)) (.cells #[.int .i64 lo,.int .i64 hi,.int .i64 mode,.pointer (some ⟨w.heap.size+1+1,0,none⟩),.slice none 0 0,.slice none 0 0,.int .i64 0] 186) (w.heap.size+1+1) (by simp)
      simp only [World.size_alloc]at f
      exact i.trans f
end
section
open Go.Sort
theorem EU(a t1 d b t2 c:Int)(w:World):
  Calls Tryz.prog 168 #[.agg #[.int .i64 a,.int .i64 t1,.int .i64 d],.agg #[.int .i64 b,.int .i64 t2,.int .i64 c]] w λe f=>e=.returned (.agg #[.int .i64 a,.int .i64 a,.int .i64 t1,.int .i64 d,.int .i64 b,.int .i64 t2,.int .i64 c,.bool true,.bool true])/\Below w.heap.size w f:=by
 refine(uq a t1 d b t2 c w).mono ?_;rintro e f ⟨rfl,rfl⟩;exact⟨rfl,(fK _ _ _).trans ((fC _ _).mono (by simp;omega))⟩
end
end Go.Proofs.YthfpipieboophaaGreatDoor
