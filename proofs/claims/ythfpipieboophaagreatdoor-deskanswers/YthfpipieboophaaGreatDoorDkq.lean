import Derived.Test.YthfpipieboophaaGreatDoorDkp
namespace Go.Proofs.YthfpipieboophaaGreatDoor
set_option maxRecDepth 100000
set_option maxHeartbeats 40000000
open Go.Proofs.Tryz Go.Joins Go.RowKit Go.Sort Go.Shelf
variable{w0 W:World}{bs d b:Nat}{st:Sx}{S P:Nat->Prop}
theorem u7(v:Vb):∀args V,(callFunc v.fn args).run prog V=.ok (.enter v.fn args) V:=by
 cases v
 .exact enters_of func132 (by kernel_rfl) rfl
 .exact enters_of func133 (by kernel_rfl) rfl
 .exact enters_of func134 (by kernel_rfl) rfl
 .exact enters_of func135 (by kernel_rfl) rfl
 .exact enters_of func136 (by kernel_rfl) rfl
 .exact enters_of func137 (by kernel_rfl) rfl
 .exact enters_of func138 (by kernel_rfl) rfl
 .exact enters_of func139 (by kernel_rfl) rfl
 .exact enters_of func140 (by kernel_rfl) rfl
 .exact enters_of func141 (by kernel_rfl) rfl
 .exact enters_of func142 (by kernel_rfl) rfl
 .exact enters_of func143 (by kernel_rfl) rfl
 .exact enters_of func144 (by kernel_rfl) rfl
abbrev jS(bs f k:Nat):Obj:= .cells #[.int .i64 k,.func (.func f) #[.pointer (some ⟨bs,0,none⟩)] #[]] 228
theorem aaS{A bx f:Nat}{k:World}{y:List UInt8}{ws:List (List UInt8)}(v:An w0 bs b st d S P W A y ws k)(w:aU w0)(l:ws.length<=100)(o:∀x∈ws,x.length<=1000000)(ns:List Int)(c:numsOf ws=some ns)(a:k.heap[bx]?=some (jS bs f ws.length)):
  ∀V,Below k.heap.size k V->Calls prog 150 #[.slice (if ws=[]then some ⟨A,0,none⟩else some ⟨A,1,none⟩) ws.length ws.length] V λe h=>∃g,e=.returned (.slice (some ⟨g,0,none⟩) ws.length ws.length)/\(h.cell? ⟨bx,1,none⟩=some (.func (.func f) #[.pointer (some ⟨bs,0,none⟩)] #[])/\bx<h.heap.size)/\Hid (An w0 bs b st d S P W A y ws h/\h.heap[g]?=some (.cells (ns.map (Value.int .i64)).toArray 3)/\¬P g):=by
 intro V p;have i:=v.below p;refine(nV ws A 1 ws.length _ V (w.below i.dk.low) l o i.al (λj x u=>by have:=i.row (j+1) x (by simpa using u);rw[Nat.add_comm]at this;exact this) (λr=>if_neg r)).mono ?_;rintro e h ⟨n,s⟩;unfold fV at n;rw[c]at n;obtain⟨g,hg1,rfl,m⟩:=n;have q:=p.trans (s.mono p.size);have t:=(q.block bx (aD.1 a).1).trans a;refine⟨g,by rw[kE ws ns c],⟨by rw[vE t];rfl,(aD.1 t).1⟩,i.below s,m,λe=>?_⟩;have:=i.dk.plt g e;omega
theorem GR(h:Dk w0 bs (some b) st d S P W)(u:mM W bs b)(C:aU w0)(line:List UInt8)(o:line.length<=1000000)(y:List UInt8)(ws:List (List UInt8))(n:aH line=y::ws)(v:Vb)(r:dM y=some v)(g:ws.length≠v.ar):
  Calls prog 79 #[.pointer (some ⟨bs,0,none⟩),.string ⟨line.toArray⟩] W λe I=>e=.returned (sV (eH 3))/\aC w0 bs (some b) st P W I:=by
 have K:∀(fn:Fn) (first cap:Array Value) (w:World),(Instr.makeFunc fn first cap).run prog w=.ok (.func fn first cap) w:=λ_ _ _ _=>rfl
 have p:y.length<=1000000:=di (dS line y (by rw[n];simp)) o;have G:=hid (oh h u line o y ws n)
 have i0:((ws.length:Int)+1==0)=false:=by simp only[beq_eq_false_iff_ne];omega
 have i1:(0:Int)<(ws.length:Int)+1:=by omega
 have hlt:=h.lt;have F:=h.low.size
 have B:¬P W.heap.size:=λe=>by have:=h.plt _ e;omega
 have s:=hid g;clear g;clear h u n o;obtain⟨f,hf⟩:∃f,Hid (f=v.fn):=⟨_,rfl⟩;obtain⟨k,hk⟩:∃k,Hid (k=v.ar):=⟨_,rfl⟩
 go_enter_defers func79,ntmps79
 go_wp2_with (first
  |(go_at_call 149;refine G.out.mono ?_;rintro e a ⟨A,rfl,l⟩)
  |fail)
 have H:=l.out.cells
 have i:∀V:World,V.heap[b]?=a.heap[b]? ->(Instr.lookup 223 (.map (some b)) (.string ⟨y.toArray⟩) true).run prog V=.ok (.tuple #[zn bs f k,.bool true]) V:=λV e=>by have:=lZ (l.out.vm.still e) p;simp only[r]at this;rw[<-hf.out,<-hk.out]at this;exact this
 have E:=i a.drew rfl;have m:=i (a.alloc (.cells #[.int .i64 0,.nilFunc] 228)).drew (zk _ _ _ l.out.vm.lt);have q:bs<a.heap.size/\A<a.heap.size:=⟨l.out.dk.lt,l.out.al⟩;have f0:=aaN a;have x:Below a.heap.size a (a.alloc (jS bs f k)).drew:=(wh _ _).drew;have j:Hid (An w0 bs b st d S P W A y ws (a.alloc (jS bs f k)).drew):=l.out.below x;have c:(a.alloc (jS bs f k)).drew.heap[a.heap.size]?=some (jS bs f k):=vw a (jS bs f k);clear r
 go_region
 all_goals
  clear i E m H l x f0 K q;revert j c;generalize(a.alloc (jS bs f k)).drew=w3;generalize a.heap.size=bx;intro j c;have b3:w3.cell? ⟨bx,0,none⟩=some (.int .i64 k)/\w3.cell? ⟨bx,1,none⟩=some (.func (.func f) #[.pointer (some ⟨bs,0,none⟩)] #[])/\bx<w3.heap.size:=⟨by rw[vE c];rfl,by rw[vE c];rfl,(aD.1 c).1⟩;have abW:=j.out.few
  have z:((ws.length:Int)==(k:Int))=false:=by simp only[beq_eq_false_iff_ne];rw[hk.out];have:=s.out;omega
  have n2:((ws.length:Int) !=(k:Int))=true:=by simp only[bne,z];rfl
  clear hf hk s c;go_wp2;exact jf (V0:=w3) 3 ⟨by decide,by decide⟩ C (j.out.dk.same (zI _ _)) j.out.low F (aD.1 j.out.res).1 B j.out.res (λV' t L=>by simp[results,Tryz.results79,go_sem,L])
theorem GU(h:Dk w0 bs (some b) st d S P W)(E:mM W bs b)(Q:aU w0)(line:List UInt8)(C:line.length<=1000000)(y:List UInt8)(ws:List (List UInt8))(B:aH line=y::ws)(v:Vb)(Y:dM y=some v)(m:ws.length=v.ar)(r:numsOf ws=none):
  Calls prog 79 #[.pointer (some ⟨bs,0,none⟩),.string ⟨line.toArray⟩] W λe F=>e=.returned (sV (eH 3))/\aC w0 bs (some b) st P W F:=by
 have GI:∀(fn:Fn) (first cap:Array Value) (w:World),(Instr.makeFunc fn first cap).run prog w=.ok (.func fn first cap) w:=λ_ _ _ _=>rfl
 have M:y.length<=1000000:=di (dS line y (by rw[B];simp)) C;have HW:=hid (oh h E line C y ws B)
 have i0:((ws.length:Int)+1==0)=false:=by simp only[beq_eq_false_iff_ne];omega
 have i1:(0:Int)<(ws.length:Int)+1:=by omega
 have hlt:=h.lt;have X:=h.low.size
 have hp:¬P W.heap.size:=λe=>by have:=h.plt _ e;omega
 have u:∀x∈ws,x.length<=1000000:=λx N=>di (dS line x (by rw[B];simp[N])) C
 have q:ws.length<=100:=by rw[m];cases v <;>decide
 have i2:(ws.length:Int)<=100:=by omega
 have HL:=hid m;clear m;clear h E B C;obtain⟨f,hf⟩:∃f,Hid (f=v.fn):=⟨_,rfl⟩;obtain⟨k,hk⟩:∃k,Hid (k=v.ar):=⟨_,rfl⟩
 go_enter_defers func79,ntmps79
 go_wp2_with (first
  |(go_at_call 149;refine HW.out.mono ?_;rintro e g ⟨A,rfl,p⟩)
  |fail)
 have c2:=p.out.cells
 have o:∀V:World,V.heap[b]?=g.heap[b]? ->(Instr.lookup 223 (.map (some b)) (.string ⟨y.toArray⟩) true).run prog V=.ok (.tuple #[zn bs f k,.bool true]) V:=λV e=>by have:=lZ (p.out.vm.still e) M;simp only[Y]at this;rw[<-hf.out,<-hk.out]at this;exact this
 have Ce:=o g.drew rfl;have s:=o (g.alloc (.cells #[.int .i64 0,.nilFunc] 228)).drew (zk _ _ _ p.out.vm.lt);have I:bs<g.heap.size/\A<g.heap.size:=⟨p.out.dk.lt,p.out.al⟩;have f0:=aaN g;have B3:Below g.heap.size g (g.alloc (jS bs f k)).drew:=(wh _ _).drew;have L:Hid (An w0 bs b st d S P W A y ws (g.alloc (jS bs f k)).drew):=p.out.below B3;have l:(g.alloc (jS bs f k)).drew.heap[g.heap.size]?=some (jS bs f k):=vw g (jS bs f k);clear Y
 go_region
 all_goals
  clear o Ce s c2 p B3 f0 GI I;revert L l;generalize(g.alloc (jS bs f k)).drew=w3;generalize g.heap.size=bx;intro L l;have b3:w3.cell? ⟨bx,0,none⟩=some (.int .i64 k)/\w3.cell? ⟨bx,1,none⟩=some (.func (.func f) #[.pointer (some ⟨bs,0,none⟩)] #[])/\bx<w3.heap.size:=⟨by rw[vE l];rfl,by rw[vE l];rfl,(aD.1 l).1⟩
  have ek:k=ws.length:=by rw[hk.out,HL.out]
  subst ek
  have i3:(1:Int)<=(ws.length:Int)+1:=by omega
  have Z:Hid (∀V,Below w3.heap.size w3 V->Calls prog 150 #[.slice (if ws=[]then some ⟨A,0,none⟩else some ⟨A,1,none⟩) ws.length ws.length] V λe F=>e=thrown 3/\Hid (An w0 bs b st d S P W A y ws F)):=by
   intro V E;have G:=L.out.below E;refine(nV ws A 1 ws.length _ V (Q.below G.dk.low) q u G.al (λj x N=>by have:=G.row (j+1) x (by simpa using N);rw[Nat.add_comm]at this;exact this) (λU=>if_neg U)).mono ?_;rintro e F ⟨H,hb⟩;unfold fV at H;rw[r]at H;exact⟨H,G.below hb⟩
  clear hf hk HL l r q u;go_wp2;refine wp_region_any (by kernel_rfl) ?_
  change wpAny _ _ _ _ _ _ _ (World.drew _)
  refine wpAny_take (i:=0) (v:= .pointer (some ⟨bx,1,none⟩)) rfl (by kernel_rfl) (by kernel_rfl) (by kernel_rfl) (λc a w h=>rG 36 (by decide) _ c a w h) (Or.inl ⟨by rfl,by intro w;go_simp⟩) ?_;refine wpAny_take (i:=2) (v:= .slice (some ⟨A,0,none⟩) (ws.length+1) (ws.length+1)) rfl (by kernel_rfl) (by kernel_rfl) (by kernel_rfl) (λc a w h=>rG 38 (by decide) _ c a w h) (Or.inl ⟨by rfl,by intro w;go_simp⟩) ?_;refine wpAny_take (i:=3) (v:= .slice (if ws=[]then some ⟨A,0,none⟩else some ⟨A,1,none⟩) ws.length ws.length) rfl (by kernel_rfl) (by kernel_rfl) (by kernel_rfl) (λc a w h=>rG 39 (by decide) _ c a w h) (Or.inl ⟨by rfl,by intro w;go_simp⟩) ?_;refine wpAny_ready (rs:=[1,4]) (by kernel_rfl) (by simp) ?_;refine AllReady.cons rfl (λK z=>?_) (AllReady.cons rfl (λK z=>?_) AllReady.nil)
  .go_simp
   refine z _ _ ?_;clear z K;refine wpAny_ready (rs:=[4]) (by kernel_rfl) (by simp) ?_;refine AllReady.cons rfl (λK z=>?_) AllReady.nil
   go_simp
   refine(Z.out _ ?_).mono ?_
   .exact(zI _ _).drew
   rintro e T ⟨rfl,n⟩;exact jf (V0:=T) 3 ⟨by decide,by decide⟩ Q (n.out.dk.same (zI _ _)) n.out.low X (aD.1 n.out.res).1 hp n.out.res (λV' t R=>by simp[results,Tryz.results79,go_sem,R])
  .go_simp
   refine(Z.out _ ?_).mono ?_
   .exact(zI _ _).drew
   rintro e T ⟨rfl,n⟩;exact jf (V0:=T) 3 ⟨by decide,by decide⟩ Q (n.out.dk.same (zI _ _)) n.out.low X (aD.1 n.out.res).1 hp n.out.res (λV' t R=>by simp[results,Tryz.results79,go_sem,R])
theorem GV(h:Dk w0 bs (some b) st d S P W)(hV:mM W bs b)(M:aU w0)(line:List UInt8)(G:line.length<=1000000)(y:List UInt8)(ws:List (List UInt8))(F:aH line=y::ws)(v:Vb)(X:dM y=some v)(j:ws.length=v.ar)(ns:List Int)(r:numsOf ws=some ns){n:Nat}(hO:dH n st)(hn:n<=1600)(Z:(v.does st ns).1.1≠0):
  Calls prog 79 #[.pointer (some ⟨bs,0,none⟩),.string ⟨line.toArray⟩] W λe E=>e=.returned (sV (eH (v.does st ns).1.1))/\aC w0 bs (some b) (v.does st ns).2 P W E:=by
 have GI:∀(fn:Fn) (first cap:Array Value) (w:World),(Instr.makeFunc fn first cap).run prog w=.ok (.func fn first cap) w:=λ_ _ _ _=>rfl
 have N:y.length<=1000000:=di (dS line y (by rw[F];simp)) G;have HW:=hid (oh h hV line G y ws F)
 have i0:((ws.length:Int)+1==0)=false:=by simp only[beq_eq_false_iff_ne];omega
 have i1:(0:Int)<(ws.length:Int)+1:=by omega
 have hlt:=h.lt;have h0:=h.low.size
 have hp:¬P W.heap.size:=λe=>by have:=h.plt _ e;omega
 have B:∀x∈ws,x.length<=1000000:=λx hx=>di (dS line x (by rw[F];simp[hx])) G
 have z:ws.length<=100:=by rw[j];cases v <;>decide
 have i2:(ws.length:Int)<=100:=by omega
 have HL:=hid j
 have H:Hid (∀V A g,An w0 bs b st d S P W A y ws V->V.heap[g]?=some (.cells (ns.map (Value.int .i64)).toArray 3)->¬P g->Calls prog v.fn #[.pointer (some ⟨bs,0,none⟩),.slice (some ⟨g,0,none⟩) ws.length ws.length] V λe E=>e=jJ (v.does st ns).1.1 (v.does st ns).1.2/\aC w0 bs (some b) (v.does st ns).2 P V E):=by
  intro V A g R U T;have:=Aw v R.dk hO hn M ns (by rw[kE ws ns r];exact j) g U T;rw[<-j]at this;exact this
 have u:=tN v st ns;clear j hO hn;generalize(v.does st ns).2=st' at *;generalize(v.does st ns).1.2=txt at *;generalize(v.does st ns).1.1=c at *;unfold jJ at H;rw[if_neg Z]at H;clear Z;clear h hV F G;obtain⟨f,hf⟩:∃f,Hid (f=v.fn):=⟨_,rfl⟩;obtain⟨k,hk⟩:∃k,Hid (k=v.ar):=⟨_,rfl⟩
 go_enter_defers func79,ntmps79
 go_wp2_with (first
  |(go_at_call 149;refine HW.out.mono ?_;rintro e m ⟨A,rfl,s⟩)
  |fail)
 have c2:=s.out.cells
 have p:∀V:World,V.heap[b]?=m.heap[b]? ->(Instr.lookup 223 (.map (some b)) (.string ⟨y.toArray⟩) true).run prog V=.ok (.tuple #[zn bs f k,.bool true]) V:=λV e=>by have:=lZ (s.out.vm.still e) N;simp only[X]at this;rw[<-hf.out,<-hk.out]at this;exact this
 have Ce:=p m.drew rfl;have C:=p (m.alloc (.cells #[.int .i64 0,.nilFunc] 228)).drew (zk _ _ _ s.out.vm.lt);have Q:bs<m.heap.size/\A<m.heap.size:=⟨s.out.dk.lt,s.out.al⟩;have f0:=aaN m;have B3:Below m.heap.size m (m.alloc (jS bs f k)).drew:=(wh _ _).drew;have L:Hid (An w0 bs b st d S P W A y ws (m.alloc (jS bs f k)).drew):=s.out.below B3;have l:(m.alloc (jS bs f k)).drew.heap[m.heap.size]?=some (jS bs f k):=vw m (jS bs f k);clear X
 go_region
 all_goals
  clear p Ce C c2 s B3 f0 GI Q;revert L l;generalize(m.alloc (jS bs f k)).drew=w3;generalize m.heap.size=bx;intro L l;have b3:w3.cell? ⟨bx,0,none⟩=some (.int .i64 k)/\w3.cell? ⟨bx,1,none⟩=some (.func (.func f) #[.pointer (some ⟨bs,0,none⟩)] #[])/\bx<w3.heap.size:=⟨by rw[vE l];rfl,by rw[vE l];rfl,(aD.1 l).1⟩
  have ek:k=ws.length:=by rw[hk.out,HL.out]
  subst ek
  have i3:(1:Int)<=(ws.length:Int)+1:=by omega
  have I:Hid (∀V,An w0 bs b st d S P W A y ws V->∀g,V.heap[g]?=some (.cells (ns.map (Value.int .i64)).toArray 3)->¬P g->Calls prog f #[.pointer (some ⟨bs,0,none⟩),.slice (some ⟨g,0,none⟩) ws.length ws.length] V λe E=>e=thrown c/\Hid (aC w0 bs (some b) st' P V E)):=λV R g U T=>by
   have:=H.out V A g R U T;rw[<-hf.out]at this;exact this
  have eg:∀args V,(callFunc f args).run prog V=.ok (.enter f args) V:=by rw[hf.out];exact u7 v
  have HN:=hid (aaS L.out M z B ns r l);clear hf hk HL l r z B H;go_wp2;refine wp_region_any (by kernel_rfl) ?_
  change wpAny _ _ _ _ _ _ _ (World.drew _)
  refine wpAny_take (i:=0) (v:= .pointer (some ⟨bx,1,none⟩)) rfl (by kernel_rfl) (by kernel_rfl) (by kernel_rfl) (λc a w h=>rG 36 (by decide) _ c a w h) (Or.inl ⟨by rfl,by intro w;go_simp⟩) ?_;refine wpAny_take (i:=2) (v:= .slice (some ⟨A,0,none⟩) (ws.length+1) (ws.length+1)) rfl (by kernel_rfl) (by kernel_rfl) (by kernel_rfl) (λc a w h=>rG 38 (by decide) _ c a w h) (Or.inl ⟨by rfl,by intro w;go_simp⟩) ?_;refine wpAny_take (i:=3) (v:= .slice (if ws=[]then some ⟨A,0,none⟩else some ⟨A,1,none⟩) ws.length ws.length) rfl (by kernel_rfl) (by kernel_rfl) (by kernel_rfl) (λc a w h=>rG 39 (by decide) _ c a w h) (Or.inl ⟨by rfl,by intro w;go_simp⟩) ?_;refine wpAny_ready (rs:=[1,4]) (by kernel_rfl) (by simp) ?_;refine AllReady.cons rfl (λK o=>?_) (AllReady.cons rfl (λK o=>?_) AllReady.nil)
  go_simp
  refine o _ _ ?_;clear o K;refine wpAny_ready (rs:=[4]) (by kernel_rfl) (by simp) ?_;refine AllReady.cons rfl (λK o=>?_) AllReady.nil
  go_simp
  refine(HN.out _ ?_).mono ?_
  .exact(zI _ _).drew
  rintro e Y ⟨g,rfl,c4,q⟩;refine o _ _ ?_;clear o K
  rotate_left 1
  go_simp
  refine(HN.out _ ?_).mono ?_
  .exact(zI _ _).drew
  rintro e Y ⟨g,rfl,c4,q⟩;refine o _ _ ?_;clear o K;refine wpAny_ready (rs:=[1]) (by kernel_rfl) (by simp) ?_;refine AllReady.cons rfl (λK o=>?_) AllReady.nil
  go_simp
  refine o _ _ ?_;clear o K
  all_goals
   refine wpAny_ready (rs:=[5]) (by kernel_rfl) (by simp) ?_;refine AllReady.cons rfl (λK o=>?_) AllReady.nil
   go_simp
   refine(I.out _ q.out.1 g q.out.2.1 q.out.2.2).mono ?_;rintro e w5 ⟨rfl,h5⟩;exact jf (V0:=Y) c u M h5.out q.out.1.low h0 (aD.1 q.out.1.res).1 hp q.out.1.res (λV' t ht=>by simp[results,Tryz.results79,go_sem,ht])
end Go.Proofs.YthfpipieboophaaGreatDoor
