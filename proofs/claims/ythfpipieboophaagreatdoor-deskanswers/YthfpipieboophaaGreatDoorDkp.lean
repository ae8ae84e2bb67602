import Derived.RegionDies
import Derived.Laws.EntriesVeiled
import Derived.Test.YthfpipieboophaaGreatDoorZDkk
namespace Go.Proofs.YthfpipieboophaaGreatDoor
set_option maxRecDepth 100000
set_option maxHeartbeats 40000000
open Go.Proofs.Tryz Go.Joins Go.RowKit Go.Sort Go.Shelf
variable{r bs s m A:Nat}{w0 W V:World}{mv:Option Nat}{st:Sx}{S P:Nat->Prop}{tmps:Array Value}{R:Ending->World->Prop}{y:List UInt8}{n:List (List UInt8)}
abbrev pV:Obj:= .cells #[.string ⟨#[]⟩] 9
section
variable{w0:World}{bs:Nat}{mv:Option Nat}{l:Sx}{P:Nat->Prop}{W V z w5:World}
theorem aC.later(h:aC w0 bs mv l P V z)(a:Below z.heap.size z w5):aC w0 bs mv l P V w5:=by
 obtain⟨d,⟨s,S,b⟩,c,f⟩:=h;exact⟨d,⟨s,S,b.below a⟩,c.trans (Turned.of_below (S:=λ_=>False) a) (λ_ _ e=>e.elim),f⟩
theorem aC.from(h:aC w0 bs mv l P V z)(a:Below W.heap.size W V):aC w0 bs mv l P W z:=by
 obtain⟨d,b,c,f⟩:=h;exact⟨d,b,(Turned.of_below (S:=P) a).trans c (λ_ _ e=>e),λk e=>(f k e).imp id (λg=>di a.size g)⟩
theorem aC.kept(h:aC w0 bs mv l P V z)(c:r<V.heap.size)(b:¬P r):z.heap[r]?=V.heap[r]? :=by
 obtain⟨P',hD,a,hn⟩:=h;exact a.block r c b
theorem aC.store(h:aC w0 bs mv l P V z)(q:Below W.heap.size W V)(B:w0.heap.size<=W.heap.size)(u:W.heap.size<=r)(hl:r<V.heap.size)(C:¬P r)(v:Value):aC w0 bs mv l P W (z.setCell ⟨r,0,none⟩ v):=by
 obtain⟨t,⟨s,S,j⟩,x,w⟩:=h
 have d:¬t r:=λe=>by
  rcases w r e with g|g
  .exact C g
  .omega
 have f:∀k,k≠r->(z.setCell ⟨r,0,none⟩ v).heap[k]?=z.heap[k]? :=λk e=>zw _ _ _ _ e
 have a:Turned (λk=>P k∨W.heap.size<=k) W (z.setCell ⟨r,0,none⟩ v):=((Turned.of_below (S:=λk=>P k∨W.heap.size<=k) q).trans x (λ_ _ e=>.inl e)).trans (bC (b:=r) (o:=0)) (λk _ e=>.inr (by rw[e];exact u));have c:Below w0.heap.size w0 (z.setCell ⟨r,0,none⟩ v):=j.low.setCell (p:=⟨r,0,none⟩) (di B u) _;refine⟨t,⟨s,S,j.still (by simp) (λk e=>f k (λE=>d (E ▸ e))) c⟩,⟨a.os,a.tape,a.output,a.size,λk F i=>a.block k F (λe=>e.elim i (λg=>by omega))⟩,λk e=>(w k e).imp id (λg=>di q.size g)⟩
end
theorem GQ(h:Dk w0 bs mv st s S P W)(line:List UInt8)(hl:line.length<=1000000)(k:aH line=[]):
  Calls prog 79 #[.pointer (some ⟨bs,0,none⟩),.string ⟨line.toArray⟩] W λe b=>e=.returned (sV [111,107])/\aC w0 bs mv st P W b:=by
 have GI:∀(fn:Fn) (first cap:Array Value) (w:World),(Instr.makeFunc fn first cap).run prog w=.ok (.func fn first cap) w:=λ_ _ _ _=>rfl
 have j:=h.low.size
 have o:¬P W.heap.size:=λe=>by have:=h.plt _ e;omega
 have t:Hid (Calls prog 149 #[.string ⟨line.toArray⟩] (W.alloc pV) λe b=>∃A,e=.returned (.slice (some ⟨A,0,none⟩) 0 0)/\(b.cell? ⟨W.heap.size,0,none⟩=some (.string ⟨#[]⟩)/\b.frozen? ⟨W.heap.size,0,none⟩=false/\W.heap.size<b.heap.size)/\Hid (aC w0 bs mv st P W (b.setCell ⟨W.heap.size,0,none⟩ (sV [111,107])))):=by
  refine(Am line (W.alloc pV) (by omega)).mono ?_;rintro e b ⟨A,rfl,h1,g,d⟩;rw[k];have a:=(d.block W.heap.size (by simp)).trans (vw W pV);have p:Below W.heap.size W b:=(wh W pV).trans (d.mono (by simp));refine⟨A,rfl,⟨by rw[vE a];rfl,x9 a 0,(aD.1 a).1⟩,?_⟩;exact aC.store ((h.below p).same (zI _ _)) p j (aO _) (aD.1 a).1 o _
 clear h o j k
 go_enter_defers func79,ntmps79
 go_wp2_with (first
  |(go_at_call 149;refine t.out.mono ?_;rintro e i ⟨A,rfl,q,g⟩)
  |fail)
 have c:(i.setCell ⟨W.heap.size,0,none⟩ (.string ⟨#[111,107]⟩)).cell? ⟨W.heap.size,0,none⟩=some (.string ⟨#[111,107]⟩):=World.cell?_setCell_same _ _ _ q.1;refine leaves_cons (f:=148) (args:= #[.pointer (some ⟨W.heap.size,0,none⟩)]) (by simp) (by simp[go_sem]) ?_;refine(xU _ _).mono ?_;rintro e u' w'' ⟨rfl,rfl,rfl⟩;have d:=g.out;clear g;generalize i.setCell ⟨W.heap.size,0,none⟩ (.string ⟨#[111,107]⟩)=w5 at *;simp[Leaves,settle,results,Tryz.results79,go_sem,c];exact d
theorem jf{l:Sx}{V0:World}(c:Int)(L:af c)(I:aU w0)(d:aC w0 bs mv l P V0 V)(K:Below W.heap.size W V0)(F:w0.heap.size<=W.heap.size)(B:W.heap.size<V0.heap.size)(x:¬P W.heap.size)(G:V0.heap[W.heap.size]?=some pV)
  (E:∀(a:World) (t:ByteArray),a.cell? ⟨W.heap.size,0,none⟩=some (.string t)->(results Tryz.f79 tmps).run prog a=.ok (.string t) a):
  bodyPostD prog Tryz.f79 (λe H=>e=.returned (sV (eH c))/\aC w0 bs mv l P W H) (Exit.panic [{ v:= .iface 24 (.int .i64 c),recovered:=false}]) { tmps:=tmps,defers:=[{ target:=Target.fn (Fn.func 148) #[.pointer (some ⟨W.heap.size,0,none⟩)],args:= #[]}]} V:=by
 have C:V.heap[W.heap.size]?=some pV:=(d.kept B x).trans G
 have o:Below w0.heap.size w0 V:=by obtain⟨P',⟨s,S,d⟩,_⟩:=d;exact d.low
 have p:∀a,Below V.heap.size V a->a.cell? ⟨W.heap.size,0,none⟩=some (.string ⟨#[]⟩)/\a.frozen? ⟨W.heap.size,0,none⟩=false:=λa u=>by
  have w:=(u.block _ (aD.1 C).1).trans C;exact⟨by rw[vE w];rfl,x9 w 0⟩
 have h:=I.below o;refine leaves_cons (f:=148) (args:= #[.pointer (some ⟨W.heap.size,0,none⟩)]) (by simp) (by simp[go_sem]) ?_;refine(wu ⟨W.heap.size,0,none⟩ c L (.string ⟨#[]⟩) V h.g.tab h.g.err p).mono ?_;rintro e u' w'' ⟨rfl,rfl,q,i,rfl⟩;have b:(q.setCell ⟨W.heap.size,0,none⟩ (sV (eH c))).cell? ⟨W.heap.size,0,none⟩=some (sV (eH c)):=World.cell?_setCell_same _ _ _ (p q i).1;have k:=E _ _ b;have j:aC w0 bs mv l P W (q.setCell ⟨W.heap.size,0,none⟩ (sV (eH c))):=aC.store (d.later i) K F (aO _) B x _;exact⟨_,k,rfl,j⟩
theorem DV(t:ByteArray)(c:R (.returned (.string t)) V)(d:V.cell? ⟨W.heap.size,0,none⟩=some (.string t))
  (b:∀(a:World) (t:ByteArray),a.cell? ⟨W.heap.size,0,none⟩=some (.string t)->(results Tryz.f79 tmps).run prog a=.ok (.string t) a):
  bodyPostD prog Tryz.f79 R Exit.ret { tmps:=tmps,defers:=[{ target:=Target.fn (Fn.func 148) #[.pointer (some ⟨W.heap.size,0,none⟩)],args:= #[]}]} V:=by
 refine leaves_cons (f:=148) (args:= #[.pointer (some ⟨W.heap.size,0,none⟩)]) (by simp) (by simp[go_sem]) ?_;refine(xU _ _).mono ?_;rintro e u' w'' ⟨rfl,rfl,rfl⟩;exact⟨_,b _ _ d,c⟩
theorem kE:∀(vs:List (List UInt8)) (ns:List Int),numsOf vs=some ns->ns.length=vs.length
 |[],ns,h=>by simp[numsOf]at h;subst h;rfl
 |y::r,ns,h=>by
  unfold numsOf at h
  split at h
  .cases h
  .cases hr:numsOf r with
   |none=>rw[hr]at h;cases h
   |some q=>
    rw[hr]at h;simp at h;subst h;simp[kE r q hr]
theorem Sc(i:Nat)(hi:i≠4)(v:Value)(t:Array Value):results Tryz.f79 (t.setIfInBounds i v)=results Tryz.f79 t:=by
 simp[results,Tryz.results79,rO hi]
theorem nZ{P:Program}{fn:Func}{t1 t2:Array Value}(h:results fn t1=results fn t2):∀(ds:List Deferred) (u:FrameMode) (w:World),Leaves P fn t1 R ds u w->Leaves P fn t2 R ds u w
 |[],.returning,w,⟨v,h1,h2⟩=>⟨v,h ▸ h1,h2⟩
 |[],.panicking chain,w,a=>a
 |[],.run,_,a=>a
 |d::ds,u,w,⟨h1,fv,cap,f,args,h2,h3,h4⟩=>⟨h1,fv,cap,f,args,h2,h3,h4.mono λe u' w' a=>by
   cases e
   .exact nZ h ds _ _ a
   .exact nZ h ds _ _ a
   .exact a⟩
theorem rG(i:Nat)(hi:i≠4)(v:Value)(c:List PanicEntry)(a:Act)(w:World)(h:bodyPostD prog Tryz.f79 R (.panic c) (a.put (some i) v) w):bodyPostD prog Tryz.f79 R (.panic c) a w:=
 nZ (Sc i hi v a.tmps) _ _ _ h
structure An(w0:World)(bs m:Nat)(st:Sx)(s:Nat)(S P:Nat->Prop)(W:World)(A:Nat)(y:List UInt8)(n:List (List UInt8))(V:World):Prop where
 dk:Dk w0 bs (some m) st s S P V
 vm:mM V bs m
 low:Below W.heap.size W V
 res:V.heap[W.heap.size]?=some pV
 row:∀j x,(y::n)[j]?=some x->V.cell? ⟨A,j,none⟩=some (sV x)
 al:A<V.heap.size
 few:(n.length:Int)+1<=9223372036854775807
theorem An.below{b:World}(h:An w0 bs m st s S P W A y n V)(a:Below V.heap.size V b):An w0 bs m st s S P W A y n b:=
 ⟨h.dk.below a,h.vm.still (a.block m h.vm.lt),h.low.trans (a.mono h.low.size),(a.block _ (aD.1 h.res).1).trans h.res,λj x c=>(a.cell (p:=⟨A,j,none⟩) h.al).trans (h.row j x c),fO h.al a.size,h.few⟩
theorem An.cells(h:An w0 bs m st s S P W A y n V):V.cell? ⟨bs,1,none⟩=some (.map (some m))/\V.cell? ⟨A,0,none⟩=some (sV y)/\V.cell? ⟨W.heap.size,0,none⟩=some (.string ⟨#[]⟩)/\V.frozen? ⟨W.heap.size,0,none⟩=false:=
 ⟨h.dk.cell.2.1,h.row 0 y rfl,by rw[vE h.res];rfl,x9 h.res 0⟩
theorem aaN(w:World):((w.alloc (.cells #[.int .i64 0,.nilFunc] 228)).cell? ⟨w.heap.size,0,none⟩=some (.int .i64 0)/\(w.alloc (.cells #[.int .i64 0,.nilFunc] 228)).cell? ⟨w.heap.size,1,none⟩=some .nilFunc)/\(w.alloc (.cells #[.int .i64 0,.nilFunc] 228)).frozen? ⟨w.heap.size,0,none⟩=false/\(w.alloc (.cells #[.int .i64 0,.nilFunc] 228)).frozen? ⟨w.heap.size,1,none⟩=false:=
 ⟨⟨by rw[vE (vw w _)];rfl,by rw[vE (vw w _)];rfl⟩,x9 (vw w _) 0,x9 (vw w _) 1⟩
theorem oh(h:Dk w0 bs (some m) st s S P W)(i:mM W bs m)(line:List UInt8)(hl:line.length<=1000000)(y:List UInt8)(n:List (List UInt8))(p:aH line=y::n):
  Calls prog 149 #[.string ⟨line.toArray⟩] (W.alloc pV) λe b=>∃A,e=.returned (.slice (some ⟨A,0,none⟩) (n.length+1) (n.length+1))/\Hid (An w0 bs m st s S P W A y n b):=by
 refine(Am line (W.alloc pV) (by omega)).mono ?_;rintro e b ⟨A,rfl,h1,a,f⟩;rw[p]at a⊢;have c:Below W.heap.size W b:=(wh W pV).trans (f.mono (by simp));refine⟨A,rfl,h.below c,i.still (c.block m i.lt),c,(f.block W.heap.size (by simp)).trans (vw W pV),λj x k=>?_,(a.lt A rfl).2,?_⟩
 rotate_left 1
 .rcases a.2 with⟨e,_⟩|⟨g,cap,cur,e,_,_,_,d,_⟩
  .cases e
  .injection e with _ _ e
   have o:n.length+1<=maxLen:=by rw[<-e]at d;simpa using d
   unfold maxLen at o;omega
 have:=a.cells (g:=A) rfl j (sV x) (by rw[List.getElem?_map,k];rfl);rw[bZ]at this;exact this
theorem KR(h:Dk w0 bs (some m) st s S P W)(o:mM W bs m)(v:aU w0)(line:List UInt8)(j:line.length<=1000000)(y:List UInt8)(n:List (List UInt8))(i:aH line=y::n)(q:dM y=none):
  Calls prog 79 #[.pointer (some ⟨bs,0,none⟩),.string ⟨line.toArray⟩] W λe F=>e=.returned (sV (eH 3))/\aC w0 bs (some m) st P W F:=by
 have G:∀(fn:Fn) (first cap:Array Value) (w:World),(Instr.makeFunc fn first cap).run prog w=.ok (.func fn first cap) w:=λ_ _ _ _=>rfl
 have k:y.length<=1000000:=di (dS line y (by rw[i];simp)) j;have C:=hid (oh h o line j y n i)
 have i0:((n.length:Int)+1==0)=false:=by simp only[beq_eq_false_iff_ne];omega
 have i1:(0:Int)<(n.length:Int)+1:=by omega
 have hlt:=h.lt;have B:=h.low.size
 have u:¬P W.heap.size:=λe=>by have:=h.plt _ e;omega
 clear h o i j
 go_enter_defers func79,ntmps79
 go_wp2_with (first
  |(go_at_call 149;refine C.out.mono ?_;rintro e a ⟨A,rfl,c⟩)
  |fail)
 have E:=c.out.cells
 have b:∀V:World,V.heap[m]?=a.heap[m]? ->(Instr.lookup 223 (.map (some m)) (.string ⟨y.toArray⟩) true).run prog V=.ok (.tuple #[Ue,.bool false]) V:=λV e=>by have:=lZ (c.out.vm.still e) k;rw[q]at this;exact this
 have x:=b a.drew rfl;have d:=b (a.alloc (.cells #[.int .i64 0,.nilFunc] 228)).drew (zk _ _ _ c.out.vm.lt);have hl2:bs<a.heap.size/\A<a.heap.size:=⟨c.out.dk.lt,c.out.al⟩;have f0:=aaN a
 go_region
 all_goals
  have p:Below a.heap.size a (a.alloc (.cells #[.int .i64 0,.nilFunc] 228)).drew:=(wh _ _).drew;have f:=c.out.below p;clear b x d G E c p;revert f f0;generalize(a.alloc (.cells #[.int .i64 0,.nilFunc] 228))=w3;intro f0 f;have g:=hid f;clear f;go_wp2;refine jf (V0:=w3.drew) 3 ⟨by decide,by decide⟩ v (g.out.dk.same (zI _ _)) g.out.low B (aD.1 g.out.res).1 u g.out.res (λV' t H=>by simp[results,Tryz.results79,go_sem,H])
end Go.Proofs.YthfpipieboophaaGreatDoor
