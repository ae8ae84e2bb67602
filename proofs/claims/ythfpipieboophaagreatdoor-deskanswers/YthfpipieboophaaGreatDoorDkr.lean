import Derived.Test.YthfpipieboophaaGreatDoorDkq
namespace Go.Proofs.YthfpipieboophaaGreatDoor
set_option maxRecDepth 100000
set_option maxHeartbeats 40000000
open Go.Proofs.Tryz Go.Joins Go.RowKit Go.Sort Go.Shelf
theorem KS{w0:World}{bs be m:Nat}{st:Sx}{S P:Nat->Prop}{W:World}(h:Dk w0 bs (some m) st be S P W)(U:mM W bs m)(Z:aU w0)(line:List UInt8)(C:line.length<=1000000)(y:List UInt8)(ws:List (List UInt8))(E:aH line=y::ws)(v:Vb)(T:dM y=some v)(b:ws.length=v.ar)(ns:List Int)(q:numsOf ws=some ns){n:Nat}(X:dH n st)(hn:n<=1600)(hc:(v.does st ns).1.1=0):
  Calls prog 79 #[.pointer (some ⟨bs,0,none⟩),.string ⟨line.toArray⟩] W λe z=>e=.returned (sV (v.does st ns).1.2)/\aC w0 bs (some m) (v.does st ns).2 P W z:=by
 have GI:∀(fn:Fn) (first cap:Array Value) (w:World),(Instr.makeFunc fn first cap).run prog w=.ok (.func fn first cap) w:=λ_ _ _ _=>rfl
 have L:y.length<=1000000:=di (dS line y (by rw[E];simp)) C;have HW:=hid (oh h U line C y ws E)
 have i0:((ws.length:Int)+1==0)=false:=by simp only[beq_eq_false_iff_ne];omega
 have i1:(0:Int)<(ws.length:Int)+1:=by omega
 have hlt:=h.lt;have h0:=h.low.size
 have Y:¬P W.heap.size:=λe=>by have:=h.plt _ e;omega
 have s:∀x∈ws,x.length<=1000000:=λx hx=>di (dS line x (by rw[E];simp[hx])) C
 have B:ws.length<=100:=by rw[b];cases v <;>decide
 have i2:(ws.length:Int)<=100:=by omega
 have HL:=hid b
 have G:Hid (∀V A g,An w0 bs m st be S P W A y ws V->V.heap[g]?=some (.cells (ns.map (Value.int .i64)).toArray 3)->¬P g->Calls prog v.fn #[.pointer (some ⟨bs,0,none⟩),.slice (some ⟨g,0,none⟩) ws.length ws.length] V λe z=>e=jJ (v.does st ns).1.1 (v.does st ns).1.2/\aC w0 bs (some m) (v.does st ns).2 P V z):=by
  intro V A g N R Q;have:=Aw v N.dk X hn Z ns (by rw[kE ws ns q];exact b) g R Q;rw[<-b]at this;exact this
 clear b X hn;generalize(v.does st ns).2=st' at *;generalize(v.does st ns).1.2=txt at *;generalize(v.does st ns).1.1=c at *;unfold jJ at G;rw[if_pos hc]at G;clear hc;clear h U E C;obtain⟨f,hf⟩:∃f,Hid (f=v.fn):=⟨_,rfl⟩;obtain⟨k,hk⟩:∃k,Hid (k=v.ar):=⟨_,rfl⟩
 go_enter_defers func79,ntmps79
 go_wp2_with (first
  |(go_at_call 149;refine HW.out.mono ?_;rintro e l ⟨A,rfl,r⟩)
  |fail)
 have c2:=r.out.cells
 have p:∀V:World,V.heap[m]?=l.heap[m]? ->(Instr.lookup 223 (.map (some m)) (.string ⟨y.toArray⟩) true).run prog V=.ok (.tuple #[zn bs f k,.bool true]) V:=λV e=>by have:=lZ (r.out.vm.still e) L;simp only[T]at this;rw[<-hf.out,<-hk.out]at this;exact this
 have Ce:=p l.drew rfl;have u:=p (l.alloc (.cells #[.int .i64 0,.nilFunc] 228)).drew (zk _ _ _ r.out.vm.lt);have M:bs<l.heap.size/\A<l.heap.size:=⟨r.out.dk.lt,r.out.al⟩;have f0:=aaN l;have B3:Below l.heap.size l (l.alloc (jS bs f k)).drew:=(wh _ _).drew;have I:Hid (An w0 bs m st be S P W A y ws (l.alloc (jS bs f k)).drew):=r.out.below B3;have j:(l.alloc (jS bs f k)).drew.heap[l.heap.size]?=some (jS bs f k):=vw l (jS bs f k);clear T
 go_region
 all_goals
  clear p Ce u c2 r B3 f0 GI M;revert I j;generalize(l.alloc (jS bs f k)).drew=w3;generalize l.heap.size=bx;intro I j;have b3:w3.cell? ⟨bx,0,none⟩=some (.int .i64 k)/\w3.cell? ⟨bx,1,none⟩=some (.func (.func f) #[.pointer (some ⟨bs,0,none⟩)] #[])/\bx<w3.heap.size:=⟨by rw[vE j];rfl,by rw[vE j];rfl,(aD.1 j).1⟩
  have ek:k=ws.length:=by rw[hk.out,HL.out]
  subst ek
  have i3:(1:Int)<=(ws.length:Int)+1:=by omega
  have H:Hid (∀V,An w0 bs m st be S P W A y ws V->∀g,V.heap[g]?=some (.cells (ns.map (Value.int .i64)).toArray 3)->¬P g->Calls prog f #[.pointer (some ⟨bs,0,none⟩),.slice (some ⟨g,0,none⟩) ws.length ws.length] V λe z=>e=.returned (sV txt)/\Hid (aC w0 bs (some m) st' P V z)):=λV N g R Q=>by
   have:=G.out V A g N R Q;rw[<-hf.out]at this;exact this
  have eg:∀args V,(callFunc f args).run prog V=.ok (.enter f args) V:=by rw[hf.out];exact u7 v
  have HN:=hid (aaS I.out Z B s ns q j);clear hf hk HL j q B s G;go_wp2;refine wp_region_any (by kernel_rfl) ?_
  change wpAny _ _ _ _ _ _ _ (World.drew _)
  refine wpAny_take (i:=0) (v:= .pointer (some ⟨bx,1,none⟩)) rfl (by kernel_rfl) (by kernel_rfl) (by kernel_rfl) (λc a w h=>rG 36 (by decide) _ c a w h) (Or.inl ⟨by rfl,by intro w;go_simp⟩) ?_;refine wpAny_take (i:=2) (v:= .slice (some ⟨A,0,none⟩) (ws.length+1) (ws.length+1)) rfl (by kernel_rfl) (by kernel_rfl) (by kernel_rfl) (λc a w h=>rG 38 (by decide) _ c a w h) (Or.inl ⟨by rfl,by intro w;go_simp⟩) ?_;refine wpAny_take (i:=3) (v:= .slice (if ws=[]then some ⟨A,0,none⟩else some ⟨A,1,none⟩) ws.length ws.length) rfl (by kernel_rfl) (by kernel_rfl) (by kernel_rfl) (λc a w h=>rG 39 (by decide) _ c a w h) (Or.inl ⟨by rfl,by intro w;go_simp⟩) ?_;refine wpAny_ready (rs:=[1,4]) (by kernel_rfl) (by simp) ?_;refine AllReady.cons rfl (λK d=>?_) (AllReady.cons rfl (λK d=>?_) AllReady.nil)
  go_simp
  refine d _ _ ?_;clear d K;refine wpAny_ready (rs:=[4]) (by kernel_rfl) (by simp) ?_;refine AllReady.cons rfl (λK d=>?_) AllReady.nil
  go_simp
  refine(HN.out _ ?_).mono ?_
  .exact(zI _ _).drew
  rintro e w4 ⟨g,rfl,c4,o⟩;refine d _ _ ?_;clear d K
  rotate_left 1
  go_simp
  refine(HN.out _ ?_).mono ?_
  .exact(zI _ _).drew
  rintro e w4 ⟨g,rfl,c4,o⟩;refine d _ _ ?_;clear d K;refine wpAny_ready (rs:=[1]) (by kernel_rfl) (by simp) ?_;refine AllReady.cons rfl (λK d=>?_) AllReady.nil
  go_simp
  refine d _ _ ?_;clear d K
  all_goals
   refine wpAny_ready (rs:=[5]) (by kernel_rfl) (by simp) ?_;refine AllReady.cons rfl (λK d=>?_) AllReady.nil
   go_simp
   refine(H.out _ o.out.1 g o.out.2.1 o.out.2.2).mono ?_;rintro e w5 ⟨rfl,h5⟩;have F:=(h5.out.kept (aD.1 o.out.1.res).1 Y).trans o.out.1.res;have c5:w5.cell? ⟨W.heap.size,0,none⟩=some (.string ⟨#[]⟩)/\w5.frozen? ⟨W.heap.size,0,none⟩=false/\W.heap.size<w5.heap.size:=⟨by rw[vE F];rfl,x9 F 0,(aD.1 F).1⟩;have H5:Hid (aC w0 bs (some m) st' P W (w5.setCell ⟨W.heap.size,0,none⟩ (sV txt))):=aC.store h5.out o.out.1.low h0 (aO _) (aD.1 o.out.1.res).1 Y _;have q5:(w5.setCell ⟨W.heap.size,0,none⟩ (sV txt)).cell? ⟨W.heap.size,0,none⟩=some (sV txt):=World.cell?_setCell_same _ _ _ c5.1;refine d _ _ ?_;clear d K F;refine wpAny_ready (rs:=[6]) (by kernel_rfl) (by simp) ?_;refine AllReady.cons rfl (λK d=>?_) AllReady.nil
   go_simp
   refine d _ _ ?_;clear d K;refine wpAny_done (by kernel_rfl) ?_ _;go_wp2
   all_goals exact DV ⟨txt.toArray⟩ ⟨rfl,H5.out⟩ q5 (λV' t ht=>by simp[results,Tryz.results79,go_sem,ht])
end Go.Proofs.YthfpipieboophaaGreatDoor
