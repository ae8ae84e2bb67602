import Derived.StillTailTactics
import Derived.Test.YthfpipieboophaaGreatDoorZDkb
namespace Go.Proofs.YthfpipieboophaaGreatDoor
set_option maxRecDepth 100000
set_option maxHeartbeats 40000000
open Go.RowKit Go.Sort Go.Shelf
section
open Go.Proofs.Tryz Go.Joins
variable{n bs d:Nat}{w0 W:World}{mv:Option Nat}{st:Sx}{S P:Nat->Prop}
theorem UK(h:Dk w0 bs mv st d S P W)(i:dH n st)(j:n<=1600)(f:aU w0)(k t v:Int)(g:Nat)(m:W.heap[g]?=some (.cells ([k,t,v].map (Value.int .i64)).toArray 3))(l:¬P g):
  Calls prog 133 #[.pointer (some ⟨bs,0,none⟩),.slice (some ⟨g,0,none⟩) 3 3] W λe a=>e=jJ (st.feed0 k t v).1 (nC st k t v)/\aC w0 bs mv (st.feed0 k t v).2 P W a:=by
 have H:Hid (Calls prog 214 #[.pointer (some ⟨bs,0,none⟩),.int .i64 0,.slice (some ⟨g,0,none⟩) 3 3] W λe a=>e=jJ (st.feed0 k t v).1 (nC st k t v)/\Hid (aC w0 bs mv (st.feed0 k t v).2 P W a)):=RV h i j f k t v g m l;clear h i j f m l;generalize(st.feed0 k t v).2=st' at *;generalize(st.feed0 k t v).1=c at *;generalize nC st k t v=txt at *;unfold jJ at *
 by_cases hc:c=0
 .rw[if_pos hc]at *;go_enter func133,ntmps133
  go_wp2_with (first
   |(go_at_call 214;refine H.out.mono ?_;rintro e o ⟨rfl,b⟩)
   |fail)
  go_ret;exact⟨rfl,b.out⟩
 .rw[if_neg hc]at *;go_enter func133,ntmps133
  go_wp2_with (first
   |(go_at_call 214;refine H.out.mono ?_;rintro e o ⟨rfl,b⟩)
   |fail)
  exact⟨rfl,rfl,b.out⟩
theorem RZ(h:Dk w0 bs mv st d S P W)(i:dH n st)(j:n<=1600)(f:aU w0)(k t v:Int)(g:Nat)(m:W.heap[g]?=some (.cells ([k,t,v].map (Value.int .i64)).toArray 3))(l:¬P g):
  Calls prog 134 #[.pointer (some ⟨bs,0,none⟩),.slice (some ⟨g,0,none⟩) 3 3] W λe a=>e=jJ (st.feed1 k t v).1 (nE st k t v)/\aC w0 bs mv (st.feed1 k t v).2 P W a:=by
 have H:Hid (Calls prog 214 #[.pointer (some ⟨bs,0,none⟩),.int .i64 1,.slice (some ⟨g,0,none⟩) 3 3] W λe a=>e=jJ (st.feed1 k t v).1 (nE st k t v)/\Hid (aC w0 bs mv (st.feed1 k t v).2 P W a)):=RY h i j f k t v g m l;clear h i j f m l;generalize(st.feed1 k t v).2=st' at *;generalize(st.feed1 k t v).1=c at *;generalize nE st k t v=txt at *;unfold jJ at *
 by_cases hc:c=0
 .rw[if_pos hc]at *;go_enter func134,ntmps134
  go_wp2_with (first
   |(go_at_call 214;refine H.out.mono ?_;rintro e o ⟨rfl,b⟩)
   |fail)
  go_ret;exact⟨rfl,b.out⟩
 .rw[if_neg hc]at *;go_enter func134,ntmps134
  go_wp2_with (first
   |(go_at_call 214;refine H.out.mono ?_;rintro e o ⟨rfl,b⟩)
   |fail)
  exact⟨rfl,rfl,b.out⟩
theorem UL(h:Dk w0 bs mv st d S P W)(u:dH n st)(v:n<=1600)(a b:Int)(g:Nat)(p:W.heap[g]?=some (.cells ([a,b].map (Value.int .i64)).toArray 3))(y:¬P g):
  Calls prog 135 #[.pointer (some ⟨bs,0,none⟩),.slice (some ⟨g,0,none⟩) 2 2] W λe f=>e=jJ (st.move a b).1 [109,97,114,107]/\aC w0 bs mv (st.move a b).2 P W f:=by
 have l:=(aD.1 p).1
 have i:∀{V:World},V.heap[g]?=some (.cells ([a,b].map (Value.int .i64)).toArray 3)->V.cell? ⟨g,0,none⟩=some (.int .i64 a)/\V.cell? ⟨g,1,none⟩=some (.int .i64 b):=λC=>by
  refine⟨?_,?_⟩ <;>(rw[vE C];rfl)
 have c1:W.cell? ⟨bs,0,none⟩=some (.pointer (some ⟨d,0,none⟩))/\W.cell? ⟨g,0,none⟩=some (.int .i64 a)/\W.cell? ⟨g,1,none⟩=some (.int .i64 b):=⟨h.cell.1,i p⟩;have hlt:=h.lt
 have r:Hid (∀V,Below W.heap.size W V->Calls prog 15 #[.pointer (some ⟨d,0,none⟩),.int .i64 a,.int .i64 b] V λe f=>e=.returned (jI (st.move a b).1)/\(f.cell? ⟨bs,0,none⟩=some (.pointer (some ⟨d,0,none⟩))/\f.cell? ⟨g,0,none⟩=some (.int .i64 a)/\f.cell? ⟨g,1,none⟩=some (.int .i64 b))/\Hid (aC w0 bs mv (st.move a b).2 P W f)):=by
  intro V o;have x:=h.below o;refine(NJ x.eng u v a b).mono ?_;rintro e f ⟨S',rfl,m,E⟩;obtain⟨w,z,F⟩:=x.goes m E;have q:Turned P W f:=(Turned.of_below (S:=P) o).trans z (λ_ _ e=>e);exact⟨rfl,⟨w.cell.1,i ((z.block g (fO l o.size) y).trans ((o.block g l).trans p))⟩,aC.go w q (λk e=>(F k e).imp id (λg=>di o.size g)) (zI _ _)⟩
 have t:Hid (Below W.heap.size W W.drew):=(zI _ _).drew;clear h u v p y i;generalize(st.move a b).2=st' at *;generalize(st.move a b).1=c at *;unfold jJ;unfold jI at r
 by_cases hc:c=0
 .rw[if_pos hc]at *;clear hc;go_enter func135,ntmps135;go_wp2
  go_region_held3 (λV=>V.cell? ⟨bs,0,none⟩=some (.pointer (some ⟨d,0,none⟩))/\V.cell? ⟨g,0,none⟩=some (.int .i64 a)/\V.cell? ⟨g,1,none⟩=some (.int .i64 b)) (first|exact c1|exact s|fail) (first
   |(go_at_call 15;refine(r.out _ t.out).mono ?_;rintro e A ⟨rfl,s,m⟩)
   |(go_at_call 213;refine(iZ _).mono ?_;rintro e B ⟨rfl,j⟩;have j:=j.symm;subst j)
   |fail)
  go_wp2;go_ret;exact⟨rfl,m.out⟩
 .rw[if_neg hc]at *;clear hc;go_enter func135,ntmps135;go_wp2
  go_still_tail 10,(by kernel_rfl)
  go_wp2_with (first
   |(go_at_call 15;refine(r.out _ ?_).mono ?_;(exact t.out);rintro e A ⟨rfl,s,m⟩)
   |(go_at_call 213;refine(jY _ _).mono ?_;rintro e B ⟨rfl,j⟩;have j:=j.symm;subst j)
   |fail)
  exact⟨rfl,rfl,m.out⟩
theorem R3(h:Dk w0 bs mv st d S P W)(a:dH n st)(t:n<=1600)(r:aU w0)(B:Value):Calls prog 136 #[.pointer (some ⟨bs,0,none⟩),B] W λe b=>e=.returned (sV (aa [st.x.m0,st.x.m1]))/\aC w0 bs mv st P W b:=by
 have c:=a.f0;have f:=a.f1;have j:=a.m0;have k:=a.m1;have i:=a.l0;have l:=a.l1;have y:=a.jok t
 have A:Hid (Calls prog 215 #[.func (.func 20) #[.pointer (some ⟨d,0,none⟩)] #[]] W λe b=>e=.returned (.string ⟨(aa [st.x.m0,st.x.m1]).toArray⟩)/\Hid (aC w0 bs mv st P W b)):=by
  obtain⟨bj,u,q,m,v,p,s,hS⟩:=h.eng
  exact(xL 20 (.pointer (some ⟨d,0,none⟩)) (st.x.m0) (st.x.m1) (by exact⟨by omega,by omega⟩) (by exact⟨by omega,by omega⟩) W (r.below h.low).g.tab (enters_of func20 (by kernel_rfl) rfl) (jd d bj u q m st.f0 st.f1 v p st.x st.L st.L W 0 s) (jd d bj u q m st.f0 st.f1 v p st.x st.L st.L W 1 s)).mono λe b o=>⟨o.1,h.same o.2⟩
 have hc:=h.cell.1;have hlt:=h.lt
 have GI:∀(fn:Fn) (first cap:Array Value) (w:World),(Instr.makeFunc fn first cap).run prog w=.ok (.func fn first cap) w:=λ_ _ _ _=>rfl
 clear h a t r c f j k i l y;go_enter func136,ntmps136
 go_wp2_with (first
  |(go_at_call 215;refine A.out.mono ?_;rintro e w2 ⟨rfl,z⟩)
  |fail)
 go_ret;exact⟨rfl,z.out⟩
theorem UM(h:Dk w0 bs mv st d S P W)(a:dH n st)(q:n<=1600)(o:aU w0)(u:Value):Calls prog 137 #[.pointer (some ⟨bs,0,none⟩),u] W λe b=>e=.returned (sV (aa [st.x.R0.length,st.x.R1.length]))/\aC w0 bs mv st P W b:=by
 have c:=a.f0;have f:=a.f1;have j:=a.m0;have k:=a.m1;have i:=a.l0;have l:=a.l1;have r:=a.jok q
 have t:Hid (Calls prog 215 #[.func (.func 19) #[.pointer (some ⟨d,0,none⟩)] #[]] W λe b=>e=.returned (.string ⟨(aa [st.x.R0.length,st.x.R1.length]).toArray⟩)/\Hid (aC w0 bs mv st P W b)):=by
  obtain⟨bj,bm,v0,v1,om,Sg,p,hS⟩:=h.eng
  exact(xL 19 (.pointer (some ⟨d,0,none⟩)) (st.x.R0.length) (st.x.R1.length) (by exact⟨by omega,by omega⟩) (by exact⟨by omega,by omega⟩) W (o.below h.low).g.tab (enters_of func19 (by kernel_rfl) rfl) (NM p) (NN p)).mono λe b m=>⟨m.1,h.same m.2⟩
 have hc:=h.cell.1;have hlt:=h.lt
 have GI:∀(fn:Fn) (first cap:Array Value) (w:World),(Instr.makeFunc fn first cap).run prog w=.ok (.func fn first cap) w:=λ_ _ _ _=>rfl
 clear h a q o c f j k i l r;go_enter func137,ntmps137
 go_wp2_with (first
  |(go_at_call 215;refine t.out.mono ?_;rintro e w2 ⟨rfl,s⟩)
  |fail)
 go_ret;exact⟨rfl,s.out⟩
theorem Xm(h:Dk w0 bs mv st d S P W)(a:dH n st)(q:n<=1600)(o:aU w0)(u:Value):Calls prog 138 #[.pointer (some ⟨bs,0,none⟩),u] W λe b=>e=.returned (sV (aa [st.f0,st.f1]))/\aC w0 bs mv st P W b:=by
 have c:=a.f0;have f:=a.f1;have j:=a.m0;have k:=a.m1;have i:=a.l0;have l:=a.l1;have r:=a.jok q
 have t:Hid (Calls prog 215 #[.func (.func 21) #[.pointer (some ⟨d,0,none⟩)] #[]] W λe b=>e=.returned (.string ⟨(aa [st.f0,st.f1]).toArray⟩)/\Hid (aC w0 bs mv st P W b)):=by
  obtain⟨bj,bm,v0,v1,om,Sg,p,hS⟩:=h.eng
  exact(xL 21 (.pointer (some ⟨d,0,none⟩)) (st.f0) (st.f1) (by exact⟨by omega,by omega⟩) (by exact⟨by omega,by omega⟩) W (o.below h.low).g.tab (enters_of func21 (by kernel_rfl) rfl) (Ub p) (Uc p)).mono λe b m=>⟨m.1,h.same m.2⟩
 have hc:=h.cell.1;have hlt:=h.lt
 have GI:∀(fn:Fn) (first cap:Array Value) (w:World),(Instr.makeFunc fn first cap).run prog w=.ok (.func fn first cap) w:=λ_ _ _ _=>rfl
 clear h a q o c f j k i l r;go_enter func138,ntmps138
 go_wp2_with (first
  |(go_at_call 215;refine t.out.mono ?_;rintro e w2 ⟨rfl,s⟩)
  |fail)
 go_ret;exact⟨rfl,s.out⟩
theorem UN(h:Dk w0 bs mv st d S P W)(f:dH n st)(m:n<=1600)(c:aU w0)(l:Value):Calls prog 139 #[.pointer (some ⟨bs,0,none⟩),l] W λe a=>e=.returned (sV (Lib.itoa st.x.late))/\aC w0 bs mv st P W a:=by
 have k:=f.late;have o:Hid (Calls prog 25 #[.pointer (some ⟨d,0,none⟩)] W λe a=>e=.returned (.int .i64 st.x.late)/\a=W):=DR h.eng
 have p:Hid (Calls prog 113 #[.int .i64 st.x.late] W λe a=>e=.returned (.string ⟨(Lib.itoa st.x.late).toArray⟩)/\Hid (aC w0 bs mv st P W a)):=(mF st.x.late (by omega) (by omega) W (c.below h.low).g.tab).mono λe a i=>⟨i.1,h.same i.2⟩
 have hc:=h.cell.1;have hlt:=h.lt;clear h f m c k;go_enter func139,ntmps139
 go_wp2_with (first
  |(go_at_call 25;refine o.out.mono ?_;rintro e a ⟨rfl,b⟩;have b:=b.symm;subst b)
  |(go_at_call 113;refine p.out.mono ?_;rintro e w2 ⟨rfl,j⟩)
  |fail)
 go_ret;exact⟨rfl,j.out⟩
def BX:List UInt8:=[102,101,100,32,103,114,111,117,112,115,32,104,101,108,112,32,104,101,108,100,32,108,97,116,101,32,108,101,102,116,32,109,97,114,107,32,109,97,114,107,115,32,112,108,97,110,32,114,101,108,111,97,100,32,114,105,103,104,116,32,115,97,118,101,100,32,118,105,101,119]
theorem UO(h:Dk w0 bs mv st d S P W)(b:Value):Calls prog 144 #[.pointer (some ⟨bs,0,none⟩),b] W λe a=>e=.returned (sV BX)/\aC w0 bs mv st P W a:=by
 go_enter func144,ntmps144;go_wp2;go_ret;exact⟨rfl,h.same (zI _ _)⟩
def sortO(L:List O):List O:=L.mergeSort (λa b=>decide (cO a b<=0))
theorem aR(L:List O):(sortO L).Perm L:=List.mergeSort_perm L _
theorem eX(L:List O):bJ (sortO L):=by
 have h:=List.pairwise_mergeSort (le:=λa b:O=>decide (cO a b<=0)) (λa b c f e=>by
  simp only[decide_eq_true_eq]at f e⊢
  exact xz a b c f e) (λa b=>by
  have:=qw a b;simp only[Bool.or_eq_true,decide_eq_true_eq]
  omega) L
 exact h.imp (λh=>by simpa using h)
def Sx.text(st:Sx):Option (List UInt8):=if 5000<st.L.length∨60000<(bN st.x st.f0 st.f1 (sortO st.L)).length then none else some (bN st.x st.f0 st.f1 (sortO st.L))
def Sx.again(st:Sx):Sx:=⟨st.x,st.f0,st.f1,(sortO st.L).reverse⟩
theorem dH.again(h:dH n st):dH n st.again:=by
 obtain⟨A,B,a,c,b⟩:=h.ex;exact⟨⟨A,B,a,((List.reverse_perm _).trans (aR _)).trans c,b⟩,h.plan,h.l0,h.l1,h.late,h.m0,h.m1,h.f0,h.f1⟩
theorem nW{t:List UInt8}(h:st.text=some t):t.length<=60000:=by
 unfold Sx.text at h
 split at h
 .cases h
 .injection h with h
  subst h;omega
theorem BZ(h:PE st d S W)(a:dH n st)(g:n<=1600)(c:xO W):
  Calls prog 18 #[.pointer (some ⟨d,0,none⟩)] W λe b=>e=.returned (match st.text with|none=>.tuple #[.string ⟨#[]⟩,.iface 24 (.int .i64 4)]|some t=>.tuple #[.string ⟨t.toArray⟩,.nilIface])/\Below W.heap.size W b:=by
 have:=NR (x:=st.x) (f0:=st.f0) (f1:=st.f1) (L:=st.L) h c (a.sv g) a.tell (aR st.L) (eX st.L);refine this.mono ?_;rintro e b ⟨rfl,f⟩;refine⟨?_,f⟩;unfold Sx.text
 split
 .rfl
 .rfl
def iL(st:Sx):Int×List UInt8:=match st.text with|none=>(4,[])|some t=>(0,Lib.itoa t.length)
theorem R4(h:Dk w0 bs mv st d S P W)(l:dH n st)(m:n<=1600)(j:aU w0)(s:Value):Calls prog 142 #[.pointer (some ⟨bs,0,none⟩),s] W λe a=>e=jJ (iL st).1 (iL st).2/\aC w0 bs mv st P W a:=by
 have b:=BZ h.eng l m (j.below h.low).g;have hc:=h.cell.1;have hlt:=h.lt;have f:=j.below h.low;unfold iL
 cases ht:st.text with
 |none=>
  simp only[ht]at b
  have b:Hid (Calls prog 18 #[.pointer (some ⟨d,0,none⟩)] W λe a=>e=.returned (.tuple #[.string ⟨#[]⟩,.iface 24 (.int .i64 4)])/\Hid (aC w0 bs mv st P W a)):=b.mono λe a i=>⟨i.1,h.same i.2⟩
  clear h l m j f ht;go_enter func142,ntmps142
  go_wp2_with (first
   |(go_at_call 18;refine b.out.mono ?_;rintro e p ⟨rfl,k⟩)
   |(go_at_call 213;refine(jY _ _).mono ?_;rintro e q ⟨rfl,c⟩;have c:=c.symm;subst c)
   |fail)
  exact⟨rfl,rfl,k.out⟩
 |some t=>
  simp only[ht]at b;have htl:=nW ht;have b:Hid (Calls prog 18 #[.pointer (some ⟨d,0,none⟩)] W λe a=>e=.returned (.tuple #[.string ⟨t.toArray⟩,.nilIface])/\Hid (Below W.heap.size W a)):=b
  have r:Hid (∀V,Hid (Below W.heap.size W V)->Calls prog 113 #[.int .i64 t.length] V λe a=>e=.returned (.string ⟨(Lib.itoa t.length).toArray⟩)/\Hid (aC w0 bs mv st P W a)):=λV o=>(mF t.length (by omega) (by omega) V (f.below o.out).g.tab).mono λe a i=>⟨i.1,h.same (o.out.trans (i.2.mono o.out.size))⟩
  clear h l m j f ht;go_enter func142,ntmps142
  go_wp2_with (first
   |(go_at_call 18;refine b.out.mono ?_;rintro e p ⟨rfl,k⟩)
   |(go_at_call 213;refine(iZ _).mono ?_;rintro e q ⟨rfl,c⟩;have c:=c.symm;subst c)
   |(go_at_call 113;refine(r.out _ k).mono ?_;rintro e w4 ⟨rfl,u⟩)
   |fail)
  go_ret;exact⟨rfl,u.out⟩
def dJ(st:Sx):(Int×List UInt8)×Sx:=match st.text with|none=>((4,[]),st)|some _=>((0,[114,101,108,111,97,100]),st.again)
theorem NS(h:Dk w0 bs mv st d S P W)(l:dH n st)(r:n<=1600)(q:aU w0)(G:Value):Calls prog 143 #[.pointer (some ⟨bs,0,none⟩),G] W λe a=>e=jJ (dJ st).1.1 (dJ st).1.2/\aC w0 bs mv (dJ st).2 P W a:=by
 have b:=BZ h.eng l r (q.below h.low).g;have hc:=h.cell.1;have hlt:=h.lt;have f:=q.below h.low;unfold dJ
 cases ht:st.text with
 |none=>
  simp only[ht]at b
  have b:Hid (Calls prog 18 #[.pointer (some ⟨d,0,none⟩)] W λe a=>e=.returned (.tuple #[.string ⟨#[]⟩,.iface 24 (.int .i64 4)])/\Hid (aC w0 bs mv st P W a)):=b.mono λe a v=>⟨v.1,h.same v.2⟩
  clear h l r q f ht;go_enter func143,ntmps143
  go_wp2_with (first
   |(go_at_call 18;refine b.out.mono ?_;rintro e z ⟨rfl,j⟩)
   |(go_at_call 213;refine(jY _ _).mono ?_;rintro e A ⟨rfl,c⟩;have c:=c.symm;subst c)
   |fail)
  exact⟨rfl,rfl,j.out⟩
 |some t=>
  simp only[ht]at b;have u:=nW ht
  have B:st.L.length<=5000:=by
   unfold Sx.text at ht
   split at ht
   .cases ht
   .omega
  have i:t=bN st.x st.f0 st.f1 (sortO st.L):=by
   unfold Sx.text at ht
   split at ht
   .cases ht
   .injection ht with ht;exact ht.symm
  have b:Hid (Calls prog 18 #[.pointer (some ⟨d,0,none⟩)] W λe a=>e=.returned (.tuple #[.string ⟨t.toArray⟩,.nilIface])/\Hid (Below W.heap.size W a)):=b
  have F:Hid (∀V,Hid (Below W.heap.size W V)->Calls prog 8 #[.string ⟨t.toArray⟩] V λe a=>∃p,e=.returned (.tuple #[.pointer (some ⟨p,0,none⟩),.nilIface])/\(a.cell? ⟨bs,0,none⟩=some (.pointer (some ⟨d,0,none⟩))/\a.frozen? ⟨bs,0,none⟩=false/\bs<a.heap.size)/\Hid (aC w0 bs mv st.again P W (a.setCell ⟨bs,0,none⟩ (.pointer (some ⟨p,0,none⟩))))):=by
   intro V s;rw[i];refine(xP st.x st.f0 st.f1 (sortO st.L) (l.sv r) (λo E=>l.tell o ((aR _).subset E)) (by rw[(aR st.L).length_eq];exact B) (eX _) (by rw[<-i];exact u) V (f.below s.out).g).mono ?_;rintro e a ⟨p,S',rfl,y,j,C⟩;have w:Below W.heap.size W a:=s.out.trans (C.mono s.out.size);have m:=h.below w;exact⟨p,rfl,⟨m.cell.1,m.cell.2.2,m.lt⟩,h.taken w y (λk e=>di s.out.size (j k e).1)⟩
  clear h l r q f ht i;go_enter func143,ntmps143
  go_wp2_with (first
   |(go_at_call 18;refine b.out.mono ?_;rintro e z ⟨rfl,j⟩)
   |(go_at_call 213;refine(iZ _).mono ?_;rintro e A ⟨rfl,c⟩;have c:=c.symm;subst c)
   |(go_at_call 8;refine(F.out _ j).mono ?_;rintro e w4 ⟨p,rfl,c4,m⟩)
   |fail)
  go_ret;exact⟨rfl,m.out⟩
end
section
open Go.Proofs.Tryz Go.Joins
variable{α:Type}{W w0:World}{n g k bs d:Nat}{mv:Option Nat}{st:Sx}{S P:Nat->Prop}
def JE{α:Type}(W:World)(oa:Option Addr)(enc:α->List Value)(n:Nat)(C:List α):Prop:=∀k c,C[k]?=some c->∃g,oa=some ⟨g,0,none⟩/\g<W.heap.size/\∀j u,(enc c)[j]?=some u->W.cell? ⟨g,k*n+j,none⟩=some u
theorem JE.below{a:World}{i:Option Addr}{enc:α->List Value}{C:List α}(h:JE W i enc n C)(b:Below W.heap.size W a):JE a i enc n C:=λk c o=>by
 obtain⟨g,e,f,l⟩:=h k c o;exact⟨g,e,fO f b.size,λj u m=>(b.cell (p:=⟨g,k*n+j,none⟩) f).trans (l j u m)⟩
theorem Ca(enc:α->List Value)(n:Nat)(f:∀x,(enc x).length=n){B:Nat}{T:TypeId}{v:Value}{C:List α}(h:W.ownsRow B T n v C.length (C.flatMap enc)):∃b o,v=.slice b C.length o/\JE W b enc n C:=by
 have l:=h.2
 rcases l with⟨rfl,i⟩|⟨g,cap,cur,rfl,h1,p,h3,h4,h5,h6⟩
 .have q:=List.length_eq_zero_iff.1 i;subst q;exact⟨none,0,rfl,λk c a=>by simp at a⟩
 .refine⟨_,_,rfl,λk c a=>⟨g,rfl,(aD.1 p).1,λj u e=>?_⟩⟩
  have m:j<n:=by have:=(kH.1 e).1;rwa [f]at this
  have:=h.cells (g:=g) rfl (k*n+j) u (by rw[BV enc n f C k c j a m];exact e);rw[bZ]at this;exact this
abbrev UQ(g o:Nat)(x:O)(W:World):Prop:=W.cell? ⟨g,o,none⟩=some (.int .i64 x.k)/\W.cell? ⟨g,o+1,none⟩=some (.int .i64 x.lk)/\W.cell? ⟨g,o+2,none⟩=some (.int .i64 x.lt)/\W.cell? ⟨g,o+3,none⟩=some (.int .i64 x.lv)/\W.cell? ⟨g,o+4,none⟩=some (.int .i64 x.rk)/\W.cell? ⟨g,o+5,none⟩=some (.int .i64 x.rt)/\W.cell? ⟨g,o+6,none⟩=some (.int .i64 x.rv)/\W.cell? ⟨g,o+7,none⟩=some (.bool x.hl)/\W.cell? ⟨g,o+8,none⟩=some (.bool x.hr)
theorem Au{c:O}(h:∀j u,(ah c)[j]?=some u->W.cell? ⟨g,k*9+j,none⟩=some u):UQ g (k*9) c W:=
 ⟨h 0 _ rfl,h 1 _ rfl,h 2 _ rfl,h 3 _ rfl,h 4 _ rfl,h 5 _ rfl,h 6 _ rfl,h 7 _ rfl,h 8 _ rfl⟩
abbrev UR(g o:Nat)(q:Gi)(W:World):Prop:=W.cell? ⟨g,o,none⟩=some (.int .i64 q.key)/\W.cell? ⟨g,o+1,none⟩=some (.int .i64 q.count)/\W.cell? ⟨g,o+2,none⟩=some (.int .i64 q.sum)/\W.cell? ⟨g,o+3,none⟩=some (.int .i64 q.least)/\W.cell? ⟨g,o+4,none⟩=some (.int .i64 q.most)/\W.cell? ⟨g,o+5,none⟩=some (.bool q.some)
def jG(q:Gi):List Value:=[.int .i64 q.key,.int .i64 q.count,.int .i64 q.sum,.int .i64 q.least,.int .i64 q.most,.bool q.some]
theorem DT{c:Gi}(h:∀j u,(jG c)[j]?=some u->W.cell? ⟨g,k*6+j,none⟩=some u):UR g (k*6) c W:=
 ⟨h 0 _ rfl,h 1 _ rfl,h 2 _ rfl,h 3 _ rfl,h 4 _ rfl,h 5 _ rfl⟩
def xQ(k:Int):List Int->List Int
 |[]=>[k]
 |a::r=>if k<a then k::a::r else if k=a then a::r else a::xQ k r
def bP:List O->List Int
 |[]=>[]
 |o::r=>xQ o.k (bP r)
theorem xR(k x:Int):∀l:List Int,x∈xQ k l↔x=k∨x∈l
 |[]=>by simp[xQ]
 |a::r=>by
  unfold xQ
  split
  .simp
  .split
   .rename_i h;subst h;simp
   .have:=xR k x r;simp only[List.mem_cons,this]
    constructor
    .rintro(h|h|h)
     .exact .inr (.inl h)
     .exact .inl h
     .exact .inr (.inr h)
    .rintro(h|h|h)
     .exact .inr (.inl h)
     .exact .inl h
     .exact .inr (.inr h)
theorem JF(k:Int):∀l:List Int,l.Pairwise (λx y=>x<y)->(xQ k l).Pairwise (λx y=>x<y)
 |[],_=>by simp[xQ]
 |a::r,h=>by
  obtain⟨c,e⟩:=List.pairwise_cons.1 h;unfold xQ
  split
  .rename_i hk
   refine List.pairwise_cons.2 ⟨λx b=>?_,h⟩
   rcases qh.1 b with rfl|b
   .exact hk
   .have:=c x b;omega
  .split
   .exact h
   .refine List.pairwise_cons.2 ⟨λx b=>?_,JF k r e⟩
    rcases(xR k x r).1 b with rfl|b
    .omega
    .exact c x b
theorem nX:∀L:List O,(bP L).Pairwise (λx y=>x<y)
 |[]=>List.Pairwise.nil
 |o::r=>JF o.k (bP r) (nX r)
theorem tF:∀(L:List O) (k:Int),k∈bP L↔∃o∈L,o.k=k
 |[],k=>by simp[bP]
 |o::r,k=>by
  unfold bP;rw[xR,tF r k];simp only[List.mem_cons,exists_eq_or_imp]
  constructor
  .rintro(h|h)
   .exact .inl h.symm
   .exact .inr h
  .rintro(h|h)
   .exact .inl h.symm
   .exact .inr h
theorem mH(L:List O)(k:Int):k∈bP L↔(bK L k).isSome=true:=by
 rw[tF];unfold bK
 split
 .rename_i h
  simp only[Option.isSome_none,Bool.false_eq_true,iff_false,not_exists,not_and];intro o a e
  have:o∈gK L k:=by unfold gK;exact List.mem_filter.2 ⟨a,by simp[e]⟩
  rw[h]at this;cases this
 .rename_i h
  simp only[Option.isSome_some,iff_true];obtain⟨o,a⟩:=List.exists_mem_of_ne_nil _ h;unfold gK at a;obtain⟨c,b⟩:=List.mem_filter.1 a;exact⟨o,c,by simpa using b⟩
theorem pE(L:List O):(bP L).length<=L.length:=by
 induction L with
 |nil=>simp[bP]
 |cons o r ih=>
  have key:∀(k:Int) (l:List Int),(xQ k l).length<=l.length+1:=by
   intro k l
   induction l with
   |nil=>simp[xQ]
   |cons a r ih=>
    unfold xQ
    split
    .simp
    .split
     .simp
     .simp only[List.length_cons];omega
  have:=key o.k (bP r);unfold bP;rw[List.length_cons];omega
def jR(L:List O)(k:Int):Gi:=⟨k,((bK L k).getD τ0).c,((bK L k).getD τ0).s,lo ((bK L k).getD τ0).R,hi ((bK L k).getD τ0).R,some? ((bK L k).getD τ0).R⟩
theorem GJ(n:Int):af (wrap64 n):=by unfold wrap64;exact⟨by omega,by omega⟩
theorem DU(M:List O)(h:∀o∈M,o.wf):∀r∈(bD M).R,af r:=by
 induction M with
 |nil=>intro r a;simp[bD,τ0]at a
 |cons x M ih=>
  intro r a;have a:r∈(if x.hr=true then x.rv::(bD M).R else(bD M).R):=a
  split at a
  .rcases qh.1 a with rfl|a
   .exact(mG (h x (by simp))).rv
   .exact ih (λo b=>h o (by simp[b])) r a
  .exact ih (λo b=>h o (by simp[b])) r a
theorem tH(L:List O)(k:Int)(p:k∈bP L)(h:∀o∈L,o.wf)(hl:L.length<=700000):DL (jR L k):=by
 obtain⟨o,i,rfl⟩:=(tF L k).1 p
 have e:(bK L o.k).getD τ0=bD (gK L o.k):=by rw[JG i];rfl
 have j:∀q∈gK L o.k,q.wf:=λq l=>h q (List.mem_filter.1 l).1
 have hlen:(gK L o.k).length<=L.length:=oo _ _
 have hc:(bD (gK L o.k)).c<=700000:=by rw[jZ];omega
 have f:=DU (gK L o.k) j;have m:=NT (gK L o.k)
 have b:af (lo (bD (gK L o.k)).R):=by
  by_cases hz:(bD (gK L o.k)).R=[]
  .rw[hz];exact⟨by decide,by decide⟩
  .exact f _ (wQ hz).1
 have a:af (hi (bD (gK L o.k)).R):=by
  by_cases hz:(bD (gK L o.k)).R=[]
  .rw[hz];exact⟨by decide,by decide⟩
  .exact f _ (wR hz).1
 unfold jR;rw[e];exact⟨(mG (h o i)).k,⟨by simp only;omega,by simp only;omega⟩,by simp only;rw[<-m];exact GJ _,b,a⟩
def qB(L:List O):List UInt8:=Lib.join ((sortO L).map aW) [44,32]
def kD(L:List O):List UInt8:=Lib.join (((bP L).map (jR L)).map dR) [44,32]
theorem UT(h:Dk w0 bs mv st d S P W)(U:dH n st)(hn:n<=1600)(hG:aU w0)(v9:Value):Calls prog 140 #[.pointer (some ⟨bs,0,none⟩),v9] W λe m=>e=.returned (sV (qB st.L))/\aC w0 bs mv st P W m:=by
 have M:=U.len hn
 have HV:Hid (Calls prog 27 #[.pointer (some ⟨d,0,none⟩)] W λe m=>∃v,e=.returned v/\Hid (m.ownsRow 0 89 9 v (sortO st.L).length ((sortO st.L).flatMap ah)/\Below W.heap.size W m)):=by
  obtain⟨bj,bm,v0,v1,om,Sg,hE,hS⟩:=h.eng;refine(tJ (nP xS) d bj bm v0 v1 st.f0 st.f1 om Sg st.x st.L st.L W hE (by omega)).mono ?_;rintro e m ⟨v,Z,rfl,h1,t,h3,h4⟩;have Q:Z=sortO st.L:=lY (h1.trans (aR st.L).symm) t (eX st.L);subst Q;exact⟨v,rfl,ownsRow_le h3 (gy _),h4⟩
 have hZ:(sortO st.L).length<=700000/\∀x∈sortO st.L,Fits x:=⟨by rw[(aR st.L).length_eq];exact M,λx F=>mG (jB (U.tell x ((aR st.L).subset F)))⟩;have HT:Hid (qB st.L=Lib.join ((sortO st.L).map aW) [44,32]):=rfl
 have H:Hid (∀q,Below W.heap.size W q->aC w0 bs mv st P W q):=λq A=>h.same A
 have K:=hG.below h.low;have hc:=h.cell.1;have z:=h.lt;clear h U hn hG M;generalize qB st.L=txt at *;generalize sortO st.L=C at *;obtain⟨Ud,NU⟩:=hZ;have w:=hid NU;clear NU;obtain⟨i0,hi,T,hz1,hz2⟩:=Dw rz;go_enter func140,ntmps140;go_wp2_with fail;refine HV.out.mono ?_;rintro e a ⟨v,rfl,t⟩;obtain⟨oa,ck,rfl,r⟩:=Ca ah 9 (λ_=>rfl) t.out.1;have HR:=hid r
 have HD:Hid (∀q,Below a.heap.size a q->aC w0 bs mv st P W q):=λq A=>H.out q (t.out.2.trans (A.mono t.out.2.size))
 have Ao:Hid (aU a):=K.below t.out.2
 have i1:(C.length:Int)<=700000:=by omega
 clear t r z K H HV hc;go_wp2;have C0:Hid (Tw a ((C.take 0).map aW) (.slice none 0 0) a):=Tw.start a
 go_loopg [5,14] C.length (λgg v5 v14 wr=>∃(i:Nat),i<=C.length/\gg=C.length -i/\v14=.int .i64 i/\Hid (Tw a ((C.take i).map aW) v5 wr))
 case atStart=>exact⟨0,gy _,rfl,rfl,C0⟩
 case round=>
  obtain⟨i,hi2,iU,rfl,I⟩:=hrel;have HG:=hid iU;clear iU C0
  by_cases z:i<C.length
  .obtain⟨x,F⟩:∃x,C[i]?=some x:=⟨_,dK z⟩;obtain⟨gc,rfl,hgc,s⟩:=HR.out.below I.out.low i x F;have s:=Au s
   have R:Hid ((C.take (i+1)).map aW=(C.take i).map aW++[aW x]):=by
    show(C.take (i+1)).map aW=(C.take i).map aW++[aW x];rw[List.take_add_one,F];simp
   have wL:((C.take i).map aW).length<=700000:=by rw[List.length_map,List.length_take];omega
   have HN:Hid (∀V,Below wr.heap.size wr V->Calls prog 216 #[vO x] V λe m=>e=.returned (.string ⟨(aW x).toArray⟩)/\Below V.heap.size V m):=λV hV=>uW x V (aG (aG Ao.out.g.tab I.out.low) hV) (w.out x (mh F))
   generalize(C.take i).map aW=X at *
   have j1:(0:Int)<=(i:Int):=by omega
   have j2:(i:Int)<(C.length:Int):=by omega
   obtain⟨k,lk,lt,lv,rk,rt,rv,B,E⟩:=x;simp only[vO]at HN s
   have Y:Hid (∀o,Below wr.heap.size wr (wr.alloc o)):=λo=>wh _ _
   clear F
   go_wp2_with (first
    |(go_at_call 216;refine(HN.out _ (Y.out _)).mono ?_;rintro e p ⟨rfl,f⟩;have l:=(Y.out _).trans (f.mono (Y.out _).size);have C4:Hid (Tw a X u5 (p.alloc (.cells #[.string ⟨(aW ⟨k,lk,lt,lv,rk,rt,rv,B,E⟩).toArray⟩] 9))):=I.out.go (l.trans ((wh p _).mono l.size));have hl4:a.heap.size<=p.heap.size:=di I.out.low.size l.size;have N4:Hid (∀j u,([(.string ⟨(aW ⟨k,lk,lt,lv,rk,rt,rv,B,E⟩).toArray⟩:Value)])[j]?=some u->(p.alloc (.cells #[.string ⟨(aW ⟨k,lk,lt,lv,rk,rt,rv,B,E⟩).toArray⟩] 9)).cell? ((⟨p.heap.size,0,none⟩:Addr).add j)=some u):=World.news_of_block (vw p (.cells #[.string ⟨(aW ⟨k,lk,lt,lv,rk,rt,rv,B,E⟩).toArray⟩] 9));clear f l)
    |(at_builtin;refine wpList_append_lies _ rfl _ _ _ rfl a.heap.size 9 i0 (.string ⟨#[]⟩) 1 16 underlying81 hi T hz1 hz2 rfl (by omega) u5 X.length (X.map sV) rfl C4.out.row ⟨p.heap.size,0,none⟩ 1 1 [.string ⟨(aW ⟨k,lk,lt,lv,rk,rt,rv,B,E⟩).toArray⟩] rfl rfl N4.out jA (by omega) (by unfold maxLen;omega) (by omega) (by simp;omega) _ rfl ?_;intro g5 G w5 b aK gI gJ;have C5:Hid (Tw a (X++[aW ⟨k,lk,lt,lv,rk,rt,rv,B,E⟩]) (.slice (some ⟨g5,0,none⟩) (X.length+1) G) w5):=C4.out.step b aK;clear b aK gI gJ)
    |fail)
   go_roundg (C.length -(i+1))
   case measure=>have:=HG.out;omega
   case rel=>exact⟨i+1,by omega,rfl,by first|rfl|(congr 1;omega)|go_num,by rw[R.out];exact C5.out⟩
  .have j2:¬((i:Int)<(C.length:Int)):=by omega
   have Q:C.take i=C:=nG (by omega);have N:=I.out;rw[Q]at N
   have HJ:Hid (Calls prog 217 #[u5] wr λe m=>e=.returned (.string ⟨txt.toArray⟩)/\Below wr.heap.size wr m):=by
    have:=rA (C.map aW) u5 wr N.row (by simp;omega) (di (gL (C.map aW) 112 (λy hy=>by obtain⟨c,hc,rfl⟩:=oz.1 hy;exact iY c (w.out c hc))) (by simp;omega));rw[<-HT.out]at this;exact this
   have HL:=hid N.low;clear N Q I HR w HT
   go_wp2_with (first
    |(go_at_call 217;refine HJ.out.mono ?_;rintro e p ⟨rfl,f⟩;have Df:Hid (Below a.heap.size a p):=HL.out.trans (f.mono HL.out.size);clear f)
    |fail)
   go_ret;exact⟨rfl,HD.out _ Df.out⟩
theorem NV(h:Dk w0 bs mv st d S P W)(Z:dH n st)(hn:n<=1600)(hG:aU w0)(v9:Value):Calls prog 141 #[.pointer (some ⟨bs,0,none⟩),v9] W λe r=>e=.returned (sV (kD st.L))/\aC w0 bs mv st P W r:=by
 have E:=Z.len hn
 have HV:Hid (Calls prog 30 #[.pointer (some ⟨d,0,none⟩)] W λe r=>∃v,e=.returned v/\Hid (r.ownsRow 0 140 6 v ((bP st.L).map (jR st.L)).length (((bP st.L).map (jR st.L)).flatMap jG)/\Below W.heap.size W r)):=by
  obtain⟨bj,bm,v0,v1,om,Sg,hE,hS⟩:=h.eng;refine(uZ d bj bm v0 v1 st.f0 st.f1 om Sg st.x st.L st.L W hE (by omega)).mono ?_;rintro e r ⟨v,ks,rfl,h1,B,_,h3,h4⟩;have T:ks=bP st.L:=keys_eq (JH.refl _) h1 (nX st.L) B (mH st.L);subst T
  have e3:((bP st.L).map (jR st.L)).flatMap jG=(bP st.L).flatMap (gE (bK st.L)):=by
   rw[List.flatMap_map];rfl
  refine⟨v,rfl,?_,h4⟩;rw[e3,List.length_map];exact ownsRow_le h3 (gy _)
 have hZ:((bP st.L).map (jR st.L)).length<=700000/\∀x∈(bP st.L).map (jR st.L),DL x:=⟨by rw[List.length_map];exact di (pE st.L) E,λx K=>by obtain⟨k,hk,rfl⟩:=oz.1 K;exact tH st.L k hk (λo ho=>jB (Z.tell o ho)) E⟩;have HT:Hid (kD st.L=Lib.join (((bP st.L).map (jR st.L)).map dR) [44,32]):=rfl
 have N:Hid (∀w,Below W.heap.size W w->aC w0 bs mv st P W w):=λw H=>h.same H
 have Q:=hG.below h.low;have hc:=h.cell.1;have G:=h.lt;clear h Z hn hG E;generalize kD st.L=txt at *;generalize(bP st.L).map (jR st.L)=C at *;obtain⟨Ud,NU⟩:=hZ;have F:=hid NU;clear NU;obtain⟨i0,hi,Y,hz1,hz2⟩:=Dw rz;go_enter func141,ntmps141;go_wp2_with fail;refine HV.out.mono ?_;rintro e a ⟨v,rfl,B⟩;obtain⟨oa,ck,rfl,z⟩:=Ca jG 6 (λ_=>rfl) B.out.1;have HR:=hid z
 have HD:Hid (∀w,Below a.heap.size a w->aC w0 bs mv st P W w):=λw H=>N.out w (B.out.2.trans (H.mono B.out.2.size))
 have Ao:Hid (aU a):=Q.below B.out.2
 have i1:(C.length:Int)<=700000:=by omega
 clear B z G Q N HV hc;go_wp2;have C0:Hid (Tw a ((C.take 0).map dR) (.slice none 0 0) a):=Tw.start a
 go_loopg [5,14] C.length (λgg v5 v14 wr=>∃(i:Nat),i<=C.length/\gg=C.length -i/\v14=.int .i64 i/\Hid (Tw a ((C.take i).map dR) v5 wr))
 case atStart=>exact⟨0,gy _,rfl,rfl,C0⟩
 case round=>
  obtain⟨i,hi2,iU,rfl,I⟩:=hrel;have HG:=hid iU;clear iU C0
  by_cases G:i<C.length
  .obtain⟨x,K⟩:∃x,C[i]?=some x:=⟨_,dK G⟩;obtain⟨gc,rfl,hgc,A⟩:=HR.out.below I.out.low i x K;have A:=DT A
   have U:Hid ((C.take (i+1)).map dR=(C.take i).map dR++[dR x]):=by
    show(C.take (i+1)).map dR=(C.take i).map dR++[dR x];rw[List.take_add_one,K];simp
   have wL:((C.take i).map dR).length<=700000:=by rw[List.length_map,List.length_take];omega
   have HN:Hid (∀V,Below wr.heap.size wr V->Calls prog 218 #[.agg #[.int .i64 x.key,.int .i64 x.count,.int .i64 x.sum,.int .i64 x.least,.int .i64 x.most,.bool x.some]] V λe r=>e=.returned (.string ⟨(dR x).toArray⟩)/\Below V.heap.size V r):=λV hV=>zy x V (aG (aG Ao.out.g.tab I.out.low) hV) (F.out x (mh K))
   generalize(C.take i).map dR=X at *
   have j1:(0:Int)<=(i:Int):=by omega
   have j2:(i:Int)<(C.length:Int):=by omega
   obtain⟨k,c,s,l,m,b⟩:=x;simp only at HN A
   have HA:Hid (∀o,Below wr.heap.size wr (wr.alloc o)):=λo=>wh _ _
   clear K
   go_wp2_with (first
    |(go_at_call 218;refine(HN.out _ (HA.out _)).mono ?_;rintro e t ⟨rfl,p⟩;have q:=(HA.out _).trans (p.mono (HA.out _).size);have C4:Hid (Tw a X u5 (t.alloc (.cells #[.string ⟨(dR ⟨k,c,s,l,m,b⟩).toArray⟩] 9))):=I.out.go (q.trans ((wh t _).mono q.size));have hl4:a.heap.size<=t.heap.size:=di I.out.low.size q.size;have N4:Hid (∀j u,([(.string ⟨(dR ⟨k,c,s,l,m,b⟩).toArray⟩:Value)])[j]?=some u->(t.alloc (.cells #[.string ⟨(dR ⟨k,c,s,l,m,b⟩).toArray⟩] 9)).cell? ((⟨t.heap.size,0,none⟩:Addr).add j)=some u):=World.news_of_block (vw t (.cells #[.string ⟨(dR ⟨k,c,s,l,m,b⟩).toArray⟩] 9));clear p q)
    |(at_builtin;refine wpList_append_lies _ rfl _ _ _ rfl a.heap.size 9 i0 (.string ⟨#[]⟩) 1 16 underlying81 hi Y hz1 hz2 rfl (by omega) u5 X.length (X.map sV) rfl C4.out.row ⟨t.heap.size,0,none⟩ 1 1 [.string ⟨(dR ⟨k,c,s,l,m,b⟩).toArray⟩] rfl rfl N4.out jA (by omega) (by unfold maxLen;omega) (by omega) (by simp;omega) _ rfl ?_;intro g5 M w5 f aK gI gJ;have C5:Hid (Tw a (X++[dR ⟨k,c,s,l,m,b⟩]) (.slice (some ⟨g5,0,none⟩) (X.length+1) M) w5):=C4.out.step f aK;clear f aK gI gJ)
    |fail)
   go_roundg (C.length -(i+1))
   case measure=>have:=HG.out;omega
   case rel=>exact⟨i+1,by omega,rfl,by first|rfl|(congr 1;omega)|go_num,by rw[U.out];exact C5.out⟩
  .have j2:¬((i:Int)<(C.length:Int)):=by omega
   have T:C.take i=C:=nG (by omega);have R:=I.out;rw[T]at R
   have HJ:Hid (Calls prog 217 #[u5] wr λe r=>e=.returned (.string ⟨txt.toArray⟩)/\Below wr.heap.size wr r):=by
    have:=rA (C.map dR) u5 wr R.row (by simp;omega) (di (gL (C.map dR) 112 (λy hy=>by obtain⟨c,hc,rfl⟩:=oz.1 hy;exact xM c (F.out c hc))) (by simp;omega));rw[<-HT.out]at this;exact this
   have HL:=hid R.low;clear R T I HR F HT
   go_wp2_with (first
    |(go_at_call 217;refine HJ.out.mono ?_;rintro e t ⟨rfl,p⟩;have Df:Hid (Below a.heap.size a t):=HL.out.trans (p.mono HL.out.size);clear p)
    |fail)
   go_ret;exact⟨rfl,HD.out _ Df.out⟩
end
section
open Go.Proofs.Tryz
theorem GK(c:Int)(w:World):(Instr.typeAssert (.iface 24 (.int .i64 c)) 20 29 true).run prog w=.ok (.tuple #[.iface 24 (.int .i64 c),.bool true]) w:=by kernel_rfl
theorem GL(w:World):(Instr.typeAssert .nilIface 20 29 true).run prog w=.ok (.tuple #[.nilIface,.bool false]) w:=by kernel_rfl
theorem JI(p:Addr)(v:Value)(b:Bool)(t:Value):(#[Value.pointer (some p)]++(((((((Array.replicate 10 undef).setIfInBounds 3 v).setIfInBounds 4 t).setIfInBounds 2 t).setIfInBounds 5 v).setIfInBounds 6 (Value.bool b)).setIfInBounds 0 v).setIfInBounds 1 (Value.bool b))=#[Value.pointer (some p),v,.bool b,t,v,t,v,.bool b,undef,undef,undef]:=by kernel_rfl
theorem xU(p:Addr)(w:World):CallsD prog 148 #[.pointer (some p)] .returning w λe b f=>e=.returned (.tuple #[])/\b=.returning/\f=w:=by
 have d:=GL w
 refine callsD_of_wpS func148 rfl λa cs c=>?_
 apply wpS_seq;apply wpS_region;simp[wpOpsS,go_sem,recoverD,c,ntmps148,Exit.thenS,d];refine wpS_of_wp ?_;rw[JI];go_wp2;cases a
 simp_all [bodyPostS,results,Tryz.results148]
theorem wu(p:Addr)(c:Int)(i:af c)(old:Value)(w:World)(f:jP w)(g:w.cell? ⟨2,0,none⟩=some iD)(d:∀W,Below w.heap.size w W->W.cell? p=some old/\W.frozen? p=false):
  CallsD prog 148 #[.pointer (some p)] (.panicking [{ v:= .iface 24 (.int .i64 c),recovered:=false}]) w λe j a=>e=.returned (.tuple #[])/\j=.panicking [{ v:= .iface 24 (.int .i64 c),recovered:=true}]/\∃b,Below w.heap.size w b/\a=b.setCell p (sV (eH c)):=by
 have m:=GK c w
 have o:Hid (Calls prog 75 #[.iface 24 (.int .i64 c)] w λe a=>e=.returned (.string ⟨(eH c).toArray⟩)/\(a.cell? p=some old/\a.frozen? p=false)/\Hid (Below w.heap.size w a)):=(qf c i w f g).mono λe a h=>⟨h.1,d a h.2,h.2⟩
 clear f g d i
 refine callsD_of_wpS func148 rfl λc₀ cs l=>?_
 apply wpS_seq;apply wpS_region;simp[wpOpsS,go_sem,recoverD,l,ntmps148,Exit.thenS,m];refine wpS_of_wp ?_;rw[JI]
 go_wp2_with (first
  |(go_at_call 75;refine o.out.mono ?_;rintro e k ⟨rfl,c2,n⟩)
  |fail)
 simp[bodyPostS,results,Tryz.results148];exact⟨k,n.out,rfl⟩
end
section
open Go.Proofs.Tryz
variable{W:World}{bs a:Nat}{l:List UInt8}
inductive Vb
 |vplan
 |vleft
 |vright
 |vmark
 |vmarks
 |vheld
 |vfed
 |vlate
 |vview
 |vgroups
 |vsaved
 |vreload
 |vhelp
def Vb.fn:Vb->Nat
 |.vplan=>132
 |.vleft=>133
 |.vright=>134
 |.vmark=>135
 |.vmarks=>136
 |.vheld=>137
 |.vfed=>138
 |.vlate=>139
 |.vview=>140
 |.vgroups=>141
 |.vsaved=>142
 |.vreload=>143
 |.vhelp=>144
def Vb.ar:Vb->Nat
 |.vplan=>3
 |.vleft=>3
 |.vright=>3
 |.vmark=>2
 |.vmarks=>0
 |.vheld=>0
 |.vfed=>0
 |.vlate=>0
 |.vview=>0
 |.vgroups=>0
 |.vsaved=>0
 |.vreload=>0
 |.vhelp=>0
def Vb.word:Vb->List UInt8
 |.vplan=>[112,108,97,110]
 |.vleft=>[108,101,102,116]
 |.vright=>[114,105,103,104,116]
 |.vmark=>[109,97,114,107]
 |.vmarks=>[109,97,114,107,115]
 |.vheld=>[104,101,108,100]
 |.vfed=>[102,101,100]
 |.vlate=>[108,97,116,101]
 |.vview=>[118,105,101,119]
 |.vgroups=>[103,114,111,117,112,115]
 |.vsaved=>[115,97,118,101,100]
 |.vreload=>[114,101,108,111,97,100]
 |.vhelp=>[104,101,108,112]
def dM(l:List UInt8):Option Vb:=
 if l=[112,108,97,110]then some .vplan
 else if l=[108,101,102,116]then some .vleft
 else if l=[114,105,103,104,116]then some .vright
 else if l=[109,97,114,107]then some .vmark
 else if l=[109,97,114,107,115]then some .vmarks
 else if l=[104,101,108,100]then some .vheld
 else if l=[102,101,100]then some .vfed
 else if l=[108,97,116,101]then some .vlate
 else if l=[118,105,101,119]then some .vview
 else if l=[103,114,111,117,112,115]then some .vgroups
 else if l=[115,97,118,101,100]then some .vsaved
 else if l=[114,101,108,111,97,100]then some .vreload
 else if l=[104,101,108,112]then some .vhelp
 else none
abbrev zA:Value->Option (DataW Value×List MemPlace):=λv=>some (.held v,[])
abbrev zn(bs:Nat)(f:Nat)(k:Nat):Value:= .agg #[.int .i64 k,.func (.func f) #[.pointer (some ⟨bs,0,none⟩)] #[]]
abbrev Ue:Value:= .agg #[.int .i64 0,.nilFunc]
def mJ(bs:Nat):DataW Value:=((((((((((((((DataW.map []).put (.string [112,108,97,110]) (.held (zn bs 132 3))).put (.string [108,101,102,116]) (.held (zn bs 133 3))).put (.string [114,105,103,104,116]) (.held (zn bs 134 3))).put (.string [109,97,114,107]) (.held (zn bs 135 2))).put (.string [109,97,114,107,115]) (.held (zn bs 136 0))).put (.string [104,101,108,100]) (.held (zn bs 137 0))).put (.string [102,101,100]) (.held (zn bs 138 0))).put (.string [108,97,116,101]) (.held (zn bs 139 0))).put (.string [118,105,101,119]) (.held (zn bs 140 0))).put (.string [103,114,111,117,112,115]) (.held (zn bs 141 0))).put (.string [115,97,118,101,100]) (.held (zn bs 142 0))).put (.string [114,101,108,111,97,100]) (.held (zn bs 143 0))).put (.string [104,101,108,112]) (.held (zn bs 144 0)))
def mM(W:World)(bs a:Nat):Prop:=W.ownsMap prog 9 zA a 13 (mJ bs)
theorem mM.still{b:World}(h:mM W bs a)(f:b.heap[a]?=W.heap[a]?):mM b bs a:=by
 obtain⟨g,c,e,d⟩:=h;exact⟨g,c,f.trans e,d⟩
theorem mM.lt(h:mM W bs a):a<W.heap.size:=by
 obtain⟨es,c,b,h2⟩:=h;exact(aD.1 b).1
theorem R5(w:World):(zeroValue 228).run prog w=.ok Ue w:=by kernel_rfl
theorem R8(l:List UInt8)(hs:l.length<=1000000):keyOf prog 9 (.string ⟨l.toArray⟩)=some (.string l):=by
 have:=Xn ⟨l.toArray⟩ (by show l.toArray.size<=_;simp;omega);simpa using this
theorem Sa(bs:Nat)(v:Vb):(mJ bs).atKey (.string v.word) (.held Ue)=.held (zn bs v.fn v.ar)/\Maps.has (mJ bs) (.string v.word)=true:=by
 cases v <;>exact⟨by kernel_rfl,by kernel_rfl⟩
theorem Cb{v:Vb}(h:dM l=some v):l=v.word:=by
 unfold dM at h
 by_cases h0:l=[112,108,97,110]
 .rw[if_pos h0]at h;injection h with h;subst h;exact h0
 rw[if_neg h0]at h
 by_cases h1:l=[108,101,102,116]
 .rw[if_pos h1]at h;injection h with h;subst h;exact h1
 rw[if_neg h1]at h
 by_cases h2:l=[114,105,103,104,116]
 .rw[if_pos h2]at h;injection h with h;subst h;exact h2
 rw[if_neg h2]at h
 by_cases h3:l=[109,97,114,107]
 .rw[if_pos h3]at h;injection h with h;subst h;exact h3
 rw[if_neg h3]at h
 by_cases h4:l=[109,97,114,107,115]
 .rw[if_pos h4]at h;injection h with h;subst h;exact h4
 rw[if_neg h4]at h
 by_cases h5:l=[104,101,108,100]
 .rw[if_pos h5]at h;injection h with h;subst h;exact h5
 rw[if_neg h5]at h
 by_cases h6:l=[102,101,100]
 .rw[if_pos h6]at h;injection h with h;subst h;exact h6
 rw[if_neg h6]at h
 by_cases h7:l=[108,97,116,101]
 .rw[if_pos h7]at h;injection h with h;subst h;exact h7
 rw[if_neg h7]at h
 by_cases h8:l=[118,105,101,119]
 .rw[if_pos h8]at h;injection h with h;subst h;exact h8
 rw[if_neg h8]at h
 by_cases h9:l=[103,114,111,117,112,115]
 .rw[if_pos h9]at h;injection h with h;subst h;exact h9
 rw[if_neg h9]at h
 by_cases h10:l=[115,97,118,101,100]
 .rw[if_pos h10]at h;injection h with h;subst h;exact h10
 rw[if_neg h10]at h
 by_cases h11:l=[114,101,108,111,97,100]
 .rw[if_pos h11]at h;injection h with h;subst h;exact h11
 rw[if_neg h11]at h
 by_cases h12:l=[104,101,108,112]
 .rw[if_pos h12]at h;injection h with h;subst h;exact h12
 rw[if_neg h12]at h;cases h
theorem NW(bs:Nat)(h:dM l=none):(mJ bs).atKey (.string l) (.held Ue)=.held Ue/\Maps.has (mJ bs) (.string l)=false:=by
 unfold dM at h
 by_cases h0:l=[112,108,97,110]
 .rw[if_pos h0]at h;cases h
 rw[if_neg h0]at h
 by_cases h1:l=[108,101,102,116]
 .rw[if_pos h1]at h;cases h
 rw[if_neg h1]at h
 by_cases h2:l=[114,105,103,104,116]
 .rw[if_pos h2]at h;cases h
 rw[if_neg h2]at h
 by_cases h3:l=[109,97,114,107]
 .rw[if_pos h3]at h;cases h
 rw[if_neg h3]at h
 by_cases h4:l=[109,97,114,107,115]
 .rw[if_pos h4]at h;cases h
 rw[if_neg h4]at h
 by_cases h5:l=[104,101,108,100]
 .rw[if_pos h5]at h;cases h
 rw[if_neg h5]at h
 by_cases h6:l=[102,101,100]
 .rw[if_pos h6]at h;cases h
 rw[if_neg h6]at h
 by_cases h7:l=[108,97,116,101]
 .rw[if_pos h7]at h;cases h
 rw[if_neg h7]at h
 by_cases h8:l=[118,105,101,119]
 .rw[if_pos h8]at h;cases h
 rw[if_neg h8]at h
 by_cases h9:l=[103,114,111,117,112,115]
 .rw[if_pos h9]at h;cases h
 rw[if_neg h9]at h
 by_cases h10:l=[115,97,118,101,100]
 .rw[if_pos h10]at h;cases h
 rw[if_neg h10]at h
 by_cases h11:l=[114,101,108,111,97,100]
 .rw[if_pos h11]at h;cases h
 rw[if_neg h11]at h
 by_cases h12:l=[104,101,108,112]
 .rw[if_pos h12]at h;cases h
 rw[if_neg h12]at h;refine⟨?_,?_⟩
 .unfold mJ;rw[Cr (by simpa using h12),Cr (by simpa using h11),Cr (by simpa using h10),Cr (by simpa using h9),Cr (by simpa using h8),Cr (by simpa using h7),Cr (by simpa using h6),Cr (by simpa using h5),Cr (by simpa using h4),Cr (by simpa using h3),Cr (by simpa using h2),Cr (by simpa using h1),Cr (by simpa using h0)];rfl
 .unfold mJ;rw[BB (by simpa using h12),BB (by simpa using h11),BB (by simpa using h10),BB (by simpa using h9),BB (by simpa using h8),BB (by simpa using h7),BB (by simpa using h6),BB (by simpa using h5),BB (by simpa using h4),BB (by simpa using h3),BB (by simpa using h2),BB (by simpa using h1),BB (by simpa using h0)];rfl
theorem lZ(h:mM W bs a)(i:l.length<=1000000):(Instr.lookup 223 (.map (some a)) (.string ⟨l.toArray⟩) true).run prog W=.ok (match dM l with|some v=>.tuple #[zn bs v.fn v.ar,.bool true]|none=>.tuple #[Ue,.bool false]) W:=by
 obtain⟨v,ps,b,d⟩:=h.look_ok tK underlying223 (R5 W) (zd:= .held Ue) (zp:=[]) rfl (R8 l i);simp only[zA,Option.some.injEq,Prod.mk.injEq]at d;obtain⟨d,_⟩:=d
 cases hq:dM l with
 |some q=>
  have e:=Cb hq;subst e;obtain⟨f,g⟩:=Sa bs q;have c:v=zn bs q.fn q.ar:=DataW.held.inj (d.trans f);rw[b,g,c]
 |none=>
  obtain⟨f,g⟩:=NW bs hq;have c:v=Ue:=DataW.held.inj (d.trans f);rw[b,g,c]
theorem tL{b n:Nat}{D:DataW Value}(h:W.ownsMap prog 9 zA b n D)(hn:n<100)(l:List UInt8)(hs:l.length<=100)(f k:Nat):
  ∃c,(Instr.mapUpdate 223 (.map (some b)) (.string ⟨l.toArray⟩) (zn bs f k)).run prog W=.ok () c/\c.ownsMap prog 9 zA b (n+1) (D.put (.string l) (.held (zn bs f k)))/\W.grownBy c (some b):=
 h.update tK underlying223 (by unfold maxLen;omega) (R8 l (by omega)) rfl
end
section
variable{ns:List Int}{n:Nat}{st:Sx}
def Vb.does(v:Vb)(st:Sx)(ns:List Int):(Int×List UInt8)×Sx:=
 match v,ns with
 |.vplan,[a,b,m]=>((aS a b m,[112,108,97,110]),if aS a b m=0 then Sx.new a b m else st)
 |.vleft,[k,t,u]=>(((st.feed0 k t u).1,nC st k t u),(st.feed0 k t u).2)
 |.vright,[k,t,u]=>(((st.feed1 k t u).1,nE st k t u),(st.feed1 k t u).2)
 |.vmark,[a,b]=>(((st.move a b).1,[109,97,114,107]),(st.move a b).2)
 |.vmarks,_=>((0,aa [st.x.m0,st.x.m1]),st)
 |.vheld,_=>((0,aa [st.x.R0.length,st.x.R1.length]),st)
 |.vfed,_=>((0,aa [st.f0,st.f1]),st)
 |.vlate,_=>((0,Lib.itoa st.x.late),st)
 |.vview,_=>((0,qB st.L),st)
 |.vgroups,_=>((0,kD st.L),st)
 |.vsaved,_=>(iL st,st)
 |.vreload,_=>((dJ st).1,(dJ st).2)
 |.vhelp,_=>((0,BX),st)
 |_,_=>((3,[]),st)
theorem je(t:List UInt8):jJ 0 t=.returned (sV t):=by unfold jJ;rw[if_pos rfl]
theorem Av(h:ns.length=3):∃a b c,ns=[a,b,c]:=by
 match ns,h with
 |[a,b,c],_=>exact⟨a,b,c,rfl⟩
theorem Uf(h:ns.length=2):∃a b,ns=[a,b]:=by
 match ns,h with
 |[a,b],_=>exact⟨a,b,rfl⟩
theorem Aw(v:Vb){w0:World}{bs be:Nat}{mv:Option Nat}{S P:Nat->Prop}{W:World}(h:Dk w0 bs mv st be S P W)(f:dH n st)(i:n<=1600)(j:aU w0)(ns:List Int)(l:ns.length=v.ar)(g:Nat)(m:W.heap[g]?=some (.cells (ns.map (Value.int .i64)).toArray 3))(o:¬P g):
  Calls Tryz.prog v.fn #[.pointer (some ⟨bs,0,none⟩),.slice (some ⟨g,0,none⟩) v.ar v.ar] W λe k=>e=jJ (v.does st ns).1.1 (v.does st ns).1.2/\aC w0 bs mv (v.does st ns).2 P W k:=by
 cases v with
 |vplan=>
  obtain⟨a,b,c,rfl⟩:=Av l;exact UI h a b c g m
 |vleft=>
  obtain⟨a,b,c,rfl⟩:=Av l;exact UK h f i j a b c g m o
 |vright=>
  obtain⟨a,b,c,rfl⟩:=Av l;exact RZ h f i j a b c g m o
 |vmark=>
  obtain⟨a,b,rfl⟩:=Uf l;exact UL h f i a b g m o
 |vmarks=>exact(R3 h f i j _).mono λe k d=>⟨d.1.trans (je _).symm,d.2⟩
 |vheld=>exact(UM h f i j _).mono λe k d=>⟨d.1.trans (je _).symm,d.2⟩
 |vfed=>exact(Xm h f i j _).mono λe k d=>⟨d.1.trans (je _).symm,d.2⟩
 |vlate=>exact(UN h f i j _).mono λe k d=>⟨d.1.trans (je _).symm,d.2⟩
 |vview=>exact(UT h f i j _).mono λe k d=>⟨d.1.trans (je _).symm,d.2⟩
 |vgroups=>exact(NV h f i j _).mono λe k d=>⟨d.1.trans (je _).symm,d.2⟩
 |vsaved=>exact R4 h f i j _
 |vreload=>exact NS h f i j _
 |vhelp=>exact(UO h _).mono λe k d=>⟨d.1.trans (je _).symm,d.2⟩
theorem Sb(v:Vb)(b:dH n st)(c:n<=1600)(ns:List Int):dH (n+1) (v.does st ns).2:=by
 have a:dH (n+1) st:=b.more (by omega);unfold Vb.does
 split
 .simp only
  split
  .rename_i h;exact BU (qA h) _
  .exact a
 .exact b.feed0 c _ _ _
 .exact b.feed1 c _ _ _
 .exact(b.move _ _).more (by omega)
 .exact a
 .exact a
 .exact a
 .exact a
 .exact a
 .exact a
 .exact a
 .unfold dJ
  split
  .exact a
  .exact a.again
 .exact a
 .exact a
theorem eG(c:Int)(h:c=0∨c=1∨c=2∨c=3∨c=4∨c=10∨c=12):af c:=by
 rcases h with rfl|rfl|rfl|rfl|rfl|rfl|rfl <;>exact⟨by decide,by decide⟩
theorem GM(st:Sx)(k t v:Int):(st.feed0 k t v).1=0∨(st.feed0 k t v).1=1∨(st.feed0 k t v).1=2∨(st.feed0 k t v).1=3∨(st.feed0 k t v).1=4∨(st.feed0 k t v).1=10∨(st.feed0 k t v).1=12:=by
 unfold Sx.feed0
 split
 .simp
 .split
  .simp
  .split <;>simp
theorem GN(st:Sx)(k t v:Int):(st.feed1 k t v).1=0∨(st.feed1 k t v).1=1∨(st.feed1 k t v).1=2∨(st.feed1 k t v).1=3∨(st.feed1 k t v).1=4∨(st.feed1 k t v).1=10∨(st.feed1 k t v).1=12:=by
 unfold Sx.feed1
 split
 .simp
 .split
  .simp
  .split <;>simp
theorem KP(a b m:Int):aS a b m=0∨aS a b m=1∨aS a b m=2∨aS a b m=3∨aS a b m=4∨aS a b m=10∨aS a b m=12:=by
 unfold aS
 split
 .simp
 .split
  .simp
  .split <;>simp
theorem KQ(st:Sx)(a b:Int):(st.move a b).1=0∨(st.move a b).1=1∨(st.move a b).1=2∨(st.move a b).1=3∨(st.move a b).1=4∨(st.move a b).1=10∨(st.move a b).1=12:=by
 unfold Sx.move
 split
 .unfold moveE
  split
  .simp
  .split
   .simp
   .split <;>simp
 .simp
theorem tN(v:Vb)(st:Sx)(ns:List Int):af (v.does st ns).1.1:=by
 unfold Vb.does
 split
 .exact eG _ (KP _ _ _)
 .exact eG _ (GM _ _ _ _)
 .exact eG _ (GN _ _ _ _)
 .exact eG _ (KQ _ _ _)
 .exact eG _ (.inl rfl)
 .exact eG _ (.inl rfl)
 .exact eG _ (.inl rfl)
 .exact eG _ (.inl rfl)
 .exact eG _ (.inl rfl)
 .exact eG _ (.inl rfl)
 .unfold iL
  split
  .exact eG _ (.inr (.inr (.inr (.inr (.inl rfl)))))
  .exact eG _ (.inl rfl)
 .unfold dJ
  split
  .exact eG _ (.inr (.inr (.inr (.inr (.inl rfl)))))
  .exact eG _ (.inl rfl)
 .exact eG _ (.inl rfl)
 .exact eG _ (.inr (.inr (.inr (.inl rfl))))
def nY(c:Int)(t:List UInt8):List UInt8:=if c=0 then t else eH c
theorem NY(v:Vb)(b:dH n st)(h:n<=1600)(ns:List Int):(nY (v.does st ns).1.1 (v.does st ns).1.2).length<=100000000:=by
 unfold nY
 split
 .rename_i h0
  unfold Vb.does at h0⊢;have f:=b.len h;have f0:=b.f0;have f1:=b.f1;have m0:=b.m0;have m1:=b.m1;have l0:=b.l0;have l1:=b.l1;have lt:=b.late
  split at h0
  .simp
  .have e:=rD b _ _ _ h0;refine di (gL _ 113 (λy d=>?_)) ?_
   .rcases qh.1 d with rfl|d
    .simp
    .obtain⟨c,a,rfl⟩:=oz.1 d;exact nT c (e.1 c a)
   .rw[List.length_cons,List.length_map];have:=e.2;omega
  .have e:=rE b _ _ _ h0;refine di (gL _ 113 (λy d=>?_)) ?_
   .rcases qh.1 d with rfl|d
    .simp
    .obtain⟨c,a,rfl⟩:=oz.1 d;exact nT c (e.1 c a)
   .rw[List.length_cons,List.length_map];have:=e.2;omega
  .simp
  .exact di (cZ _ _ ⟨by omega,by omega⟩ ⟨by omega,by omega⟩) (by omega)
  .exact di (cZ _ _ ⟨by omega,by omega⟩ ⟨by omega,by omega⟩) (by omega)
  .exact di (cZ _ _ ⟨by omega,by omega⟩ ⟨by omega,by omega⟩) (by omega)
  .exact di (Lib.itoa_length_le _ (by omega) (by omega)) (by omega)
  .refine di (gL _ 112 (λy d=>?_)) ?_
   .obtain⟨c,a,rfl⟩:=oz.1 d;exact iY c (mG (jB (b.tell c ((aR st.L).subset a))))
   .rw[List.length_map,(aR st.L).length_eq];omega
  .refine di (gL _ 112 (λy d=>?_)) ?_
   .obtain⟨c,a,rfl⟩:=oz.1 d;obtain⟨k,i,rfl⟩:=oz.1 a;exact xM _ (tH st.L k i (λo g=>jB (b.tell o g)) f)
   .rw[List.length_map,List.length_map];have:=pE st.L;omega
  .unfold iL at h0⊢
   split
   .simp
   .rename_i t ht
    have:=nW ht;have h7:=Lib.itoa_length_le (t.length:Int) (by omega) (by omega);show(Lib.itoa (t.length:Int)).length<=_;omega
  .unfold dJ at h0⊢
   split
   .simp
   .simp
  .simp[BX]
  .simp
 .exact di (tu _ (tN v st ns)) (by omega)
def rF(v:Vb)(st:Sx)(ws:List (List UInt8)):List UInt8×Sx:=
 match numsOf ws with
 |none=>(eH 3,st)
 |some ns=>(nY (v.does st ns).1.1 (v.does st ns).1.2,(v.does st ns).2)
def sayOf(st:Sx)(line:List UInt8):List UInt8×Sx:=
 match aH line with
 |[]=>([111,107],st)
 |w::ws=>
  match dM w with
  |none=>(eH 3,st)
  |some v=>if ws.length=v.ar then rF v st ws else(eH 3,st)
theorem UU(b:dH n st)(c:n<=1600)(line:List UInt8):dH (n+1) (sayOf st line).2:=by
 have a:dH (n+1) st:=b.more (by omega);unfold sayOf
 split
 .exact a
 .split
  .exact a
  .split
   .unfold rF
    split
    .exact a
    .exact Sb _ b c _
   .exact a
theorem Cc(c:dH n st)(b:n<=1600)(line:List UInt8):(sayOf st line).1.length<=100000000:=by
 have a:(eH 3).length<=100000000:=di (tu 3 ⟨by decide,by decide⟩) (by omega);unfold sayOf
 split
 .simp
 .split
  .exact a
  .split
   .unfold rF
    split
    .exact a
    .exact NY _ c b _
   .exact a
end
end Go.Proofs.YthfpipieboophaaGreatDoor
