import Derived.Test.YthfpipieboophaaGreatDoorDkr
namespace Go.Proofs.YthfpipieboophaaGreatDoor
set_option maxRecDepth 100000
set_option maxHeartbeats 40000000
open Go.RowKit Go.Shelf
section
open Go.Sort
theorem GX{w0:World}{bs be d:Nat}{st:Sx}{S P:Nat->Prop}{W:World}(h:Dk w0 bs (some d) st be S P W)(c:mM W bs d)(b:aU w0)(line:List UInt8)(a:line.length<=1000000){n:Nat}(f:dH n st)(g:n<=1600):
  Calls Tryz.prog 79 #[.pointer (some ⟨bs,0,none⟩),.string ⟨line.toArray⟩] W λe i=>e=.returned (sV (sayOf st line).1)/\aC w0 bs (some d) (sayOf st line).2 P W i:=by
 unfold sayOf
 cases hw:aH line with
 |nil=>exact GQ h line a hw
 |cons y ws=>
  dsimp only
  cases hv:dM y with
  |none=>exact KR h c b line a y ws hw hv
  |some v=>
   dsimp only
   by_cases hlen:ws.length=v.ar
   .rw[if_pos hlen];unfold rF
    cases hns:numsOf ws with
    |none=>exact GU h c b line a y ws hw v hv hlen hns
    |some ns=>
     dsimp only
     unfold nY
     by_cases hc:(v.does st ns).1.1=0
     .rw[if_pos hc];exact KS h c b line a y ws hw v hv hlen ns hns f g hc
     .rw[if_neg hc];exact GV h c b line a y ws hw v hv hlen ns hns f g hc
   .rw[if_neg hlen];exact GR h c b line a y ws hw v hv hlen
end
section
open Go.Proofs.Tryz Go.Joins Go.Sort
theorem UW(V:World)(bs:Nat):∃r v q s x w t u y h g j b,((Instr.mapUpdate 223 (.map (some V.heap.size)) (.string ⟨#[112,108,97,110]⟩) (.agg #[.int .i64 3,.func (.func 132) #[.pointer (some ⟨bs,0,none⟩)] #[]])).run prog (V.alloc (.map #[] 0))=.ok () r/\(Instr.mapUpdate 223 (.map (some V.heap.size)) (.string ⟨#[108,101,102,116]⟩) (.agg #[.int .i64 3,.func (.func 133) #[.pointer (some ⟨bs,0,none⟩)] #[]])).run prog r=.ok () v/\(Instr.mapUpdate 223 (.map (some V.heap.size)) (.string ⟨#[114,105,103,104,116]⟩) (.agg #[.int .i64 3,.func (.func 134) #[.pointer (some ⟨bs,0,none⟩)] #[]])).run prog v=.ok () q/\(Instr.mapUpdate 223 (.map (some V.heap.size)) (.string ⟨#[109,97,114,107]⟩) (.agg #[.int .i64 2,.func (.func 135) #[.pointer (some ⟨bs,0,none⟩)] #[]])).run prog q=.ok () s/\(Instr.mapUpdate 223 (.map (some V.heap.size)) (.string ⟨#[109,97,114,107,115]⟩) (.agg #[.int .i64 0,.func (.func 136) #[.pointer (some ⟨bs,0,none⟩)] #[]])).run prog s=.ok () x/\(Instr.mapUpdate 223 (.map (some V.heap.size)) (.string ⟨#[104,101,108,100]⟩) (.agg #[.int .i64 0,.func (.func 137) #[.pointer (some ⟨bs,0,none⟩)] #[]])).run prog x=.ok () w/\(Instr.mapUpdate 223 (.map (some V.heap.size)) (.string ⟨#[102,101,100]⟩) (.agg #[.int .i64 0,.func (.func 138) #[.pointer (some ⟨bs,0,none⟩)] #[]])).run prog w=.ok () t/\(Instr.mapUpdate 223 (.map (some V.heap.size)) (.string ⟨#[108,97,116,101]⟩) (.agg #[.int .i64 0,.func (.func 139) #[.pointer (some ⟨bs,0,none⟩)] #[]])).run prog t=.ok () u/\(Instr.mapUpdate 223 (.map (some V.heap.size)) (.string ⟨#[118,105,101,119]⟩) (.agg #[.int .i64 0,.func (.func 140) #[.pointer (some ⟨bs,0,none⟩)] #[]])).run prog u=.ok () y/\(Instr.mapUpdate 223 (.map (some V.heap.size)) (.string ⟨#[103,114,111,117,112,115]⟩) (.agg #[.int .i64 0,.func (.func 141) #[.pointer (some ⟨bs,0,none⟩)] #[]])).run prog y=.ok () h/\(Instr.mapUpdate 223 (.map (some V.heap.size)) (.string ⟨#[115,97,118,101,100]⟩) (.agg #[.int .i64 0,.func (.func 142) #[.pointer (some ⟨bs,0,none⟩)] #[]])).run prog h=.ok () g/\(Instr.mapUpdate 223 (.map (some V.heap.size)) (.string ⟨#[114,101,108,111,97,100]⟩) (.agg #[.int .i64 0,.func (.func 143) #[.pointer (some ⟨bs,0,none⟩)] #[]])).run prog g=.ok () j/\(Instr.mapUpdate 223 (.map (some V.heap.size)) (.string ⟨#[104,101,108,112]⟩) (.agg #[.int .i64 0,.func (.func 144) #[.pointer (some ⟨bs,0,none⟩)] #[]])).run prog j=.ok () b)/\mM b bs V.heap.size/\Below V.heap.size V b:=by
 have h0:=World.ownsMap_made V prog 9 zA;obtain⟨r,r1,h1,g1⟩:=tL (bs:=bs) h0 (by omega) [112,108,97,110] (by decide) 132 3;obtain⟨v,r2,h2,I⟩:=tL (bs:=bs) h1 (by omega) [108,101,102,116] (by decide) 133 3;obtain⟨q,r3,h3,H⟩:=tL (bs:=bs) h2 (by omega) [114,105,103,104,116] (by decide) 134 3;obtain⟨s,r4,h4,Q⟩:=tL (bs:=bs) h3 (by omega) [109,97,114,107] (by decide) 135 2;obtain⟨x,r5,h5,M⟩:=tL (bs:=bs) h4 (by omega) [109,97,114,107,115] (by decide) 136 0;obtain⟨w,r6,h6,N⟩:=tL (bs:=bs) h5 (by omega) [104,101,108,100] (by decide) 137 0;obtain⟨t,r7,h7,g7⟩:=tL (bs:=bs) h6 (by omega) [102,101,100] (by decide) 138 0;obtain⟨u,r8,h8,g8⟩:=tL (bs:=bs) h7 (by omega) [108,97,116,101] (by decide) 139 0;obtain⟨y,r9,h9,g9⟩:=tL (bs:=bs) h8 (by omega) [118,105,101,119] (by decide) 140 0;obtain⟨h,WM,C,o⟩:=tL (bs:=bs) h9 (by omega) [103,114,111,117,112,115] (by decide) 141 0;obtain⟨g,WN,z,n⟩:=tL (bs:=bs) C (by omega) [115,97,118,101,100] (by decide) 142 0;obtain⟨j,WO,G,m⟩:=tL (bs:=bs) z (by omega) [114,101,108,111,97,100] (by decide) 143 0;obtain⟨b,WQ,Zm,E⟩:=tL (bs:=bs) G (by omega) [104,101,108,112] (by decide) 144 0;refine⟨r,v,q,s,x,w,t,u,y,h,g,j,b,⟨r1,r2,r3,r4,r5,r6,r7,r8,r9,WM,WN,WO,WQ⟩,Zm,?_⟩
 have a:∀{A B:World},V.heap.size<=A.heap.size->A.grownBy B (some V.heap.size)->Below V.heap.size A B:=λhA hg=>(zI _ _).grown hg hA (λk e=>by cases e;exact aO _)
 have R:V.heap.size<=(V.alloc (.map #[] 0)).heap.size:=by simp
 have Y:=di R g1.size;have X:=di Y I.size;have K:=di X H.size;have T:=di K Q.size;have s5:=di T M.size;have Z:=di s5 N.size;have L:=di Z g7.size;have U:=di L g8.size;have s9:=di U g9.size;have l:=di s9 o.size;have p:=di l n.size;have F:=di p m.size;exact(((((((((((((wh V _).trans (a R g1)).trans (a Y I)).trans (a X H)).trans (a K Q)).trans (a T M)).trans (a s5 N)).trans (a Z g7)).trans (a L g8)).trans (a U g9)).trans (a s9 o)).trans (a l n)).trans (a p m)).trans (a F E)
section
variable{w0:World}{bs i:Nat}{mv:Option Nat}{st d:Sx}{S S' P:Nat->Prop}{W f c:World}
theorem DW{pv:Value}(l:W.heap[bs]?=some (.cells #[pv,.map mv] 225))(g:Below w0.heap.size w0 W)(j:w0.heap.size<=bs){a:Nat}(r:Below W.heap.size W f)(s:PE d a S' f)(n:∀k,S' k->W.heap.size<=k):aC w0 bs mv d (λk=>k=bs) W (f.setCell ⟨bs,0,none⟩ (.pointer (some ⟨a,0,none⟩))):=by
 have m:bs<W.heap.size:=(aD.1 l).1
 have h:¬S' bs:=λe=>by have:=n bs e;omega
 have p:∀k,k≠bs->(f.setCell ⟨bs,0,none⟩ (.pointer (some ⟨a,0,none⟩))).heap[k]?=f.heap[k]? :=λk e=>zw _ _ _ _ e
 have q:Turned (λk=>k=bs) W (f.setCell ⟨bs,0,none⟩ (.pointer (some ⟨a,0,none⟩))):=(Turned.of_below (S:=λk=>k=bs) r).trans (bC (b:=bs) (o:=0)) (λk _ e=>e);refine⟨λk=>S' k∨k=bs,⟨a,S',?_,cz d a S' f _ s (by simp) (λk e=>p k (λt=>h (t ▸ e))),h,λ_=>Iff.rfl,ja g q (λk e=>by rw[e];exact j),λk e=>?_⟩,q,λk e=>?_⟩
 .rw[yc ((r.block bs m).trans l)];rfl
 .rcases e with e|e
  .have:=n k e;have:=g.size;omega
  .rw[e];exact j
 .rcases e with e|e
  .exact .inr (n k e)
  .exact .inl e
theorem Dk.mapped(h:Dk w0 bs mv st i S P W)(a:Nat):Dk w0 bs (some a) st i S P (W.setCell ⟨bs,1,none⟩ (.map (some a))):=by
 have g:∀k,k≠bs->(W.setCell ⟨bs,1,none⟩ (.map (some a))).heap[k]?=W.heap[k]? :=λk e=>zw _ _ _ _ e
 refine⟨?_,cz st i S W _ h.eng (by simp) (λk e=>g k (λj=>h.ns (j ▸ e))),h.ns,h.all,?_,h.ge⟩
 .rw[yc h.blk];rfl
 .have:=h.ge bs ((h.all bs).2 (.inr rfl));exact h.low.trans ((bC (b:=bs) (o:=1)).below (by exact h.low.size) (λk e=>by subst e;exact this))
end
theorem Si{w0:World}{bs:Nat}{mv:Option Nat}{W:World}(h:W.heap[bs]?=some (.cells #[.pointer none,.map mv] 225))(o:Below w0.heap.size w0 W)(p:w0.heap.size<=bs)(a b m:Int)(y:dn a b m)(g:Nat)(l:W.heap[g]?=some (.cells ([a,b,m].map (Value.int .i64)).toArray 3)):
  Calls prog 132 #[.pointer (some ⟨bs,0,none⟩),.slice (some ⟨g,0,none⟩) 3 3] W λe c=>e=.returned (sV [112,108,97,110])/\aC w0 bs mv (Sx.new a b m) (λk=>k=bs) W c:=by
 have n:=(aD.1 l).1;have c1:=eZ l;have r:=(aD.1 h).1
 have x:Hid (∀V,Below W.heap.size W V->Calls prog 13 #[.agg #[.int .i64 a,.int .i64 b,.int .i64 m]] V λe c=>∃j,e=.returned (.tuple #[.pointer (some ⟨j,0,none⟩),.nilIface])/\(c.cell? ⟨g,0,none⟩=some (.int .i64 a)/\c.cell? ⟨g,1,none⟩=some (.int .i64 b)/\c.cell? ⟨g,2,none⟩=some (.int .i64 m))/\(c.cell? ⟨bs,0,none⟩=some (.pointer none)/\c.frozen? ⟨bs,0,none⟩=false/\bs<c.heap.size)/\Hid (aC w0 bs mv (Sx.new a b m) (λk=>k=bs) W (c.setCell ⟨bs,0,none⟩ (.pointer (some ⟨j,0,none⟩))))):=by
  intro V u;refine(GH a b m V y).mono ?_;rintro e c ⟨j,S',rfl,z,s,B⟩;have t:Below W.heap.size W c:=u.trans (B.mono u.size);have v:=(t.block bs r).trans h;exact⟨j,rfl,eZ ((t.block g n).trans l),⟨by rw[vE v];rfl,x9 v 0,(aD.1 v).1⟩,DW h o p t z (λk e=>di u.size (s k e).1)⟩
 have A:Hid (Below W.heap.size W W.drew):=(zI _ _).drew;clear h y l;go_enter func132,ntmps132;go_wp2
 go_region_held3 (λV=>V.cell? ⟨g,0,none⟩=some (.int .i64 a)/\V.cell? ⟨g,1,none⟩=some (.int .i64 b)/\V.cell? ⟨g,2,none⟩=some (.int .i64 m)) (first|exact c1|exact w|fail) (first
  |(go_at_call 13;refine(x.out _ A.out).mono ?_;rintro e w2 ⟨j,rfl,w,c3,s⟩)
  |fail)
 clear x c1 w
 go_wp2_with (first
  |(go_at_call 213;refine(iZ _).mono ?_;rintro e w3 ⟨rfl,q⟩;have q:=q.symm;subst q)
  |fail)
 go_ret;exact⟨rfl,s.out⟩
theorem N8(w:World):Calls prog 76 #[] w λe c=>∃bs v P,e=.returned (.pointer (some ⟨bs,0,none⟩))/\YG w bs (some v) (Sx.new 0 10 3) P c/\mM c bs v/\¬P v/\w.heap.size<=v:=by
 have hmm:= @run_makeMap prog
 have GI:∀(fn:Fn) (first cap:Array Value) (w:World),(Instr.makeFunc fn first cap).run prog w=.ok (.func fn first cap) w:=λ_ _ _ _=>rfl
 have H:Hid (∀V,Below (w.heap.size+1) (w.alloc (.cells #[.pointer none,.map none] 225)) V->∀g,V.heap[g]?=some (.cells #[.int .i64 0,.int .i64 10,.int .i64 3] 3)->Calls prog 132 #[.pointer (some ⟨w.heap.size,0,none⟩),.slice (some ⟨g,0,none⟩) 3 3] V λe c=>e=.returned (sV [112,108,97,110])/\(∃n m s o r p q t l j b h a,((Instr.mapUpdate 223 (.map (some c.heap.size)) (.string ⟨#[112,108,97,110]⟩) (.agg #[.int .i64 3,.func (.func 132) #[.pointer (some ⟨w.heap.size,0,none⟩)] #[]])).run prog (c.alloc (.map #[] 0))=.ok () n/\(Instr.mapUpdate 223 (.map (some c.heap.size)) (.string ⟨#[108,101,102,116]⟩) (.agg #[.int .i64 3,.func (.func 133) #[.pointer (some ⟨w.heap.size,0,none⟩)] #[]])).run prog n=.ok () m/\(Instr.mapUpdate 223 (.map (some c.heap.size)) (.string ⟨#[114,105,103,104,116]⟩) (.agg #[.int .i64 3,.func (.func 134) #[.pointer (some ⟨w.heap.size,0,none⟩)] #[]])).run prog m=.ok () s/\(Instr.mapUpdate 223 (.map (some c.heap.size)) (.string ⟨#[109,97,114,107]⟩) (.agg #[.int .i64 2,.func (.func 135) #[.pointer (some ⟨w.heap.size,0,none⟩)] #[]])).run prog s=.ok () o/\(Instr.mapUpdate 223 (.map (some c.heap.size)) (.string ⟨#[109,97,114,107,115]⟩) (.agg #[.int .i64 0,.func (.func 136) #[.pointer (some ⟨w.heap.size,0,none⟩)] #[]])).run prog o=.ok () r/\(Instr.mapUpdate 223 (.map (some c.heap.size)) (.string ⟨#[104,101,108,100]⟩) (.agg #[.int .i64 0,.func (.func 137) #[.pointer (some ⟨w.heap.size,0,none⟩)] #[]])).run prog r=.ok () p/\(Instr.mapUpdate 223 (.map (some c.heap.size)) (.string ⟨#[102,101,100]⟩) (.agg #[.int .i64 0,.func (.func 138) #[.pointer (some ⟨w.heap.size,0,none⟩)] #[]])).run prog p=.ok () q/\(Instr.mapUpdate 223 (.map (some c.heap.size)) (.string ⟨#[108,97,116,101]⟩) (.agg #[.int .i64 0,.func (.func 139) #[.pointer (some ⟨w.heap.size,0,none⟩)] #[]])).run prog q=.ok () t/\(Instr.mapUpdate 223 (.map (some c.heap.size)) (.string ⟨#[118,105,101,119]⟩) (.agg #[.int .i64 0,.func (.func 140) #[.pointer (some ⟨w.heap.size,0,none⟩)] #[]])).run prog t=.ok () l/\(Instr.mapUpdate 223 (.map (some c.heap.size)) (.string ⟨#[103,114,111,117,112,115]⟩) (.agg #[.int .i64 0,.func (.func 141) #[.pointer (some ⟨w.heap.size,0,none⟩)] #[]])).run prog l=.ok () j/\(Instr.mapUpdate 223 (.map (some c.heap.size)) (.string ⟨#[115,97,118,101,100]⟩) (.agg #[.int .i64 0,.func (.func 142) #[.pointer (some ⟨w.heap.size,0,none⟩)] #[]])).run prog j=.ok () b/\(Instr.mapUpdate 223 (.map (some c.heap.size)) (.string ⟨#[114,101,108,111,97,100]⟩) (.agg #[.int .i64 0,.func (.func 143) #[.pointer (some ⟨w.heap.size,0,none⟩)] #[]])).run prog b=.ok () h/\(Instr.mapUpdate 223 (.map (some c.heap.size)) (.string ⟨#[104,101,108,112]⟩) (.agg #[.int .i64 0,.func (.func 144) #[.pointer (some ⟨w.heap.size,0,none⟩)] #[]])).run prog h=.ok () a)/\(a.cell? ⟨w.heap.size,1,none⟩=some (.map none)/\a.frozen? ⟨w.heap.size,1,none⟩=false/\w.heap.size<a.heap.size)/\Hid (∃P,YG w w.heap.size (some c.heap.size) (Sx.new 0 10 3) P (a.setCell ⟨w.heap.size,1,none⟩ (.map (some c.heap.size)))/\mM (a.setCell ⟨w.heap.size,1,none⟩ (.map (some c.heap.size))) w.heap.size c.heap.size/\¬P c.heap.size/\w.heap.size<=c.heap.size))):=by
  intro V B g K;have y:V.heap[w.heap.size]?=some (.cells #[.pointer none,.map none] 225):=(B.block _ (by omega)).trans (World.alloc_heap_new w _);have x:Below w.heap.size w V:=(wh w _).trans (B.mono (by omega));refine(Si y x (aO _) 0 10 3 (by unfold dn;decide) g K).mono ?_;rintro e c ⟨rfl,P,⟨i,S,u⟩,hT,hP⟩;refine⟨rfl,?_⟩;obtain⟨n,m,s,o,r,p,q,t,l,j,b,h,a,G,z,I⟩:=UW c w.heap.size;have k:=u.below I;refine⟨n,m,s,o,r,p,q,t,l,j,b,h,a,G,⟨k.cell.2.1,x9 k.blk 1,k.lt⟩,P,⟨i,S,k.mapped _⟩,z.still (zw _ _ _ _ (by have:=u.lt;show c.heap.size≠w.heap.size;omega)),λe=>?_,?_⟩
  .have:=u.plt _ e;omega
  .have:=u.lt;omega
 go_enter func76,ntmps76;have A:Hid (Below (w.heap.size+1) (w.alloc (.cells #[.pointer none,.map none] 225)) ((w.alloc (.cells #[.pointer none,.map none] 225)).alloc (.cells #[.int .i64 0,.int .i64 10,.int .i64 3] 3))/\((w.alloc (.cells #[.pointer none,.map none] 225)).alloc (.cells #[.int .i64 0,.int .i64 10,.int .i64 3] 3)).heap[w.heap.size+1]?=some (.cells #[.int .i64 0,.int .i64 10,.int .i64 3] 3)):=⟨by simpa using wh (w.alloc (.cells #[.pointer none,.map none] 225)) (.cells #[.int .i64 0,.int .i64 10,.int .i64 3] 3),by simpa using World.alloc_heap_new (w.alloc (.cells #[.pointer none,.map none] 225)) (.cells #[.int .i64 0,.int .i64 10,.int .i64 3] 3)⟩
 go_wp2_with (first
  |(go_at_call 132;refine(H.out _ A.out.1 _ A.out.2).mono ?_;rintro e w1 ⟨rfl,n,m,s,o,r,p,q,t,l,j,b,h,a,⟨r1,r2,r3,r4,r5,r6,r7,r8,r9,WM,WN,WO,WQ⟩,c1,z⟩)
  |fail)
 go_ret;obtain⟨P,C,E,F,L⟩:=z.out;exact⟨_,_,P,rfl,C,E,F,L⟩
end
section
open Go.Proofs.Tryz Go.Joins
variable{P:Program}{d w:World}{B b:Nat}{bs:List Value}{c:Option Nat}
theorem Cf(w:World)(base:Nat)(t u ty e:TypeId)(i:TypeInfo)(x:P.underlying t=some (.slice e))(p:P.underlying u=some .string)(hi:P.info? e=some i)(z:i.zero=some (.int .u8 0))(hsize:i.size=1)(l:i.bytes=1)
  (v:Value) (n:Nat) (xs:List Value) (a:w.ownsRowF base e 1 v n xs) (s:ByteArray) (m:n+s.size<=maxLen) (f:n+s.size<=140737488355328) {v':Value}
  (h:(Builtin.append_ #[t,u] ty #[v,.string s]).run P w=.ok v' d):∀k,v'.ownBlock=some k->v.ownBlock=some k∨w.heap.size<=k:=by
 intro k y
 rcases a.2 with⟨rfl,rfl⟩|⟨g,cap,cur,C,rfl,hbg,E,q,hnc,hcm,r,htake⟩
 .obtain⟨v2,w2,j,A,_,_⟩:=Lib.run_append_own_string (P:=P) w w.heap.size t u ty e i x p hi z hsize l (.slice none 0 0) 0 xs ⟨a.1,.inl ⟨rfl,rfl⟩⟩ s m f (aO _);rw[j]at h
  injection h with e1 _
  subst e1;exact .inr ((World.ownsRowF_of A).lt k y).1
 .have o:xs.length=n:=by simpa using a.1
  by_cases hroom:n+s.size<=cap
  .have hcs':cur.size=cap:=by simpa using r
   have j:=Lib.run_append_room_stringF (P:=P) w t u ty e i x p hi hsize g n cap cur C E (by simpa using q) s hroom (by omega);rw[j]at h
   injection h with e1 _
   subst e1;exact .inl y
  .have j:=Lib.run_append_grow_string (P:=P) w t u ty e i (.int .u8 0) x p hi z ⟨g,0,none⟩ n cap xs (by rw[hsize];simpa using o) (a.cells (g:=g) rfl) s (by omega) (by simp only[maxLen]at m;omega) (by rw[l];exact growslice_fits (by omega) (by omega));rw[j]at h
   injection h with e1 _
   subst e1;simp[Value.ownBlock]at y;exact .inr (by omega)
theorem rH{ops:Array Oper}{rest:List Oper}{o:Oper}{a:Act}{Q:Exit->Act->World->Prop}(p:o.guard=none)(sl x:Operand)(t u:TypeId)
  (F:o.op=.call { callee:= .builtin .append,args:= #[sl,x],argTypes:= #[t,u]})
  (base:Nat) (e:TypeId) (i:TypeInfo) (z:P.underlying t=some (.slice e)) (q:P.underlying u=some .string) (hi:P.info? e=some i) (y:i.zero=some (.int .u8 0)) (hsize:i.size=1) (l:i.bytes=1)
  (v:Value) (n:Nat) (xs:List Value) (A:a.eval sl=v) (g:w.ownsRowF base e 1 v n xs) (s:ByteArray) (G:a.eval x=.string s)
  (m:n+s.size<=maxLen) (f:n+s.size<=140737488355328) (j:base<=w.heap.size)
  (h:∀v' d,d.ownsRowF base e 1 v' (n+s.size) (xs++Lib.strCells s)->w.grownBy d v.ownBlock->(∀k,v'.ownBlock=some k->v.ownBlock=some k∨w.heap.size<=k)->wpList P ops Q rest (a.put o.dst v') d):wpList P ops Q (o::rest) a w:=by
 refine wpList_plain p λK H=>?_
 obtain⟨v',d,r,C,E,_⟩:=Lib.run_append_own_stringF (P:=P) w base t u o.type e i z q hi y hsize l v n xs g s m f j;have I:=Cf w base t u o.type e i z q hi y hsize l v n xs g s m f r;unfold Oper.wp execOp;simp only[F,resolve,invoke,builtin,Sem.run_bind,Sem.run_pure,Result.andThen_ok,List.map_toArray,List.map_cons,List.map_nil,A,G,r];exact H _ _ (h v' d C E I)
structure Bo(B b:Nat)(bs:List Value)(c:Option Nat)(w:World):Prop where
 ge:B<=b
 ex:∃p v,w.heap[b]?=some (.cells #[p,v] 126 (0,0))/\(p=.pointer none∨p=.pointer (some ⟨b,0,none⟩))/\w.ownsRowF B 5 1 v bs.length bs/\v.ownBlock=c
 ne:c≠some b
theorem Bo.isF(h:Bo B b bs c w):Lib.IsBuilderF 126 5 B b bs w:=by
 obtain⟨a,⟨p,v,e,j,g,i⟩,f⟩:=h
 rcases j with rfl|rfl
 .exact .inl ⟨a,v,e,g,by rw[i];exact f⟩
 .exact .inr ⟨a,v,e,g,by rw[i];exact f⟩
theorem Bo.still(h:Bo B b bs c w)(f:∀k,k=b∨c=some k->d.heap[k]?=w.heap[k]?):Bo B b bs c d:=by
 obtain⟨l,⟨p,v,m,j,a,i⟩,n⟩:=h;refine⟨l,⟨p,v,(f b (.inl rfl)).trans m,j,⟨a.1,?_⟩,i⟩,n⟩
 rcases a.2 with e|⟨g,cap,cur,fz,rfl,hbg,hg,rest⟩
 .exact .inl e
 .exact .inr ⟨g,cap,cur,fz,rfl,hbg,(f g (.inr (by rw[<-i];rfl))).trans hg,rest⟩
theorem Bo.lt(h:Bo B b bs c w):b<w.heap.size/\∀k,c=some k->B<=k/\k<w.heap.size:=by
 obtain⟨h1,⟨p,v,a,hp,f,g⟩,hn⟩:=h;exact⟨(aD.1 a).1,λk e=>f.lt k (g.trans e)⟩
theorem Bo.made(B:Nat)(w:World)(a:B<=w.heap.size):Bo B w.heap.size [] none (w.alloc (.cells #[.pointer none,.slice none 0 0] 126)):=
 ⟨a,⟨_,_,vw w _,.inl rfl,World.ownsRowF_nil _ _ _ _,rfl⟩,by simp⟩
theorem zB(B b:Nat)(bs:List Value)(c:Option Nat)(w:World)(h:Bo B b bs c w):
  Calls prog 147 #[.pointer (some ⟨b,0,none⟩)] w λe d=>e=.returned (.tuple #[])/\∃v,d.heap[b]?=some (.cells #[.pointer (some ⟨b,0,none⟩),v] 126 (0,0))/\d.ownsRowF B 5 1 v bs.length bs/\v.ownBlock=c/\Turned (λk=>k=b) w d:=by
 obtain⟨h1,⟨p,v,a,j,i,f⟩,l⟩:=h
 rcases j with rfl|rfl
 .refine(nA b w (by rw[Lib.cell_of_heap a];rfl) (by simp[World.shape?,a]) (Lib.frozen_of_heap a 0)).mono ?_;rintro e d ⟨rfl,rfl⟩;refine⟨rfl,v,?_,?_,f,bC (b:=b) (o:=0)⟩
  .rw[yc a];rfl
  .refine⟨i.1,?_⟩
   rcases i.2 with e|⟨g,cap,cur,fz,rfl,hbg,hg,rest⟩
   .exact .inl e
   .refine .inr ⟨g,cap,cur,fz,rfl,hbg,(zw _ _ _ _ ?_).trans hg,rest⟩;intro e;apply l;rw[<-f,<-show g=b from e];rfl
 .refine(nR b w (by rw[Lib.cell_of_heap a];rfl)).mono ?_;rintro e d ⟨rfl,rfl⟩;exact⟨rfl,v,a,i,f,Turned.of_below (zI _ _)⟩
theorem KT(B b:Nat)(bs:List Value)(c:Option Nat)(s:ByteArray)(w:World)(h:Bo B b bs c w)(hlen:bs.length+s.size<=140737488355328)(hBw:B<=w.heap.size):
  Calls prog 78 #[.pointer (some ⟨b,0,none⟩),.string s] w λe d=>e=.returned (.tuple #[.int .i64 s.size,.nilIface])/\∃G,Bo B b (bs++Lib.strCells s) G d/\Turned (λk=>k=b∨c=some k) w d/\∀k,G=some k->c=some k∨w.heap.size<=k:=by
 obtain⟨H,hi,A,C,E⟩:=Dw infoByte;have K:=h.ge;have p:=h.ne;go_enter func78,ntmps78
 go_wp2_with (first
  |(go_at_call 147;refine(zB B b bs c _ h).mono ?_)
  |fail)
 rintro e z ⟨rfl,v,j,n,q,y⟩
 have c0:z.cell? ⟨b,0,none⟩=some (.pointer (some ⟨b,0,none⟩)):=by rw[Lib.cell_of_heap j];rfl
 have c1:z.cell? ⟨b,1,none⟩=some v:=by rw[Lib.cell_of_heap j];rfl
 go_wp2_with (at_builtin;refine rH rfl _ _ 124 9 rfl B 5 H underlying124 underlying9 hi A C E _ _ _ rfl n s rfl ?c3 ?c4 ?c5 ?_)
 case c3=>unfold maxLen;omega
 case c4=>omega
 case c5=>have:=y.size;omega
 intro v' u a f m;have x:b<z.heap.size:=(aD.1 j).1
 have i:u.heap[b]?=some (.cells #[.pointer (some ⟨b,0,none⟩),v] 126 (0,0)):=by
  rw[f.block b x (λe=>p e.symm)];exact j
 have d0:u.cell? ⟨b,0,none⟩=some (.pointer (some ⟨b,0,none⟩)):=by rw[Lib.cell_of_heap i];rfl
 have d1:u.cell? ⟨b,1,none⟩=some v:=by rw[Lib.cell_of_heap i];rfl
 have f1:u.frozen? ⟨b,1,none⟩=false:=Lib.frozen_of_heap i 1
 obtain⟨r,t,cap,rfl⟩:∃r t cap,v'=.slice r t cap:=by
  rcases a.2 with⟨q,_⟩|⟨g,cap,cur,F,q,_⟩
  .exact⟨_,_,_,q⟩
  .exact⟨_,_,_,q⟩
 go_wp2;go_ret2
 have l:(Value.slice r t cap).ownBlock≠some b:=λe=>by
  rcases m b e with g|g
  .exact p g
  .omega
 refine⟨rfl,(Value.slice r t cap).ownBlock,⟨K,⟨_,_,by rw[yc i];rfl,.inr rfl,⟨by rw[List.length_append,Lib.strCells_length,Nat.mul_one],?_⟩,rfl⟩,l⟩,?_,?_⟩
 .rw[List.length_append,Lib.strCells_length]
  rcases a.2 with e|⟨g,cap',cur,F,e,hbg,hg,rest⟩
  .exact .inl e
  .refine .inr ⟨g,cap',cur,F,e,hbg,(zw _ _ _ _ ?_).trans hg,rest⟩;intro I;apply l;rw[e,<-show g=b from I];rfl
 .refine((y.mono (λk e=>Or.inl e)).trans (Turned.of_grown (S:=λk=>k=b∨c=some k) f (λk e=>Or.inr e)) (λk _ e=>e)).trans (bC (b:=b) (o:=1)) (λk _ e=>Or.inl e)
 .intro k e;have hz:=y.size
  rcases m k e with g|g
  .exact .inl g
  .exact .inr (by omega)
end
section
open Go.Joins Go.Sort
variable{F:Nat->Prop}{w0 W:World}{bs f i j:Nat}{st:Sx}{d:List UInt8}
def MX(F F':Nat->Prop)(W m:World):Prop:=Turned F W m/\∀k,F' k->F k∨W.heap.size<=k
theorem MX.trans{r s:Nat->Prop}{a b c:World}(h:MX F r a b)(n:MX r s b c):MX F s a c:=by
 have hz:=h.1.size;refine⟨h.1.trans n.1 (λk hk e=>(h.2 k e).elim id (λg=>by omega)),λk e=>?_⟩
 rcases n.2 k e with g|g
 .exact h.2 k g
 .exact .inr (by omega)
structure Se(w0:World)(bs f i j:Nat)(st:Sx)(d:List UInt8)(o:Nat)(S P:Nat->Prop)(l:Option Nat)(F:Nat->Prop)(W:World):Prop where
 dk:Dk w0 bs (some f) st o S P W
 vm:mM W bs f
 nm:¬P f
 box:W.heap[i]?=some (.cells #[.pointer (some ⟨bs,0,none⟩)] 145)
 nx:¬P i
 bo:Bo w0.heap.size j (Lib.byteCells d) l W
 nb:¬P j
 ng:∀k,l=some k->¬P k/\k≠f/\k≠i
 bbm:j≠f
 bbx:j≠i
 gm:w0.heap.size<=f
 gx:w0.heap.size<=i
 all:∀k,F k↔(P k∨k=f∨k=i∨k=j∨l=some k)
def zF(w0:World)(bs f i j:Nat)(st:Sx)(d:List UInt8)(F:Nat->Prop)(W:World):Prop:=∃o S P l,Se w0 bs f i j st d o S P l F W
section
variable{w0:World}{bs f i j:Nat}{st q:Sx}{d:List UInt8}{o:Nat}{S P:Nat->Prop}{l:Option Nat}{F:Nat->Prop}{W p m:World}
theorem Se.flt(h:Se w0 bs f i j st d o S P l F W):∀k,F k->k<W.heap.size/\w0.heap.size<=k:=λk e=>by
 rcases(h.all k).1 e with e|rfl|rfl|rfl|e
 .exact⟨h.dk.plt k e,h.dk.ge k e⟩
 .exact⟨h.vm.lt,h.gm⟩
 .exact⟨(aD.1 h.box).1,h.gx⟩
 .exact⟨h.bo.lt.1,h.bo.ge⟩
 .exact⟨(h.bo.lt.2 k e).2,(h.bo.lt.2 k e).1⟩
theorem Se.still(h:Se w0 bs f i j st d o S P l F W)(c:W.heap.size<=p.heap.size)(a:∀k,F k->p.heap[k]?=W.heap[k]?)(b:Below w0.heap.size w0 p):Se w0 bs f i j st d o S P l F p:=
 ⟨h.dk.still c (λk e=>a k ((h.all k).2 (.inl e))) b,h.vm.still (a f ((h.all f).2 (.inr (.inl rfl)))),h.nm,(a i ((h.all i).2 (.inr (.inr (.inl rfl))))).trans h.box,h.nx,
  h.bo.still (λk e=>a k ((h.all k).2 (.inr (.inr (.inr e))))),h.nb,h.ng,h.bbm,h.bbx,h.gm,h.gx,h.all⟩
theorem zF.still(h:zF w0 bs f i j st d F W)(b:W.heap.size<=p.heap.size)(c:∀k,F k->p.heap[k]?=W.heap[k]?)(a:Below w0.heap.size w0 p):zF w0 bs f i j st d F p:=by
 obtain⟨o,S,P,l,h⟩:=h;exact⟨o,S,P,l,h.still b c a⟩
theorem zF.low(h:zF w0 bs f i j st d F W):Below w0.heap.size w0 W:=by
 obtain⟨o,S,P,l,h⟩:=h;exact h.dk.low
theorem zF.flt(h:zF w0 bs f i j st d F W):∀k,F k->k<W.heap.size/\w0.heap.size<=k:=by
 obtain⟨o,S,P,l,h⟩:=h;exact h.flt
theorem zF.box(h:zF w0 bs f i j st d F W):W.cell? ⟨i,0,none⟩=some (.pointer (some ⟨bs,0,none⟩))/\i<W.heap.size:=by
 obtain⟨o,S,P,l,h⟩:=h;exact⟨by rw[vE h.box];rfl,(aD.1 h.box).1⟩
theorem Se.answered(h:Se w0 bs f i j st d o S P l F W)(y:aC w0 bs (some f) q P W m):∃w,zF w0 bs f i j q d w m/\MX F w W m:=by
 obtain⟨r,⟨z,S',hd⟩,s,u⟩:=y;have hz:=s.size
 have b:∀k,k<W.heap.size->¬P k->¬r k:=λk x n e=>(u k e).elim n (λg=>by omega)
 have a:∀k,k<W.heap.size->¬P k->m.heap[k]?=W.heap[k]? :=λk x n=>s.block k x n
 have t:=h.vm.lt;have v:=(aD.1 h.box).1;have c:=h.bo.lt;refine⟨λk=>r k∨k=f∨k=i∨k=j∨l=some k,⟨z,S',r,l,hd,h.vm.still (a f t h.nm),b f t h.nm,(a i v h.nx).trans h.box,b i v h.nx,h.bo.still (λk e=>?_),b j c.1 h.nb,λk e=>⟨b k (c.2 k e).2 (h.ng k e).1,(h.ng k e).2⟩,h.bbm,h.bbx,h.gm,h.gx,λ_=>Iff.rfl⟩,s.mono (λk e=>(h.all k).2 (.inl e)),λk e=>?_⟩
 .rcases e with rfl|e
  .exact a k c.1 h.nb
  .exact a k (c.2 k e).2 (h.ng k e).1
 .rcases e with e|e
  .exact(u k e).imp (λg=>(h.all k).2 (.inl g)) id
  .exact .inl ((h.all k).2 (.inr e))
theorem Se.written(h:Se w0 bs f i j st d o S P l F W){out':List UInt8}{n:Option Nat}(y:Bo w0.heap.size j (Lib.byteCells out') n m)(r:Turned (λk=>k=j∨l=some k) W m)(u:∀k,n=some k->l=some k∨W.heap.size<=k):∃s,zF w0 bs f i j st out' s m/\MX F s W m:=by
 have A:=r.size;have w:=h.vm.lt;have z:=(aD.1 h.box).1
 have a:∀k,k<W.heap.size->k≠j->(l≠some k)->m.heap[k]?=W.heap[k]? :=λk B v x=>r.block k B (λe=>e.elim v x)
 have b:∀k,P k->k≠j/\l≠some k:=λk e=>⟨λc=>h.nb (c ▸ e),λc=>(h.ng k c).1 e⟩
 have t:Turned F W m:=r.mono (λk e=>(h.all k).2 (.inr (.inr (.inr e))));refine⟨λk=>P k∨k=f∨k=i∨k=j∨n=some k,⟨o,S,P,n,h.dk.still A (λk e=>a k (h.dk.plt k e) (b k e).1 (b k e).2) (ja h.dk.low t (λk e=>(h.flt k e).2)),h.vm.still (a f w (Ne.symm h.bbm) (λe=>(h.ng f e).2.1 rfl)),h.nm,(a i z (Ne.symm h.bbx) (λe=>(h.ng i e).2.2 rfl)).trans h.box,h.nx,y,h.nb,λk e=>?_,h.bbm,h.bbx,h.gm,h.gx,λ_=>Iff.rfl⟩,t,λk e=>?_⟩
 .rcases u k e with g|g
  .exact h.ng k g
  .exact⟨λc=>by have:=h.dk.plt k c;omega,by omega,by omega⟩
 .rcases e with e|e|e|e|e
  .exact .inl ((h.all k).2 (.inl e))
  .exact .inl ((h.all k).2 (.inr (.inl e)))
  .exact .inl ((h.all k).2 (.inr (.inr (.inl e))))
  .exact .inl ((h.all k).2 (.inr (.inr (.inr (.inl e)))))
  .exact(u k e).imp (λg=>(h.all k).2 (.inr (.inr (.inr (.inr g))))) id
end
theorem GY(h:zF w0 bs f i j st d F W)(c:aU w0)(line:List UInt8)(k:line.length<=1000000){n:Nat}(g:dH n st)(r:n<=1600):
  Calls Tryz.prog 79 #[.pointer (some ⟨bs,0,none⟩),.string ⟨line.toArray⟩] W λe m=>e=.returned (sV (sayOf st line).1)/\∃a,zF w0 bs f i j (sayOf st line).2 d a m/\MX F a W m:=by
 obtain⟨o,S,P,l,h⟩:=h;refine(GX h.dk h.vm c line k g r).mono ?_;rintro e m ⟨rfl,b⟩;exact⟨rfl,h.answered b⟩
theorem KU(h:zF w0 bs f i j st d F W)(s:List UInt8)(g:d.length+s.length<=140737488355328):
  Calls Tryz.prog 78 #[.pointer (some ⟨j,0,none⟩),.string ⟨s.toArray⟩] W λe m=>e=.returned (.tuple #[.int .i64 s.length,.nilIface])/\∃b,zF w0 bs f i j st (d++s) b m/\MX F b W m:=by
 obtain⟨o,S,P,l,h⟩:=h;refine(KT w0.heap.size j (Lib.byteCells d) l ⟨s.toArray⟩ W h.bo (by rw[Lib.byteCells_length];simpa[ByteArray.size]using g) h.dk.low.size).mono ?_;rintro e m ⟨rfl,k,n,c,r⟩;refine⟨by simp[ByteArray.size],h.written (out':=d++s) ?_ c r⟩;have a:Bo w0.heap.size j (Lib.byteCells d++Lib.byteCells s) k m:=n;simpa[Lib.byteCells]using a
theorem N9{w a:World}{P:Nat->Prop}(h:YG w bs (some f) st P a)(g:mM a bs f)(t:¬P f)(n:w.heap.size<=f):
  ∃F,zF w bs f a.heap.size (a.heap.size+1) st [] F ((a.alloc (.cells #[.pointer (some ⟨bs,0,none⟩)] 145)).alloc (.cells #[.pointer none,.slice none 0 0] 126)):=by
 obtain⟨o,S,hd⟩:=h;have r:=g.lt;have s:=hd.low.size;have c:Below a.heap.size a ((a.alloc (.cells #[.pointer (some ⟨bs,0,none⟩)] 145)).alloc (.cells #[.pointer none,.slice none 0 0] 126)):=wT _ _ _;have b:=Bo.made w.heap.size (a.alloc (.cells #[.pointer (some ⟨bs,0,none⟩)] 145)) (by simp;omega);rw[World.size_alloc]at b;refine⟨λk=>P k∨k=f∨k=a.heap.size∨k=a.heap.size+1∨(none:Option Nat)=some k,o,S,P,none,hd.below c,g.still (c.block _ r),t,(zk _ _ _ (by simp)).trans (vw a _),λe=>?_,b,λe=>?_,λk e=>(by cases e),by omega,by omega,n,s,λ_=>Iff.rfl⟩
 .have:=hd.plt _ e;omega
 .have:=hd.plt _ e;omega
end
section
open Go.Proofs.Tryz Go.Joins
def fq:List UInt8->List (List UInt8)
  | [] => [[]]
  | c :: t => if c=10 then [] :: fq t else match fq t with
    | [] => [[c]]
    | x :: r => (c :: x) :: r
theorem Ci(t:List UInt8):fq t≠[]:=by
  cases t with
  | nil => simp[fq]
  | cons c t => unfold fq; split; · simp
                split <;> simp
theorem xW(t:List UInt8):aA (fq t)=t:=by
  induction t with
  | nil => rfl
  | cons c t ih =>
    unfold fq
    split
    · rename_i h
      subst h
      cases hl:fq t with
      | nil => exact absurd hl (Ci t)
      | cons x r => rw[hl]at ih; rw[<- ih]; rfl
    · cases hl:fq t with
      | nil => exact absurd hl (Ci t)
      | cons x r =>
        rw[hl]at ih
        rw[<- ih]
        cases r <;> rfl
theorem UX(t:List UInt8):∀ x∈fq t,(10:UInt8)∉x:=by
  induction t with
  | nil => intro x a; simp[fq]at a; subst a; simp
  | cons c t ih =>
    unfold fq
    split
    · intro x a
      rcases qh.1 a with rfl | a
      · simp
      · exact ih x a
    · rename_i hc
      cases hl:fq t with
      | nil => exact absurd hl (Ci t)
      | cons x r =>
        rw[hl]at ih
        intro y b
        rcases qh.1 b with rfl | b
        · intro h
          rcases qh.1 h with h | h
          · exact hc h.symm
          · exact ih x (by simp) h
        · exact ih y (by simp[b])
theorem Oa(x:List UInt8)(h:(10:UInt8)∉x):Lib.cut x [10]=(x,[],false):=by
  unfold Lib.cut
  rw[Lib.index_one,qg x 10 h]
  rfl
theorem Ob(x r:List UInt8)(h:(10:UInt8)∉x):Lib.cut (x++10 :: r) [10]=(x,r,true):=by
  unfold Lib.cut
  rw[Lib.index_one,jT x r 10 h,if_pos (by omega)]
  simp
def Xp:Value->Nat
  | .string s => s.size
  | _ => 0
def DX:Value->Nat
  | .bool true => 1
  | _ => 0
theorem oq(W:World)(n:Nat)(row:Option Nat):W.grownBy (W.drewN n) row:=by
  induction n generalizing W with
  | zero => exact⟨rfl,rfl,rfl,aO _,λ_ _ _ => rfl⟩
  | succ n ih => have:= ih W.drew; exact⟨this.os,this.tape,this.output,this.size,this.block⟩
theorem KV(n:Nat)(hn:1<=n)(l bt:Nat)(t:List UInt8)(R:t.length<=1000000)(ls:List (List UInt8))(u:ls≠[])(o:∀ x∈ls,(10:UInt8)∉x)(B:Lib.trimSuffix t [10]=aA ls)
    (J:Nat->World->Prop) (F:∀ i W k,J i W->J i (W.drewN k)) (m:Int) (C:∀ i W,J i W->W.cell? ⟨3,0,none⟩=some (.int .i64 m))
    (S:∀ i x W,J i W->ls[i]?= some x->YieldAt Fence.wide (n-1) prog l #[.string ⟨x.toArray⟩] W λe p => e = .returned (.bool true)/\J (i+1) p)
    (W:World) (hB:W.cell? ⟨bt,0,none⟩=some (.string ⟨t.toArray⟩)) (L:J 0 W) :
    CallsIn Fence.wide n prog 145 #[.func (.yield l) #[] #[],.pointer (some ⟨bt,0,none⟩)] W λe p => (∃ v,e = .returned v)/\J ls.length p:=by
  have z:(aA ls).length<=1000000:=by
    rw[<- B]
    unfold Lib.trimSuffix
    split
    · simp; omega
    · exact R
  have G:∀ W,Calls prog 90 #[.string ⟨t.toArray⟩,.string ⟨#[10]⟩] W λe h => e = .returned (.string ⟨(aA ls).toArray⟩)/\h=W:=λW => by
    have:= Tryz.strings_TrimSuffix ⟨t.toArray⟩ ⟨#[10]⟩ W (by simp[ByteArray.size]; omega)
    rw[show Lib.trimSuffix (⟨t.toArray⟩:ByteArray).data.toList (⟨#[10]⟩:ByteArray).data.toList=aA ls from B]at this
    exact this
  refine callsIn_of_wp func145 rfl trivial ?_ rfl
  simp only [ntmps145,List.size_toArray,List.length_cons,List.length_nil,Nat.reduceAdd,Nat.reduceSub,Array.replicate_succ,Array.replicate_zero,List.push_toArray,List.append_toArray,List.nil_append,List.cons_append]
  have f90:Fence.wide.fn 90:=trivial
  have f146:Fence.wide.fn 146:=trivial
  gi_wp2_with (first
    | (gi_at_call 90; refine(Dx.2 (G _)).mono ?_; rintro e h ⟨rfl,r⟩; have r:=r.symm; subst r)
    | gi_in)
  gi_loopw [3,4] (λA s wr => ∃ i,i<=ls.length/\A = .string ⟨(aA (ls.drop i)).toArray⟩/\s = .bool (decide (i<ls.length))/\J i wr)
    (λA s _ => Xp A+DX s)
  case atStart =>
    have: 0<ls.length:=List.length_pos_iff.2 u
    exact⟨0,by omega,rfl,by rw[sS this],L⟩
  case round =>
    obtain⟨i,hi,rfl,rfl,JJ⟩:=hrel
    by_cases hil:i<ls.length
    · obtain⟨x,hx⟩:∃ x,ls[i]?= some x:=⟨_,dK hil⟩
      obtain⟨b,hd⟩:∃ b,ls.drop i=x :: b:=⟨ls.drop (i+1),by rw[List.drop_eq_getElem_cons hil]; congr 1; exact Option.some.inj ((dK hil).symm.trans hx)⟩
      have f:ls.drop (i+1)=b:=by rw[<- List.drop_drop,hd]; rfl
      have c:x∈ls:=mh hx
      have g:(aA (ls.drop i)).length<=1000000:=di (xX ls i) z
      have d:Lib.cut (aA (ls.drop i)) [10]=(x,aA (ls.drop (i+1)),decide (i+1<ls.length)):=by
        rw[f,hd]
        have a:ls.length=i+1+b.length:=by
          have:= congrArg List.length hd
          simp at this
          omega
        cases b with
        | nil => rw[o9 (by simp at a; omega)]; exact Oa x (o x c)
        | cons y b => rw[sS (by simp at a; omega)]; exact Ob x _ (o x c)
      have j:(aA (ls.drop (i+1))).length+DX (.bool (decide (i+1<ls.length)))<(aA (ls.drop i)).length+1:=by
        rw[f,hd]
        have a:ls.length=i+1+b.length:=by
          have:= congrArg List.length hd
          simp at this
          omega
        cases b with
        | nil => rw[o9 (by simp at a; omega)]; simp[aA,DX]
        | cons y b => rw[sS (by simp at a; omega)]; simp[aA,DX]; omega
      have I:Hid (∀ W,J i W->Calls prog 146 #[.string ⟨(aA (ls.drop i)).toArray⟩,.string ⟨#[10]⟩] W λe h => e = .returned (.tuple #[.string ⟨x.toArray⟩,.string ⟨(aA (ls.drop (i+1))).toArray⟩,.bool (decide (i+1<ls.length))])/\J i h):=λW E => by
        have:= Tryz.strings_Cut ⟨(aA (ls.drop i)).toArray⟩ ⟨#[10]⟩ m W (by simp[ByteArray.size]; omega) (C i W E)
        rw[show Lib.cut (⟨(aA (ls.drop i)).toArray⟩:ByteArray).data.toList (⟨#[10]⟩:ByteArray).data.toList=_ from d]at this
        refine this.mono ?_
        rintro e h ⟨rfl,k,rfl⟩
        exact⟨rfl,F i W k E⟩
      have K:=hid j
      have M:=hid JJ
      clear d j hd f g C JJ
      rw[sS hil]
      generalize hq:decide (i+1<ls.length)=q at *
      generalize hR:aA (ls.drop (i+1))=R2 at *
      generalize aA (ls.drop i)=R1 at *
      have Q:=hid hq
      have N:=hid hR
      clear hq hR
      gi_wp2_with (first
        | (gi_at_call 146; refine(Dx.2 (I.out _ M.out)).mono ?_; rintro e H ⟨rfl,P⟩; obtain⟨fn,tmps,assign,body,hy,WR⟩:=S i x H P hx)
        | gi_in)
      refine WR.mono ?_
      rintro e W3 ⟨rfl,w⟩
      gi_wp2
      refine⟨⟨i+1,by omega,by rw[N.out],by rw[Q.out],w⟩,?_⟩
      have:= K.out
      simp[Xp,DX,ByteArray.size]at this ⊢
      omega
    · rw[o9 hil]
      gi_wp2
      go_end0
      have: i=ls.length:=by omega
      rw[<- this]
      exact⟨⟨_,rfl⟩,JJ⟩
def roundPost(D l:Nat)(I:World->Prop)(W:World):Exit->Act->World->Prop
  | .normal,_,W' => I W'/\W.heap.size<=W'.heap.size/\∀ k,k=D∨k=l->W'.heap[k]?= W.heap[k]?
  | _,_,_ => False
theorem GZ{n:Nat}(h2:2<=n){g:Operand}{p:Tmp}{assign body:Code}{Q:Exit->Act->World->Prop}{a:Act}{w:World}{bt:Nat}
    (hg:a.eval g = .func (.func 145) #[] #[.pointer (some ⟨bt,0,none⟩)])
    (t:List UInt8) (ht:t.length<=1000000) (ls:List (List UInt8)) (S:ls≠[]) (L:∀ x∈ls,(10:UInt8)∉x) (z:Lib.trimSuffix t [10]=aA ls) (V:w.heap[bt]?= some (.cells #[.string ⟨t.toArray⟩] 9))
    (I:Nat->World->Prop) (m:Int) (Y:∀ i W,I i W->W.cell? ⟨3,0,none⟩=some (.int .i64 m))
    (l:∀ i W U row,I i W->W.grownBy U row->(∀ k,row=some k->k=w.heap.size+1)->I i U) (X:I 0 w)
    (a₁:List UInt8->Act)
    (b:∀ (x:List UInt8) (W:World) (K:Act->World->Prop),K (a₁ x) W ->
      assign.wpIn (Fence.wide.inRound (w.heap.size+1)) (n-1-1) prog (Exit.then K (λ_ _ _ => False)) { tmps:=((#[p]:Array Tmp).zip #[.string ⟨x.toArray⟩]).foldl (λt (p,v) => t.setIfInBounds p v) a.tmps,defers:=[] } W)
    (f:∀ (i:Nat) (x:List UInt8) (W:World),ls[i]?= some x->I i W->w.heap.size+2<=W.heap.size->body.wpIn (Fence.wide.inRound (w.heap.size+1)) (n-1-1) prog (roundPost w.heap.size (w.heap.size+1) (I (i+1)) W) (a₁ x) W)
    (h:∀ (W:World),I ls.length W->W.heap[w.heap.size]?= some (.deferred (some []))->Q .normal { a with defers:={ target := .collected w.heap.size,args := #[] } :: a.defers } W) :
    (Code.rangeFunc g #[p] assign body).wpIn Fence.wide n prog Q a w:=by
  have y:bt<w.heap.size:=(aD.1 V).1
  refine wpIn_rangeFunc ?_
  intro fn u
  obtain⟨rec,hrec⟩:∃ rec:LoopState->Option Code->Loop,rec=JK fn a.tmps #[p] assign body w.heap.size:=⟨_,rfl⟩
  obtain⟨c,hW1⟩:∃ c,(w.alloc (.deferred (some []))).alloc (.loop (rec .ready none))=c:=⟨_,rfl⟩
  have B:c.heap[w.heap.size+1]?= some (.loop (rec .ready none)):=by
    rw[<- hW1]; have:= World.alloc_heap_new (w.alloc (.deferred (some []))) (.loop (rec .ready none)); rwa [World.size_alloc]at this
  have C:c.heap[w.heap.size]?= some (.deferred (some [])):=by
    rw[<- hW1]; exact(zk _ _ _ (by simp)).trans (World.alloc_heap_new w _)
  have N:I 0 c:=by
    rw[<- hW1]
    exact l 0 _ _ none (l 0 _ _ none X (AB _ _ _) (λ_ e => by cases e)) (AB _ _ _) (λ_ e => by cases e)
  have M:c.cell? ⟨bt,0,none⟩=some (.string ⟨t.toArray⟩):=by
    have: c.heap[bt]?= some (.cells #[.string ⟨t.toArray⟩] 9):=by
      rw[<- hW1]
      exact((zk _ _ _ (by simp; omega)).trans (zk _ _ _ y)).trans V
    rw[vE this]; rfl
  refine⟨w.heap.size+1,[{ target := .collected w.heap.size,args := #[] }],c,{ target := .fn (.func 145) #[.pointer (some ⟨bt,0,none⟩)],args := #[.func (.yield (w.heap.size+1)) #[] #[]] },c,145,
    #[.func (.yield (w.heap.size+1)) #[] #[],.pointer (some ⟨bt,0,none⟩)],c,?_,?_,?_,?_,λ_ => by omega,?_⟩
  · rw[<- hW1,hrec]; exact run_enterLoop_outer _ _ _ _ _
  · simp only [resolve,hg]
    simp[go_sem]
  · intro f' _; trivial
  · simp[invoke,go_sem]
  · refine(KV (n-1) (by omega) (w.heap.size+1) bt t ht ls S L z
      (λi W => I i W/\W.heap[w.heap.size+1]?= some (.loop (rec .ready none))/\W.heap[w.heap.size]?= some (.deferred (some [])))
      (λi A k d => ⟨l i A _ none d.1 (oq A k none) (λk e => by cases e),((oq A k none).block _ (aD.1 d.2.1).1 (by simp)).trans d.2.1,((oq A k none).block _ (aD.1 d.2.2).1 (by simp)).trans d.2.2⟩) m (λi A d => Y i A d.1)
      ?_ c M ⟨N,B,C⟩).mono ?_
    · rintro i x W ⟨hi,q,R⟩ hx
      have r:w.heap.size+1<W.heap.size:=(aD.1 q).1
      have H:=run_yield (P:=prog) (args := #[.string ⟨x.toArray⟩]) q (by rw[hrec]; rfl)
      rw[hrec]at H
      refine⟨fn,_,assign,body,H,roundIn_of_wpIn u (b x W _ ⟨_,run_beginRound q (by rw[hrec]; rfl),?_⟩)⟩
      clear H
      have E:(W.putObj (w.heap.size+1) (.loop { rec .ready none with state := .busy })).heap[w.heap.size+1]?= some (.loop { rec .ready none with state := .busy }):=World.putObj_heap_same r
      have G:(W.putObj (w.heap.size+1) (.loop { rec .ready none with state := .busy })).heap[w.heap.size]?= some (.deferred (some [])):=(World.putObj_heap_other (by omega)).trans R
      have F:I i (W.putObj (w.heap.size+1) (.loop { rec .ready none with state := .busy })):=l i _ _ _ hi (grownBy_putObj' W _ _) (λk e => by cases e; rfl)
      refine wpIn_mono (f i x _ hx F (by simp; omega)) ?_
      rintro e a3 Z j
      cases e with
      | normal =>
        obtain⟨hi3,hs3,hk3⟩:=j
        have s:=(hk3 _ (.inr rfl)).trans E
        have T:=(hk3 _ (.inl rfl)).trans G
        have z:=run_endRound (P:=prog) none s
        have o:=(aD.1 s).1
        refine⟨_,_,z,rfl,l (i+1) _ _ _ hi3 (grownBy_putObj' Z _ _) (λk e => by cases e; rfl),?_,(World.putObj_heap_other (by omega)).trans T⟩
        rw[World.putObj_heap_same o,hrec]
        rfl
      | ret => exact j.elim
      | exit id => exact j.elim
      | goto t => exact j.elim
      | panic ch => exact j.elim
      | outgrown => exact j.elim
    · rintro e W2 ⟨⟨v,rfl⟩,hi,q,R⟩
      exact⟨none,_,by have:= run_endLoop (P:=prog) q (by rw[hrec]; simp[JK]); rw[hrec]at this; exact this,h _ (l _ _ _ _ hi (grownBy_putObj' W2 _ _) (λk e => by cases e; rfl)) ((World.putObj_heap_other (by omega)).trans R)⟩
end
section
open Go.Proofs.Tryz Go.Joins Go.Sort
variable{st:Sx}{d:List (List UInt8)}
attribute [local go_sem] Oper.semAt_some
def ax:Sx->List (List UInt8)->List UInt8×Sx
 |st,[]=>([],st)
 |st,x::d=>((sayOf st x).1++10::(ax (sayOf st x).2 d).1,(ax (sayOf st x).2 d).2)
theorem Oc(st:Sx)(a b:List (List UInt8)):ax st (a++b)=((ax st a).1++(ax (ax st a).2 b).1,(ax (ax st a).2 b).2):=by
 induction a generalizing st with
 |nil=>simp[ax]
 |cons x a ih=>simp only[List.cons_append,ax];rw[ih];simp
theorem pF(st:Sx)(d:List (List UInt8))(i:Nat)(x:List UInt8)(h:d[i]?=some x):ax st (d.take (i+1))=((ax st (d.take i)).1++(sayOf (ax st (d.take i)).2 x).1++[10],(sayOf (ax st (d.take i)).2 x).2):=by
 have:d.take (i+1)=d.take i++[x]:=by rw[List.take_add_one,h];rfl
 rw[this,Oc];simp[ax]
def iV:List (List UInt8)->Nat
 |[]=>0
 |x::d=>(if aH x=[]then 0 else 1)+iV d
theorem DY(d:List (List UInt8))(i:Nat)(x:List UInt8)(h:d[i]?=some x):iV (d.take (i+1))=iV (d.take i)+(if aH x=[]then 0 else 1):=by
 induction d generalizing i with
 |nil=>simp at h
 |cons y d ih=>
  cases i with
  |zero=>simp at h;subst h;simp[iV]
  |succ i=>
   simp only[List.getElem?_cons_succ]at h;have:=ih i h;simp only[List.take_succ_cons,iV];omega
theorem Cj(d:List (List UInt8))(i:Nat):iV (d.take i)<=iV d:=by
 induction d generalizing i with
 |nil=>simp
 |cons y d ih=>
  cases i with
  |zero=>simp[iV]
  |succ i=>simp only[List.take_succ_cons,iV];have:=ih i;omega
theorem G5:aH []=[]:=by kernel_rfl
theorem JL(x:List UInt8):(if aH x=[]then 0 else 1)<=x.length:=by
 cases x with
 |nil=>rw[if_pos G5];simp
 |cons c x=>split <;>simp
theorem DZ:∀d:List (List UInt8),iV d*2<=(aA d).length+1
 |[]=>by simp[iV]
 |[x]=>by
  have:=JL x;simp only[iV,aA]
  split <;>simp_all <;>omega
 |x::y::d=>by
  have h1:=JL x;have h2:=DZ (y::d)
  have e:(aA (x::y::d)).length=x.length+1+(aA (y::d)).length:=by simp[aA];omega
  rw[e];have a:iV (x::y::d)=(if aH x=[]then 0 else 1)+iV (y::d):=rfl;rw[a]
  have h3:(if aH x=[]then 0 else 1)<=1:=by split <;>omega
  omega
theorem Ck(a:∀n,dH n st)(c:iV d<=1600):∀i,dH (iV (d.take i)) (ax st (d.take i)).2:=by
 intro i
 induction i with
 |zero=>simpa[ax]using a _
 |succ i ih=>
  cases h:d[i]? with
  |none=>
   have b:d.length<=i:=by simpa using h
   rw[nG (by omega)];rw[nG b]at ih;exact ih
  |some x=>
   rw[pF st d i x h,DY d i x h]
   by_cases hw:aH x=[]
   .rw[if_pos hw]
    have:(sayOf (ax st (d.take i)).2 x).2=(ax st (d.take i)).2:=by unfold sayOf;rw[hw]
    simpa only[this,Nat.add_zero]using ih
   .rw[if_neg hw];exact UU ih (di (Cj d i) c) x
theorem D5(e:∀n,dH n st)(c:iV d<=1600):∀i,(ax st (d.take i)).1.length<=i*100000001:=by
 intro i
 induction i with
 |zero=>simp[ax]
 |succ i ih=>
  cases h:d[i]? with
  |none=>
   have f:d.length<=i:=by simpa using h
   rw[nG (by omega)];rw[nG f]at ih;exact di ih (Nat.mul_le_mul_right _ (Nat.le_succ i))
  |some x=>
   rw[pF st d i x h];have:=Cc (Ck e c i) (di (Cj d i) c) x;simp only[List.length_append,List.length_cons,List.length_nil];generalize(ax st (d.take i)).1.length=a at *;generalize(sayOf (ax st (d.take i)).2 x).1.length=b at *;omega
theorem xY:∀d:List (List UInt8),d.length<=(aA d).length+1
 |[]=>by simp
 |[x]=>by simp
 |x::y::d=>by
  have:=xY (y::d);simp[aA]at this⊢;omega
theorem xZ:∀(d:List (List UInt8)),∀x∈d,x.length<=(aA d).length
 |[],x,h=>by simp at h
 |[y],x,h=>by simp at h;subst h;simp[aA]
 |y::z::d,x,h=>by
  rcases qh.1 h with rfl|h
  .simp[aA]
  .have:=xZ (z::d) x h;simp[aA]at this⊢;omega
def ou(t:List UInt8):List UInt8:=(ax (Sx.new 0 10 3) (fq (Lib.trimSuffix t [10]))).1
theorem Cm(n:Nat):dH n (Sx.new 0 10 3):=BU (by unfold dn;decide) n
theorem KW(s:ByteArray)(w:World):Calls prog 77 #[.string s] w λe a=>e=.returned (.func (.func 145) #[] #[.pointer (some ⟨w.heap.size,0,none⟩)])/\a=w.alloc (.cells #[.string s] 9):=by
 have GI:∀(fn:Fn) (first cap:Array Value) (w:World),(Instr.makeFunc fn first cap).run prog w=.ok (.func fn first cap) w:=λ_ _ _ _=>rfl
 go_enter func77,ntmps77;go_wp2;go_ret;exact⟨rfl,rfl⟩
def Ri(w:World)(bs bm bx bb:Nat)(d:List (List UInt8))(D:Nat)(i:Nat)(W:World):Prop:=
 ∃F,zF w bs bm bx bb (ax (Sx.new 0 10 3) (d.take i)).2 (ax (Sx.new 0 10 3) (d.take i)).1 F W/\¬F D/\¬F (D+1)
theorem Ri.grown{w:World}{bs j bx bb:Nat}{D i:Nat}{W c:World}{row:Option Nat}(h:Ri w bs j bx bb d D i W)(hD:w.heap.size<=D)(b:W.grownBy c row)(g:∀k,row=some k->k=D+1):Ri w bs j bx bb d D i c:=by
 obtain⟨F,a,l,f⟩:=h;refine⟨F,a.still b.size (λk e=>b.block k (a.flt k e).1 (λm=>?_)) ?_,l,f⟩
 .have:=g k m.symm;subst this;exact f e
 .exact a.low.grown b a.low.size (λk e=>by have:=g k e;omega)
theorem D6(t:List UInt8)(ht:t.length<=20000)(R:iV (fq (Lib.trimSuffix t [10]))<=1600)(w:World)(hG:aU w):
  Calls prog 32 #[.string ⟨t.toArray⟩] w λe r=>e=.returned (sV (ou t))/\Below w.heap.size w r:=by
 have hz:¬(20000:Int)<(t.length:Int):=by omega
 refine(Dx (n:=4)).1 ?_;refine callsIn_of_wp_marks func32 rfl trivial ?_ rfl;simp only[ntmps32,List.size_toArray,List.length_cons,List.length_nil,Nat.reduceAdd,Nat.reduceSub,Array.replicate_succ,Array.replicate_zero,List.push_toArray,List.append_toArray,List.nil_append,List.cons_append];have f76:Fence.wide.fn 76:=trivial;have f77:Fence.wide.fn 77:=trivial
 gi_wp2_with (first
  |(gi_at_call 77;refine(Dx.2 (KW _ _)).mono ?_;rintro e o ⟨rfl,j⟩;subst j)
  |(gi_at_call 76;refine(Dx.2 (N8 _)).mono ?_;rintro e f ⟨bs,H,P,rfl,A,N,E,T⟩)
  |gi_in)
 obtain⟨m,hm⟩:=hG.g.max;obtain⟨F0,h⟩:=N9 A N E T
 have hlo2:w.heap.size<=f.heap.size:=by obtain⟨be,S,hd⟩:=A;exact hd.low.size
 clear A N E T;obtain⟨y,hw3⟩:∃y,((f.alloc (.cells #[.pointer (some ⟨bs,0,none⟩)] 145)).alloc (.cells #[.pointer none,.slice none 0 0] 126))=y:=⟨_,rfl⟩
 have M:y.heap.size=f.heap.size+1+1:=by rw[<-hw3];simp
 rw[hw3]at h;rw[hw3];clear hw3;obtain⟨o,j⟩:∃o,y.alloc (.cells #[.string ⟨t.toArray⟩] 9)=o:=⟨_,rfl⟩
 have hs4:o.heap.size=y.heap.size+1:=by rw[<-j];simp
 have v:Below y.heap.size y o:=by rw[<-j];exact wh _ _
 have I:o.heap[f.heap.size+1+1]?=some (.cells #[.string ⟨t.toArray⟩] 9):=by rw[<-j,<-M];exact vw y _
 rw[j];clear j;obtain⟨d,hls⟩:∃d,fq (Lib.trimSuffix t [10])=d:=⟨_,rfl⟩
 have z:ou t=(ax (Sx.new 0 10 3) d).1:=by unfold ou;rw[hls]
 have hne:d≠[]:=by rw[<-hls];exact Ci _
 have Q:∀x∈d,(10:UInt8)∉x:=by rw[<-hls];exact UX _
 have B:Lib.trimSuffix t [10]=aA d:=by rw[<-hls];exact(xW _).symm
 have hrl:(aA d).length<=20000:=by
  rw[<-B];unfold Lib.trimSuffix
  split
  .rw[List.length_take];omega
  .exact ht
 rw[hls]at R;have UY:=hid z;clear hls z
 have Zo:Ri w bs H f.heap.size (f.heap.size+1) d o.heap.size 0 o:=by
  refine⟨F0,?_,λe=>?_,λe=>?_⟩
  .have:=h.still v.size (λk e=>v.block k (h.flt k e).1) (h.low.trans (v.mono h.low.size));simpa[ax]using this
  .have:=(h.flt _ e).1;omega
  .have:=(h.flt _ e).1;omega
 have Zp:w.heap.size<=o.heap.size:=by omega
 clear h v hs4 M
 refine GZ (n:=4) (by omega) (bt:=f.heap.size+1+1) rfl t (by omega) d hne Q B I (Ri w bs H f.heap.size (f.heap.size+1) d o.heap.size) m ?hM (λi W W' row hR hg hr=>hR.grown Zp hg hr) Zo
  (λx=>{ tmps:= #[.string ⟨t.toArray⟩,undef,.string ⟨#[]⟩,.pointer (some ⟨f.heap.size,0,none⟩),.pointer (some ⟨f.heap.size+1,0,none⟩),.string ⟨x.toArray⟩,.string ⟨t.toArray⟩,.int .i64 t.length,.bool false,undef,undef,undef,.pointer (some ⟨bs,0,none⟩),.string ⟨t.toArray⟩,.func (.func 145) #[] #[.pointer (some ⟨f.heap.size+1+1,0,none⟩)],.string ⟨x.toArray⟩,undef,undef,undef,undef,undef,undef],defers:=[]}) ?assign ?body ?done
 case hM=>
  rintro i W ⟨F,u,_,_⟩;exact(u.low.cell (p:=⟨3,0,none⟩) (World.block_lt_of_cell? _ _ hm)).trans hm
 case assign=>
  intro x W K hK
  gi_wp2
  exact hK
 case body=>
  rintro i x W U ⟨F,u,L,nl⟩ hWs;have hil:i<d.length:=(kH.1 U).1
  have hxl:x.length<=1000000:=by have:=xZ d x (mh U);omega
  have UZ:=Ck Cm R i;have G:=di (Cj d i) R;have hol:=D5 Cm R i;have hsl:=Cc UZ G x;have Sk:=xY d;have hbx:=u.box
  have h0:(ax (Sx.new 0 10 3) (d.take i)).1.length+(sayOf (ax (Sx.new 0 10 3) (d.take i)).2 x).1.length+2<=140737488355328:=by
   generalize(ax (Sx.new 0 10 3) (d.take i)).1.length=a at *;generalize(sayOf (ax (Sx.new 0 10 3) (d.take i)).2 x).1.length=b at *;omega
  have HA:Hid (Calls prog 79 #[.pointer (some ⟨bs,0,none⟩),.string ⟨x.toArray⟩] W λe r=>e=.returned (sV (sayOf (ax (Sx.new 0 10 3) (d.take i)).2 x).1)/\Hid (∃q,zF w bs H f.heap.size (f.heap.size+1) (sayOf (ax (Sx.new 0 10 3) (d.take i)).2 x).2 (ax (Sx.new 0 10 3) (d.take i)).1 q r/\MX F q W r)):=GY u hG x hxl UZ G
  have H1:Hid (∀(st:Sx) (s out:List UInt8) (V:World),out.length+s.length+1<=140737488355328->Hid (∃q,zF w bs H f.heap.size (f.heap.size+1) st out q V/\MX F q W V)->Calls prog 78 #[.pointer (some ⟨f.heap.size+1,0,none⟩),.string ⟨s.toArray⟩] V λe r=>e=.returned (.tuple #[.int .i64 s.length,.nilIface])/\Hid (∃q,zF w bs H f.heap.size (f.heap.size+1) st (out++s) q r/\MX F q W r)):=by
   rintro st s out V hl ⟨q,C,l⟩;refine(KU C s (by omega)).mono ?_;rintro e r ⟨rfl,YH,Zq,Zr⟩;exact⟨rfl,YH,Zq,l.trans Zr⟩
  have HE:Hid (∀V,Hid (∃q,zF w bs H f.heap.size (f.heap.size+1) (sayOf (ax (Sx.new 0 10 3) (d.take i)).2 x).2 ((ax (Sx.new 0 10 3) (d.take i)).1++(sayOf (ax (Sx.new 0 10 3) (d.take i)).2 x).1++[10]) q V/\MX F q W V)->Ri w bs H f.heap.size (f.heap.size+1) d o.heap.size (i+1) V/\W.heap.size<=V.heap.size/\∀k,k=o.heap.size∨k=o.heap.size+1->V.heap[k]?=W.heap[k]?):=by
   rintro V ⟨q,C,l⟩;refine⟨⟨q,?_,λe=>?_,λe=>?_⟩,l.1.size,λk hk=>?_⟩
   .rw[pF _ d i x U];exact C
   .exact(l.2 _ e).elim L (λg=>by omega)
   .exact(l.2 _ e).elim nl (λg=>by omega)
   .rcases hk with rfl|rfl
    .exact l.1.block _ (by omega) L
    .exact l.1.block _ (by omega) nl
  clear u UZ G hol hsl Sk Zo U;generalize(ax (Sx.new 0 10 3) (d.take i)).1=o1 at *;generalize(sayOf (ax (Sx.new 0 10 3) (d.take i)).2 x).2=st2 at *;generalize(sayOf (ax (Sx.new 0 10 3) (d.take i)).2 x).1=s1 at *;have f79:Fence.wide.fn 79:=trivial;have f78:Fence.wide.fn 78:=trivial
  have E:1<=4 -1 -1:=by decide
  have hl1:o1.length+s1.length+1<=140737488355328:=by omega
  have Z:=hid hl1
  have hl2:(o1++s1).length+[(10:UInt8)].length+1<=140737488355328:=by rw[List.length_append,List.length_singleton];omega
  have HL2:=hid hl2
  gi_wp2_with (first
   |(gi_at_call 79;refine(CallsIn.inRound _ (Dx.2 HA.out)).mono ?_;rintro e W1 ⟨rfl,h1⟩)
   |(gi_at_call 78;first
     |(have h2x:=h2;refine(CallsIn.inRound _ (Dx.2 (H1.out st2 [10] (o1++s1) _ HL2.out h2x))).mono ?_;rintro e W3 ⟨rfl,h3⟩)
     |(refine(CallsIn.inRound _ (Dx.2 (H1.out st2 s1 o1 _ Z.out h1))).mono ?_;rintro e W2 ⟨rfl,h2⟩))
   |gi_in)
  exact HE.out _ h3
 case done=>
  rintro W ⟨F,u,L,nl⟩ hK;rw[nG (aO _)]at u
  have Y:Hid (Calls prog 62 #[.pointer (some ⟨f.heap.size+1,0,none⟩)] W λe r=>e=.returned (sV (ax (Sx.new 0 10 3) d).1)/\Hid (Below w.heap.size w r/\r.heap[o.heap.size]?=some (.deferred (some [])))):=by
   obtain⟨be,S,P,og,X⟩:=u;refine(Tryz.Builder_String_any_k w.heap.size (f.heap.size+1) (ax (Sx.new 0 10 3) d).1 W X.bo.isF X.dk.low.size).mono ?_;rintro e r ⟨rfl,_,hb,hk⟩;refine⟨rfl,X.dk.low.trans hb,hk _ _ hK (λe=>L ?_) (λc fz e=>by cases e)⟩
   injection e with e
   rw[e];exact(X.all _).2 (.inr (.inr (.inr (.inl rfl))))
  clear u L nl Zo R I Q B;have f62:Fence.wide.fn 62:=trivial;generalize(ax (Sx.new 0 10 3) d).1=fin at *
  gi_wp2_with (first
   |(gi_at_call 62;refine(Dx.2 Y.out).mono ?_;rintro e W5 ⟨rfl,h5⟩)
   |gi_in)
  obtain⟨Od,Xq⟩:=h5.out;refine⟨by simp,.inl ⟨_,_,rfl,run_takeDeferred Xq,?_⟩⟩;refine⟨sV fin,by simp[results,Tryz.results32,go_sem],by rw[UY.out],?_⟩;exact Od.trans (belowK_b (w:=w) (aO _) W5 o.heap.size _ _ (by omega) Xq rfl rfl)
end
section
open Go.Sort
end
section
open Go.Sort
theorem Cn(t:List UInt8)(c:20000<t.length)(w:World)(b:aU w):
  Calls Tryz.prog 32 #[.string ⟨t.toArray⟩] w λe a=>e=.returned (sV (eH 4++[10]))/\Below w.heap.size w a:=by
 have hz:(20000:Int)<(t.length:Int):=by omega
 have f:=tu 4 ⟨by decide,by decide⟩
 have s1:¬9223372036854775807<(eH 4).length+1:=by omega
 have h:Hid (Calls Tryz.prog 75 #[.iface 24 (.int .i64 4)] w λe a=>e=.returned (sV (eH 4))/\Below w.heap.size w a):=qf 4 ⟨by decide,by decide⟩ w b.g.tab b.g.err;clear f c;generalize eH 4=T at *;go_enter Tryz.func32,Tryz.ntmps32;go_wp2_with fail;refine h.out.mono ?_;rintro e w1 ⟨rfl,d⟩;go_wp2;go_ret;refine⟨?_,d⟩;congr 2
end
end Go.Proofs.YthfpipieboophaaGreatDoor
