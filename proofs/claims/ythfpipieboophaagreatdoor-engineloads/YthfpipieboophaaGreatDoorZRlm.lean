import Derived.Test.YthfpipieboophaaGreatDoorRle
namespace Go.Proofs.YthfpipieboophaaGreatDoor
set_option maxRecDepth 100000
set_option maxHeartbeats 40000000
open Go.RowKit Go.Shelf
section
open Go.Sort
theorem lI(a b:Int)(r:List Int):aa (a::b::r)=Lib.itoa a++32::aa (b::r):=by
 unfold aa;rw[List.map_cons,Lib.join_cons,List.map_cons,Lib.join_cons];simp[Lib.joinTail]
theorem vV:∀(r:List Int) (a:Int),cK (a::r)=32::aa (a::r)
 |[],a=>by rw[jw];simp[cK]
 |b::r,a=>by
  have:=vV r b;rw[lI];unfold cK at this⊢;rw[List.flatMap_cons,this];rfl
theorem fT(hd:List UInt8)(a:Int)(r:List Int):dB hd (a::r)=hd++32::aa (a::r)++[10]:=by
 unfold dB;rw[vV];simp
theorem QD(x:J)(f0 f1:Int):nK x.lo x.hi x.mode f0 f1 x.late x.m0 x.m1=EM x f0 f1:=by
 unfold EM;rw[fT,fT,fT];unfold nK;simp
theorem Tz(s:Int)(y:Hl):ed s y=dB pX.data.toList [s,(fE y).k,(fE y).t,(fE y).v,(fE y).n]:=by
 rw[fT];unfold ed;simp[fE]
theorem Ws:Lib.itoa 1=[49]:=by kernel_rfl
theorem Wt:Lib.itoa 2=[50]:=by kernel_rfl
theorem Wu:Lib.itoa 3=[51]:=by kernel_rfl
theorem TA(o:O)(h:o.hl=true∨o.hr=true):kX o=dB (fu o).data.toList (dV o):=by
 obtain⟨k,lk,lt,lv,rk,rt,rv,b,a⟩:=o;unfold kX dV fu Tg gY;cases b
 .cases a
  .rcases h with e|e <;>cases e
  .simp only[Bool.false_eq_true,↓reduceIte,List.nil_append];rw[fT,lI];simp[Wt]
 .cases a
  .simp only[Bool.false_eq_true,↓reduceIte,List.append_nil];rw[fT,lI];simp[Ws]
  .simp only[↓reduceIte,List.cons_append,List.nil_append];rw[fT,lI];simp[Wu]
theorem Kk(s:Int)(E:List Hl):E.flatMap (ed s)=iw s (E.map fE):=by
 unfold iw;rw[List.flatMap_map];exact congrArg (λf=>E.flatMap f) (funext λy=>Tz s y)
theorem Kl:∀(Z:List O),(∀o∈Z,o.hl=true∨o.hr=true)->Z.flatMap kX=iy Z
 |[],_=>rfl
 |o::Z,h=>by
  have:=Kl Z (λp a=>h p (by simp[a]));unfold iy at this⊢;rw[List.flatMap_cons,List.flatMap_cons,this,TA o (h o (by simp))]
theorem Xb:af 0:=⟨by decide,by decide⟩
theorem y7{o:O}(h:iK o):(o.hl=true∨o.hr=true)/\(af o.lk/\af o.lt/\af o.lv)/\(af o.rk/\af o.rt/\af o.rv):=by
 cases h with
 |left k t v hg=>
  obtain⟨⟨c,d⟩,⟨b,e⟩,c1,a⟩:=dI (r:=⟨k,t,v⟩) hg;simp only at c d b e c1 a;exact⟨.inl rfl,⟨⟨by show _<=k;omega,by show k<=_;omega⟩,⟨by show _<=t;omega,by show t<=_;omega⟩,⟨by show _<=v;omega,by show v<=_;omega⟩⟩,Xb,Xb,Xb⟩
 |right k t v hg=>
  obtain⟨⟨c,d⟩,⟨b,e⟩,c1,a⟩:=dI (r:=⟨k,t,v⟩) hg;simp only at c d b e c1 a;exact⟨.inr rfl,⟨Xb,Xb,Xb⟩,⟨by show _<=k;omega,by show k<=_;omega⟩,⟨by show _<=t;omega,by show t<=_;omega⟩,⟨by show _<=v;omega,by show v<=_;omega⟩⟩
 |pair k t v t2 v2 hg hg2=>
  obtain⟨⟨c,d⟩,⟨b,e⟩,c1,a⟩:=dI (r:=⟨k,t,v⟩) hg;obtain⟨⟨_,_⟩,⟨i,j⟩,g,f⟩:=dI (r:=⟨k,t2,v2⟩) hg2;simp only at c d b e c1 a i j g f;exact⟨.inl rfl,⟨⟨by show _<=k;omega,by show k<=_;omega⟩,⟨by show _<=t;omega,by show t<=_;omega⟩,⟨by show _<=v;omega,by show v<=_;omega⟩⟩,⟨by show _<=k;omega,by show k<=_;omega⟩,⟨by show _<=t2;omega,by show t2<=_;omega⟩,⟨by show _<=v2;omega,by show v2<=_;omega⟩⟩
theorem QF(n:Int):1<=(Lib.itoa n).length:=by
 have hd:∀u:Nat,1<=Lib.nDigits u:=λu=>by
  unfold Lib.nDigits
  split <;>omega
 unfold Lib.itoa
 split
 .simp
 .rw[Lib.decDigits_length];exact hd _
end
section
open Go.Proofs.Tryz Go.Joins
variable{base n:Nat}
theorem KY(w:World):Calls prog 46 #[.nilIface] w λe a=>e=.returned (.int .i64 0)/\a=w:=by
 go_enter func46,ntmps46;go_wp2;go_ret;exact⟨rfl,rfl⟩
theorem Tryz.not174(v:Value)(w:World):(Instr.typeAssert (.iface 24 v) 29 174 true).run prog w=.ok (.tuple #[.pointer none,.bool false]) w:=by kernel_rfl
theorem Tryz.lacks176(v:Value)(a:TypeId)(w:World):(Instr.typeAssert (.iface 24 v) a 176 true).run prog w=.ok (.tuple #[.nilIface,.bool false]) w:=
 run_typeAssert_lacksB underlying176 (by kernel_rfl) (by kernel_rfl) v a w
theorem zI(w:World):Calls prog 43 #[.nilIface] w λe a=>e=.returned (.tuple #[.int .i64 0,.bool true])/\a=w:=by
 go_enter func43,ntmps43
 go_wp2_with (go_at_call 46;refine(KY _).mono ?_;rintro e a ⟨rfl,rfl⟩)
 refine wp_loop_rounds 1 ?_;rw[rounds_succ];go_wp2;go_ret2;exact⟨rfl,rfl⟩
theorem x9(k:Int)(w:World)(b:w.cell? ⟨2,0,none⟩=some (.iface 278 (.agg #[.pointer (some ⟨12,29,none⟩)]))):
  Calls prog 43 #[.iface 24 (.int .i64 k)] w λe a=>e=.returned (.tuple #[.int .i64 k,.bool true])/\Below w.heap.size w a:=by
 have d:0<w.heap.size:=Nat.lt_of_le_of_lt (aW _) (World.block_lt_of_cell? _ _ b);have hl:=Tryz.lacks176;have hn:=Tryz.not174;go_enter func43,ntmps43
 go_wp2_with (go_at_call 46;refine(AA k _ b d).mono ?_;rintro e a ⟨rfl,c⟩)
 refine wp_loop_rounds 1 ?_;rw[rounds_succ];go_wp2;go_ret2;exact⟨rfl,c⟩
theorem wT(k:Int)(w:World)(b:w.cell? ⟨2,0,none⟩=some iD):
  Calls prog 9 #[jI k,.int .i64 k] w λe a=>e=.returned (.bool true)/\Below w.heap.size w a:=by
 unfold jI
 by_cases h0:k=0
 .subst h0;rw[if_pos rfl];go_enter func9,ntmps9
  go_wp2_with (go_at_call 43;refine(zI _).mono ?_;rintro e a ⟨rfl,rfl⟩)
  go_ret;exact⟨rfl,iL _ _⟩
 .rw[if_neg h0];go_enter func9,ntmps9
  go_wp2_with (go_at_call 43;refine(x9 k _ b).mono ?_;rintro e a ⟨rfl,c⟩)
  go_ret;exact⟨rfl,c⟩
theorem aD{w a:World}{K:Nat}{T:TypeId}{v:Value}{xs:List Value}(h:w.ownsRow base T K v n xs)(b:Below w.heap.size w a):a.ownsRow base T K v n xs:=
 ag h (λg e=>b.block g (h.lt g e).2)
theorem vg{W:World}{g cap i:Nat}{Z:List Ch}{z:Ch}(h:W.ownsRow base 95 10 (.slice (some ⟨g,0,none⟩) n cap) n (Z.flatMap aQ))(b:Z.length=n)(hi:Z[i]?=some z):W.cell? ⟨g,i*10,none⟩=some (.int .i64 z.x.k)/\W.cell? ⟨g,i*10+1,none⟩=some (.int .i64 z.x.lk)/\W.cell? ⟨g,i*10+2,none⟩=some (.int .i64 z.x.lt)/\W.cell? ⟨g,i*10+3,none⟩=some (.int .i64 z.x.lv)/\W.cell? ⟨g,i*10+4,none⟩=some (.int .i64 z.x.rk)/\W.cell? ⟨g,i*10+5,none⟩=some (.int .i64 z.x.rt)/\W.cell? ⟨g,i*10+6,none⟩=some (.int .i64 z.x.rv)/\W.cell? ⟨g,i*10+7,none⟩=some (.bool z.x.hl)/\W.cell? ⟨g,i*10+8,none⟩=some (.bool z.x.hr)/\W.cell? ⟨g,i*10+9,none⟩=some (.bool z.g):=by
 subst b;have hl:i<Z.length:=(bP.1 hi).1
 have e:∀j,j<10->W.cell? ⟨g,i*10+j,none⟩=(aQ z)[j]? :=λj a=>by
  rw[h.cellAt (i*10+j) (by omega),cB aQ 10 kC Z i j z hi a]
 exact⟨e 0 (by omega),e 1 (by omega),e 2 (by omega),e 3 (by omega),e 4 (by omega),e 5 (by omega),e 6 (by omega),e 7 (by omega),e 8 (by omega),e 9 (by omega)⟩
theorem Ei(z:Ch)(w:World):(binOp .neq 95 (.agg #[.int .i64 z.x.k,.int .i64 z.x.lk,.int .i64 z.x.lt,.int .i64 z.x.lv,.int .i64 z.x.rk,.int .i64 z.x.rt,.int .i64 z.x.rv,.bool z.x.hl,.bool z.x.hr,.bool z.g]) (.agg #[.int .i64 z.x.k,.int .i64 z.x.lk,.int .i64 z.x.lt,.int .i64 z.x.lv,.int .i64 z.x.rk,.int .i64 z.x.rt,.int .i64 z.x.rv,.bool z.x.hl,.bool z.x.hr,.bool z.g])).run prog w=.ok (.bool false) w:=by go_simp
theorem Cr(j h:Value)(Z:List Ch)(m s:Nat)(w:World)(d:w.ownsRow m 95 10 j Z.length (Z.flatMap aQ))(c:w.ownsRow s 95 10 h Z.length (Z.flatMap aQ))(hZ:Z.length<=1000000):
  Calls prog 12 #[j,h] w λe o=>e=.returned (.bool true)/\Below w.heap.size w o:=by
 by_cases hz0:Z.length=0
 .rw[hz0]at d c
  rcases ownsRow_forms d with⟨rfl,_⟩|⟨l,u,rfl⟩ <;>rcases ownsRow_forms c with⟨rfl,_⟩|⟨r,cb,rfl⟩
  all_goals
   clear d c;go_enter func12,ntmps12;go_wp2;refine wp_loop_rounds 1 ?_;rw[rounds_succ];go_wp2;go_ret;exact⟨rfl,iL _ _⟩
 .obtain⟨l,u,rfl⟩:=gy d (by omega);obtain⟨r,cb,rfl⟩:=gy c (by omega);have p:Hid _:=d;have t:Hid _:=c;clear d c;go_enter func12,ntmps12;go_wp2
  go_loopg [5] Z.length (λg i wr=>∃a:Nat,a<=Z.length/\g=Z.length -a/\i=.int .i64 a/\Below w.heap.size w wr)
  case atStart=>exact⟨0,aW _,rfl,rfl,iL _ _⟩
  case round=>
   obtain⟨a,hi',f,rfl,b⟩:=hrel;have q:Hid _:=f;have k:Hid _:=b;clear f
   by_cases hlt:a<Z.length
   .obtain⟨z,hz⟩:∃z,Z[a]?=some z:=⟨_,aO hlt⟩;have hca:=vg (aD p.out b) rfl hz;have hcb:=vg (aD t.out b) rfl hz;have hnq:=Ei z
    have i1:(0:Int)<=(a:Int):=by omega
    have i2:(a:Int)<(Z.length:Int):=by omega
    clear b hz;go_wp2;go_quiet (fail)
    all_goals (try go_wp2)
    go_roundg (Z.length -(a+1))
    case measure=>have:=q.out;omega
    case rel=>exact⟨a+1,by omega,rfl,by go_num,k.out.trans ⟨rfl,rfl,rfl,aC _,λ_ _=>rfl⟩⟩
   .have e4:a=Z.length:=by omega
    have hge4:¬((a:Int)<(Z.length:Int)):=by omega
    clear b;go_wp2;go_ret;exact⟨rfl,k.out⟩
end
section
open Go.Joins Go.Sort
variable{b:Nat}{W a:World}
theorem He{i g:Value}{x:RJ}(s k t v:Int)(w:World)(h:dh w 0 b i g x)(f:bM s=false):
  Calls Tryz.prog 44 #[.pointer (some ⟨b,0,none⟩),.int .i64 s,.agg #[.int .i64 k,.int .i64 t,.int .i64 v]] w λe a=>e=.returned (.tuple #[.slice none 0 0,.int .i64 1])/\Below w.heap.size w a:=by
 have hi:iG 0 1 s=false:=by
  simp[bM]at f;simp[iG];omega
 have d:=λW=>bG s 0 1 W
 rw[hi]at d;have hlt:=h.lt;clear h f hi;go_enter Tryz.func44,Tryz.ntmps44;go_wp2_with fail;refine(d _).mono ?_;rintro e w2 ⟨rfl,rfl⟩;clear d;go_wp2;go_ret2;exact⟨rfl,by repeat' (first|exact fC _ _|refine Below.drew ?_)⟩
def Dk(st:Sx)(s k t v:Int):Int×Sx:=if s=0 then st.feed0 k t v else if s=1 then st.feed1 k t v else(1,st)
def vH(st:Sx)(s k t v:Int):List Ch:=if s=0 then Dh st k t v else if s=1 then Di st k t v else[]
theorem JP{s:Int}(e:¬s=0)(d:¬s=1):bM s=false:=by simp[bM,e,d]
theorem K7(h:a.heap[b]?=W.heap[b]?)(o:Nat):a.cell? ⟨b,o,none⟩=W.cell? ⟨b,o,none⟩:=by
 unfold World.cell?;rw[h]
abbrev kH(K:Nat->Prop)(W a:World):Prop:=∀k,K k->a.heap[k]?=W.heap[k]?
section
variable{c W:World}{st:Sx}{K:Nat->Prop}
theorem rO{c:World}{S:Nat->Prop}(h:Below c.heap.size c W)(d:Turned S W a)(g:∀k,S k->c.heap.size<=k):Below c.heap.size c a:=
 ⟨d.os.trans h.os,d.tape.trans h.tape,d.output.trans h.output,aH h.size d.size,λk f=>(d.block k (aR f h.size) (λe=>by have:=g k e;omega)).trans (h.block k f)⟩
end
end
section
open Go.Sort
variable{i:Nat}{n:Int}{R E:List Hl}{T:List D}
def Nb(n:Int):Int:=if n<0 then 9223372036854775807 else n
def toC(h:Hl):D:=⟨h.k,h.t,h.v,Nb h.met⟩
def aaY(i:Nat)(n:Int):Prop:=0<=n/\n<=9223372036854775807∨ -9223372036854775808<=n/\n<= -9223372036854775808+(i:Int)/\n<0
theorem aaY.more(h:aaY i n):aaY (i+1) n:=by
 unfold aaY at *;omega
theorem aaY.inc(h:aaY i n)(hi:i<=1000):aaY (i+1) (wrap64 (n+1))/\Nb (wrap64 (n+1))=bR (Nb n):=by
 unfold aaY at *
 rcases h with h|h
 .by_cases e:n=9223372036854775807
  .subst e
   have:wrap64 (9223372036854775807+1)= -9223372036854775808:=by unfold wrap64;omega
   rw[this];exact⟨by omega,rfl⟩
  .have:wrap64 (n+1)=n+1:=by unfold wrap64;omega
   rw[this];refine⟨by omega,?_⟩;unfold Nb bR;rw[if_neg (by omega),if_neg (by omega),if_neg (by omega)]
 .have:wrap64 (n+1)=n+1:=by unfold wrap64;omega
  rw[this];refine⟨by omega,?_⟩
  have b:Nb (n+1)=9223372036854775807:=by unfold Nb;rw[if_pos (by omega)]
  have a:Nb n=9223372036854775807:=by unfold Nb;rw[if_pos (by omega)]
  rw[b,a];rfl
theorem aaY.cl(h:aaY i n):0<=Nb n/\Nb n<=9223372036854775807:=by
 unfold aaY at h;unfold Nb
 split <;>omega
theorem ade(n:Nat):Nb (n:Int)=n:=by unfold Nb;rw[if_neg (by omega)]
theorem abh(mode s k t v:Int)(L:List Hl):bU mode s k t v (L.map toC)=bU mode s k t v (L.map fE):=by
 have c:∀T b h,dU T s b k t v (toC h)=dU T s b k t v (fE h):=λT b h=>by
  show(if Nb h.met=0/\T=true then _ else _)++_=(if h.met=0/\T=true then _ else _)++_
  have e:Nb h.met=0↔h.met=0:=by unfold Nb;split <;>omega
  by_cases hh:h.met=0/\T=true
  .rw[if_pos hh,if_pos ⟨e.2 hh.1,hh.2⟩];rfl
  .rw[if_neg hh,if_neg (λg=>hh ⟨e.1 g.1,g.2⟩)];rfl
 unfold bU
 cases L with
 |nil=>rfl
 |cons a r=>
  rw[if_neg (by simp),if_neg (by simp),List.flatMap_map,List.flatMap_map];exact congrArg (λf=>List.flatMap f (a::r)) (funext λh=>c _ _ h)
def vG(R:List Hl)(T:List D):Prop:=∃E:List Hl,E.Perm R/\nN E/\T=E.map toC
theorem vG.at(h:vG R T)(c:R.Pairwise (λa b=>a.came<b.came))(d:E.Perm R)(e:nN E):T=E.map toC:=by
 obtain⟨E',p,o,rfl⟩:=h;rw[qD c p d o e]
theorem vG.len(h:vG R T):R.length=T.length:=by
 obtain⟨E,p,_,rfl⟩:=h;rw[List.length_map,p.length_eq]
theorem aaV(h:nN E):ay (E.map toC):=by
 unfold ay;rw[List.pairwise_map];refine h.imp ?_;intro a b c;rw[mW]at c;show a.k<b.k∨(a.k=b.k/\a.t<=b.t);omega
theorem adf(k fr av:Int)(h:Hl):iB k fr av (toC h)=eF k fr av h:=by
 unfold iB eF iG toC
 by_cases h1:h.k=k
 .by_cases h2:fr<=h.t
  .by_cases h3:h.t<=av <;>simp[h1,h2,h3]
  .simp[h1,h2]
 .simp[h1]
theorem adG(k fr av:Int)(E:List Hl):(E.map toC).filter (iB k fr av)=(E.filter (eF k fr av)).map toC:=by
 rw[List.filter_map];congr 1;congr 1
 funext h
 exact adf k fr av h
theorem abj(f:vG R T)(d:R.Pairwise (λa b=>a.came<b.came))(e:E.Perm R)(c:nN E)(k fr av:Int):bF k fr av T=(E.filter (eF k fr av)).map toC:=by
 rw[f.at d e c,gM (aaV c),adG]
theorem vG.inc(e:vG R T)(k fr av:Int)(hi:i<=1000)(f:∀h∈R,aaY i h.met):
  vG (R.map λh=>if eF k fr av h=true then kN h else h) (fo T (aV k fr T) (bF k fr av T).length):=by
 obtain⟨E,p,o,rfl⟩:=e;rw[gZ (aaV o)];refine⟨E.map (M8 k fr av),p.map _,?_,?_⟩
 .show(E.map (M8 k fr av)).Pairwise _;rw[List.pairwise_map];refine o.imp ?_;intro a b c;rw[V6];exact c
 .rw[List.map_map,List.map_map]
  refine List.map_congr_left λh d=>?_
  show(if iB k fr av (toC h)=true then sH (toC h)else toC h)=toC (M8 k fr av h);rw[adf];unfold M8
  split
  .show(⟨h.k,h.t,h.v,bR (Nb h.met)⟩:D)=⟨h.k,h.t,h.v,Nb (wrap64 (h.met+1))⟩;rw[((f h (p.subset d)).inc hi).2]
  .rfl
theorem abJ(y:Hl):∀{E:List Hl},nN E->(∀a∈E,a.came<y.came)->∃d:List Hl,d.Perm (y::E)/\nN d/\bT (E.map toC) (aV y.k (y.t+1) (E.map toC)) (toC y)=d.map toC
 |[],_,_=>⟨[y],List.Perm.refl _,List.pairwise_singleton _ _,by simp[bT,aV]⟩
 |a::E,o,hc=>by
  have h:=aaV o;have f:=List.pairwise_cons.1 o;have hac:=hc a (by simp)
  cases ha:aX y.k (y.t+1) (toC a)with
  |true=>
   obtain⟨d,p,j,e⟩:=abJ y f.2 (λb c=>hc b (by simp[c]));refine⟨a::d,(p.cons a).trans (List.Perm.swap y a E),?_,?_⟩
   .refine List.pairwise_cons.2 ⟨λb c=>?_,j⟩
    rcases dM.1 (p.subset c)with g|g
    .subst g;rw[mW]
     have m:a.k<b.k∨(a.k=b.k/\a.t<b.t+1):=by
      have:=ha;unfold aX toC at this;simpa using this
     omega
    .exact f.1 b g
   .rw[List.map_cons,gU ha,List.map_cons,<-e];simp[bT]
  |false=>
   refine⟨y::a::E,List.Perm.refl _,?_,?_⟩
   .have m:¬(a.k<y.k∨(a.k=y.k/\a.t<y.t+1)):=by
     have:=ha;unfold aX toC at this;simpa using this
    refine List.pairwise_cons.2 ⟨λb c=>?_,o⟩;rw[mW]
    rcases dM.1 c with g|g
    .subst g;omega
    .have l:=f.1 b g;rw[mW]at l;omega
   .rw[List.map_cons]at h⊢;rw[iQ h ha];simp[bT]
theorem vG.put(f:vG R T)(y:Hl)(g:∀a∈R,a.came<y.came):vG (R++[y]) (bT T (aV y.k (y.t+1) T) (toC y)):=by
 obtain⟨E,p,o,rfl⟩:=f;obtain⟨b,d,h,e⟩:=abJ y o (λa c=>g a (p.subset c));exact⟨b,(d.trans (p.cons y)).trans (List.perm_append_singleton y R).symm,h,e⟩
theorem abk(hi:i<=1000)(h:∀h∈R,au h.k h.t h.v=true/\aaY i h.met)(k fr av:Int):∀h∈R.map (λh=>if eF k fr av h=true then kN h else h),au h.k h.t h.v=true/\aaY (i+1) h.met:=by
 intro y c;obtain⟨z,d,rfl⟩:=dH.1 c;obtain⟨b,a⟩:=h z d
 split
 .exact⟨b,(a.inc hi).1⟩
 .exact⟨b,a.more⟩
theorem acR(h:∀h∈R,au h.k h.t h.v=true/\aaY i h.met){k t u:Int}(b:au k t u=true){n:Nat}(hn:n<=300)(c:Int):∀h∈R++[(⟨k,t,u,n,c⟩:Hl)],au h.k h.t h.v=true/\aaY (i+1) h.met:=by
 intro y a
 rcases List.mem_append.1 a with g|g
 .exact⟨(h y g).1,(h y g).2.more⟩
 .have:y=⟨k,t,u,n,c⟩:=by simpa using g
  subst this;exact⟨b,.inl ⟨by show(0:Int)<=(n:Int);omega,by show(n:Int)<=_;omega⟩⟩
structure Ga(i:Nat)(x:J)(rs:RS):Prop where
 pl:dn x.lo x.hi x.mode
 lo:rs.x.lo=x.lo
 hi:rs.x.hi=x.hi
 mode:rs.x.mode=x.mode
 m0:rs.x.m0=x.m0
 m1:rs.x.m1=x.m1
 late:0<=x.late/\x.late<=9223372036854775807
 cm:0<=rs.x.came/\rs.x.came<=4000+(i:Int)
 r0:vG rs.x.R0 x.R0
 r1:vG rs.x.R1 x.R1
 l0:x.R0.length<=300
 l1:x.R1.length<=300
 c0:iP rs.x.R0 rs.x.came
 c1:iP rs.x.R1 rs.x.came
 n0:∀h∈rs.x.R0,au h.k h.t h.v=true/\aaY i h.met
 n1:∀h∈rs.x.R1,au h.k h.t h.v=true/\aaY i h.met
 v:rs.M.length<=4000+1000*i
theorem vG.sorted(h:vG R T):ay T:=by
 obtain⟨E,p,o,rfl⟩:=h;exact aaV o
theorem vG.each(h:vG R T)(d:∀h∈R,au h.k h.t h.v=true/\aaY i h.met):∀y∈T,(-9223372036854775808<=y.n/\y.n<=9223372036854775807)/\y.rw.small:=by
 obtain⟨E,p,o,rfl⟩:=h;intro y a;obtain⟨z,e,rfl⟩:=dH.1 a;obtain⟨c,b⟩:=d z (p.subset e);have:=b.cl;exact⟨⟨by show _<=Nb z.met;omega,by show Nb z.met<=_;omega⟩,dI (r:=⟨z.k,z.t,z.v⟩) c⟩
theorem aa2{C:List Ch}{M:List O}(hM:M.length<=4000+1000*i)(hC:C.length<=1000):(C.foldl kK M).length<=4000+1000*(i+1):=by
 have:=Bg C M;omega
section
variable{i:Nat}{x:J}{rs:RS}
theorem Ga.more(h:Ga i x rs):Ga (i+1) x rs:=
 ⟨h.pl,h.lo,h.hi,h.mode,h.m0,h.m1,h.late,⟨h.cm.1,by have:=h.cm.2;omega⟩,h.r0,h.r1,h.l0,h.l1,h.c0,h.c1,λy a=>⟨(h.n0 y a).1,(h.n0 y a).2.more⟩,λy a=>⟨(h.n1 y a).1,(h.n1 y a).2.more⟩,by have:=h.v;omega⟩
theorem Ga.lateW(h:Ga i x rs)(F a b:Int):Ga (i+1) { x with late:=bR x.late} ⟨{ rs.x with late:=F},rs.M,a,b⟩:=by
 have g:=h.more;refine⟨g.pl,g.lo,g.hi,g.mode,g.m0,g.m1,?_,g.cm,g.r0,g.r1,g.l0,g.l1,g.c0,g.c1,g.n0,g.n1,g.v⟩;have:=h.late;show 0<=bR x.late/\bR x.late<=_;unfold bR
 split <;>omega
theorem Ga.hold0(h:Ga i x rs)(hi:i<=1000)(k t u l p:Int)(j:au k t u=true)(f:x.m1<t+x.hi)(hf:x.R0.length<300)(e:E.Perm rs.x.R1)(g:nN E):
  bU rs.x.mode 0 k t u ((E.filter (eF k (t+rs.x.lo) (t+rs.x.hi))).map fE)=qc x ⟨k,t,u⟩/\
  Ga (i+1) (x.fed0 k t u) ⟨{ rs.x with R1:=rs.x.R1.map λh=>if eF k (t+rs.x.lo) (t+rs.x.hi) h=true then kN h else h,R0:=rs.x.R0++[⟨k,t,u,(E.filter (eF k (t+rs.x.lo) (t+rs.x.hi))).length,rs.x.came+1⟩],came:=rs.x.came+1},(qc x ⟨k,t,u⟩).foldl kK rs.M,l,p⟩:=by
 have b:=abj h.r1 h.c1.inc e g k (t+x.lo) (t+x.hi);have hc:=h.cm;have hO:=h.r1.len;have c:(E.filter (eF k (t+x.lo) (t+x.hi))).length<=300:=aH (dG _ _) (by rw[e.length_eq];have:=h.l1;omega)
 have d:(qc x ⟨k,t,u⟩).length<=1000:=by
  have m:=pg x.mode 0 k t u (bF k (t+x.lo) (t+x.hi) x.R1);rw[b,List.length_map]at m;show(bU x.mode 0 k t u (bF k (t+x.lo) (t+x.hi) x.R1)).length<=_;rw[b];omega
 rw[h.lo,h.hi,h.mode];refine⟨by rw[<-abh,<-b],⟨h.pl,h.lo,h.hi,h.mode,h.m0,h.m1,h.late,⟨?_,?_⟩,?_,?_,?_,?_,?_,?_,?_,?_,aa2 h.v d⟩⟩
 .show 0<=rs.x.came+1;omega
 .show rs.x.came+1<=4000+((i+1:Nat):Int);omega
 .show vG (rs.x.R0++[_]) (if x.m1<t+x.hi then bT x.R0 (aV k (t+1) x.R0) ⟨k,t,u,((bF k (t+x.lo) (t+x.hi) x.R1).length:Int)⟩else x.R0);rw[if_pos f,b,List.length_map];have:=h.r0.put ⟨k,t,u,(E.filter (eF k (t+x.lo) (t+x.hi))).length,rs.x.came+1⟩ (λa q=>by have:=h.c0.le a q;show a.came<rs.x.came+1;omega);unfold toC at this;simp only[ade]at this;exact this
 .exact h.r1.inc k (t+x.lo) (t+x.hi) hi (λy o=>(h.n1 y o).2)
 .show(if x.m1<t+x.hi then bT x.R0 _ _ else x.R0).length<=300;rw[if_pos f,xK];omega
 .show(fo x.R1 _ _).length<=300;rw[gZ h.r1.sorted,List.length_map];exact h.l1
 .exact h.c0.put _ rfl
 .exact(h.c1.inc' k _ _).more (by show rs.x.came<=rs.x.came+1;omega)
 .exact acR h.n0 j c _
 .exact abk hi h.n1 k _ _
theorem Ga.pass0(h:Ga i x rs)(hi:i<=1000)(k t u f m:Int)(d:¬x.m1<t+x.hi)(c:E.Perm rs.x.R1)(e:nN E):
  bU rs.x.mode 0 k t u ((E.filter (eF k (t+rs.x.lo) (t+rs.x.hi))).map fE)=qc x ⟨k,t,u⟩/\
  Ga (i+1) (x.fed0 k t u) ⟨{ rs.x with R1:=rs.x.R1.map λh=>if eF k (t+rs.x.lo) (t+rs.x.hi) h=true then kN h else h},(qc x ⟨k,t,u⟩).foldl kK rs.M,f,m⟩:=by
 have a:=abj h.r1 h.c1.inc c e k (t+x.lo) (t+x.hi);have hc:=h.cm;have hO:=h.r1.len;have hEl:(E.filter (eF k (t+x.lo) (t+x.hi))).length<=300:=aH (dG _ _) (by rw[c.length_eq];have:=h.l1;omega)
 have b:(qc x ⟨k,t,u⟩).length<=1000:=by
  have j:=pg x.mode 0 k t u (bF k (t+x.lo) (t+x.hi) x.R1);rw[a,List.length_map]at j;show(bU x.mode 0 k t u (bF k (t+x.lo) (t+x.hi) x.R1)).length<=_;rw[a];omega
 rw[h.lo,h.hi,h.mode];have g:=h.more;refine⟨by rw[<-abh,<-a],⟨h.pl,h.lo,h.hi,h.mode,h.m0,h.m1,h.late,g.cm,?_,?_,?_,?_,?_,?_,?_,?_,aa2 h.v b⟩⟩
 .show vG rs.x.R0 (if x.m1<t+x.hi then bT x.R0 (aV k (t+1) x.R0) ⟨k,t,u,((bF k (t+x.lo) (t+x.hi) x.R1).length:Int)⟩else x.R0);rw[if_neg d];exact h.r0
 .exact h.r1.inc k (t+x.lo) (t+x.hi) hi (λy l=>(h.n1 y l).2)
 .show(if x.m1<t+x.hi then bT x.R0 _ _ else x.R0).length<=300;rw[if_neg d];exact h.l0
 .show(fo x.R1 _ _).length<=300;rw[gZ h.r1.sorted,List.length_map];exact h.l1
 .exact h.c0
 .exact h.c1.inc' k _ _
 .exact g.n0
 .exact abk hi h.n1 k _ _
theorem Ga.hold1(h:Ga i x rs)(hi:i<=1000)(k t u l p:Int)(j:au k t u=true)(f:x.m0<t+ -x.lo)(hf:x.R1.length<300)(e:E.Perm rs.x.R0)(g:nN E):
  bU rs.x.mode 1 k t u ((E.filter (eF k (t -rs.x.hi) (t -rs.x.lo))).map fE)=qd x ⟨k,t,u⟩/\
  Ga (i+1) (x.fed1 k t u) ⟨{ rs.x with R0:=rs.x.R0.map λh=>if eF k (t -rs.x.hi) (t -rs.x.lo) h=true then kN h else h,R1:=rs.x.R1++[⟨k,t,u,(E.filter (eF k (t -rs.x.hi) (t -rs.x.lo))).length,rs.x.came+1⟩],came:=rs.x.came+1},(qd x ⟨k,t,u⟩).foldl kK rs.M,l,p⟩:=by
 have b:=abj h.r0 h.c0.inc e g k (t+ -x.hi) (t+ -x.lo);have hc:=h.cm;have hO:=h.r0.len;have c:(E.filter (eF k (t+ -x.hi) (t+ -x.lo))).length<=300:=aH (dG _ _) (by rw[e.length_eq];have:=h.l0;omega)
 have d:(qd x ⟨k,t,u⟩).length<=1000:=by
  have m:=pg x.mode 1 k t u (bF k (t+ -x.hi) (t+ -x.lo) x.R0);rw[b,List.length_map]at m;show(bU x.mode 1 k t u (bF k (t+ -x.hi) (t+ -x.lo) x.R0)).length<=_;rw[b];omega
 rw[h.lo,h.hi,h.mode,Int.sub_eq_add_neg,Int.sub_eq_add_neg];refine⟨by rw[<-abh,<-b],⟨h.pl,h.lo,h.hi,h.mode,h.m0,h.m1,h.late,⟨?_,?_⟩,?_,?_,?_,?_,?_,?_,?_,?_,aa2 h.v d⟩⟩
 .show 0<=rs.x.came+1;omega
 .show rs.x.came+1<=4000+((i+1:Nat):Int);omega
 .exact h.r0.inc k (t+ -x.hi) (t+ -x.lo) hi (λy o=>(h.n0 y o).2)
 .show vG (rs.x.R1++[_]) (if x.m0<t+ -x.lo then bT x.R1 (aV k (t+1) x.R1) ⟨k,t,u,((bF k (t+ -x.hi) (t+ -x.lo) x.R0).length:Int)⟩else x.R1);rw[if_pos f,b,List.length_map];have:=h.r1.put ⟨k,t,u,(E.filter (eF k (t+ -x.hi) (t+ -x.lo))).length,rs.x.came+1⟩ (λa q=>by have:=h.c1.le a q;show a.came<rs.x.came+1;omega);unfold toC at this;simp only[ade]at this;exact this
 .show(fo x.R0 _ _).length<=300;rw[gZ h.r0.sorted,List.length_map];exact h.l0
 .show(if x.m0<t+ -x.lo then bT x.R1 _ _ else x.R1).length<=300;rw[if_pos f,xK];omega
 .exact(h.c0.inc' k _ _).more (by show rs.x.came<=rs.x.came+1;omega)
 .exact h.c1.put _ rfl
 .exact abk hi h.n0 k _ _
 .exact acR h.n1 j c _
theorem Ga.pass1(h:Ga i x rs)(hi:i<=1000)(k t u f m:Int)(d:¬x.m0<t+ -x.lo)(c:E.Perm rs.x.R0)(e:nN E):
  bU rs.x.mode 1 k t u ((E.filter (eF k (t -rs.x.hi) (t -rs.x.lo))).map fE)=qd x ⟨k,t,u⟩/\
  Ga (i+1) (x.fed1 k t u) ⟨{ rs.x with R0:=rs.x.R0.map λh=>if eF k (t -rs.x.hi) (t -rs.x.lo) h=true then kN h else h},(qd x ⟨k,t,u⟩).foldl kK rs.M,f,m⟩:=by
 have a:=abj h.r0 h.c0.inc c e k (t+ -x.hi) (t+ -x.lo);have hc:=h.cm;have hO:=h.r0.len;have hEl:(E.filter (eF k (t+ -x.hi) (t+ -x.lo))).length<=300:=aH (dG _ _) (by rw[c.length_eq];have:=h.l0;omega)
 have b:(qd x ⟨k,t,u⟩).length<=1000:=by
  have j:=pg x.mode 1 k t u (bF k (t+ -x.hi) (t+ -x.lo) x.R0);rw[a,List.length_map]at j;show(bU x.mode 1 k t u (bF k (t+ -x.hi) (t+ -x.lo) x.R0)).length<=_;rw[a];omega
 rw[h.lo,h.hi,h.mode,Int.sub_eq_add_neg,Int.sub_eq_add_neg];have g:=h.more;refine⟨by rw[<-abh,<-a],⟨h.pl,h.lo,h.hi,h.mode,h.m0,h.m1,h.late,g.cm,?_,?_,?_,?_,?_,?_,?_,?_,aa2 h.v b⟩⟩
 .exact h.r0.inc k (t+ -x.hi) (t+ -x.lo) hi (λy l=>(h.n0 y l).2)
 .show vG rs.x.R1 (if x.m0<t+ -x.lo then bT x.R1 (aV k (t+1) x.R1) ⟨k,t,u,((bF k (t+ -x.hi) (t+ -x.lo) x.R0).length:Int)⟩else x.R1);rw[if_neg d];exact h.r1
 .show(fo x.R0 _ _).length<=300;rw[gZ h.r0.sorted,List.length_map];exact h.l0
 .show(if x.m0<t+ -x.lo then bT x.R1 _ _ else x.R1).length<=300;rw[if_neg d];exact h.l1
 .exact h.c0.inc' k _ _
 .exact h.c1
 .exact abk hi h.n0 k _ _
 .exact g.n1
end
end
section
open Go.Sort
variable{a i:Nat}{rs:RS}{P:Nat->Prop}{W:World}{st:Sx}
def abI(a:Nat)(Q:RS->Prop)(P:Nat->Prop)(W w':World):Prop:=
 ∃rs' P',RE a rs' P' w'/\Q rs'/\Turned P W w'/\∀k,P' k->P k∨W.heap.size<=k
theorem xk{bj:Nat}{Q:RS->Prop}{h:World}{v l j d f b:Value}{S:Nat->Prop}(c:∀k,P k↔(k=a∨k=bj∨v.ownBlock=some k∨l.ownBlock=some k∨j.ownBlock=some k))(o:∀g,S g->P g)
  (s:nM h a bj d f b rs.x rs.M rs.f0 rs.f1) (t:Q rs) (p:Turned (λg=>g=a∨v.ownBlock=some g∨S g) W h) (n:Moves W v.ownBlock d.ownBlock) (m:∀g,f.ownBlock=some g->l.ownBlock=some g∨W.heap.size<=g) (r:∀g,b.ownBlock=some g->j.ownBlock=some g∨W.heap.size<=g):abI a Q P W h:=by
 refine⟨rs,λk=>k=a∨k=bj∨d.ownBlock=some k∨f.ownBlock=some k∨b.ownBlock=some k,⟨bj,d,f,b,s,λk=>Iff.rfl⟩,t,p.mono ?_,?_⟩
 .intro k e
  rcases e with e|e|e
  .exact(c k).2 (.inl e)
  .exact(c k).2 (.inr (.inr (.inl e)))
  .exact o k e
 .intro k e
  rcases e with e|e|e|e|e
  .exact .inl ((c k).2 (.inl e))
  .exact .inl ((c k).2 (.inr (.inl e)))
  .rcases n with g|⟨q,g,gq⟩
   .exact .inl ((c k).2 (.inr (.inr (.inl (g ▸ e)))))
   .rw[g]at e;cases e;exact .inr gq
  .exact(m k e).imp (λg=>(c k).2 (.inr (.inr (.inr (.inl g))))) id
  .exact(r k e).imp (λg=>(c k).2 (.inr (.inr (.inr (.inr g))))) id
theorem adE(h:RE a rs P W)(c:Ga i st.x rs)(hi:i<=800)(k t u:Int):
  Calls Tryz.prog 10 #[.pointer (some ⟨a,0,none⟩),.int .i64 0,.agg #[.int .i64 k,.int .i64 t,.int .i64 u]] W λe m=>∃vx,e=.returned (.tuple #[vx,.int .i64 (st.feed0 k t u).1])/\m.ownsRow W.heap.size 95 10 vx (Dh st k t u).length ((Dh st k t u).flatMap aQ)/\abI a (Ga (i+1) (st.feed0 k t u).2.x) P W m:=by
 obtain⟨bj,v,K,o,U,z⟩:=h;obtain⟨⟨p1,p2⟩,⟨Z,p4⟩,_⟩:=c.pl
 have Y:rs.M.length<=900000:=by have:=c.v;omega
 have hcm:=c.cm;have e0:=c.r0.len;have e1:=c.r1.len;have q0:=c.l0;have q1:=c.l1;rw[<-c.lo]at p1 p2;rw[<-c.hi]at Z p4;unfold Dh Sx.feed0
 by_cases hg:au k t u=false
 .rw[if_pos hg];refine(ES 0 1 k t u W U (λ_=>False) (λC j d b=>C=[]/\j=rs.x/\d=K/\b=o) Y (.inr (.inr ⟨.inl rfl,rfl,rfl⟩)) (λ_ e=>e.elim) (λG l y=>(aat 0 rfl k t u G y hg).mono ?_)).mono ?_
  .rintro e m ⟨rfl,R⟩;exact⟨_,K,o,[],rs.x,rfl,iR _ _ _ _,by simp,y.below R,Turned.of_below R,rfl,rfl,rfl,rfl⟩
  .rintro e m ⟨vx,v',d,b,C,j,rfl,B,n,⟨p,I,w,q⟩,A,F⟩;subst p I;rw[w,q]at n;refine⟨vx,rfl,?_,xk (rs:=rs) z (S:=λ_=>False) (λ_ e=>e.elim) n c.more A F (λ_ e=>.inl e) (λ_ e=>.inl e)⟩;simpa using B
 rw[if_neg hg]
 have s:au k t u=true:=by simpa using hg
 by_cases hl:t<=st.x.m0
 .rw[if_pos hl]
  have r:t<=rs.x.m0:=by rw[c.m0];exact hl
  refine(ES 0 10 k t u W U (λg=>g=bj) (λC j d b=>C=[]/\j={ rs.x with late:=wrap64 (rs.x.late+1)}/\d=K/\b=o) Y (.inl ⟨rfl,.inr rfl,rfl,rfl⟩) (λg e=>.inl e) (λG l y=>((aaQ 0 k t u G y s).1 (.inl ⟨rfl,r⟩)).mono ?_)).mono ?_
  .rintro e m ⟨rfl,X,hgr⟩;exact⟨_,K,o,[],_,rfl,iR _ _ _ _,by simp,X,Turned.of_grown hgr (λk e=>by cases e;rfl),rfl,rfl,rfl,rfl⟩
  .rintro e m ⟨vx,v',d,b,C,j,rfl,B,n,⟨p,I,w,q⟩,A,F⟩;subst p I;rw[w,q]at n;refine⟨vx,rfl,?_,xk (rs:=⟨{ rs.x with late:=wrap64 (rs.x.late+1)},rs.M,wrap64 (rs.f0+1),rs.f1⟩) z (S:=λg=>g=bj) (λg e=>(z g).2 (.inr (.inl e))) n (c.lateW _ _ _) A F (λ_ e=>.inl e) (λ_ e=>.inl e)⟩;simpa using B
 rw[if_neg hl]
 have r:¬t<=rs.x.m0:=by rw[c.m0];exact hl
 by_cases hr:st.x.m1<t+st.x.hi/\300<=st.x.R0.length
 .rw[if_pos hr]
  have V:rs.x.m1<t+rs.x.hi:=by have:=hr.1;rw[c.m1,c.hi];omega
  refine(ES 0 12 k t u W U (λ_=>False) (λC j d b=>C=[]/\j=rs.x/\d=K/\b=o) Y (.inr (.inr ⟨.inr rfl,rfl,rfl⟩)) (λ_ e=>e.elim) (λG l y=>((aaQ 0 k t u G y s).2 p1 p2 Z p4 (.inl ⟨rfl,r,V,by omega⟩)).mono ?_)).mono ?_
  .rintro e m ⟨rfl,R⟩;exact⟨_,K,o,[],rs.x,rfl,iR _ _ _ _,by simp,y.below R,Turned.of_below R,rfl,rfl,rfl,rfl⟩
  .rintro e m ⟨vx,v',d,b,C,j,rfl,B,n,⟨p,I,w,q⟩,A,F⟩;subst p I;rw[w,q]at n;refine⟨vx,rfl,?_,xk (rs:=rs) z (S:=λ_=>False) (λ_ e=>e.elim) n c.more A F (λ_ e=>.inl e) (λ_ e=>.inl e)⟩;simpa using B
 rw[if_neg hr]
 by_cases hh:st.x.m1<t+st.x.hi
 .have V:rs.x.m1<t+rs.x.hi:=by rw[c.m1,c.hi];omega
  have V7:rs.x.R0.length<300:=by have:=λe=>hr ⟨hh,e⟩;omega
  refine(ES 0 0 k t u W U (λg=>g=bj∨o.ownBlock=some g) (λC j d b=>∃E:List Hl,E.Perm rs.x.R1/\nN E/\C=bU rs.x.mode 0 k t u ((E.filter (eF k (t+rs.x.lo) (t+rs.x.hi))).map fE)/\j={ rs.x with R1:=rs.x.R1.map λh=>if eF k (t+rs.x.lo) (t+rs.x.hi) h=true then kN h else h,R0:=rs.x.R0++[⟨k,t,u,(E.filter (eF k (t+rs.x.lo) (t+rs.x.hi))).length,rs.x.came+1⟩],came:=rs.x.came+1}/\b=o/\dF W K d) Y (.inl ⟨rfl,.inl rfl,rfl,rfl⟩) (λg e=>e.elim .inl (λe=>.inr (.inr e))) (λG l y=>((Qd k t u G y s r p1 p2 Z p4 (by omega) (by omega) (by omega)).1 V V7).mono ?_)).mono ?_
  .rintro e m ⟨vx,d,b,E,rfl,H,L,N,X,ht,Q,f⟩;exact⟨vx,d,b,_,_,rfl,N,jV H (by omega),X,ht,E,H,L,rfl,rfl,Q,mZ f l⟩
  .rintro e m ⟨vx,v',d,b,C,j,rfl,B,n,⟨E,H,L,p,I,Q,f⟩,A,F⟩;have T:=c.hold0 (by omega) k t u (wrap64 (rs.f0+1)) rs.f1 s hh (by have:=λe=>hr ⟨hh,e⟩;omega) H L;rw[T.1]at p;subst p I;refine⟨vx,rfl,by simpa using B,xk (rs:=⟨_,_,_,_⟩) z (S:=λg=>g=bj∨o.ownBlock=some g) (λg e=>e.elim (λe=>(z g).2 (.inr (.inl e))) (λe=>(z g).2 (.inr (.inr (.inr (.inr e)))))) n T.2 A F (pR f) (λg e=>.inl (Q ▸ e))⟩
 .have V:¬rs.x.m1<t+rs.x.hi:=by rw[c.m1,c.hi];omega
  refine(ES 0 0 k t u W U (λg=>g=bj∨o.ownBlock=some g) (λC j d b=>∃E:List Hl,E.Perm rs.x.R1/\nN E/\C=bU rs.x.mode 0 k t u ((E.filter (eF k (t+rs.x.lo) (t+rs.x.hi))).map fE)/\j={ rs.x with R1:=rs.x.R1.map λh=>if eF k (t+rs.x.lo) (t+rs.x.hi) h=true then kN h else h}/\b=o/\dF W K d) Y (.inl ⟨rfl,.inl rfl,rfl,rfl⟩) (λg e=>e.elim .inl (λe=>.inr (.inr e))) (λG l y=>((Qd k t u G y s r p1 p2 Z p4 (by omega) (by omega) (by omega)).2 V).mono ?_)).mono ?_
  .rintro e m ⟨vx,d,b,E,rfl,H,L,N,X,ht,Q,f⟩;exact⟨vx,d,b,_,_,rfl,N,jV H (by omega),X,ht,E,H,L,rfl,rfl,Q,mZ f l⟩
  .rintro e m ⟨vx,v',d,b,C,j,rfl,B,n,⟨E,H,L,p,I,Q,f⟩,A,F⟩;have T:=c.pass0 (by omega) k t u (wrap64 (rs.f0+1)) rs.f1 hh H L;rw[T.1]at p;subst p I;refine⟨vx,rfl,by simpa using B,xk (rs:=⟨_,_,_,_⟩) z (S:=λg=>g=bj∨o.ownBlock=some g) (λg e=>e.elim (λe=>(z g).2 (.inr (.inl e))) (λe=>(z g).2 (.inr (.inr (.inr (.inr e)))))) n T.2 A F (pR f) (λg e=>.inl (Q ▸ e))⟩
theorem adF(h:RE a rs P W)(c:Ga i st.x rs)(hi:i<=800)(k t u:Int):
  Calls Tryz.prog 10 #[.pointer (some ⟨a,0,none⟩),.int .i64 1,.agg #[.int .i64 k,.int .i64 t,.int .i64 u]] W λe m=>∃vx,e=.returned (.tuple #[vx,.int .i64 (st.feed1 k t u).1])/\m.ownsRow W.heap.size 95 10 vx (Di st k t u).length ((Di st k t u).flatMap aQ)/\abI a (Ga (i+1) (st.feed1 k t u).2.x) P W m:=by
 obtain⟨bj,v,o,K,U,z⟩:=h;obtain⟨⟨p1,p2⟩,⟨Z,p4⟩,_⟩:=c.pl
 have Y:rs.M.length<=900000:=by have:=c.v;omega
 have hcm:=c.cm;have e0:=c.r0.len;have e1:=c.r1.len;have q0:=c.l0;have q1:=c.l1;rw[<-c.lo]at p1 p2;rw[<-c.hi]at Z p4;unfold Di Sx.feed1
 by_cases hg:au k t u=false
 .rw[if_pos hg];refine(ES 1 1 k t u W U (λ_=>False) (λC j d b=>C=[]/\j=rs.x/\d=o/\b=K) Y (.inr (.inr ⟨.inl rfl,rfl,rfl⟩)) (λ_ e=>e.elim) (λG l y=>(aat 1 rfl k t u G y hg).mono ?_)).mono ?_
  .rintro e m ⟨rfl,R⟩;exact⟨_,o,K,[],rs.x,rfl,iR _ _ _ _,by simp,y.below R,Turned.of_below R,rfl,rfl,rfl,rfl⟩
  .rintro e m ⟨vx,v',d,b,C,j,rfl,B,n,⟨p,I,w,q⟩,A,F⟩;subst p I;rw[w,q]at n;refine⟨vx,rfl,?_,xk (rs:=rs) z (S:=λ_=>False) (λ_ e=>e.elim) n c.more A F (λ_ e=>.inl e) (λ_ e=>.inl e)⟩;simpa using B
 rw[if_neg hg]
 have s:au k t u=true:=by simpa using hg
 by_cases hl:t<=st.x.m1
 .rw[if_pos hl]
  have r:t<=rs.x.m1:=by rw[c.m1];exact hl
  refine(ES 1 10 k t u W U (λg=>g=bj) (λC j d b=>C=[]/\j={ rs.x with late:=wrap64 (rs.x.late+1)}/\d=o/\b=K) Y (.inr (.inl ⟨rfl,.inr rfl,rfl,rfl⟩)) (λg e=>.inl e) (λG l y=>((aaQ 1 k t u G y s).1 (.inr ⟨rfl,r⟩)).mono ?_)).mono ?_
  .rintro e m ⟨rfl,X,hgr⟩;exact⟨_,o,K,[],_,rfl,iR _ _ _ _,by simp,X,Turned.of_grown hgr (λk e=>by cases e;rfl),rfl,rfl,rfl,rfl⟩
  .rintro e m ⟨vx,v',d,b,C,j,rfl,B,n,⟨p,I,w,q⟩,A,F⟩;subst p I;rw[w,q]at n;refine⟨vx,rfl,?_,xk (rs:=⟨{ rs.x with late:=wrap64 (rs.x.late+1)},rs.M,rs.f0,wrap64 (rs.f1+1)⟩) z (S:=λg=>g=bj) (λg e=>(z g).2 (.inr (.inl e))) n (c.lateW _ _ _) A F (λ_ e=>.inl e) (λ_ e=>.inl e)⟩;simpa using B
 rw[if_neg hl]
 have r:¬t<=rs.x.m1:=by rw[c.m1];exact hl
 by_cases hr:st.x.m0<t+ -st.x.lo/\300<=st.x.R1.length
 .rw[if_pos hr]
  have V:rs.x.m0<t -rs.x.lo:=by have:=hr.1;rw[c.m0,c.lo];omega
  refine(ES 1 12 k t u W U (λ_=>False) (λC j d b=>C=[]/\j=rs.x/\d=o/\b=K) Y (.inr (.inr ⟨.inr rfl,rfl,rfl⟩)) (λ_ e=>e.elim) (λG l y=>((aaQ 1 k t u G y s).2 p1 p2 Z p4 (.inr ⟨rfl,r,V,by omega⟩)).mono ?_)).mono ?_
  .rintro e m ⟨rfl,R⟩;exact⟨_,o,K,[],rs.x,rfl,iR _ _ _ _,by simp,y.below R,Turned.of_below R,rfl,rfl,rfl,rfl⟩
  .rintro e m ⟨vx,v',d,b,C,j,rfl,B,n,⟨p,I,w,q⟩,A,F⟩;subst p I;rw[w,q]at n;refine⟨vx,rfl,?_,xk (rs:=rs) z (S:=λ_=>False) (λ_ e=>e.elim) n c.more A F (λ_ e=>.inl e) (λ_ e=>.inl e)⟩;simpa using B
 rw[if_neg hr]
 by_cases hh:st.x.m0<t+ -st.x.lo
 .have V:rs.x.m0<t -rs.x.lo:=by rw[c.m0,c.lo];omega
  have V7:rs.x.R1.length<300:=by have:=λe=>hr ⟨hh,e⟩;omega
  refine(ES 1 0 k t u W U (λg=>g=bj∨o.ownBlock=some g) (λC j d b=>∃E:List Hl,E.Perm rs.x.R0/\nN E/\C=bU rs.x.mode 1 k t u ((E.filter (eF k (t -rs.x.hi) (t -rs.x.lo))).map fE)/\j={ rs.x with R0:=rs.x.R0.map λh=>if eF k (t -rs.x.hi) (t -rs.x.lo) h=true then kN h else h,R1:=rs.x.R1++[⟨k,t,u,(E.filter (eF k (t -rs.x.hi) (t -rs.x.lo))).length,rs.x.came+1⟩],came:=rs.x.came+1}/\d=o/\dF W K b) Y (.inr (.inl ⟨rfl,.inl rfl,rfl,rfl⟩)) (λg e=>e.elim .inl (λe=>.inr (.inl e))) (λG l y=>((Qk k t u G y s r p1 p2 Z p4 (by omega) (by omega) (by omega)).1 V V7).mono ?_)).mono ?_
  .rintro e m ⟨vx,d,b,E,rfl,H,L,N,X,ht,Q,f⟩;exact⟨vx,d,b,_,_,rfl,N,jV H (by omega),X,ht,E,H,L,rfl,rfl,Q,mZ f l⟩
  .rintro e m ⟨vx,v',d,b,C,j,rfl,B,n,⟨E,H,L,p,I,Q,f⟩,A,F⟩;have T:=c.hold1 (by omega) k t u rs.f0 (wrap64 (rs.f1+1)) s hh (by have:=λe=>hr ⟨hh,e⟩;omega) H L;rw[T.1]at p;subst p I;refine⟨vx,rfl,by simpa using B,xk (rs:=⟨_,_,_,_⟩) z (S:=λg=>g=bj∨o.ownBlock=some g) (λg e=>e.elim (λe=>(z g).2 (.inr (.inl e))) (λe=>(z g).2 (.inr (.inr (.inr (.inl e)))))) n T.2 A F (λg e=>.inl (Q ▸ e)) (pR f)⟩
 .have V:¬rs.x.m0<t -rs.x.lo:=by rw[c.m0,c.lo];omega
  refine(ES 1 0 k t u W U (λg=>g=bj∨o.ownBlock=some g) (λC j d b=>∃E:List Hl,E.Perm rs.x.R0/\nN E/\C=bU rs.x.mode 1 k t u ((E.filter (eF k (t -rs.x.hi) (t -rs.x.lo))).map fE)/\j={ rs.x with R0:=rs.x.R0.map λh=>if eF k (t -rs.x.hi) (t -rs.x.lo) h=true then kN h else h}/\d=o/\dF W K b) Y (.inr (.inl ⟨rfl,.inl rfl,rfl,rfl⟩)) (λg e=>e.elim .inl (λe=>.inr (.inl e))) (λG l y=>((Qk k t u G y s r p1 p2 Z p4 (by omega) (by omega) (by omega)).2 V).mono ?_)).mono ?_
  .rintro e m ⟨vx,d,b,E,rfl,H,L,N,X,ht,Q,f⟩;exact⟨vx,d,b,_,_,rfl,N,jV H (by omega),X,ht,E,H,L,rfl,rfl,Q,mZ f l⟩
  .rintro e m ⟨vx,v',d,b,C,j,rfl,B,n,⟨E,H,L,p,I,Q,f⟩,A,F⟩;have T:=c.pass1 (by omega) k t u rs.f0 (wrap64 (rs.f1+1)) hh H L;rw[T.1]at p;subst p I;refine⟨vx,rfl,by simpa using B,xk (rs:=⟨_,_,_,_⟩) z (S:=λg=>g=bj∨o.ownBlock=some g) (λg e=>e.elim (λe=>(z g).2 (.inr (.inl e))) (λe=>(z g).2 (.inr (.inr (.inr (.inl e)))))) n T.2 A F (λg e=>.inl (Q ▸ e)) (pR f)⟩
theorem adT(h:RE a rs P W)(f:Ga i st.x rs)(hi:i<=800)(s k t u:Int):
  Calls Tryz.prog 10 #[.pointer (some ⟨a,0,none⟩),.int .i64 s,.agg #[.int .i64 k,.int .i64 t,.int .i64 u]] W λe d=>∃vx,e=.returned (.tuple #[vx,.int .i64 (Dk st s k t u).1])/\d.ownsRow W.heap.size 95 10 vx (vH st s k t u).length ((vH st s k t u).flatMap aQ)/\abI a (Ga (i+1) (Dk st s k t u).2.x) P W d:=by
 unfold Dk vH
 by_cases h0:s=0
 .subst h0;rw[if_pos rfl,if_pos rfl];exact adE h f hi k t u
 rw[if_neg h0,if_neg h0]
 by_cases b:s=1
 .subst b;rw[if_pos rfl,if_pos rfl];exact adF h f hi k t u
 rw[if_neg b,if_neg b];have E:=JP h0 b;obtain⟨bj,v,r,o,A,G⟩:=h
 have H:rs.M.length<=900000:=by have:=f.v;omega
 refine(ES s 1 k t u W A (λ_=>False) (λC p n c=>C=[]/\p=rs.x/\n=r/\c=o) H (.inr (.inr ⟨.inl rfl,rfl,rfl⟩)) (λ_ e=>e.elim) (λB hs1 q=>(He s k t u B q E).mono ?_)).mono ?_
 .rintro e d ⟨rfl,m⟩;exact⟨_,r,o,[],rs.x,rfl,iR _ _ _ _,by simp,q.below m,Turned.of_below m,rfl,rfl,rfl,rfl⟩
 .rintro e d ⟨vx,v',n,c,C,p,rfl,b,l,⟨w,F,j,g⟩,y,z⟩;subst w F;rw[j,g]at l;refine⟨vx,rfl,?_,xk (rs:=rs) G (S:=λ_=>False) (λ_ e=>e.elim) l f.more y z (λ_ e=>.inl e) (λ_ e=>.inl e)⟩;simpa using b
end
end Go.Proofs.YthfpipieboophaaGreatDoor
