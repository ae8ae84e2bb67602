import Derived.Test.YthfpipieboophaaGreatDoorZLdh
namespace Go.Proofs.YthfpipieboophaaGreatDoor
set_option maxRecDepth 100000
set_option maxHeartbeats 40000000
open Go.RowKit Go.Sort Go.Shelf
section
open Go.Proofs.Tryz Go.Joins
variable{w1 W:World}{X:List (List UInt8)}{v9:Value}
abbrev jP(w:World):Prop:=Lib.TabIs prog w "internal/strconv.uint64pow10" .u64 Lib.pow10Tab
abbrev sV(b:List UInt8):Value:= .string ⟨b.toArray⟩
theorem rz:(prog.info? 9).map (λi=>(i.zero,i.size,i.bytes))=some (some (.string ⟨#[]⟩),1,16):=by kernel_rfl
theorem jA{b:ByteArray}:∀u∈[(.string b:Value)],u.oneCell'=true:=by
 intro u a;simp at a;subst a;rfl
theorem JB(w:World)(k:Nat)(os:Array Obj):Below w.heap.size w (grow (w.drewN k) os):=
 ⟨rfl,rfl,rfl,by simp[grow,World.drewN],λj a=>by show(w.heap++os)[j]?=w.heap[j]?;rw[Array.getElem?_append_left a]⟩
theorem mF(n:Int)(d: -9223372036854775808<=n)(c:n<=9223372036854775807)(w:World)(b:jP w):Calls prog 113 #[.int .i64 n] w λe a=>e=.returned (.string ⟨(Lib.itoa n).toArray⟩)/\Below w.heap.size w a:=by
 refine(Tryz.strconv_Itoa n d c w b).mono ?_;rintro e a ⟨rfl,k,os,rfl⟩;exact⟨rfl,JB w k os⟩
def aa(ns:List Int):List UInt8:=Lib.join (ns.map Lib.itoa) [32]
theorem NA(ns:List Int)(h:∀n∈ns,-9223372036854775808<=n/\n<=9223372036854775807):(Lib.joinTail [32] (ns.map Lib.itoa)).length<=ns.length*22:=by
 unfold Lib.joinTail
 induction ns with
 |nil=>simp
 |cons a r ih=>
  have h1:=Lib.itoa_length_le a (h a (by simp)).1 (h a (by simp)).2;have b:=ih (λn c=>h n (by simp[c]));simp only[List.map_cons,List.flatten_cons,List.length_append,List.length_cons,List.length_nil]at b⊢;omega
theorem bL(ns:List Int)(h:∀n∈ns,-9223372036854775808<=n/\n<=9223372036854775807):(aa ns).length<=ns.length*22:=by
 unfold aa
 cases ns with
 |nil=>simp[Lib.join_nil]
 |cons a r=>
  have h1:=Lib.itoa_length_le a (h a (by simp)).1 (h a (by simp)).2;have h2:=NA r (λn b=>h n (by simp[b]));rw[List.map_cons,Lib.join_cons,List.length_append,List.length_cons];omega
structure Tw(w1:World)(X:List (List UInt8))(v9:Value)(wr:World):Prop where
 low:Below w1.heap.size w1 wr
 row:wr.ownsRow w1.heap.size 9 1 v9 X.length (X.map sV)
theorem Tw.start(w1:World):Tw w1 [] (.slice none 0 0) w1:=⟨zI _ _,Ak _ _ _ _⟩
theorem Tw.go{wr:World}(h:Tw w1 X v9 wr)(a:Below wr.heap.size wr W):Tw w1 X v9 W:=
 ⟨h.low.trans (a.mono h.low.size),aL h.row a⟩
theorem Tw.step{c:World}{b:List UInt8}{g cap:Nat}(h:Tw w1 X v9 W)(a:c.ownsRow w1.heap.size 9 1 (.slice (some ⟨g,0,none⟩) (X.length+1) cap) (X.length+1) (X.map sV++[sV b]))(d:W.grownBy c v9.ownBlock):
  Tw w1 (X++[b]) (.slice (some ⟨g,0,none⟩) (X.length+1) cap) c:=
 ⟨h.low.grown d h.low.size (λk e=>(h.row.lt k e).1),by rw[List.length_append,List.map_append];simpa using a⟩
theorem nS{base:Nat}(X:List (List UInt8))(v:Value)(sep:ByteArray)(wr:World)(h:wr.ownsRow base 9 1 v X.length (X.map sV))(n:X.length<=140737488355328)(c:(Lib.join X sep.data.toList).length<=140737488355328):
  Calls prog 114 #[v,.string sep] wr λe f=>e=.returned (.string ⟨(Lib.join X sep.data.toList).toArray⟩)/\Below wr.heap.size wr f:=by
 have d:(X.map λb=>(⟨b.toArray⟩:ByteArray)).map (·.data.toList)=X:=by
  rw[List.map_map]
  conv=>rhs;rw[<-List.map_id X]
  rfl
 have k:=h.2
 rcases k with⟨rfl,i⟩|⟨g,cap,cur,rfl,h1,l,m,h4,h5,h6⟩
 .have o:=List.length_eq_zero_iff.1 i;subst o;refine(Tryz.strings_Join_none none 0 sep wr).mono ?_;rintro e f ⟨rfl,rfl⟩;exact⟨rfl,zI _ _⟩
 .have H:=Tryz.strings_Join g 0 cap (X.map λb=>(⟨b.toArray⟩:ByteArray)) sep wr (λj x a=>?_) (aD.1 l).1 (by rw[List.length_map];exact n) (by rw[List.length_map];exact m) (by rw[d];exact c)
  .rw[List.length_map,d]at H;exact H
  .have:=h.cells (g:=g) rfl j (.string x) (by rw[List.getElem?_map]at a⊢;cases hq:X[j]? with|none=>rw[hq]at a;simp at a|some y=>rw[hq]at a;simp at a;subst a;rfl);rw[bZ]at this;rw[Nat.zero_add];exact this
theorem xH(ns:List Int)(g off c:Nat)(w:World)(F:jP w)(o:∀n∈ns,-9223372036854775808<=n/\n<=9223372036854775807)(N:g<w.heap.size)(P:∀k n,ns[k]?=some n->w.cell? ⟨g,off+k,none⟩=some (.int .i64 n))(hl:ns.length<=1000):
  Calls prog 277 #[.slice (some ⟨g,off,none⟩) ns.length c] w λe l=>e=.returned (.string ⟨(aa ns).toArray⟩)/\Below w.heap.size w l:=by
 obtain⟨V,hi,x,y,z⟩:=Dw rz
 have M:Hid (∀n∈ns,∀W,Below w.heap.size w W->Calls prog 113 #[.int .i64 n] W λe l=>e=.returned (.string ⟨(Lib.itoa n).toArray⟩)/\Below W.heap.size W l):=λn f W Z=>mF n (o n f).1 (o n f).2 W (aG F Z)
 have H:Hid (∀v wr,Tw w (ns.map Lib.itoa) v wr->Calls prog 114 #[v,.string ⟨#[32]⟩] wr λe l=>e=.returned (.string ⟨(aa ns).toArray⟩)/\Below wr.heap.size wr l):=λv wr h=>by
  have f:=nS (ns.map Lib.itoa) v ⟨#[32]⟩ wr h.row (by rw[List.length_map];omega) (di (bL ns o) (by omega));exact f
 have L:=hid P
 have i1:(ns.length:Int)<=1000:=by omega
 clear P o F;go_enter func277,ntmps277;go_wp2;have A:Hid (Tw w [] (.slice none 0 0) w):=Tw.start w
 go_loopg [3,8] ns.length (λR v3 v8 wr=>∃(i:Nat),i<=ns.length/\R=ns.length -i/\v8=.int .i64 i/\Hid (Tw w ((ns.take i).map Lib.itoa) v3 wr))
 case atStart=>exact⟨0,gy _,rfl,rfl,A⟩
 case round=>
  obtain⟨i,hi2,E,rfl,I⟩:=hrel;have T:=hid E;clear E A
  by_cases hlt:i<ns.length
  .obtain⟨n,f⟩:∃n,ns[i]?=some n:=⟨_,dK hlt⟩;have hcx:wr.cell? ⟨g,off+i,none⟩=some (.int .i64 n):=(I.out.low.cell (p:=⟨g,off+i,none⟩) N).trans (L.out i n f)
   have s:Hid ((ns.take (i+1)).map Lib.itoa=(ns.take i).map Lib.itoa++[Lib.itoa n]):=by
    show(ns.take (i+1)).map Lib.itoa=(ns.take i).map Lib.itoa++[Lib.itoa n];rw[List.take_add_one,f];simp
   have wL:((ns.take i).map Lib.itoa).length<=1000:=by rw[List.length_map,List.length_take];omega
   have t:=M.out n (mh f) wr I.out.low;have t:=hid t;generalize(ns.take i).map Lib.itoa=X at *
   have j1:(0:Int)<=(i:Int):=by omega
   have Q:(i:Int)<(ns.length:Int):=by omega
   have hgw:g<wr.heap.size:=fO N I.out.low.size;clear f
   go_wp2_with (first
    |(go_at_call 113;refine t.out.mono ?_;rintro e d ⟨rfl,a⟩;have C:Hid (Tw w X u3 (d.alloc (.cells #[.string ⟨(Lib.itoa n).toArray⟩] 9))):=I.out.go (a.trans ((wh d _).mono a.size));have hl4:w.heap.size<=d.heap.size:=di I.out.low.size a.size;have N4:Hid (∀j u,([(.string ⟨(Lib.itoa n).toArray⟩:Value)])[j]?=some u->(d.alloc (.cells #[.string ⟨(Lib.itoa n).toArray⟩] 9)).cell? ((⟨d.heap.size,0,none⟩:Addr).add j)=some u):=World.news_of_block (vw d (.cells #[.string ⟨(Lib.itoa n).toArray⟩] 9));clear a)
    |(at_builtin;refine wpList_append_lies _ rfl _ _ _ rfl w.heap.size 9 V (.string ⟨#[]⟩) 1 16 underlying81 hi x y z rfl (by omega) u3 X.length (X.map sV) rfl C.out.row ⟨d.heap.size,0,none⟩ 1 1 [.string ⟨(Lib.itoa n).toArray⟩] rfl rfl N4.out jA (by omega) (by unfold maxLen;omega) (by omega) (by simp;omega) _ rfl ?_;intro U m w5 b G gI Y;have C5:Hid (Tw w (X++[Lib.itoa n]) (.slice (some ⟨U,0,none⟩) (X.length+1) m) w5):=C.out.step b G;clear b G gI Y)
    |fail)
   go_roundg (ns.length -(i+1))
   case measure=>have:=T.out;omega
   case rel=>exact⟨i+1,by omega,rfl,by first|rfl|(congr 1;omega)|go_num,by rw[s.out];exact C5.out⟩
  .have Q:¬((i:Int)<(ns.length:Int)):=by omega
   have K:ns.take i=ns:=nG (by omega);have q:=I.out;rw[K]at q;have r:Hid (Calls prog 114 #[u3,.string ⟨#[32]⟩] wr λe l=>e=.returned (.string ⟨(aa ns).toArray⟩)/\Below wr.heap.size wr l):=H.out u3 wr q;have B:=hid q.low;clear q K I H M L
   go_wp2_with (first
    |(go_at_call 114;refine r.out.mono ?_;rintro e d ⟨rfl,a⟩;have S:Hid (Below w.heap.size w d):=B.out.trans (a.mono B.out.size);clear a)
    |fail)
   go_ret;exact⟨rfl,S.out⟩
theorem jW(ns:List Int)(g off c:Nat)(w:World)(F:jP w)(o:∀n∈ns,-9223372036854775808<=n/\n<=9223372036854775807)(N:g<w.heap.size)(P:∀k n,ns[k]?=some n->w.cell? ⟨g,off+k,none⟩=some (.int .i64 n))(hl:ns.length<=1000):
  Calls prog 54 #[.slice (some ⟨g,off,none⟩) ns.length c] w λe l=>e=.returned (.string ⟨(aa ns).toArray⟩)/\Below w.heap.size w l:=by
 obtain⟨V,hi,x,y,z⟩:=Dw rz
 have M:Hid (∀n∈ns,∀W,Below w.heap.size w W->Calls prog 113 #[.int .i64 n] W λe l=>e=.returned (.string ⟨(Lib.itoa n).toArray⟩)/\Below W.heap.size W l):=λn f W Z=>mF n (o n f).1 (o n f).2 W (aG F Z)
 have H:Hid (∀v wr,Tw w (ns.map Lib.itoa) v wr->Calls prog 114 #[v,.string ⟨#[32]⟩] wr λe l=>e=.returned (.string ⟨(aa ns).toArray⟩)/\Below wr.heap.size wr l):=λv wr h=>by
  have f:=nS (ns.map Lib.itoa) v ⟨#[32]⟩ wr h.row (by rw[List.length_map];omega) (di (bL ns o) (by omega));exact f
 have L:=hid P
 have i1:(ns.length:Int)<=1000:=by omega
 clear P o F;go_enter func54,ntmps54;go_wp2;have A:Hid (Tw w [] (.slice none 0 0) w):=Tw.start w
 go_loopg [3,8] ns.length (λR v3 v8 wr=>∃(i:Nat),i<=ns.length/\R=ns.length -i/\v8=.int .i64 i/\Hid (Tw w ((ns.take i).map Lib.itoa) v3 wr))
 case atStart=>exact⟨0,gy _,rfl,rfl,A⟩
 case round=>
  obtain⟨i,hi2,E,rfl,I⟩:=hrel;have T:=hid E;clear E A
  by_cases hlt:i<ns.length
  .obtain⟨n,f⟩:∃n,ns[i]?=some n:=⟨_,dK hlt⟩;have hcx:wr.cell? ⟨g,off+i,none⟩=some (.int .i64 n):=(I.out.low.cell (p:=⟨g,off+i,none⟩) N).trans (L.out i n f)
   have s:Hid ((ns.take (i+1)).map Lib.itoa=(ns.take i).map Lib.itoa++[Lib.itoa n]):=by
    show(ns.take (i+1)).map Lib.itoa=(ns.take i).map Lib.itoa++[Lib.itoa n];rw[List.take_add_one,f];simp
   have wL:((ns.take i).map Lib.itoa).length<=1000:=by rw[List.length_map,List.length_take];omega
   have t:=M.out n (mh f) wr I.out.low;have t:=hid t;generalize(ns.take i).map Lib.itoa=X at *
   have j1:(0:Int)<=(i:Int):=by omega
   have Q:(i:Int)<(ns.length:Int):=by omega
   have hgw:g<wr.heap.size:=fO N I.out.low.size;clear f
   go_wp2_with (first
    |(go_at_call 113;refine t.out.mono ?_;rintro e d ⟨rfl,a⟩;have C:Hid (Tw w X u3 (d.alloc (.cells #[.string ⟨(Lib.itoa n).toArray⟩] 9))):=I.out.go (a.trans ((wh d _).mono a.size));have hl4:w.heap.size<=d.heap.size:=di I.out.low.size a.size;have N4:Hid (∀j u,([(.string ⟨(Lib.itoa n).toArray⟩:Value)])[j]?=some u->(d.alloc (.cells #[.string ⟨(Lib.itoa n).toArray⟩] 9)).cell? ((⟨d.heap.size,0,none⟩:Addr).add j)=some u):=World.news_of_block (vw d (.cells #[.string ⟨(Lib.itoa n).toArray⟩] 9));clear a)
    |(at_builtin;refine wpList_append_lies _ rfl _ _ _ rfl w.heap.size 9 V (.string ⟨#[]⟩) 1 16 underlying81 hi x y z rfl (by omega) u3 X.length (X.map sV) rfl C.out.row ⟨d.heap.size,0,none⟩ 1 1 [.string ⟨(Lib.itoa n).toArray⟩] rfl rfl N4.out jA (by omega) (by unfold maxLen;omega) (by omega) (by simp;omega) _ rfl ?_;intro U m w5 b G gI Y;have C5:Hid (Tw w (X++[Lib.itoa n]) (.slice (some ⟨U,0,none⟩) (X.length+1) m) w5):=C.out.step b G;clear b G gI Y)
    |fail)
   go_roundg (ns.length -(i+1))
   case measure=>have:=T.out;omega
   case rel=>exact⟨i+1,by omega,rfl,by first|rfl|(congr 1;omega)|go_num,by rw[s.out];exact C5.out⟩
  .have Q:¬((i:Int)<(ns.length:Int)):=by omega
   have K:ns.take i=ns:=nG (by omega);have q:=I.out;rw[K]at q;have r:Hid (Calls prog 114 #[u3,.string ⟨#[32]⟩] wr λe l=>e=.returned (.string ⟨(aa ns).toArray⟩)/\Below wr.heap.size wr l):=H.out u3 wr q;have B:=hid q.low;clear q K I H M L
   go_wp2_with (first
    |(go_at_call 114;refine r.out.mono ?_;rintro e d ⟨rfl,a⟩;have S:Hid (Below w.heap.size w d):=B.out.trans (a.mono B.out.size);clear a)
    |fail)
   go_ret;exact⟨rfl,S.out⟩
end
section
open Go.Proofs.Tryz Go.Joins
variable{W:World}
abbrev af(n:Int):Prop:= -9223372036854775808<=n/\n<=9223372036854775807
theorem BS{g:Nat}{ns:List Int}{T:TypeId}(h:W.heap[g]?=some (.cells (ns.map (Value.int .i64)).toArray T)):∀k n,ns[k]?=some n->W.cell? ⟨g,0+k,none⟩=some (.int .i64 n):=by
 intro k n a;rw[vE h,Nat.zero_add];simp[a]
theorem ku{a b:Int}(d:af a)(e:af b):∀n∈[a,b],af n:=by
 intro n c;simp at c
 rcases c with rfl|rfl
 .exact d
 .exact e
theorem xI(a b:Int)(j:af a)(i:af b)(w W:World)(h:jP w)(d:Below w.heap.size w W):
  Calls prog 277 #[.slice (some ⟨W.heap.size,0,none⟩) 2 2] (W.alloc (.cells #[.int .i64 a,.int .i64 b] 3)) λe f=>e=.returned (.string ⟨(aa [a,b]).toArray⟩)/\Below w.heap.size w f:=by
 have c:Below w.heap.size w (W.alloc (.cells #[.int .i64 a,.int .i64 b] 3)):=d.alloc d.size _;refine(xH [a,b] W.heap.size 0 2 _ (aG h c) (ku j i) (by simp) (BS (vw W (.cells #[.int .i64 a,.int .i64 b] 3))) (by simp)).mono ?_;rintro e f ⟨rfl,g⟩;exact⟨rfl,c.trans (g.mono c.size)⟩
def kZ(has:Bool)(t v:Int):List UInt8:=if has then aa [t,v]else[45]
theorem jX(a:Bool)(t v:Int)(b:af t)(c:af v):(kZ a t v).length<=44:=by
 unfold kZ
 split
 .have:=bL [t,v] (ku b c);simpa using this
 .simp
theorem Dz(a:Bool)(k t v:Int)(w:World)(f:jP w)(g:af t)(c:af v):
  Calls prog 278 #[.bool a,.agg #[.int .i64 k,.int .i64 t,.int .i64 v]] w λe b=>e=.returned (.string ⟨(kZ a t v).toArray⟩)/\Below w.heap.size w b:=by
 cases a
 .go_enter func278,ntmps278;go_wp2;go_ret;exact⟨rfl,wh _ _⟩
 .have d:Hid (Calls prog 277 #[.slice (some ⟨(w.alloc (.cells #[.int .i64 k,.int .i64 t,.int .i64 v] 37)).heap.size,0,none⟩) 2 2] ((w.alloc (.cells #[.int .i64 k,.int .i64 t,.int .i64 v] 37)).alloc (.cells #[.int .i64 t,.int .i64 v] 3)) λe b=>e=.returned (.string ⟨(aa [t,v]).toArray⟩)/\Below w.heap.size w b):=xI t v g c w _ f (wh _ _);simp only[World.size_alloc]at d;clear f g c;go_enter func278,ntmps278
  go_wp2_with (first
   |(go_at_call 277;refine d.out.mono ?_;rintro e b ⟨rfl,h⟩)
   |fail)
  go_ret;exact⟨rfl,h⟩
def aW(o:O):List UInt8:=Lib.itoa o.k++[58,32]++kZ o.hl o.lt o.lv++[32]++kZ o.hr o.rt o.rv
structure Fits(o:O):Prop where
 k:af o.k
 lt:af o.lt
 lv:af o.lv
 rt:af o.rt
 rv:af o.rv
theorem iY(o:O)(h:Fits o):(aW o).length<=112:=by
 unfold aW;have h1:=Lib.itoa_length_le o.k h.k.1 h.k.2;have h2:=jX o.hl o.lt o.lv h.lt h.lv;have h3:=jX o.hr o.rt o.rv h.rt h.rv;simp only[List.length_append,List.length_cons,List.length_nil];omega
abbrev tq(o:O):Obj:= .cells #[.int .i64 o.k,.int .i64 o.lk,.int .i64 o.lt,.int .i64 o.lv,.int .i64 o.rk,.int .i64 o.rt,.int .i64 o.rv,.bool o.hl,.bool o.hr] 89
abbrev iH(b:Nat)(o:O)(W:World):Prop:=W.cell? ⟨b,0,none⟩=some (.int .i64 o.k)/\W.cell? ⟨b,1,none⟩=some (.int .i64 o.lk)/\W.cell? ⟨b,2,none⟩=some (.int .i64 o.lt)/\W.cell? ⟨b,3,none⟩=some (.int .i64 o.lv)/\W.cell? ⟨b,4,none⟩=some (.int .i64 o.rk)/\W.cell? ⟨b,5,none⟩=some (.int .i64 o.rt)/\W.cell? ⟨b,6,none⟩=some (.int .i64 o.rv)/\W.cell? ⟨b,7,none⟩=some (.bool o.hl)/\W.cell? ⟨b,8,none⟩=some (.bool o.hr)
theorem Gw{b:Nat}{o:O}(h:W.heap[b]?=some (tq o)):iH b o W:=by
 refine⟨?_,?_,?_,?_,?_,?_,?_,?_,?_⟩ <;>(rw[vE h];rfl)
theorem uW(o:O)(w:World)(u:jP w)(c:Fits o):Calls prog 216 #[vO o] w λe g=>e=.returned (.string ⟨(aW o).toArray⟩)/\Below w.heap.size w g:=by
 have n:Below w.heap.size w (w.alloc (tq o)):=wh _ _;have f:=vw w (tq o)
 have s:w.heap.size<(w.alloc (tq o)).heap.size:=by simp
 obtain⟨a,hw1⟩:∃a,a=w.alloc (tq o):=⟨_,rfl⟩;rw[<-hw1]at n f s
 have q:Hid (∀W,Below a.heap.size a W->Below w.heap.size w W):=λW d=>n.trans (d.mono n.size)
 have z:Hid (∀W,Below a.heap.size a W->Calls prog 113 #[.int .i64 o.k] W λe g=>e=.returned (.string ⟨(Lib.itoa o.k).toArray⟩)/\Below a.heap.size a g):=λW d=>(mF o.k c.k.1 c.k.2 W (aG u (q.out W d))).mono λe g h=>⟨h.1,d.trans (h.2.mono d.size)⟩
 have H:Hid (∀b k t v W,af t/\af v->Below a.heap.size a W->Calls prog 278 #[.bool b,.agg #[.int .i64 k,.int .i64 t,.int .i64 v]] W λe g=>e=.returned (.string ⟨(kZ b t v).toArray⟩)/\Below a.heap.size a g):=λb k t v W y d=>(Dz b k t v W (aG u (q.out W d)) y.1 y.2).mono λe g h=>⟨h.1,d.trans (h.2.mono d.size)⟩
 have l:Hid (∀W,Below a.heap.size a W->iH w.heap.size o W):=λW d=>Gw ((d.block _ s).trans f)
 have A:Hid (af o.lt/\af o.lv):=⟨c.lt,c.lv⟩;have x:Hid (af o.rt/\af o.rv):=⟨c.rt,c.rv⟩;have E:=Lib.itoa_length_le o.k c.k.1 c.k.2;have F:=jX o.hl o.lt o.lv c.lt c.lv;have C:=jX o.hr o.rt o.rv c.rt c.rv;obtain⟨k,lk,lt,lv,rk,rt,rv,j,p⟩:=o;simp only at l A x E F C z hw1
 have s1:¬9223372036854775807<(Lib.itoa k).length+2:=by omega
 have s2:¬9223372036854775807<(Lib.itoa k).length+2+(kZ j lt lv).length:=by omega
 have s3:¬9223372036854775807<(Lib.itoa k).length+2+(kZ j lt lv).length+1:=by omega
 have s4:¬9223372036854775807<(Lib.itoa k).length+2+(kZ j lt lv).length+1+(kZ p rt rv).length:=by omega
 have G:Hid (Below a.heap.size a a.drew):=(zI _ _).drew;have c1:iH w.heap.size ⟨k,lk,lt,lv,rk,rt,rv,j,p⟩ a:=l.out _ (zI _ _);clear c u n f s E F C;simp only[iH]at l c1;simp only[vO];go_enter func216,ntmps216;go_wp2;rw[<-hw1];clear hw1
 go_region_held3 (λW=>iH w.heap.size ⟨k,lk,lt,lv,rk,rt,rv,j,p⟩ W) (first|exact c1|exact l.out _ r.out|exact l.out _ B.out|fail) (first
  |(go_at_call 113;refine(z.out _ G.out).mono ?_;rintro e w2 ⟨rfl,i⟩;have B:=hid i;clear i)
  |(go_at_call 278;refine(H.out _ _ _ _ _ (by first|exact A.out|exact x.out) (by first|exact r.out|exact B.out)).mono ?_;rintro e w3 ⟨rfl,m⟩;have r:=hid m;clear m)
  |fail)
 go_wp2;go_ret;refine⟨?_,q.out _ r.out⟩;congr 2
def dG(c:Ch):List UInt8:=(if c.g then 45 else 43)::aW c.x
theorem nT(c:Ch)(h:Fits c.x):(dG c).length<=113:=by
 unfold dG;have:=iY c.x h;simp only[List.length_cons];omega
theorem nU(c:Ch)(w:World)(j:jP w)(b:Fits c.x):Calls prog 276 #[vC c.x c.g] w λe a=>e=.returned (.string ⟨(dG c).toArray⟩)/\Below w.heap.size w a:=by
 obtain⟨x,g⟩:=c;simp only at b⊢;have l:=iY x b
 have s1:¬9223372036854775807<1+(aW x).length:=by omega
 have i:Hid (∀W,Below w.heap.size w W->Calls prog 216 #[vO x] W λe a=>e=.returned (.string ⟨(aW x).toArray⟩)/\Below w.heap.size w a):=λW d=>(uW x W (aG j d) b).mono λe a h=>⟨h.1,d.trans (h.2.mono d.size)⟩
 have m:Hid (∀o,Below w.heap.size w (w.alloc o)):=λo=>wh _ _
 clear l j b;obtain⟨k,lk,lt,lv,rk,rt,rv,hl,hr⟩:=x;simp only[vO]at i;simp only[vC];cases g
 .go_enter func276,ntmps276
  go_wp2_with (first
   |(go_at_call 216;refine(i.out _ (m.out _)).mono ?_;rintro e a ⟨rfl,f⟩)
   |fail)
  go_ret;refine⟨?_,f⟩;congr 2
 .go_enter func276,ntmps276
  go_wp2_with (first
   |(go_at_call 216;refine(i.out _ (m.out _)).mono ?_;rintro e a ⟨rfl,f⟩)
   |fail)
  go_ret;refine⟨?_,f⟩;congr 2
def eH(c:Int):List UInt8:=[101,114,114,111,114,32]++Lib.itoa c
theorem tu(c:Int)(h:af c):(eH c).length<=27:=by
 have:=Lib.itoa_length_le c h.1 h.2;unfold eH;simp only[List.length_append,List.length_cons,List.length_nil];omega
theorem rA{base:Nat}(X:List (List UInt8))(v:Value)(wr:World)(h:wr.ownsRow base 9 1 v X.length (X.map sV))(c:X.length<=140737488355328)(a:(Lib.join X [44,32]).length<=140737488355328):
  Calls prog 217 #[v] wr λe b=>e=.returned (.string ⟨(Lib.join X [44,32]).toArray⟩)/\Below wr.heap.size wr b:=by
 have H:Hid (Calls prog 114 #[v,.string ⟨#[44,32]⟩] wr λe b=>e=.returned (.string ⟨(Lib.join X [44,32]).toArray⟩)/\Below wr.heap.size wr b):=nS X v ⟨#[44,32]⟩ wr h c a;clear h c a;go_enter func217,ntmps217
 go_wp2_with (first
  |(go_at_call 114;refine H.out.mono ?_;rintro e b ⟨rfl,d⟩)
  |fail)
 go_ret;exact⟨rfl,d⟩
end
section
open Go.Proofs.Tryz
theorem RP(c:Int)(w:World):(binOp .neq 29 (.iface 24 (.int .i64 c)) .nilIface).run prog w=.ok (.bool true) w:=by kernel_rfl
theorem iZ(w:World):Calls prog 213 #[.nilIface] w λe a=>e=.returned (.tuple #[])/\a=w:=by
 go_enter func213,ntmps213;go_wp2
 go_end0
 exact⟨rfl,rfl⟩
abbrev thrown(c:Int):Ending:= .panicked [{ v:= .iface 24 (.int .i64 c),recovered:=false}]
theorem jY(c:Int)(w:World):Calls prog 213 #[.iface 24 (.int .i64 c)] w λe a=>e=thrown c/\a=w:=by
 have hq:=RP c;go_enter func213,ntmps213;go_wp2;exact⟨rfl,rfl,rfl⟩
def iJ(r:Nat):Bool:=(r:Int)==32
def aH(s:List UInt8):List (List UInt8):=(Lib.goFieldsP iJ ⟨s.toArray⟩).map (·.data.toList)
theorem Gx(w:World):PredAt prog 221 #[] encR iJ w:=λW r _=>by
 unfold FnGives;go_enter func221,ntmps221;go_wp2;go_ret;exact⟨rfl,0,rfl⟩
theorem dS(s:List UInt8):∀y∈aH s,y.length<=s.length:=by
 intro y c;obtain⟨x,b,rfl⟩:=oz.1 c;unfold Lib.goFieldsP at b;obtain⟨a,_,rfl⟩:=oz.1 b;show((ByteArray.mk s.toArray).extract a.1 a.2).data.toList.length<=s.length;rw[Array.length_toList,ByteArray.data_extract,Array.size_extract];simp;omega
theorem NB(s:List UInt8):(Lib.goFieldsP iJ ⟨s.toArray⟩).map Value.string=(aH s).map sV:=by
 unfold aH;rw[List.map_map];rfl
theorem Am(s:List UInt8)(w:World)(c:s.length<=4294967296):
  Calls prog 149 #[.string ⟨s.toArray⟩] w λe a=>∃A,e=.returned (.slice (some ⟨A,0,none⟩) (aH s).length (aH s).length)/\w.heap.size<=A/\a.ownsRow w.heap.size 9 1 (.slice (some ⟨A,0,none⟩) (aH s).length (aH s).length) (aH s).length ((aH s).map sV)/\Below w.heap.size w a:=by
 have b:(aH s).length=(Lib.goFieldsP iJ ⟨s.toArray⟩).length:=by unfold aH;rw[List.length_map]
 have H:Hid (Calls prog 83 #[.string ⟨s.toArray⟩,.func (.func 221) #[] #[]] w λe a=>∃A,e=.returned (.slice (some ⟨A,0,none⟩) (aH s).length (aH s).length)/\w.heap.size<=A/\a.ownsRow w.heap.size 9 1 (.slice (some ⟨A,0,none⟩) (aH s).length (aH s).length) (aH s).length ((aH s).map sV)/\Below w.heap.size w a):=by
  have:=Tryz.strings_FieldsFunc 221 #[] (enters_of func221 (by kernel_rfl) rfl) iJ ⟨s.toArray⟩ w (by show s.toArray.size<=_;simpa using c) (Gx w);rw[NB,<-b]at this;exact this
 clear b c;go_enter func149,ntmps149
 go_wp2_with (first
  |(go_at_call 83;refine H.out.mono ?_;rintro e a ⟨A,rfl,h⟩)
  |fail)
 go_ret;exact⟨A,rfl,h⟩
def numOf(y:List UInt8):Option Int:=match Lib.parseIntB 64 y with|.ok v=>if Lib.itoa v=y then some v else none|_=>none
def numsOf:List (List UInt8)->Option (List Int)
 |[]=>some []
 |y::r=>match numOf y with|none=>none|some n=>(numsOf r).map (n::·)
theorem lg:∀(vs:List (List UInt8)) (i:Nat) (y:List UInt8),vs[i]?=some y->numOf y=none->numsOf vs=none
 |[],i,y,h,_=>by simp at h
 |x::r,0,y,h,hn=>by simp at h;subst h;simp[numsOf,hn]
 |x::r,i+1,y,h,hn=>by
  have:=lg r i y (by simpa using h) hn;unfold numsOf
  split
  .rfl
  .rw[this];rfl
theorem uX:∀(vs:List (List UInt8)) (ns:List Int),vs.map numOf=ns.map some->numsOf vs=some ns
 |[],ns,h=>by simp at h;subst h;rfl
 |x::r,[],h=>by simp at h
 |x::r,n::ns,h=>by
  simp at h;unfold numsOf;rw[h.1,uX r ns h.2];rfl
theorem rC{y:List UInt8}{v:Int}(h:Lib.parseIntB 64 y=.ok v):af v:=by
 unfold Lib.parseIntB at h
 split at h
 .cases h
 .simp only at h
  split at h
  .cases h
  .cases h
  .rename_i u _
   split at h
   .cases h
   .split at h
    .cases h
    .rename_i h1 h2
     injection h with h
     split at h
     .rename_i hn
      have:¬2 ^ (64 -1)<u:=λe=>h2 ⟨hn,e⟩
      omega
     .rename_i hn
      have:¬2 ^ (64 -1)<=u:=λe=>h1 ⟨hn,e⟩
      omega
end
section
open Go.Proofs.Tryz Go.Joins
variable{y:List UInt8}{v:Int}
theorem xJ(h:Lib.parseIntB 64 y=.ok v)(hs:y.length<=1000000)(W:World):Calls prog 85 #[.string ⟨y.toArray⟩,.int .i64 10,.int .i64 64] W λe a=>e=.returned (.tuple #[.int .i64 v,.nilIface])/\Below W.heap.size W a:=by
 refine(Tryz.strconv_ParseInt_10_at64_ok ⟨y.toArray⟩ (by show y.toArray.size<=_;simp;omega) v h W).mono ?_;rintro e a ⟨rfl,rfl|⟨t,rfl⟩⟩
 .exact⟨rfl,zI _ _⟩
 .exact⟨rfl,below_bytesWorld _ _ _ _ (aO _)⟩
theorem tC(h:∀v,Lib.parseIntB 64 y≠ .ok v)(hs:y.length<=1000000)(W:World)(i:aU W):Calls prog 85 #[.string ⟨y.toArray⟩,.int .i64 10,.int .i64 64] W λe a=>∃n t u,e=.returned (.tuple #[.int .i64 n,.iface t u])/\Below W.heap.size W a:=by
 have g:(ByteArray.mk y.toArray).size<=281474976710656:=by show y.toArray.size<=_;simp;omega
 obtain⟨q,j,p⟩:=i.e5;obtain⟨o,m,l⟩:=i.e6
 cases hr:Lib.parseIntB 64 y with
 |ok v=>exact absurd hr (h v)
 | «syntax» =>
  refine(Tryz.strconv_ParseInt_10_at64_syntax ⟨y.toArray⟩ g hr q W j p).mono ?_;rintro e a ⟨N,rfl,_,_,c⟩;exact⟨_,_,_,rfl,c⟩
 |range=>
  refine(Tryz.strconv_ParseInt_10_at64_range ⟨y.toArray⟩ g hr o W m l).mono ?_;rintro e a ⟨N,rfl,_,_,c⟩;exact⟨_,_,_,rfl,c⟩
theorem qz(h:af v)(W:World)(c:jP W):Calls prog 86 #[.int .i64 v,.int .i64 10] W λe a=>e=.returned (.string ⟨(Lib.itoa v).toArray⟩)/\Below W.heap.size W a:=by
 refine(Tryz.strconv_FormatInt_10 v h.1 h.2 W c).mono ?_;rintro e a ⟨rfl,k,os,rfl⟩;exact⟨rfl,JB W k os⟩
structure Nb(w:World)(b off d k:Nat)(vs:List (List UInt8))(ns:List Int)(W:World):Prop where
 low:Below w.heap.size w W
 wrd:∀j y,vs[j]?=some y->W.cell? ⟨b,off+j,none⟩=some (sV y)
 nums:W.heap[d]?=some (.cells (ns.map (Value.int .i64)++List.replicate (k -ns.length) (Value.int .i64 0)).toArray 3)
 ge:w.heap.size<=d
 ngw:b<w.heap.size
 got:(vs.take ns.length).map numOf=ns.map some
section
variable{w:World}{b off d k:Nat}{vs:List (List UInt8)}{ns:List Int}{W f:World}
theorem Nb.lt(h:Nb w b off d k vs ns W):d<W.heap.size:=(aD.1 h.nums).1
theorem Nb.below(h:Nb w b off d k vs ns W)(a:Below W.heap.size W f):Nb w b off d k vs ns f:=
 ⟨h.low.trans (a.mono h.low.size),λj n c=>(a.cell (p:=⟨b,off+j,none⟩) (World.block_lt_of_cell? _ _ (h.wrd j n c))).trans (h.wrd j n c),(a.block _ h.lt).trans h.nums,h.ge,h.ngw,h.got⟩
theorem Nb.cells(h:Nb w b off d k vs ns W)(hlt:ns.length<k):W.cell? ⟨d,ns.length,none⟩=some (.int .i64 0)/\W.frozen? ⟨d,ns.length,none⟩=false:=by
 refine⟨?_,x9 h.nums ns.length⟩;rw[vE h.nums,List.getElem?_toArray,pY (by simp),List.getElem?_replicate,if_pos (by simp;omega)]
theorem Nb.store(h:Nb w b off d k vs ns W)(hlt:ns.length<k){n:Int}(i:vs[ns.length]?=some y)(o:numOf y=some n):Nb w b off d k vs (ns++[n]) (W.setCell ⟨d,ns.length,none⟩ (.int .i64 n)):=by
 have l:∀j,j≠d->(W.setCell ⟨d,ns.length,none⟩ (.int .i64 n)).heap[j]?=W.heap[j]? :=λj e=>zw _ _ _ _ e
 have c:b≠d:=by have:=h.ge;have:=h.ngw;omega
 refine⟨h.low.setCell (p:=⟨d,ns.length,none⟩) h.ge _,λj m g=>(World.cell?_of_block (w:=W) (a:=⟨b,off+j,none⟩) (l b c)).trans (h.wrd j m g),?_,h.ge,h.ngw,?_⟩
 .rw[yc h.nums];congr 2;simp only[List.setIfInBounds_toArray];congr 1;rw[List.set_append_right _ _ (by simp)];simp only[List.map_append,List.append_assoc,List.map_cons,List.map_nil,List.length_map,List.singleton_append,List.length_append,List.length_cons,List.length_nil];congr 1;obtain⟨r,hr⟩:∃r,k -ns.length=r+1:=⟨k -ns.length -1,by omega⟩;rw[hr,Nat.sub_self,List.replicate_succ,List.set_cons_zero,show k -(ns.length+(0+1))=r by omega]
 .rw[List.length_append,List.length_singleton,List.take_add_one,i];simp[h.got,o]
end
def fV(vs:List (List UInt8))(base:Nat)(e:Ending)(w':World):Prop:=
 match numsOf vs with
 |some ns=>∃g,base<=g/\e=.returned (.slice (some ⟨g,0,none⟩) ns.length ns.length)/\w'.heap[g]?=some (.cells (ns.map (Value.int .i64)).toArray 3)
 |none=>e=thrown 3
theorem nV(vs:List (List UInt8))(b off c:Nat)(U:Option Addr)(w:World)(hG:aU w)(hl:vs.length<=100)(R:∀y∈vs,y.length<=1000000)(C:b<w.heap.size)(X:∀j y,vs[j]?=some y->w.cell? ⟨b,off+j,none⟩=some (sV y))(M:vs≠[]->U=some ⟨b,off,none⟩):
  Calls prog 150 #[.slice U vs.length c] w λe a=>fV vs w.heap.size e a/\Below w.heap.size w a:=by
 obtain⟨E,DD,hmk⟩:∃E:Array Value,Hid (E=(List.replicate vs.length (Value.int .i64 0)).toArray)/\∀W:World,(Instr.makeSlice 84 (.int .i64 vs.length) (.int .i64 vs.length)).run prog W=.ok (.slice (some ⟨W.heap.size,0,none⟩) vs.length vs.length) (W.alloc (.cells E 3)):=wM vs.length hl
 have R0:Nb w b off w.heap.size vs.length vs [] (w.alloc (.cells E 3)):=by
  refine⟨wh _ _,λj y l=>((wh w (.cells E 3)).cell (p:=⟨b,off+j,none⟩) C).trans (X j y l),?_,aO _,C,by simp⟩;rw[heap_alloc_new,DD.out];simp
 have i1:(vs.length:Int)<=100:=by omega
 clear X DD;go_enter func150,ntmps150;go_wp2;have F:=hid R0;clear R0;revert F;generalize w.alloc (.cells E 3)=w2;intro F;clear hmk
 go_loopg [13] vs.length (λZ S wr=>∃ns:List Int,ns.length<=vs.length/\Z=vs.length -ns.length/\S=.int .i64 ns.length/\Hid (Nb w b off w.heap.size vs.length vs ns wr))
 case atStart=>exact⟨[],gy _,rfl,rfl,F⟩
 case round=>
  obtain⟨ns,hile,V,rfl,I⟩:=hrel;have HG:=hid V;clear V F
  by_cases hlt:ns.length<vs.length
  .obtain⟨y,l⟩:∃y,vs[ns.length]?=some y:=⟨_,dK hlt⟩
   have L:vs≠[]:=λe=>by rw[e]at hlt;simp at hlt
   have ho:=M L;subst ho;have hcw:=I.out.wrd ns.length y l;have o:=R y (mh l)
   have j1:(0:Int)<=(ns.length:Int):=by omega
   have Y:(ns.length:Int)<(vs.length:Int):=by omega
   have hgr:b<wr.heap.size:=fO C I.out.low.size;have r:=hG.below I.out.low
   cases hp:Lib.parseIntB 64 y with
   |ok v=>
    have G:=rC hp
    by_cases hq:Lib.itoa v=y
    .have i:numOf y=some v:=by unfold numOf;rw[hp];simp[hq]
     have A:Hid (Calls prog 85 #[.string ⟨y.toArray⟩,.int .i64 10,.int .i64 64] wr λe a=>e=.returned (.tuple #[.int .i64 v,.nilIface])/\Hid (Nb w b off w.heap.size vs.length vs ns a/\jP a)):=(xJ hp o wr).mono λe a h=>⟨h.1,I.out.below h.2,aG r.g.tab h.2⟩
     have Q:Hid (∀W,Hid (Nb w b off w.heap.size vs.length vs ns W/\jP W)->Calls prog 86 #[.int .i64 v,.int .i64 10] W λe a=>e=.returned (.string ⟨y.toArray⟩)/\(a.cell? ⟨w.heap.size,ns.length,none⟩=some (.int .i64 0)/\a.frozen? ⟨w.heap.size,ns.length,none⟩=false/\w.heap.size<a.heap.size)/\Hid (Nb w b off w.heap.size vs.length vs ns a)):=λW s=>(qz G W s.out.2).mono λe a h=>by
      have q:=s.out.1.below h.2;exact⟨by rw[h.1,hq],⟨(q.cells hlt).1,(q.cells hlt).2,q.lt⟩,q⟩
     have HS:Hid (∀W,Hid (Nb w b off w.heap.size vs.length vs ns W)->Nb w b off w.heap.size vs.length vs (ns++[v]) (W.setCell ⟨w.heap.size,ns.length,none⟩ (.int .i64 v))):=λW s=>s.out.store hlt l i
     clear I l hp hq i r G
     go_wp2_with (first
      |(go_at_call 85;refine A.out.mono ?_;rintro e P ⟨rfl,z⟩)
      |(go_at_call 86;refine(Q.out _ z).mono ?_;rintro e w4 ⟨rfl,hc4,T⟩)
      |fail)
     go_roundg (vs.length -(ns.length+1))
     all_goals first
      |(have:=HG.out;omega)
      |exact⟨ns++[v],by simp;omega,by simp,by first|rfl|(simp;done)|(congr 1;simp)|(simp;omega),HS.out _ T⟩
    .have i:numsOf vs=none:=lg vs ns.length y l (by unfold numOf;rw[hp];simp[hq])
     have x:Hid (∀W,fV vs w.heap.size (thrown 3) W):=λW=>by unfold fV;rw[i]
     have A:Hid (Calls prog 85 #[.string ⟨y.toArray⟩,.int .i64 10,.int .i64 64] wr λe a=>e=.returned (.tuple #[.int .i64 v,.nilIface])/\Hid (Below w.heap.size w a/\jP a)):=(xJ hp o wr).mono λe a h=>⟨h.1,I.out.low.trans (h.2.mono I.out.low.size),aG r.g.tab h.2⟩
     have Q:Hid (∀W,Hid (Below w.heap.size w W/\jP W)->Calls prog 86 #[.int .i64 v,.int .i64 10] W λe a=>e=.returned (.string ⟨(Lib.itoa v).toArray⟩)/\Hid (Below w.heap.size w a)):=λW s=>(qz G W s.out.2).mono λe a h=>⟨h.1,s.out.1.trans (h.2.mono s.out.1.size)⟩
     have WL:(Lib.itoa v==y)=false:=by simpa using hq
     have hqn:(Lib.itoa v !=y)=true:=by simpa using hq
     clear I l hp i r G
     go_wp2_with (first
      |(go_at_call 85;refine A.out.mono ?_;rintro e P ⟨rfl,z⟩)
      |(go_at_call 86;refine(Q.out _ z).mono ?_;rintro e w4 ⟨rfl,T⟩)
      |fail)
     exact⟨rfl,x.out _,T.out⟩
   | «syntax» =>
    have m:∀v,Lib.parseIntB 64 y≠ .ok v:=λv e=>by rw[hp]at e;cases e
    have i:numsOf vs=none:=lg vs ns.length y l (by unfold numOf;rw[hp])
    have x:Hid (∀W,fV vs w.heap.size (thrown 3) W):=λW=>by unfold fV;rw[i]
    have A:Hid (Calls prog 85 #[.string ⟨y.toArray⟩,.int .i64 10,.int .i64 64] wr λe a=>∃n t u,e=.returned (.tuple #[.int .i64 n,.iface t u])/\Hid (Below w.heap.size w a)):=(tC m o wr r).mono λe a ⟨n,t,u,K,q⟩=>⟨n,t,u,K,I.out.low.trans (q.mono I.out.low.size)⟩
    clear I l hp m i r
    go_wp2_with (first
     |(go_at_call 85;refine A.out.mono ?_;rintro e P ⟨n,t,u,rfl,z⟩)
     |fail)
    exact⟨rfl,x.out _,z.out⟩
   |range=>
    have m:∀v,Lib.parseIntB 64 y≠ .ok v:=λv e=>by rw[hp]at e;cases e
    have i:numsOf vs=none:=lg vs ns.length y l (by unfold numOf;rw[hp])
    have x:Hid (∀W,fV vs w.heap.size (thrown 3) W):=λW=>by unfold fV;rw[i]
    have A:Hid (Calls prog 85 #[.string ⟨y.toArray⟩,.int .i64 10,.int .i64 64] wr λe a=>∃n t u,e=.returned (.tuple #[.int .i64 n,.iface t u])/\Hid (Below w.heap.size w a)):=(tC m o wr r).mono λe a ⟨n,t,u,K,q⟩=>⟨n,t,u,K,I.out.low.trans (q.mono I.out.low.size)⟩
    clear I l hp m i r
    go_wp2_with (first
     |(go_at_call 85;refine A.out.mono ?_;rintro e P ⟨n,t,u,rfl,z⟩)
     |fail)
    exact⟨rfl,x.out _,z.out⟩
  .have Y:¬((ns.length:Int)<(vs.length:Int)):=by omega
   have H:ns.length=vs.length:=by omega
   have N:=I.out.got;rw[H,List.take_length]at N;have B:=I.out.nums;rw[H,Nat.sub_self,List.replicate_zero,List.append_nil]at B
   have x:Hid (fV vs w.heap.size (.returned (.slice (some ⟨w.heap.size,0,none⟩) vs.length vs.length)) wr):=by
    show fV vs w.heap.size (.returned (.slice (some ⟨w.heap.size,0,none⟩) vs.length vs.length)) wr;unfold fV;rw[uX vs ns N];exact⟨w.heap.size,aO _,by rw[H],B⟩
   have HB:=hid I.out.low;clear I N B H;go_wp2;go_ret;exact⟨x.out,HB.out⟩
end
section
variable{n a:Nat}{st:Sx}{S:Nat->Prop}{W:World}
def jI(c:Int):Value:=if c=0 then .nilIface else .iface 24 (.int .i64 c)
structure dH(n:Nat)(st:Sx):Prop where
 ex:∃A B,Holds st.x A B/\st.L.Perm (kv st.x.lo st.x.hi st.x.mode A B)/\A.length+B.length<=n/\(∀r∈A,r.small)/\(∀r∈B,r.small)
 plan:dn st.x.lo st.x.hi st.x.mode
 l0:st.x.R0.length<=300
 l1:st.x.R1.length<=300
 late:0<=st.x.late/\st.x.late<=n
 m0: -1099511627777<=st.x.m0/\st.x.m0<=1099511627776
 m1: -1099511627777<=st.x.m1/\st.x.m1<=1099511627776
 f0:0<=st.f0/\st.f0<=n
 f1:0<=st.f1/\st.f1<=n
theorem dH.more{m:Nat}(h:dH n st)(hm:n<=m):dH m st:=by
 obtain⟨⟨A,B,f,k,a3,i,b⟩,c,d,j,h5,g,e,h8,h9⟩:=h;exact⟨⟨A,B,f,k,by omega,i,b⟩,c,d,j,by omega,g,e,by omega,by omega⟩
theorem dH.jok(h:dH n st)(hn:n<=1600):DF st.x:=by
 obtain⟨A,B,b,_,hl,_,_⟩:=h.ex;have:=h.late;exact UF b h.plan h.l0 h.l1 (by omega) (by omega) (by omega)
theorem dH.len(h:dH n st)(b:n<=1600):st.L.length<=700000:=by
 obtain⟨A,B,_,c,d,_,_⟩:=h.ex;rw[c.length_eq];exact o8 _ _ _ A B n b d
theorem dH.tell(h:dH n st):∀o∈st.L,iK o:=by
 obtain⟨A,B,_,b,_,e,c⟩:=h.ex
 exact λo d=>Gy e c o (b.subset d)
theorem dH.sv(h:dH n st)(j:n<=1600):DI st.x st.f0 st.f1:=by
 obtain⟨A,B,d,hL,hl,k,i⟩:=h.ex;have b:=h.jok j;have g:=h.late;have e:=h.f0;have f:=h.f1;exact⟨h.plan,h.m0,h.m1,⟨g.1,by omega⟩,⟨e.1,by omega⟩,⟨f.1,by omega⟩,b.s0,b.s1,b.l0,b.l1,λy c=>⟨d.good0 k y c,(b.n0 y c).1,by have:=(b.n0 y c).2;omega⟩,λy c=>⟨d.good1 i y c,(b.n1 y c).1,by have:=(b.n1 y c).2;omega⟩⟩
def Sx.feed0(st:Sx)(k t v:Int):Int×Sx:=
 if au k t v=false then(1,st)
 else if t<=st.x.m0 then(10,⟨{ st.x with late:=bR st.x.late},aZ st.f0,st.f1,st.L⟩)
 else if st.x.m1<t+st.x.hi/\300<=st.x.R0.length then(12,st)
 else(0,⟨st.x.fed0 k t v,aZ st.f0,st.f1,iE st.L (qc st.x ⟨k,t,v⟩)⟩)
theorem dH.feed0(h:dH n st)(hn:n<=1600)(k t v:Int):dH (n+1) (st.feed0 k t v).2:=by
 unfold Sx.feed0
 by_cases hg:au k t v=false
 .rw[if_pos hg];exact h.more (by omega)
 rw[if_neg hg]
 have d:au k t v=true:=by simpa using hg
 have hf0:=h.f0;have hf1:=h.f1
 have hs0:aZ st.f0=st.f0+1:=by unfold aZ;rw[if_neg (by omega)]
 have f:=h.late
 have hm:bR st.x.late=st.x.late+1:=by unfold bR;rw[if_neg (by omega)]
 by_cases hl:t<=st.x.m0
 .rw[if_pos hl];obtain⟨A,B,b,i,c,e,l⟩:=h.ex;exact⟨⟨A,B,⟨b.r0,b.r1,b.s0,b.s1⟩,i,by omega,e,l⟩,h.plan,h.l0,h.l1,⟨by show 0<=bR st.x.late;omega,by show bR st.x.late<=_;omega⟩,h.m0,h.m1,by show 0<=aZ st.f0/\aZ st.f0<=_;omega,by show 0<=st.f1/\st.f1<=_;omega⟩
 rw[if_neg hl]
 by_cases hr:st.x.m1<t+st.x.hi/\300<=st.x.R0.length
 .rw[if_pos hr];exact h.more (by omega)
 rw[if_neg hr];obtain⟨A,B,b,i,c,e,l⟩:=h.ex;have j:(⟨k,t,v⟩:Rw).small:=dI (r:=⟨k,t,v⟩) d;have s:=b.fed0 ⟨k,t,v⟩ (by show st.x.m0<t;omega) (by omega);have o:=b.view0 ⟨k,t,v⟩ (by show st.x.m0<t;omega) i;refine⟨⟨A++[(⟨k,t,v⟩:Rw)],B,s,o.2,by simp only[List.length_append,List.length_cons,List.length_nil];omega,?_,?_⟩,h.plan,?_,?_,⟨f.1,by show st.x.late<=_;omega⟩,h.m0,h.m1,by show 0<=aZ st.f0/\aZ st.f0<=_;omega,by show 0<=st.f1/\st.f1<=_;omega⟩
 .intro q m;rcases List.mem_append.1 m with g|g;(exact e q g);(simp at g;rw[g];exact j)
 .exact l
 .show(if st.x.m1<t+st.x.hi then bT st.x.R0 _ _ else st.x.R0).length<=300
  split
  .rw[xK];have:=λp=>hr ⟨by assumption,p⟩;omega
  .exact h.l0
 .show(fo st.x.R1 _ _).length<=300;rw[gZ b.s1,List.length_map];exact h.l1
theorem JC(h:PE st a S W)(z:dH n st)(C:n<=1600)(g:W.cell? ⟨2,0,none⟩=some iD)(k t v:Int):
  Calls Tryz.prog 11 #[.pointer (some ⟨a,0,none⟩),.int .i64 0,.agg #[.int .i64 k,.int .i64 t,.int .i64 v]] W λe f=>∃m S',e=.returned (.tuple #[m,jI (st.feed0 k t v).1])/\((st.feed0 k t v).1=0->f.ownsRow W.heap.size 95 10 m (qc st.x ⟨k,t,v⟩).length ((qc st.x ⟨k,t,v⟩).flatMap aQ))/\((st.feed0 k t v).1≠0->m=.slice none 0 0)/\PE (st.feed0 k t v).2 a S' f/\eO S S' W f:=by
 unfold Sx.feed0
 by_cases hg:au k t v=false
 .rw[if_pos hg];refine(GA h g 0 k t v (.inr hg)).mono ?_;rintro e f ⟨rfl,l⟩;have d:=cz st a S W f h l.size (λk o=>l.block k (dQ h k o));exact⟨_,S,rfl,(λe=>absurd (show(1:Int)=0 from e) (by decide)),(λ_=>rfl),d,⟨λk o=>⟨.inl o,dQ d k o⟩,Turned.of_below l⟩⟩
 rw[if_neg hg]
 have b:au k t v=true:=by simpa using hg
 have p:=z.jok C
 by_cases hl:t<=st.x.m0
 .rw[if_pos hl];refine(NC (x:=st.x) (f0:=st.f0) (f1:=st.f1) (L:=st.L) ⟨k,t,v⟩ g h p b hl).mono ?_;rintro e f ⟨S',rfl,d,j⟩;exact⟨_,S',rfl,(λe=>absurd (show(10:Int)=0 from e) (by decide)),(λ_=>rfl),d,j⟩
 rw[if_neg hl]
 by_cases hr:st.x.m1<t+st.x.hi/\300<=st.x.R0.length
 .rw[if_pos hr];refine(ND (x:=st.x) (f0:=st.f0) (f1:=st.f1) (L:=st.L) ⟨k,t,v⟩ g h p b (by show st.x.m0<t;omega) hr.1 hr.2).mono ?_;rintro e f ⟨S',rfl,d,j⟩;exact⟨_,S',rfl,(λe=>absurd (show(12:Int)=0 from e) (by decide)),(λ_=>rfl),d,j⟩
 rw[if_neg hr];obtain⟨A,B,u,w,i,ha,l⟩:=z.ex;have s:(⟨k,t,v⟩:Rw).small:=dI (r:=⟨k,t,v⟩) b;have E:=u.view0 ⟨k,t,v⟩ (by show st.x.m0<t;omega) w
 have RQ:st.L.length<=700000:=by rw[w.length_eq];exact o8 _ _ _ A B n C i
 have q:∀c∈qc st.x ⟨k,t,v⟩,c.x.wf:=wN st.x.mode 0 ⟨k,t,v⟩ _ s (λy F=>l _ (u.yet1 y (wO F)).2.2.2);refine(NF (x:=st.x) (f0:=st.f0) (f1:=st.f1) (L:=st.L) ⟨k,t,v⟩ h p b (by show st.x.m0<t;omega) (λe=>Nat.lt_of_not_le (λH=>hr ⟨e,H⟩)) E.1 q (by omega)).mono ?_;rintro e f ⟨m,S',rfl,d,j,G⟩;exact⟨m,S',rfl,(λ_=>d),(λe=>absurd rfl e),j,G⟩
def Sx.feed1(st:Sx)(k t v:Int):Int×Sx:=
 if au k t v=false then(1,st)
 else if t<=st.x.m1 then(10,⟨{ st.x with late:=bR st.x.late},st.f0,aZ st.f1,st.L⟩)
 else if st.x.m0<t+ -st.x.lo/\300<=st.x.R1.length then(12,st)
 else(0,⟨st.x.fed1 k t v,st.f0,aZ st.f1,iE st.L (qd st.x ⟨k,t,v⟩)⟩)
theorem dH.feed1(h:dH n st)(hn:n<=1600)(k t v:Int):dH (n+1) (st.feed1 k t v).2:=by
 unfold Sx.feed1
 by_cases hg:au k t v=false
 .rw[if_pos hg];exact h.more (by omega)
 rw[if_neg hg]
 have d:au k t v=true:=by simpa using hg
 have hf0:=h.f0;have hf1:=h.f1
 have hs1:aZ st.f1=st.f1+1:=by unfold aZ;rw[if_neg (by omega)]
 have f:=h.late
 have hm:bR st.x.late=st.x.late+1:=by unfold bR;rw[if_neg (by omega)]
 by_cases hl:t<=st.x.m1
 .rw[if_pos hl];obtain⟨A,B,b,i,c,e,l⟩:=h.ex;exact⟨⟨A,B,⟨b.r0,b.r1,b.s0,b.s1⟩,i,by omega,e,l⟩,h.plan,h.l0,h.l1,⟨by show 0<=bR st.x.late;omega,by show bR st.x.late<=_;omega⟩,h.m0,h.m1,by show 0<=st.f0/\st.f0<=_;omega,by show 0<=aZ st.f1/\aZ st.f1<=_;omega⟩
 rw[if_neg hl]
 by_cases hr:st.x.m0<t+ -st.x.lo/\300<=st.x.R1.length
 .rw[if_pos hr];exact h.more (by omega)
 rw[if_neg hr];obtain⟨A,B,b,i,c,e,l⟩:=h.ex;have j:(⟨k,t,v⟩:Rw).small:=dI (r:=⟨k,t,v⟩) d;have s:=b.fed1 ⟨k,t,v⟩ (by show st.x.m1<t;omega) (by omega);have o:=b.view1 ⟨k,t,v⟩ (by show st.x.m1<t;omega) i;refine⟨⟨A,B++[(⟨k,t,v⟩:Rw)],s,o.2,by simp only[List.length_append,List.length_cons,List.length_nil];omega,?_,?_⟩,h.plan,?_,?_,⟨f.1,by show st.x.late<=_;omega⟩,h.m0,h.m1,by show 0<=st.f0/\st.f0<=_;omega,by show 0<=aZ st.f1/\aZ st.f1<=_;omega⟩
 .exact e
 .intro q m;rcases List.mem_append.1 m with g|g;(exact l q g);(simp at g;rw[g];exact j)
 .show(fo st.x.R0 _ _).length<=300;rw[gZ b.s0,List.length_map];exact h.l0
 .show(if st.x.m0<t+ -st.x.lo then bT st.x.R1 _ _ else st.x.R1).length<=300
  split
  .rw[xK];have:=λp=>hr ⟨by assumption,p⟩;omega
  .exact h.l1
theorem JD(h:PE st a S W)(z:dH n st)(C:n<=1600)(g:W.cell? ⟨2,0,none⟩=some iD)(k t v:Int):
  Calls Tryz.prog 11 #[.pointer (some ⟨a,0,none⟩),.int .i64 1,.agg #[.int .i64 k,.int .i64 t,.int .i64 v]] W λe f=>∃l S',e=.returned (.tuple #[l,jI (st.feed1 k t v).1])/\((st.feed1 k t v).1=0->f.ownsRow W.heap.size 95 10 l (qd st.x ⟨k,t,v⟩).length ((qd st.x ⟨k,t,v⟩).flatMap aQ))/\((st.feed1 k t v).1≠0->l=.slice none 0 0)/\PE (st.feed1 k t v).2 a S' f/\eO S S' W f:=by
 unfold Sx.feed1
 by_cases hg:au k t v=false
 .rw[if_pos hg];refine(GA h g 1 k t v (.inr hg)).mono ?_;rintro e f ⟨rfl,m⟩;have d:=cz st a S W f h m.size (λk o=>m.block k (dQ h k o));exact⟨_,S,rfl,(λe=>absurd (show(1:Int)=0 from e) (by decide)),(λ_=>rfl),d,⟨λk o=>⟨.inl o,dQ d k o⟩,Turned.of_below m⟩⟩
 rw[if_neg hg]
 have b:au k t v=true:=by simpa using hg
 have p:=z.jok C
 by_cases hl:t<=st.x.m1
 .rw[if_pos hl];refine(NG (x:=st.x) (f0:=st.f0) (f1:=st.f1) (L:=st.L) ⟨k,t,v⟩ g h p b hl).mono ?_;rintro e f ⟨S',rfl,d,j⟩;exact⟨_,S',rfl,(λe=>absurd (show(10:Int)=0 from e) (by decide)),(λ_=>rfl),d,j⟩
 rw[if_neg hl]
 by_cases hr:st.x.m0<t+ -st.x.lo/\300<=st.x.R1.length
 .rw[if_pos hr];refine(NH (x:=st.x) (f0:=st.f0) (f1:=st.f1) (L:=st.L) ⟨k,t,v⟩ g h p b (by show st.x.m1<t;omega) hr.1 hr.2).mono ?_;rintro e f ⟨S',rfl,d,j⟩;exact⟨_,S',rfl,(λe=>absurd (show(12:Int)=0 from e) (by decide)),(λ_=>rfl),d,j⟩
 rw[if_neg hr];obtain⟨A,B,u,w,i,E,m⟩:=z.ex;have s:(⟨k,t,v⟩:Rw).small:=dI (r:=⟨k,t,v⟩) b;have F:=u.view1 ⟨k,t,v⟩ (by show st.x.m1<t;omega) w
 have RQ:st.L.length<=700000:=by rw[w.length_eq];exact o8 _ _ _ A B n C i
 have q:∀c∈qd st.x ⟨k,t,v⟩,c.x.wf:=wN st.x.mode 1 ⟨k,t,v⟩ _ s (λy G=>E _ (u.yet0 y (wO G)).2.2.2);refine(NI (x:=st.x) (f0:=st.f0) (f1:=st.f1) (L:=st.L) ⟨k,t,v⟩ h p b (by show st.x.m1<t;omega) (λe=>Nat.lt_of_not_le (λI=>hr ⟨e,I⟩)) F.1 q (by omega)).mono ?_;rintro e f ⟨l,S',rfl,d,j,H⟩;exact⟨l,S',rfl,(λ_=>d),(λe=>absurd rfl e),j,H⟩
def Sx.new(lo hi mode:Int):Sx:=⟨⟨lo,hi,mode,-1099511627777,-1099511627777,0,[],[]⟩,0,0,[]⟩
theorem BU{lo hi mode:Int}(h:dn lo hi mode)(n:Nat):dH n (Sx.new lo hi mode):=
 ⟨⟨[],[],Holds.new _ _ _ _ _ _,by simp[Sx.new,kv,lq],by simp,by simp,by simp⟩,h,by simp[Sx.new],by simp[Sx.new],by simp[Sx.new],by simp[Sx.new],by simp[Sx.new],by simp[Sx.new],by simp[Sx.new]⟩
def Sx.move(st:Sx)(s t:Int):Int×Sx:=
 if moveE st.x.m0 st.x.m1 s t≠0 then(moveE st.x.m0 st.x.m1 s t,st)
 else(0,if s=0 then⟨{ st.x with m0:=t,R1:=keepR (λy=>decide (y.t<=t+st.x.lo)) st.x.R1},st.f0,st.f1,st.L⟩else⟨{ st.x with m1:=t,R0:=keepR (λy=>decide (y.t<=t -st.x.hi)) st.x.R0},st.f0,st.f1,st.L⟩)
theorem Ap{b m1 s t:Int}(h:moveE b m1 s t=0):(s=0/\b<=t∨s=1/\m1<=t)/\ -1099511627776<=t/\t<=1099511627776:=by
 unfold moveE at h
 split at h
 .cases h
 .rename_i h1
  split at h
  .cases h
  .split at h
   .cases h
   .rename_i h2 h3
    unfold bM at h1;unfold kW at h3;simp at h1
    by_cases hs:s=0
    .subst hs;simp at h3;omega
    .have c:=h1 hs;subst c;simp at h3;omega
theorem dH.move(h:dH n st)(s t:Int):dH n (st.move s t).2:=by
 unfold Sx.move
 by_cases c:moveE st.x.m0 st.x.m1 s t≠0
 .rw[if_pos c];exact h
 rw[if_neg c];have c:=Classical.not_not.1 c;obtain⟨hs,ht⟩:=Ap c;obtain⟨A,B,f,d,b,g,e⟩:=h.ex;simp only
 by_cases h0:s=0
 .rw[if_pos h0];exact⟨⟨A,B,f.moved0 t (by omega),d,b,g,e⟩,h.plan,h.l0,di (oo _ _) h.l1,h.late,⟨by simp only;omega,by simp only;omega⟩,h.m1,h.f0,h.f1⟩
 .rw[if_neg h0];exact⟨⟨A,B,f.moved1 t (by omega),d,b,g,e⟩,h.plan,di (oo _ _) h.l0,h.l1,h.late,h.m0,⟨by simp only;omega,by simp only;omega⟩,h.f0,h.f1⟩
theorem NJ(c:PE st a S W)(l:dH n st)(m:n<=1600)(s t:Int):
  Calls Tryz.prog 15 #[.pointer (some ⟨a,0,none⟩),.int .i64 s,.int .i64 t] W λe g=>∃S',e=.returned (jI (st.move s t).1)/\PE (st.move s t).2 a S' g/\eO S S' W g:=by
 unfold Sx.move
 by_cases b:moveE st.x.m0 st.x.m1 s t≠0
 .rw[if_pos b];refine(DJ c s t b).mono ?_;rintro e g ⟨rfl,h⟩;have d:=cz st a S W g c h.size (λk f=>h.block k (dQ c k f));exact⟨S,by unfold jI;rw[if_neg b],d,⟨λk f=>⟨.inl f,dQ d k f⟩,Turned.of_below h⟩⟩
 rw[if_neg b];have b:=Classical.not_not.1 b;obtain⟨hs,j⟩:=Ap b;have i:=l.jok m;simp only
 by_cases h0:s=0
 .rw[if_pos h0];subst h0;exact NK (x:=st.x) (f0:=st.f0) (f1:=st.f1) (L:=st.L) t c i (by omega) j
 .rw[if_neg h0]
  have d:s=1:=by omega
  subst d;exact NL (x:=st.x) (f0:=st.f0) (f1:=st.f1) (L:=st.L) t c i (by omega) j
end
section
open Go.Proofs.Tryz Go.Joins
variable{lo hi mode:Int}
def aS(lo hi mode:Int):Int:=if ¬(-1048576<=lo/\lo<=1048576)∨¬(-1048576<=hi/\hi<=1048576)then 2 else if hi<lo then 10 else if ¬(0<=mode/\mode<=3)then 1 else 0
theorem DK(h:dn lo hi mode):aS lo hi mode=0:=by
 unfold dn at h;unfold aS;rw[if_neg (by omega),if_neg (by omega),if_neg (by omega)]
theorem qA(h:aS lo hi mode=0):dn lo hi mode:=by
 unfold aS at h
 split at h
 .cases h
 .split at h
  .cases h
  .split at h
   .cases h
   .unfold dn;omega
theorem GD(lo hi mode:Int)(w:World)(h:¬dn lo hi mode):Calls prog 109 #[.agg #[.int .i64 lo,.int .i64 hi,.int .i64 mode]] w λe b=>e=.returned (.iface 24 (.int .i64 (aS lo hi mode)))/\b=w.alloc (.cells #[.int .i64 lo,.int .i64 hi,.int .i64 mode] 45):=by
 by_cases h1: -1048576<=lo/\lo<=1048576
 .have d1:Hid (decide (-1048576<=lo/\lo<=1048576)=true):=by show _=_;simp;omega
  by_cases h2: -1048576<=hi/\hi<=1048576
  .have d2:Hid (decide (-1048576<=hi/\hi<=1048576)=true):=by show _=_;simp;omega
   by_cases h3:hi<lo
   .have a:aS lo hi mode=10:=by unfold aS;rw[if_neg (by omega),if_pos h3]
    rw[a];clear h h1 h2 a;go_enter func109,ntmps109
    go_wp2_with (first
     |(go_at_call 183;refine(kz _ _).mono ?_;rintro e b ⟨rfl,rfl⟩;first|rw[d1.out]|rw[d2.out])
     |fail)
    go_ret;exact⟨rfl,rfl⟩
   .have c:¬(0<=mode/\mode<=3):=λc=>h ⟨h1,h2,by omega,c⟩
    have a:aS lo hi mode=1:=by unfold aS;rw[if_neg (by omega),if_neg h3,if_pos c]
    rw[a];clear h h1 h2 a;go_enter func109,ntmps109
    go_wp2_with (first
     |(go_at_call 183;refine(kz _ _).mono ?_;rintro e b ⟨rfl,rfl⟩;first|rw[d1.out]|rw[d2.out])
     |(go_at_call 184;refine(KF _ _ c).mono ?_;rintro e b ⟨rfl,rfl⟩)
     |fail)
    go_ret;exact⟨rfl,rfl⟩
  .have d2:Hid (decide (-1048576<=hi/\hi<=1048576)=false):=by show _=_;simp;omega
   have a:aS lo hi mode=2:=by unfold aS;rw[if_pos (.inr h2)]
   rw[a];clear h h1 h2 a;go_enter func109,ntmps109
   go_wp2_with (first
    |(go_at_call 183;refine(kz _ _).mono ?_;rintro e b ⟨rfl,rfl⟩;first|rw[d1.out]|rw[d2.out])
    |fail)
   go_ret;exact⟨rfl,rfl⟩
 .have d1:Hid (decide (-1048576<=lo/\lo<=1048576)=false):=by show _=_;simp;omega
  have a:aS lo hi mode=2:=by unfold aS;rw[if_pos (.inl h1)]
  rw[a];clear h h1 a;go_enter func109,ntmps109
  go_wp2_with (first
   |(go_at_call 183;refine(kz _ _).mono ?_;rintro e b ⟨rfl,rfl⟩;rw[d1.out])
   |fail)
  go_ret;exact⟨rfl,rfl⟩
theorem KG(lo hi mode:Int)(w:World)(h:¬dn lo hi mode):Calls prog 48 #[.agg #[.int .i64 lo,.int .i64 hi,.int .i64 mode]] w λe b=>e=.returned (.tuple #[.pointer none,.iface 24 (.int .i64 (aS lo hi mode))])/\Below w.heap.size w b:=by
 have a:=λW=>GD lo hi mode W h
 have f:Hid (Below w.heap.size w ((w.alloc (.cells #[.int .i64 lo,.int .i64 hi,.int .i64 mode] 45)).alloc (.cells #[.int .i64 lo,.int .i64 hi,.int .i64 mode] 45))):=wT _ _ _;clear h;generalize aS lo hi mode=c at *;have hq:=GG c;go_enter func48,ntmps48
 go_wp2_with (first
  |(go_at_call 109;refine(a _).mono ?_;rintro e b ⟨rfl,rfl⟩)
  |fail)
 exact CU (v:= .tuple #[.pointer none,.iface 24 (.int .i64 c)]) (by simp[results,Tryz.results48,go_sem]) rfl ⟨rfl,f.out⟩
theorem Aq(lo hi mode:Int)(w:World)(h:¬dn lo hi mode):Calls prog 13 #[.agg #[.int .i64 lo,.int .i64 hi,.int .i64 mode]] w λe l=>e=.returned (.tuple #[.pointer none,.iface 24 (.int .i64 (aS lo hi mode))])/\Below w.heap.size w l:=by
 have f:=λW=>KG lo hi mode W h
 have g:Hid (Below w.heap.size w (w.alloc (uY lo hi mode))):=wh _ _;clear h;generalize aS lo hi mode=c at *;have hq:=GG c;go_enter func13,ntmps13
 go_wp2_with (first
  |(go_at_call 48;refine(f _).mono ?_;rintro e k ⟨rfl,a⟩;have b:Hid (Below w.heap.size w k):=g.out.trans (a.mono g.out.size);clear a)
  |fail)
 exact CU (v:= .tuple #[.pointer none,.iface 24 (.int .i64 c)]) (by simp[results,Tryz.results13,go_sem]) rfl ⟨rfl,b.out⟩
section
variable{d bj j:Nat}{n i:Value}{f0 f1:Int}{p:Option Nat}{r:Nat->Prop}{x:J}{L o:List O}{w:World}
theorem NM(h:az w d bj j n i f0 f1 p r x L o):Calls prog 19 #[.pointer (some ⟨d,0,none⟩),.int .i64 0] w λe a=>e=.returned (.int .i64 x.R0.length)/\a=w:=by
 have H:Hid (Calls prog 63 #[.pointer (some ⟨bj,0,none⟩),.int .i64 0] w λe a=>e=.returned (.int .i64 x.R0.length)/\a=w):=UG 0 bj j n i x w h.join;have hc:=h.cells.2.2.2.1;have hlt:=h.blt;clear h;go_enter func19,ntmps19
 go_wp2_with (first
  |(go_at_call 63;refine H.out.mono ?_;rintro e a ⟨rfl,b⟩;have b:=b.symm;subst b)
  |fail)
 go_ret;exact⟨rfl,rfl⟩
theorem NN(h:az w d bj j n i f0 f1 p r x L o):Calls prog 19 #[.pointer (some ⟨d,0,none⟩),.int .i64 1] w λe a=>e=.returned (.int .i64 x.R1.length)/\a=w:=by
 have H:Hid (Calls prog 63 #[.pointer (some ⟨bj,0,none⟩),.int .i64 1] w λe a=>e=.returned (.int .i64 x.R1.length)/\a=w):=UH 0 bj j n i x w h.join;have hc:=h.cells.2.2.2.1;have hlt:=h.blt;clear h;go_enter func19,ntmps19
 go_wp2_with (first
  |(go_at_call 63;refine H.out.mono ?_;rintro e a ⟨rfl,b⟩;have b:=b.symm;subst b)
  |fail)
 go_ret;exact⟨rfl,rfl⟩
theorem Ub(h:az w d bj j n i f0 f1 p r x L o):Calls prog 21 #[.pointer (some ⟨d,0,none⟩),.int .i64 0] w λe a=>e=.returned (.int .i64 f0)/\a=w:=by
 have hc:=h.cells.2.2.2.2.1;have hlt:=h.blt;clear h;go_enter func21,ntmps21;go_wp2;go_ret;exact⟨rfl,rfl⟩
theorem Uc(h:az w d bj j n i f0 f1 p r x L o):Calls prog 21 #[.pointer (some ⟨d,0,none⟩),.int .i64 1] w λe a=>e=.returned (.int .i64 f1)/\a=w:=by
 have hc:=h.cells.2.2.2.2.2.1;have hlt:=h.blt;clear h;go_enter func21,ntmps21;go_wp2;go_ret;exact⟨rfl,rfl⟩
end
theorem xL(f:Nat)(rcv:Value)(a b:Int)(m:af a)(h:af b)(w:World)(q:jP w)(eg:∀args W,(callFunc f args).run prog W=.ok (.enter f args) W)
  (l:Calls prog f #[rcv,.int .i64 0] w λe c=>e=.returned (.int .i64 a)/\c=w) (k:Calls prog f #[rcv,.int .i64 1] w λe c=>e=.returned (.int .i64 b)/\c=w):
  Calls prog 215 #[.func (.func f) #[rcv] #[]] w λe c=>e=.returned (.string ⟨(aa [a,b]).toArray⟩)/\Below w.heap.size w c:=by
 have u:Hid (Calls prog 277 #[.slice (some ⟨w.heap.size,0,none⟩) 2 2] (w.alloc (.cells #[.int .i64 a,.int .i64 b] 3)) λe c=>e=.returned (.string ⟨(aa [a,b]).toArray⟩)/\Below w.heap.size w c):=xI a b m h w w q (zI _ _);have s:=hid l;have t:=hid k;clear l k m h q;go_enter func215,ntmps215;go_wp2_with fail;refine s.out.mono ?_;rintro e c ⟨rfl,g⟩;have g:=g.symm;subst g;go_wp2_with fail;refine t.out.mono ?_;rintro e c ⟨rfl,g⟩;have g:=g.symm;subst g
 go_wp2_with (first
  |(go_at_call 277;refine u.out.mono ?_;rintro e w2 ⟨rfl,h⟩)
  |fail)
 go_ret;exact⟨rfl,h⟩
structure Gi where
 key:Int
 count:Int
 sum:Int
 least:Int
 most:Int
 some:Bool
def dR(q:Gi):List UInt8:=Lib.itoa q.key++[58,32]++aa [q.count,q.sum]++(if q.some then 32::aa [q.least,q.most]else[])
structure DL(q:Gi):Prop where
 key:af q.key
 count:af q.count
 sum:af q.sum
 least:af q.least
 most:af q.most
abbrev zx(q:Gi):Obj:= .cells #[.int .i64 q.key,.int .i64 q.count,.int .i64 q.sum,.int .i64 q.least,.int .i64 q.most,.bool q.some] 140
abbrev lM(b:Nat)(q:Gi)(W:World):Prop:=W.cell? ⟨b,0,none⟩=some (.int .i64 q.key)/\W.cell? ⟨b,1,none⟩=some (.int .i64 q.count)/\W.cell? ⟨b,2,none⟩=some (.int .i64 q.sum)/\W.cell? ⟨b,3,none⟩=some (.int .i64 q.least)/\W.cell? ⟨b,4,none⟩=some (.int .i64 q.most)/\W.cell? ⟨b,5,none⟩=some (.bool q.some)
theorem NP{W:World}{b:Nat}{q:Gi}(h:W.heap[b]?=some (zx q)):lM b q W:=by
 refine⟨?_,?_,?_,?_,?_,?_⟩ <;>(rw[vE h];rfl)
theorem cZ(a b:Int)(c:af a)(e:af b):(aa [a,b]).length<=44:=by
 have:=bL [a,b] (ku c e);simpa using this
theorem xM(q:Gi)(h:DL q):(dR q).length<=112:=by
 unfold dR;have h1:=Lib.itoa_length_le q.key h.key.1 h.key.2;have h2:=cZ q.count q.sum h.count h.sum;have h3:=cZ q.least q.most h.least h.most;simp only[List.length_append,List.length_cons,List.length_nil]
 split
 .simp only[List.length_cons];omega
 .simp only[List.length_nil];omega
theorem zy(q:Gi)(w:World)(P:jP w)(t:DL q):Calls prog 218 #[.agg #[.int .i64 q.key,.int .i64 q.count,.int .i64 q.sum,.int .i64 q.least,.int .i64 q.most,.bool q.some]] w λe y=>e=.returned (.string ⟨(dR q).toArray⟩)/\Below w.heap.size w y:=by
 have K:Below w.heap.size w (w.alloc (zx q)):=wh _ _;have z:=vw w (zx q)
 have N:w.heap.size<(w.alloc (zx q)).heap.size:=by simp
 obtain⟨f,hw1⟩:∃f,f=w.alloc (zx q):=⟨_,rfl⟩;rw[<-hw1]at K z N
 have I:Hid (∀W,Below f.heap.size f W->Below w.heap.size w W):=λW u=>K.trans (u.mono K.size)
 have M:Hid (∀W,Below f.heap.size f W->Calls prog 113 #[.int .i64 q.key] W λe y=>e=.returned (.string ⟨(Lib.itoa q.key).toArray⟩)/\Below f.heap.size f y/\Below W.heap.size W y):=λW u=>(mF q.key t.key.1 t.key.2 W (aG P (I.out W u))).mono λe y h=>⟨h.1,u.trans (h.2.mono u.size),h.2⟩
 have V:Hid (∀a b g W,af a/\af b->Below f.heap.size f W->W.heap[g]?=some (.cells #[.int .i64 a,.int .i64 b] 3)->Calls prog 277 #[.slice (some ⟨g,0,none⟩) 2 2] W λe y=>e=.returned (.string ⟨(aa [a,b]).toArray⟩)/\Below f.heap.size f y):=λa b g W R u Y=>(xH [a,b] g 0 2 W (aG P (I.out W u)) (ku R.1 R.2) (aD.1 Y).1 (BS Y) (by simp)).mono λe y h=>⟨h.1,u.trans (h.2.mono u.size)⟩
 have v:Hid (∀W,Below f.heap.size f W->lM w.heap.size q W):=λW u=>NP ((u.block _ N).trans z)
 have S:Hid (af q.count/\af q.sum):=⟨t.count,t.sum⟩;have Q:Hid (af q.least/\af q.most):=⟨t.least,t.most⟩;have U:=Lib.itoa_length_le q.key t.key.1 t.key.2;have X:=cZ q.count q.sum t.count t.sum;have T:=cZ q.least q.most t.least t.most;obtain⟨k,c,s,l,m,b⟩:=q;simp only at v S Q U X T M hw1⊢
 have s1:¬9223372036854775807<(Lib.itoa k).length+2:=by omega
 have s2:¬9223372036854775807<(Lib.itoa k).length+2+(aa [c,s]).length:=by omega
 have s3:¬9223372036854775807<1+(aa [l,m]).length:=by omega
 have s4:¬9223372036854775807<(Lib.itoa k).length+2+(aa [c,s]).length+(1+(aa [l,m]).length):=by omega
 have B:Hid (Below f.heap.size f f.drew):=(zI _ _).drew;have c1:lM w.heap.size ⟨k,c,s,l,m,b⟩ f:=v.out _ (zI _ _);clear t P K z N U X T;simp only[lM]at v c1;go_enter func218,ntmps218;go_wp2;rw[<-hw1];clear hw1
 go_region_held3 (λW=>lM w.heap.size ⟨k,c,s,l,m,b⟩ W) (first|exact c1|exact v.out _ G.out|exact v.out _ A.out|exact v.out _ (A.out.alloc A.out.size _)|exact v.out _ (B.out.alloc B.out.size _)|fail) (first
  |(go_at_call 113;refine(M.out _ ?_).mono ?_;(first|exact B.out|exact B.out.alloc B.out.size _);rintro e w2 ⟨rfl,C,H⟩;have A:=hid C;clear C)
  |(go_at_call 277;refine(V.out _ _ _ _ S.out ?_ ?_).mono ?_;(first|exact A.out|exact A.out.alloc A.out.size _);(first|exact vw _ _|exact(H.block _ (by simp)).trans (vw _ _));rintro e w3 ⟨rfl,E⟩;have G:=hid E;clear E)
  |fail)
 all_goals
  have c3:lM w.heap.size ⟨k,c,s,l,m,b⟩ w3:=v.out _ G.out;clear H M c1 B A;cases b
  .go_wp2;go_ret;refine⟨?_,I.out _ G.out⟩
   first|rfl|(congr 2;done)|(congr 2;apply ByteArray.ext;simp[dR,ByteArray.data_append];done)|(simp only[dR,↓reduceIte,Bool.false_eq_true,List.append_nil];congr 2;done)
  .go_wp2_with (first
    |(go_at_call 277;refine(V.out _ _ _ _ Q.out ?_ ?_).mono ?_;(exact G.out.alloc G.out.size _);(exact vw _ _);rintro e w4 ⟨rfl,F⟩;have Z:=hid F;clear F)
    |fail)
   go_ret;refine⟨?_,I.out _ Z.out⟩
   first|rfl|(congr 2;done)|(congr 2;apply ByteArray.ext;simp[dR,ByteArray.data_append];done)|(simp only[dR,↓reduceIte,Bool.false_eq_true,List.append_nil];congr 2;done)
theorem qf(c:Int)(b:af c)(w:World)(g:jP w)(k:w.cell? ⟨2,0,none⟩=some iD):Calls prog 75 #[.iface 24 (.int .i64 c)] w λe a=>e=.returned (.string ⟨(eH c).toArray⟩)/\Below w.heap.size w a:=by
 have s:Hid (Calls prog 46 #[.iface 24 (.int .i64 c)] w λe a=>e=.returned (.int .i64 c)/\Hid (Below w.heap.size w a/\jP a)):=(lX c w k).mono λe a h=>⟨h.1,h.2,aG g h.2⟩
 have t:Hid (∀W,Hid (Below w.heap.size w W/\jP W)->Calls prog 113 #[.int .i64 c] W λe a=>e=.returned (.string ⟨(Lib.itoa c).toArray⟩)/\Hid (Below w.heap.size w a)):=λW f=>(mF c b.1 b.2 W f.out.2).mono λe a h=>⟨h.1,f.out.1.trans (h.2.mono f.out.1.size)⟩
 have l:=Lib.itoa_length_le c b.1 b.2
 have s1:¬9223372036854775807<6+(Lib.itoa c).length:=by omega
 clear b g k l;go_enter func75,ntmps75
 go_wp2_with (first
  |(go_at_call 46;refine s.out.mono ?_;rintro e w2 ⟨rfl,m⟩)
  |(go_at_call 113;refine(t.out _ m).mono ?_;rintro e w3 ⟨rfl,q⟩)
  |fail)
 go_ret;refine⟨?_,q.out⟩;congr 2
end
section
open Go.Proofs.Tryz Go.Joins
variable{W:World}
structure Dk(w0:World)(bs:Nat)(mv:Option Nat)(st:Sx)(f:Nat)(S P:Nat->Prop)(W:World):Prop where
 blk:W.heap[bs]?=some (.cells #[.pointer (some ⟨f,0,none⟩),.map mv] 225)
 eng:PE st f S W
 ns:¬S bs
 all:∀k,P k↔(S k∨k=bs)
 low:Below w0.heap.size w0 W
 ge:∀k,P k->w0.heap.size<=k
def YG(w0:World)(bs:Nat)(mv:Option Nat)(st:Sx)(P:Nat->Prop)(W:World):Prop:=∃f S,Dk w0 bs mv st f S P W
abbrev aC(w0:World)(bs:Nat)(mv:Option Nat)(st:Sx)(P:Nat->Prop)(W d:World):Prop:=∃P',YG w0 bs mv st P' d/\Turned P W d/\∀k,P' k->P k∨W.heap.size<=k
section
variable{w0:World}{bs f:Nat}{mv:Option Nat}{st j:Sx}{S S' P:Nat->Prop}{W i d:World}
theorem Dk.lt(h:Dk w0 bs mv st f S P W):bs<W.heap.size:=(aD.1 h.blk).1
theorem Dk.plt(h:Dk w0 bs mv st f S P W):∀k,P k->k<W.heap.size:=λk a=>by
 rcases(h.all k).1 a with g|g
 .exact dQ h.eng k g
 .rw[g];exact h.lt
theorem Dk.cell(h:Dk w0 bs mv st f S P W):W.cell? ⟨bs,0,none⟩=some (.pointer (some ⟨f,0,none⟩))/\W.cell? ⟨bs,1,none⟩=some (.map mv)/\W.frozen? ⟨bs,0,none⟩=false:=by
 refine⟨?_,?_,x9 h.blk 0⟩ <;>(rw[vE h.blk];rfl)
theorem Dk.still(h:Dk w0 bs mv st f S P W)(c:W.heap.size<=i.heap.size)(a:∀k,P k->i.heap[k]?=W.heap[k]?)(b:Below w0.heap.size w0 i):Dk w0 bs mv st f S P i:=
 ⟨(a bs ((h.all bs).2 (.inr rfl))).trans h.blk,cz st f S W i h.eng c (λk e=>a k ((h.all k).2 (.inl e))),h.ns,h.all,b,h.ge⟩
theorem Dk.below(h:Dk w0 bs mv st f S P W)(a:Below W.heap.size W i):Dk w0 bs mv st f S P i:=
 h.still a.size (λk e=>a.block k (h.plt k e)) (h.low.trans (a.mono h.low.size))
theorem ja{a b:World}(c:Below w0.heap.size w0 a)(g:Turned P a b)(l:∀k,P k->w0.heap.size<=k):Below w0.heap.size w0 b:=
 ⟨g.os.trans c.os,g.tape.trans c.tape,g.output.trans c.output,di c.size g.size,λk h=>(g.block k (fO h c.size) (λe=>by have:=l k e;omega)).trans (c.block k h)⟩
theorem Dk.same(h:Dk w0 bs mv st f S P W)(a:Below W.heap.size W d):aC w0 bs mv st P W d:=⟨P,⟨f,S,h.below a⟩,Turned.of_below a,λ_ e=>.inl e⟩
theorem Dk.goes(h:Dk w0 bs mv st f S P W)(c:PE j f S' d)(a:eO S S' W d):Dk w0 bs mv j f S' (λk=>S' k∨k=bs) d/\Turned P W d/\∀k,(S' k∨k=bs)->P k∨W.heap.size<=k:=by
 have b:Turned P W d:=a.2.mono (λk e=>(h.all k).2 (.inl e));refine⟨⟨(a.2.block bs h.lt h.ns).trans h.blk,c,λe=>?_,λ_=>Iff.rfl,ja h.low b h.ge,λk e=>?_⟩,b,λk e=>?_⟩
 .rcases(a.1 bs e).1 with g|g
  .exact h.ns g
  .have:=h.lt;omega
 .rcases e with e|e
  .rcases(a.1 k e).1 with g|g
   .exact h.ge k ((h.all k).2 (.inl g))
   .have:=h.low.size;omega
  .exact h.ge k ((h.all k).2 (.inr e))
 .rcases e with e|e
  .exact(a.1 k e).1.imp (λg=>(h.all k).2 (.inl g)) id
  .exact .inl ((h.all k).2 (.inr e))
theorem aC.go{a:Nat->Prop}(h:Dk w0 bs mv j f S' a i)(c:Turned P W i)(g:∀k,a k->P k∨W.heap.size<=k)(b:Below i.heap.size i d):aC w0 bs mv j P W d:=
 ⟨a,⟨f,S',h.below b⟩,c.trans (Turned.of_below (S:=λ_=>False) b) (λ_ _ e=>e.elim),g⟩
theorem Dk.taken(h:Dk w0 bs mv st f S P W){a:Nat}(n:Below W.heap.size W i)(q:PE j a S' i)(g:∀k,S' k->W.heap.size<=k):aC w0 bs mv j P W (i.setCell ⟨bs,0,none⟩ (.pointer (some ⟨a,0,none⟩))):=by
 have p:=h.below n
 have c:¬S' bs:=λe=>by have:=g bs e;have:=h.lt;omega
 have l:∀k,k≠bs->(i.setCell ⟨bs,0,none⟩ (.pointer (some ⟨a,0,none⟩))).heap[k]?=i.heap[k]? :=λk e=>zw _ _ _ _ e
 have m:Turned P W (i.setCell ⟨bs,0,none⟩ (.pointer (some ⟨a,0,none⟩))):=(Turned.of_below (S:=P) n).trans (bC (b:=bs) (o:=0)) (λk _ e=>(h.all k).2 (.inr e));refine⟨λk=>S' k∨k=bs,⟨a,S',?_,cz j a S' i _ q (by simp) (λk e=>l k (λr=>c (r ▸ e))),c,λ_=>Iff.rfl,ja h.low m h.ge,λk e=>?_⟩,m,λk e=>?_⟩
 .rw[yc p.blk];rfl
 .rcases e with e|e
  .have:=g k e;have:=h.low.size;omega
  .exact h.ge k ((h.all k).2 (.inr e))
 .rcases e with e|e
  .exact .inr (g k e)
  .exact .inl ((h.all k).2 (.inr e))
end
def jJ(c:Int)(t:List UInt8):Ending:=if c=0 then .returned (sV t)else thrown c
theorem eZ{g:Nat}{a b c:Int}(h:W.heap[g]?=some (.cells ([a,b,c].map (Value.int .i64)).toArray 3)):W.cell? ⟨g,0,none⟩=some (.int .i64 a)/\W.cell? ⟨g,1,none⟩=some (.int .i64 b)/\W.cell? ⟨g,2,none⟩=some (.int .i64 c):=by
 refine⟨?_,?_,?_⟩ <;>(rw[vE h];rfl)
theorem UI{w0:World}{bs f:Nat}{mv:Option Nat}{st:Sx}{S P:Nat->Prop}(h:Dk w0 bs mv st f S P W)(a b m:Int)(g:Nat)(p:W.heap[g]?=some (.cells ([a,b,m].map (Value.int .i64)).toArray 3)):
  Calls prog 132 #[.pointer (some ⟨bs,0,none⟩),.slice (some ⟨g,0,none⟩) 3 3] W λe d=>e=jJ (aS a b m) [112,108,97,110]/\aC w0 bs mv (if aS a b m=0 then Sx.new a b m else st) P W d:=by
 have t:=(aD.1 p).1;have c1:=eZ p;have hlt:=h.lt
 by_cases hp:dn a b m
 .rw[DK hp]
  have q:Hid (∀V,Below W.heap.size W V->Calls prog 13 #[.agg #[.int .i64 a,.int .i64 b,.int .i64 m]] V λe d=>∃s,e=.returned (.tuple #[.pointer (some ⟨s,0,none⟩),.nilIface])/\(d.cell? ⟨g,0,none⟩=some (.int .i64 a)/\d.cell? ⟨g,1,none⟩=some (.int .i64 b)/\d.cell? ⟨g,2,none⟩=some (.int .i64 m))/\(d.cell? ⟨bs,0,none⟩=some (.pointer (some ⟨f,0,none⟩))/\d.frozen? ⟨bs,0,none⟩=false/\bs<d.heap.size)/\Hid (aC w0 bs mv (Sx.new a b m) P W (d.setCell ⟨bs,0,none⟩ (.pointer (some ⟨s,0,none⟩))))):=by
   intro V n;refine(GH a b m V hp).mono ?_;rintro e d ⟨s,S',rfl,z,r,w⟩;have o:Below W.heap.size W d:=n.trans (w.mono n.size);have y:=h.below o;exact⟨s,rfl,eZ ((o.block g t).trans p),⟨y.cell.1,y.cell.2.2,y.lt⟩,h.taken o z (λk e=>di n.size (r k e).1)⟩
  have v:Hid (Below W.heap.size W W.drew):=(zI _ _).drew;clear h hp p;go_enter func132,ntmps132;go_wp2
  go_region_held3 (λV=>V.cell? ⟨g,0,none⟩=some (.int .i64 a)/\V.cell? ⟨g,1,none⟩=some (.int .i64 b)/\V.cell? ⟨g,2,none⟩=some (.int .i64 m)) (first|exact c1|exact u|fail) (first
   |(go_at_call 13;refine(q.out _ v.out).mono ?_;rintro e A ⟨s,rfl,u,c3,r⟩)
   |fail)
  clear q c1 u
  go_wp2_with (first
   |(go_at_call 213;refine(iZ _).mono ?_;rintro e B ⟨rfl,l⟩;have l:=l.symm;subst l)
   |fail)
  go_ret;exact⟨rfl,r.out⟩
 .have x:aS a b m≠0:=λe=>hp (qA e)
  rw[if_neg x];unfold jJ;rw[if_neg x]
  have q:Hid (∀V,Below W.heap.size W V->Calls prog 13 #[.agg #[.int .i64 a,.int .i64 b,.int .i64 m]] V λe d=>e=.returned (.tuple #[.pointer none,.iface 24 (.int .i64 (aS a b m))])/\(d.cell? ⟨g,0,none⟩=some (.int .i64 a)/\d.cell? ⟨g,1,none⟩=some (.int .i64 b)/\d.cell? ⟨g,2,none⟩=some (.int .i64 m))/\Hid (aC w0 bs mv st P W d)):=by
   intro V n;refine(Aq a b m V hp).mono ?_;rintro e d ⟨rfl,w⟩;have o:Below W.heap.size W d:=n.trans (w.mono n.size);exact⟨rfl,eZ ((o.block g t).trans p),h.same o⟩
  have v:Hid (Below W.heap.size W W.drew):=(zI _ _).drew;clear h hp p x;generalize aS a b m=c at *;go_enter func132,ntmps132;go_wp2
  go_region_held3 (λV=>V.cell? ⟨g,0,none⟩=some (.int .i64 a)/\V.cell? ⟨g,1,none⟩=some (.int .i64 b)/\V.cell? ⟨g,2,none⟩=some (.int .i64 m)) (first|exact c1|exact u|fail) (first
   |(go_at_call 13;refine(q.out _ v.out).mono ?_;rintro e A ⟨rfl,u,r⟩)
   |fail)
  clear q c1 u
  go_wp2_with (first
   |(go_at_call 213;refine(jY _ _).mono ?_;rintro e B ⟨rfl,l⟩;have l:=l.symm;subst l)
   |fail)
  exact⟨rfl,rfl,r.out⟩
end
section
open Go.Proofs.Tryz Go.Joins
variable{n bs l:Nat}{W w0:World}{C:List Ch}{st:Sx}{mv:Option Nat}{S P:Nat->Prop}
theorem DN{n:Int}(h:(Lit.int .i64 n).wf=true):af n:=by
 have a:(decide (IntKind.i64.min<=n)&&decide (n<=IntKind.i64.max))=true:=h
 have b:IntKind.i64.min= -9223372036854775808:=by decide
 have c:IntKind.i64.max=9223372036854775807:=by decide
 rw[b,c]at a;simpa using a
theorem mG{o:O}(h:o.wf):Fits o:=by
 obtain⟨a,b,c,d,e,f,g⟩:=h;exact⟨DN a,DN c,DN d,DN f,DN g⟩
theorem jQ{a wr:World}(h:Below a.heap.size a wr):Below a.heap.size a wr:=h
theorem gL(X:List (List UInt8))(m:Nat)(h:∀y∈X,y.length<=m):(Lib.join X [44,32]).length<=X.length*(m+2):=by
 have key:∀r:List (List UInt8),(∀y∈r,y.length<=m)->(Lib.joinTail [44,32] r).length<=r.length*(m+2):=by
  intro r d;unfold Lib.joinTail
  induction r with
  |nil=>simp
  |cons a r ih=>
   have e:=d a (by simp);have c:=ih (λy b=>d y (by simp[b]));simp only[List.map_cons,List.flatten_cons,List.length_append,List.length_cons,List.length_nil,Nat.add_mul]at c⊢;omega
 cases X with
 |nil=>simp[Lib.join_nil]
 |cons a r=>
  have e:=h a (by simp);have c:=key r (λy b=>h y (by simp[b]));rw[Lib.join_cons,List.length_append,List.length_cons,Nat.add_mul];omega
def RU(W:World)(oa:Option Addr)(C:List Ch):Prop:=∀k c,C[k]?=some c->∃g,oa=some ⟨g,0,none⟩/\g<W.heap.size/\∀j u,(aQ c)[j]?=some u->W.cell? ⟨g,k*10+j,none⟩=some u
theorem RU.below{a:World}{f:Option Addr}(h:RU W f C)(b:Below W.heap.size W a):RU a f C:=λk c o=>by
 obtain⟨g,e,d,i⟩:=h k c o;exact⟨g,e,fO d b.size,λj u m=>(b.cell (p:=⟨g,k*10+j,none⟩) d).trans (i j u m)⟩
theorem BV{α:Type}(f:α->List Value)(n:Nat)(b:∀x,(f x).length=n):∀(L:List α) (k:Nat) (x:α) (j:Nat),L[k]?=some x->j<n->(L.flatMap f)[k*n+j]?=(f x)[j]?
 |[],k,x,j,h,_=>by simp at h
 |a::r,0,x,j,h,hj=>by
  simp at h;subst h;rw[List.flatMap_cons,Nat.zero_mul,Nat.zero_add,sZ (by rw[b];exact hj)]
 |a::r,k+1,x,j,h,hj=>by
  rw[List.flatMap_cons,pY (by rw[b,Nat.add_mul];omega),b];rw[show(k+1)*n+j -n=k*n+j by rw[Nat.add_mul];omega];exact BV f n b r k x j (by simpa using h) hj
theorem xN{B:Nat}{v:Value}(h:W.ownsRow B 95 10 v C.length (C.flatMap aQ)):∃b m,v=.slice b C.length m/\RU W b C:=by
 have f:=h.2
 rcases f with⟨rfl,e⟩|⟨g,cap,cur,rfl,h1,o,h3,h4,h5,h6⟩
 .have p:=List.length_eq_zero_iff.1 e;subst p;exact⟨none,0,rfl,λk c a=>by simp at a⟩
 .refine⟨_,_,rfl,λk c a=>⟨g,rfl,(aD.1 o).1,λj u d=>?_⟩⟩
  have i:j<10:=by have:=(kH.1 d).1;rwa [kC]at this
  have:=h.cells (g:=g) rfl (k*10+j) u (by rw[BV aQ 10 kC C k c j a i];exact d);rw[bZ]at this;exact this
abbrev UJ(g o:Nat)(c:Ch)(W:World):Prop:=W.cell? ⟨g,o,none⟩=some (.int .i64 c.x.k)/\W.cell? ⟨g,o+1,none⟩=some (.int .i64 c.x.lk)/\W.cell? ⟨g,o+2,none⟩=some (.int .i64 c.x.lt)/\W.cell? ⟨g,o+3,none⟩=some (.int .i64 c.x.lv)/\W.cell? ⟨g,o+4,none⟩=some (.int .i64 c.x.rk)/\W.cell? ⟨g,o+5,none⟩=some (.int .i64 c.x.rt)/\W.cell? ⟨g,o+6,none⟩=some (.int .i64 c.x.rv)/\W.cell? ⟨g,o+7,none⟩=some (.bool c.x.hl)/\W.cell? ⟨g,o+8,none⟩=some (.bool c.x.hr)/\W.cell? ⟨g,o+9,none⟩=some (.bool c.g)
theorem Ar{g k:Nat}{c:Ch}(h:∀j u,(aQ c)[j]?=some u->W.cell? ⟨g,k*10+j,none⟩=some u):UJ g (k*10) c W:=
 ⟨h 0 _ rfl,h 1 _ rfl,h 2 _ rfl,h 3 _ rfl,h 4 _ rfl,h 5 _ rfl,h 6 _ rfl,h 7 _ rfl,h 8 _ rfl,h 9 _ rfl⟩
theorem NQ(w:World)(b:List UInt8):Tw w [b] (.slice (some ⟨w.heap.size,0,none⟩) 1 1) (w.alloc (.cells #[sV b] 9)):=
 ⟨wh _ _,rfl,.inr ⟨w.heap.size,1,#[sV b],rfl,aO _,vw _ _,aO _,by unfold maxLen;omega,rfl,rfl⟩⟩
theorem rD(e:dH n st)(k t v:Int)(b:(st.feed0 k t v).1=0):(∀c∈qc st.x ⟨k,t,v⟩,Fits c.x)/\(qc st.x ⟨k,t,v⟩).length<=1000:=by
 have a:au k t v=true:=by
  unfold Sx.feed0 at b
  by_cases a:au k t v=false
  .rw[if_pos a]at b;exact absurd (show(1:Int)=0 from b) (by decide)
  .simpa using a
 obtain⟨A,B,f,hL,hlen,ha,h⟩:=e.ex;have d:(⟨k,t,v⟩:Rw).small:=dI (r:=⟨k,t,v⟩) a;refine⟨λc i=>mG (wN st.x.mode 0 ⟨k,t,v⟩ _ d (λy g=>h _ (f.yet1 y (wO g)).2.2.2) c i),?_⟩;have h1:=pg st.x.mode 0 k t v (bF k (t+st.x.lo) (t+st.x.hi) st.x.R1);have h2:=wP k (t+st.x.lo) (t+st.x.hi) st.x.R1;have h3:=e.l1;show(bU st.x.mode 0 k t v (bF k (t+st.x.lo) (t+st.x.hi) st.x.R1)).length<=_;omega
def nC(st:Sx)(k t v:Int):List UInt8:=Lib.join ([102,101,100]::(qc st.x ⟨k,t,v⟩).map dG) [44,32]
theorem aaM(h:Dk w0 bs mv st l S P W)(hG:aU w0)(s c:Int)(p:Sx)(C:List Ch)(H:List UInt8)(k t v:Int)(g:Nat)(hg:W.heap[g]?=some (.cells ([k,t,v].map (Value.int .i64)).toArray 3))(pq:¬P g)(hd:∀V,PE st l S V->V.cell? ⟨2,0,none⟩=some iD->Calls prog 11 #[.pointer (some ⟨l,0,none⟩),.int .i64 s,.agg #[.int .i64 k,.int .i64 t,.int .i64 v]] V λe a=>∃d S',e=.returned (.tuple #[d,jI c])/\(c=0->a.ownsRow V.heap.size 95 10 d C.length (C.flatMap aQ))/\(c≠0->d=.slice none 0 0)/\PE p l S' a/\eO S S' V a)(hz:c=0->(∀c∈C,Fits c.x)/\C.length<=1000)(ht:H=Lib.join ([102,101,100]::C.map dG) [44,32]):
  Calls prog 214 #[.pointer (some ⟨bs,0,none⟩),.int .i64 s,.slice (some ⟨g,0,none⟩) 3 3] W λe a=>e=jJ c H/\aC w0 bs mv p P W a:=by
 have L:=(aD.1 hg).1;have c1:W.cell? ⟨bs,0,none⟩=some (.pointer (some ⟨l,0,none⟩))/\W.cell? ⟨g,0,none⟩=some (.int .i64 k)/\W.cell? ⟨g,1,none⟩=some (.int .i64 t)/\W.cell? ⟨g,2,none⟩=some (.int .i64 v):=⟨h.cell.1,eZ hg⟩;have F:=h.lt;have hgw:=hG.below h.low
 have R:Hid (∀V,Below W.heap.size W V->Calls prog 11 #[.pointer (some ⟨l,0,none⟩),.int .i64 s,.agg #[.int .i64 k,.int .i64 t,.int .i64 v]] V λe a=>∃d,e=.returned (.tuple #[d,jI c])/\(a.cell? ⟨bs,0,none⟩=some (.pointer (some ⟨l,0,none⟩))/\a.cell? ⟨g,0,none⟩=some (.int .i64 k)/\a.cell? ⟨g,1,none⟩=some (.int .i64 t)/\a.cell? ⟨g,2,none⟩=some (.int .i64 v))/\Hid ((c=0->a.ownsRow 0 95 10 d C.length (C.flatMap aQ))/\(∀W',Below a.heap.size a W'->aC w0 bs mv p P W W')/\aU a)):=by
  intro V z;have hk:=h.below z;refine(hd V hk.eng ((hgw.below z).g.err)).mono ?_;rintro e a ⟨d,S',rfl,h1,_,w,h3⟩;obtain⟨a1,a2,a3⟩:=hk.goes w h3;have hb2:Turned P W a:=(Turned.of_below (S:=P) z).trans a2 (λ_ _ e=>e);refine⟨d,rfl,⟨a1.cell.1,eZ ((a2.block g (fO L z.size) pq).trans ((z.block g L).trans hg))⟩,λe=>ownsRow_le (h1 e) (gy _),λW' hW'=>aC.go a1 hb2 (λk e=>(a3 k e).imp id (λg=>di z.size g)) hW',hG.below a1.low⟩
 have HZ:=hid hz;have HT:=hid ht;have B1:Hid (Below W.heap.size W W.drew):=(zI _ _).drew;clear h hG hg pq hgw hd hz ht
 by_cases hc:c=0
 .subst hc;obtain⟨i0,hi,hz0,hz1,hz2⟩:=Dw rz;have E:=HZ.out rfl;have Ud:=E.2;have G:=hid E.1;clear HZ E;simp only[jI,if_true]at R;unfold jJ;rw[if_pos rfl];go_enter func214,ntmps214;go_wp2
  go_region_held3 (λV=>V.cell? ⟨bs,0,none⟩=some (.pointer (some ⟨l,0,none⟩))/\V.cell? ⟨g,0,none⟩=some (.int .i64 k)/\V.cell? ⟨g,1,none⟩=some (.int .i64 t)/\V.cell? ⟨g,2,none⟩=some (.int .i64 v)) (first|exact c1|exact c2|fail) (first
   |(go_at_call 11;refine(R.out _ B1.out).mono ?_;rintro e b ⟨d,rfl,c2,w⟩)
   |fail)
  clear R c1 c2 B1;have h2r:=w.out.1 trivial;obtain⟨oa,ck,rfl,A⟩:=xN h2r;have HR:=hid A;have HD:=hid w.out.2.1;have Ao:=hid w.out.2.2;clear w h2r A F L
  have i1:(C.length:Int)<=1000:=by omega
  go_wp2_with (first
   |(go_at_call 213;refine(iZ _).mono ?_;rintro e w3 ⟨rfl,B⟩;have B:=B.symm;subst B)
   |fail)
  have C0:Hid (Tw b ([102,101,100]::(C.take 0).map dG) (.slice (some ⟨b.heap.size,0,none⟩) 1 1) (b.alloc (.cells #[.string ⟨#[102,101,100]⟩] 9))):=NQ b [102,101,100]
  go_loopg [9,36] C.length (λgg d v36 wr=>∃(i:Nat),i<=C.length/\gg=C.length -i/\v36=.int .i64 i/\Hid (Tw b ([102,101,100]::(C.take i).map dG) d wr))
  case atStart=>exact⟨0,gy _,rfl,rfl,C0⟩
  case round=>
   obtain⟨i,hi2,iU,rfl,I⟩:=hrel;have HG:=hid iU;clear iU C0
   by_cases F:i<C.length
   .obtain⟨x,hx⟩:∃x,C[i]?=some x:=⟨_,dK F⟩;obtain⟨gc,rfl,hgc,K⟩:=HR.out.below I.out.low i x hx;have K:=Ar K
    have htk:Hid ([102,101,100]::(C.take (i+1)).map dG=([102,101,100]::(C.take i).map dG)++[dG x]):=by
     show([102,101,100]::(C.take (i+1)).map dG:List (List UInt8))=([102,101,100]::(C.take i).map dG)++[dG x];rw[List.take_add_one,hx];simp
    have wL:([102,101,100]::(C.take i).map dG:List (List UInt8)).length<=2000:=by rw[List.length_cons,List.length_map,List.length_take];omega
    have HN:Hid (∀V,Below wr.heap.size wr V->Calls prog 276 #[vC x.x x.g] V λe a=>e=.returned (.string ⟨(dG x).toArray⟩)/\Below V.heap.size V a):=λV z=>nU x V (aG (aG Ao.out.g.tab (jQ I.out.low)) z) (G.out x (mh hx))
    generalize([102,101,100]::(C.take i).map dG:List (List UInt8))=X at *
    have j1:(0:Int)<=(i:Int):=by omega
    have j2:(i:Int)<(C.length:Int):=by omega
    obtain⟨⟨U,Q,xlt,Y,N,Z,T,M,KO⟩,xg⟩:=x;simp only[vC]at HN K
    have HA:Hid (∀o,Below wr.heap.size wr (wr.alloc o)):=λo=>wh _ _
    clear hx
    go_wp2_with (first
     |(go_at_call 276;refine(HN.out _ (HA.out _)).mono ?_;rintro e r ⟨rfl,m⟩;have q:=(HA.out _).trans (m.mono (HA.out _).size);have C4:Hid (Tw b X u9 (r.alloc (.cells #[.string ⟨(dG ⟨⟨U,Q,xlt,Y,N,Z,T,M,KO⟩,xg⟩).toArray⟩] 9))):=I.out.go (q.trans ((wh r _).mono q.size));have hl4:b.heap.size<=r.heap.size:=di I.out.low.size q.size;have N4:Hid (∀j u,([(.string ⟨(dG ⟨⟨U,Q,xlt,Y,N,Z,T,M,KO⟩,xg⟩).toArray⟩:Value)])[j]?=some u->(r.alloc (.cells #[.string ⟨(dG ⟨⟨U,Q,xlt,Y,N,Z,T,M,KO⟩,xg⟩).toArray⟩] 9)).cell? ((⟨r.heap.size,0,none⟩:Addr).add j)=some u):=World.news_of_block (vw r (.cells #[.string ⟨(dG ⟨⟨U,Q,xlt,Y,N,Z,T,M,KO⟩,xg⟩).toArray⟩] 9));clear m q)
     |(at_builtin;refine wpList_append_lies _ rfl _ _ _ rfl b.heap.size 9 i0 (.string ⟨#[]⟩) 1 16 underlying81 hi hz0 hz1 hz2 rfl (by omega) u9 X.length (X.map sV) rfl C4.out.row ⟨r.heap.size,0,none⟩ 1 1 [.string ⟨(dG ⟨⟨U,Q,xlt,Y,N,Z,T,M,KO⟩,xg⟩).toArray⟩] rfl rfl N4.out jA (by omega) (by unfold maxLen;omega) (by omega) (by simp;omega) _ rfl ?_;intro g5 cap5 w5 f aK gI gJ;have C5:Hid (Tw b (X++[dG ⟨⟨U,Q,xlt,Y,N,Z,T,M,KO⟩,xg⟩]) (.slice (some ⟨g5,0,none⟩) (X.length+1) cap5) w5):=C4.out.step f aK;clear f aK gI gJ)
     |fail)
    go_roundg (C.length -(i+1))
    case measure=>have:=HG.out;omega
    case rel=>exact⟨i+1,by omega,rfl,by first|rfl|(congr 1;omega)|go_num,by rw[htk.out];exact C5.out⟩
   .have j2:¬((i:Int)<(C.length:Int)):=by omega
    have e1:C.take i=C:=nG (by omega);have hI:=I.out;rw[e1]at hI
    have HJ:Hid (Calls prog 217 #[u9] wr λe a=>e=.returned (.string ⟨H.toArray⟩)/\Below wr.heap.size wr a):=by
     have:=rA ([102,101,100]::C.map dG) u9 wr hI.row (by simp;omega) (di (gL ([102,101,100]::C.map dG) 113 (λy hy=>by rcases qh.1 hy with rfl|hy;(simp);(obtain⟨c,hc,rfl⟩:=oz.1 hy;exact nT c (G.out c hc)))) (by simp;omega));rw[<-HT.out]at this;exact this
    have HL:Hid (Below b.heap.size b wr):=jQ hI.low;clear hI e1 I HR G HT
    go_wp2_with (first
     |(go_at_call 217;refine HJ.out.mono ?_;rintro e r ⟨rfl,m⟩;have Df:Hid (Below b.heap.size b r):=HL.out.trans (m.mono HL.out.size);clear m)
     |fail)
    go_ret;exact⟨rfl,HD.out _ Df.out⟩
 .have hq:jI c=.iface 24 (.int .i64 c):=by unfold jI;rw[if_neg hc]
  rw[hq]at R;unfold jJ;rw[if_neg hc];clear HZ HT hq;go_enter func214,ntmps214;go_wp2
  go_region_held3 (λV=>V.cell? ⟨bs,0,none⟩=some (.pointer (some ⟨l,0,none⟩))/\V.cell? ⟨g,0,none⟩=some (.int .i64 k)/\V.cell? ⟨g,1,none⟩=some (.int .i64 t)/\V.cell? ⟨g,2,none⟩=some (.int .i64 v)) (first|exact c1|exact c2|fail) (first
   |(go_at_call 11;refine(R.out _ B1.out).mono ?_;rintro e b ⟨d,rfl,c2,w⟩)
   |fail)
  have HD:Hid (aC w0 bs mv p P W b):=w.out.2.1 b (zI _ _);clear R c1 c2 B1 w
  go_wp2_with (first
   |(go_at_call 213;refine(jY _ _).mono ?_;rintro e w3 ⟨rfl,B⟩;have B:=B.symm;subst B)
   |fail)
  exact⟨rfl,rfl,HD.out⟩
theorem RV(h:Dk w0 bs mv st l S P W)(a:dH n st)(f:n<=1600)(c:aU w0)(k t v:Int)(g:Nat)(m:W.heap[g]?=some (.cells ([k,t,v].map (Value.int .i64)).toArray 3))(j:¬P g):
  Calls prog 214 #[.pointer (some ⟨bs,0,none⟩),.int .i64 0,.slice (some ⟨g,0,none⟩) 3 3] W λe b=>e=jJ (st.feed0 k t v).1 (nC st k t v)/\aC w0 bs mv (st.feed0 k t v).2 P W b:=
 aaM h c 0 _ _ _ _ k t v g m j (λ_ i d=>JC i a f d k t v) (λe=>rD a k t v e) rfl
end
section
variable{n:Nat}{st:Sx}
theorem rE(e:dH n st)(k t v:Int)(b:(st.feed1 k t v).1=0):(∀c∈qd st.x ⟨k,t,v⟩,Fits c.x)/\(qd st.x ⟨k,t,v⟩).length<=1000:=by
 have a:au k t v=true:=by
  unfold Sx.feed1 at b
  by_cases a:au k t v=false
  .rw[if_pos a]at b;exact absurd (show(1:Int)=0 from b) (by decide)
  .simpa using a
 obtain⟨A,B,f,hL,hlen,g,hb⟩:=e.ex;have d:(⟨k,t,v⟩:Rw).small:=dI (r:=⟨k,t,v⟩) a;refine⟨λc i=>mG (wN st.x.mode 1 ⟨k,t,v⟩ _ d (λy h=>g _ (f.yet0 y (wO h)).2.2.2) c i),?_⟩;have h1:=pg st.x.mode 1 k t v (bF k (t+ -st.x.hi) (t+ -st.x.lo) st.x.R0);have h2:=wP k (t+ -st.x.hi) (t+ -st.x.lo) st.x.R0;have h3:=e.l0;show(bU st.x.mode 1 k t v (bF k (t+ -st.x.hi) (t+ -st.x.lo) st.x.R0)).length<=_;omega
def nE(st:Sx)(k t v:Int):List UInt8:=Lib.join ([102,101,100]::(qd st.x ⟨k,t,v⟩).map dG) [44,32]
theorem RY{w0:World}{bs be:Nat}{mv:Option Nat}{S P:Nat->Prop}{W:World}(h:Dk w0 bs mv st be S P W)(a:dH n st)(f:n<=1600)(d:aU w0)(k t v:Int)(g:Nat)(l:W.heap[g]?=some (.cells ([k,t,v].map (Value.int .i64)).toArray 3))(j:¬P g):
  Calls Tryz.prog 214 #[.pointer (some ⟨bs,0,none⟩),.int .i64 1,.slice (some ⟨g,0,none⟩) 3 3] W λe b=>e=jJ (st.feed1 k t v).1 (nE st k t v)/\aC w0 bs mv (st.feed1 k t v).2 P W b:=
 aaM h d 1 _ _ _ _ k t v g l j (λ_ i c=>JD i a f c k t v) (λe=>rE a k t v e) rfl
end
end Go.Proofs.YthfpipieboophaaGreatDoor
