import Derived.StillTailTactics
import Derived.Test.YthfpipieboophaaGreatDoorZLdh
namespace Go.Proofs.YthfpipieboophaaGreatDoor
set_option maxRecDepth 100000
set_option maxHeartbeats 40000000
open Go.RowKit Go.Sort Go.Shelf
section
open Go.Proofs.Tryz Go.Joins
variable{w1 W:World}{X:List (List UInt8)}{v9:Value}
abbrev jP(w:World):Prop:=Lib.TabIs prog w "internal/strconv.uint64pow10" .u64 Lib.pow10Tab
abbrev sV(b:List UInt8):Value:= .string ⟨b.toArray⟩
theorem rz:(prog.info? 9).map (λi=>(i.zero,i.size,i.bytes))=some (some (.string ⟨#[]⟩),1,16):=by kernel_rfl
theorem jA{b:ByteArray}:∀u∈[(.string b:Value)],u.oneCell'=true:=by
 intro u a;simp at a;subst a;rfl
theorem JB(w:World)(k:Nat)(os:Array Obj):Below w.heap.size w (grow (w.drewN k) os):=
 ⟨rfl,rfl,rfl,by simp[grow,World.drewN],λj a=>by show(w.heap++os)[j]?=w.heap[j]?;rw[Array.getElem?_append_left a]⟩
theorem mF(n:Int)(c: -9223372036854775808<=n)(b:n<=9223372036854775807)(w:World)(d:jP w):Calls prog 113 #[.int .i64 n] w λe a=>e=.returned (.string ⟨(Lib.itoa n).toArray⟩)/\Below w.heap.size w a:=by
 refine(Tryz.strconv_Itoa n c b w d).mono ?_;rintro e a ⟨rfl,k,os,rfl⟩;exact⟨rfl,JB w k os⟩
def aa(ns:List Int):List UInt8:=Lib.join (ns.map Lib.itoa) [32]
theorem NA(ns:List Int)(h:∀n∈ns,-9223372036854775808<=n/\n<=9223372036854775807):(Lib.joinTail [32] (ns.map Lib.itoa)).length<=ns.length*22:=by
 unfold Lib.joinTail
 induction ns with
 |nil=>simp
 |cons a r ih=>
  have h1:=Lib.itoa_length_le a (h a (by simp)).1 (h a (by simp)).2;have b:=ih (λn c=>h n (by simp[c]));simp only[List.map_cons,List.flatten_cons,List.length_append,List.length_cons,List.length_nil]at b⊢;omega
theorem bL(ns:List Int)(h:∀n∈ns,-9223372036854775808<=n/\n<=9223372036854775807):(aa ns).length<=ns.length*22:=by
 unfold aa
 cases ns with
 |nil=>simp[Lib.join_nil]
 |cons a r=>
  have h1:=Lib.itoa_length_le a (h a (by simp)).1 (h a (by simp)).2;have h2:=NA r (λn b=>h n (by simp[b]));rw[List.map_cons,Lib.join_cons,List.length_append,List.length_cons];omega
structure Tw(w1:World)(X:List (List UInt8))(v9:Value)(wr:World):Prop where
 low:Below w1.heap.size w1 wr
 row:wr.ownsRow w1.heap.size 9 1 v9 X.length (X.map sV)
theorem Tw.start(w1:World):Tw w1 [] (.slice none 0 0) w1:=⟨iL _ _,iR _ _ _ _⟩
theorem Tw.go{wr:World}(h:Tw w1 X v9 wr)(a:Below wr.heap.size wr W):Tw w1 X v9 W:=
 ⟨h.low.trans (a.mono h.low.size),aL h.row a⟩
theorem Tw.step{c:World}{b:List UInt8}{g cap:Nat}(h:Tw w1 X v9 W)(a:c.ownsRow w1.heap.size 9 1 (.slice (some ⟨g,0,none⟩) (X.length+1) cap) (X.length+1) (X.map sV++[sV b]))(d:W.grownBy c v9.ownBlock):
  Tw w1 (X++[b]) (.slice (some ⟨g,0,none⟩) (X.length+1) cap) c:=
 ⟨h.low.grown d h.low.size (λk e=>(h.row.lt k e).1),by rw[List.length_append,List.map_append];simpa using a⟩
theorem nS{base:Nat}(X:List (List UInt8))(v:Value)(sep:ByteArray)(wr:World)(h:wr.ownsRow base 9 1 v X.length (X.map sV))(n:X.length<=140737488355328)(c:(Lib.join X sep.data.toList).length<=140737488355328):
  Calls prog 114 #[v,.string sep] wr λe d=>e=.returned (.string ⟨(Lib.join X sep.data.toList).toArray⟩)/\Below wr.heap.size wr d:=by
 have f:(X.map λb=>(⟨b.toArray⟩:ByteArray)).map (·.data.toList)=X:=by
  rw[List.map_map]
  conv=>rhs;rw[<-List.map_id X]
  rfl
 have l:=h.2
 rcases l with⟨rfl,i⟩|⟨g,cap,cur,rfl,h1,k,m,h4,h5,h6⟩
 .have o:=List.length_eq_zero_iff.1 i;subst o;refine(Tryz.strings_Join_none none 0 sep wr).mono ?_;rintro e d ⟨rfl,rfl⟩;exact⟨rfl,iL _ _⟩
 .have H:=Tryz.strings_Join g 0 cap (X.map λb=>(⟨b.toArray⟩:ByteArray)) sep wr (λj x a=>?_) (ax.1 k).1 (by rw[List.length_map];exact n) (by rw[List.length_map];exact m) (by rw[f];exact c)
  .rw[List.length_map,f]at H;exact H
  .have:=h.cells (g:=g) rfl j (.string x) (by rw[List.getElem?_map]at a⊢;cases hq:X[j]? with|none=>rw[hq]at a;simp at a|some y=>rw[hq]at a;simp at a;subst a;rfl);rw[bZ]at this;rw[Nat.zero_add];exact this
theorem jW(ns:List Int)(g off c:Nat)(w:World)(C:jP w)(q:∀n∈ns,-9223372036854775808<=n/\n<=9223372036854775807)(E:g<w.heap.size)(P:∀k n,ns[k]?=some n->w.cell? ⟨g,off+k,none⟩=some (.int .i64 n))(hl:ns.length<=1000):
  Calls prog 54 #[.slice (some ⟨g,off,none⟩) ns.length c] w λe l=>e=.returned (.string ⟨(aa ns).toArray⟩)/\Below w.heap.size w l:=by
 obtain⟨Y,hi,r,t,y⟩:=je rz
 have F:Hid (∀n∈ns,∀W,Below w.heap.size w W->Calls prog 113 #[.int .i64 n] W λe l=>e=.returned (.string ⟨(Lib.itoa n).toArray⟩)/\Below W.heap.size W l):=λn f W R=>mF n (q n f).1 (q n f).2 W (aG C R)
 have B:Hid (∀v wr,Tw w (ns.map Lib.itoa) v wr->Calls prog 114 #[v,.string ⟨#[32]⟩] wr λe l=>e=.returned (.string ⟨(aa ns).toArray⟩)/\Below wr.heap.size wr l):=λv wr h=>by
  have f:=nS (ns.map Lib.itoa) v ⟨#[32]⟩ wr h.row (by rw[List.length_map];omega) (aH (bL ns q) (by omega));exact f
 have H:=hid P
 have i1:(ns.length:Int)<=1000:=by omega
 clear P q C;go_enter func54,ntmps54;go_wp2;have K:Hid (Tw w [] (.slice none 0 0) w):=Tw.start w
 go_loopg [3,8] ns.length (λZ Q v8 wr=>∃(i:Nat),i<=ns.length/\Z=ns.length -i/\v8=.int .i64 i/\Hid (Tw w ((ns.take i).map Lib.itoa) Q wr))
 case atStart=>exact⟨0,aW _,rfl,rfl,K⟩
 case round=>
  obtain⟨i,hi2,A,rfl,I⟩:=hrel;have S:=hid A;clear A K
  by_cases hlt:i<ns.length
  .obtain⟨n,f⟩:∃n,ns[i]?=some n:=⟨_,aO hlt⟩;have hcx:wr.cell? ⟨g,off+i,none⟩=some (.int .i64 n):=(I.out.low.cell (p:=⟨g,off+i,none⟩) E).trans (H.out i n f)
   have s:Hid ((ns.take (i+1)).map Lib.itoa=(ns.take i).map Lib.itoa++[Lib.itoa n]):=by
    show(ns.take (i+1)).map Lib.itoa=(ns.take i).map Lib.itoa++[Lib.itoa n];rw[List.take_add_one,f];simp
   have wL:((ns.take i).map Lib.itoa).length<=1000:=by rw[List.length_map,List.length_take];omega
   have z:=F.out n (cZ f) wr I.out.low;have z:=hid z;generalize(ns.take i).map Lib.itoa=X at *
   have j1:(0:Int)<=(i:Int):=by omega
   have U:(i:Int)<(ns.length:Int):=by omega
   have hgw:g<wr.heap.size:=aR E I.out.low.size;clear f
   go_wp2_with (first
    |(go_at_call 113;refine z.out.mono ?_;rintro e d ⟨rfl,a⟩;have G:Hid (Tw w X u3 (d.alloc (.cells #[.string ⟨(Lib.itoa n).toArray⟩] 9))):=I.out.go (a.trans ((fC d _).mono a.size));have hl4:w.heap.size<=d.heap.size:=aH I.out.low.size a.size;have T:Hid (∀j u,([(.string ⟨(Lib.itoa n).toArray⟩:Value)])[j]?=some u->(d.alloc (.cells #[.string ⟨(Lib.itoa n).toArray⟩] 9)).cell? ((⟨d.heap.size,0,none⟩:Addr).add j)=some u):=World.news_of_block (eZ d (.cells #[.string ⟨(Lib.itoa n).toArray⟩] 9));clear a)
    |(at_builtin;refine wpList_append_lies _ rfl _ _ _ rfl w.heap.size 9 Y (.string ⟨#[]⟩) 1 16 underlying81 hi r t y rfl (by omega) u3 X.length (X.map sV) rfl G.out.row ⟨d.heap.size,0,none⟩ 1 1 [.string ⟨(Lib.itoa n).toArray⟩] rfl rfl T.out jA (by omega) (by unfold maxLen;omega) (by omega) (by simp;omega) _ rfl ?_;intro g5 m w5 b N gI gJ;have C5:Hid (Tw w (X++[Lib.itoa n]) (.slice (some ⟨g5,0,none⟩) (X.length+1) m) w5):=G.out.step b N;clear b N gI gJ)
    |fail)
   go_roundg (ns.length -(i+1))
   case measure=>have:=S.out;omega
   case rel=>exact⟨i+1,by omega,rfl,by first|rfl|(congr 1;omega)|go_num,by rw[s.out];exact C5.out⟩
  .have U:¬((i:Int)<(ns.length:Int)):=by omega
   have M:ns.take i=ns:=dA (by omega);have o:=I.out;rw[M]at o;have x:Hid (Calls prog 114 #[u3,.string ⟨#[32]⟩] wr λe l=>e=.returned (.string ⟨(aa ns).toArray⟩)/\Below wr.heap.size wr l):=B.out u3 wr o;have L:=hid o.low;clear o M I B F H
   go_wp2_with (first
    |(go_at_call 114;refine x.out.mono ?_;rintro e d ⟨rfl,a⟩;have V:Hid (Below w.heap.size w d):=L.out.trans (a.mono L.out.size);clear a)
    |fail)
   go_ret;exact⟨rfl,V.out⟩
end
section
open Go.Joins
variable{W:World}
abbrev af(n:Int):Prop:= -9223372036854775808<=n/\n<=9223372036854775807
theorem BS{g:Nat}{ns:List Int}{T:TypeId}(h:W.heap[g]?=some (.cells (ns.map (Value.int .i64)).toArray T)):∀k n,ns[k]?=some n->W.cell? ⟨g,0+k,none⟩=some (.int .i64 n):=by
 intro k n a;rw[fq h,Nat.zero_add];simp[a]
theorem ku{a b:Int}(e:af a)(d:af b):∀n∈[a,b],af n:=by
 intro n c;simp at c
 rcases c with rfl|rfl
 .exact e
 .exact d
abbrev tq(o:O):Obj:= .cells #[.int .i64 o.k,.int .i64 o.lk,.int .i64 o.lt,.int .i64 o.lv,.int .i64 o.rk,.int .i64 o.rt,.int .i64 o.rv,.bool o.hl,.bool o.hr] 89
abbrev iH(b:Nat)(o:O)(W:World):Prop:=W.cell? ⟨b,0,none⟩=some (.int .i64 o.k)/\W.cell? ⟨b,1,none⟩=some (.int .i64 o.lk)/\W.cell? ⟨b,2,none⟩=some (.int .i64 o.lt)/\W.cell? ⟨b,3,none⟩=some (.int .i64 o.lv)/\W.cell? ⟨b,4,none⟩=some (.int .i64 o.rk)/\W.cell? ⟨b,5,none⟩=some (.int .i64 o.rt)/\W.cell? ⟨b,6,none⟩=some (.int .i64 o.rv)/\W.cell? ⟨b,7,none⟩=some (.bool o.hl)/\W.cell? ⟨b,8,none⟩=some (.bool o.hr)
theorem Gw{b:Nat}{o:O}(h:W.heap[b]?=some (tq o)):iH b o W:=by
 refine⟨?_,?_,?_,?_,?_,?_,?_,?_,?_⟩ <;>(rw[fq h];rfl)
end
section
abbrev thrown(c:Int):Ending:= .panicked [{ v:= .iface 24 (.int .i64 c),recovered:=false}]
def numOf(y:List UInt8):Option Int:=match Lib.parseIntB 64 y with|.ok v=>if Lib.itoa v=y then some v else none|_=>none
theorem rC{y:List UInt8}{v:Int}(h:Lib.parseIntB 64 y=.ok v):af v:=by
 unfold Lib.parseIntB at h
 split at h
 .cases h
 .simp only at h
  split at h
  .cases h
  .cases h
  .rename_i u _
   split at h
   .cases h
   .split at h
    .cases h
    .rename_i h1 h2
     injection h with h
     split at h
     .rename_i hn
      have:¬2 ^ (64 -1)<u:=λe=>h2 ⟨hn,e⟩
      omega
     .rename_i hn
      have:¬2 ^ (64 -1)<=u:=λe=>h1 ⟨hn,e⟩
      omega
end
section
open Go.Joins
variable{y:List UInt8}{v:Int}
theorem xJ(h:Lib.parseIntB 64 y=.ok v)(hs:y.length<=1000000)(W:World):Calls Tryz.prog 85 #[.string ⟨y.toArray⟩,.int .i64 10,.int .i64 64] W λe a=>e=.returned (.tuple #[.int .i64 v,.nilIface])/\Below W.heap.size W a:=by
 refine(Tryz.strconv_ParseInt_10_at64_ok ⟨y.toArray⟩ (by show y.toArray.size<=_;simp;omega) v h W).mono ?_;rintro e a ⟨rfl,rfl|⟨t,rfl⟩⟩
 .exact⟨rfl,iL _ _⟩
 .exact⟨rfl,below_bytesWorld _ _ _ _ (aC _)⟩
theorem tC(h:∀v,Lib.parseIntB 64 y≠ .ok v)(hs:y.length<=1000000)(W:World)(c:aU W):Calls Tryz.prog 85 #[.string ⟨y.toArray⟩,.int .i64 10,.int .i64 64] W λe a=>∃n t u,e=.returned (.tuple #[.int .i64 n,.iface t u])/\Below W.heap.size W a:=by
 have d:(ByteArray.mk y.toArray).size<=281474976710656:=by show y.toArray.size<=_;simp;omega
 obtain⟨l,m,f⟩:=c.e5;obtain⟨g,j,i⟩:=c.e6
 cases hr:Lib.parseIntB 64 y with
 |ok v=>exact absurd hr (h v)
 | «syntax» =>
  refine(Tryz.strconv_ParseInt_10_at64_syntax ⟨y.toArray⟩ d hr l W m f).mono ?_;rintro e a ⟨N,rfl,_,_,b⟩;exact⟨_,_,_,rfl,b⟩
 |range=>
  refine(Tryz.strconv_ParseInt_10_at64_range ⟨y.toArray⟩ d hr g W j i).mono ?_;rintro e a ⟨N,rfl,_,_,b⟩;exact⟨_,_,_,rfl,b⟩
theorem qz(h:af v)(W:World)(b:jP W):Calls Tryz.prog 86 #[.int .i64 v,.int .i64 10] W λe a=>e=.returned (.string ⟨(Lib.itoa v).toArray⟩)/\Below W.heap.size W a:=by
 refine(Tryz.strconv_FormatInt_10 v h.1 h.2 W b).mono ?_;rintro e a ⟨rfl,k,os,rfl⟩;exact⟨rfl,JB W k os⟩
section
variable{k:Nat}{W:World}
end
end
section
def jI(c:Int):Value:=if c=0 then .nilIface else .iface 24 (.int .i64 c)
def Sx.feed0(st:Sx)(k t v:Int):Int×Sx:=
 if au k t v=false then(1,st)
 else if t<=st.x.m0 then(10,⟨{ st.x with late:=bR st.x.late},aZ st.f0,st.f1,st.L⟩)
 else if st.x.m1<t+st.x.hi/\300<=st.x.R0.length then(12,st)
 else(0,⟨st.x.fed0 k t v,aZ st.f0,st.f1,iE st.L (qc st.x ⟨k,t,v⟩)⟩)
def Sx.feed1(st:Sx)(k t v:Int):Int×Sx:=
 if au k t v=false then(1,st)
 else if t<=st.x.m1 then(10,⟨{ st.x with late:=bR st.x.late},st.f0,aZ st.f1,st.L⟩)
 else if st.x.m0<t+ -st.x.lo/\300<=st.x.R1.length then(12,st)
 else(0,⟨st.x.fed1 k t v,st.f0,aZ st.f1,iE st.L (qd st.x ⟨k,t,v⟩)⟩)
end
section
variable{lo hi mode:Int}
def aS(lo hi mode:Int):Int:=if ¬(-1048576<=lo/\lo<=1048576)∨¬(-1048576<=hi/\hi<=1048576)then 2 else if hi<lo then 10 else if ¬(0<=mode/\mode<=3)then 1 else 0
theorem DK(h:dn lo hi mode):aS lo hi mode=0:=by
 unfold dn at h;unfold aS;rw[if_neg (by omega),if_neg (by omega),if_neg (by omega)]
theorem qA(h:aS lo hi mode=0):dn lo hi mode:=by
 unfold aS at h
 split at h
 .cases h
 .split at h
  .cases h
  .split at h
   .cases h
   .unfold dn;omega
section
end
end
section
def sortO(L:List O):List O:=L.mergeSort (λa b=>decide (cO a b<=0))
end
end Go.Proofs.YthfpipieboophaaGreatDoor
