import Derived.Lib.ItoaLen
import Derived.Test.YthfpipieboophaaGreatDoorShl
import Derived.Test.YthfpipieboophaaGreatDoorZEnd
namespace Go.Proofs.YthfpipieboophaaGreatDoor
set_option maxRecDepth 100000
set_option maxHeartbeats 40000000
open Go.RowKit Go.Shelf
section
open Go.Proofs.Tryz
theorem Jy:(prog.info? 126).map (·.size)=some 2:=by kernel_rfl
theorem RI:liesAt prog prog.depth 126 (2/prog.cellsOf 126) 0 126 1=true:=by kernel_rfl
theorem infoByte:(prog.info? 5).map (λi=>(i.zero,i.size,i.bytes))=some (some (.int .u8 0),1,1):=by kernel_rfl
theorem nR(b:Nat)(w:World)(h0:w.cell? ⟨b,0,none⟩=some (.pointer (some ⟨b,0,none⟩))):
  Calls prog 147 #[.pointer (some ⟨b,0,none⟩)] w λe a=>e=.returned (.tuple #[])/\a=w:=by
 obtain⟨j,c,_⟩:=Option.map_eq_some_iff.1 Jy
 have hn:=λW:World=>Lib.run_neq_ptr_same (P:=prog) (w:=W) ⟨b,0,none⟩ underlying123 c
 go_enter func147,ntmps147;go_wp2
 go_end0
 exact⟨rfl,rfl⟩
theorem nA(b:Nat)(w:World)(h0:w.cell? ⟨b,0,none⟩=some (.pointer none))(a:w.shape? b=some (126,2))(hfz:w.frozen? ⟨b,0,none⟩=false):
  Calls prog 147 #[.pointer (some ⟨b,0,none⟩)] w λe f=>e=.returned (.tuple #[])/\f=w.setCell ⟨b,0,none⟩ (.pointer (some ⟨b,0,none⟩)):=by
 obtain⟨j,d,c⟩:=Option.map_eq_some_iff.1 Jy;have hu:=Lib.run_to_unsafe (P:=prog) (w:=w) ⟨b,0,none⟩ underlying123 underlying206 d (by rw[c];decide) a (Nat.zero_lt_succ 1);have hf:=Lib.run_from_unsafe (P:=prog) (w:=w) ⟨b,0,none⟩ underlying206 underlying123 d a RI;have hx:=run_callFunc_extern func220 (by kernel_rfl) (by kernel_rfl) (by kernel_rfl) (e:=Extern.AbiNoEscape.same) (by kernel_rfl)
 have hne:=λx=>Lib.run_noEscape (P:=prog) (w:=w) x
 go_enter func147,ntmps147;go_wp2
 go_end0
 exact⟨rfl,rfl⟩
theorem zo(B b:Nat)(bs:List Value)(w:World)(h:Lib.IsBuilderF 126 5 B b bs w):
  Calls prog 147 #[.pointer (some ⟨b,0,none⟩)] w λe a=>e=.returned (.tuple #[])/\(Lib.BuilderAtF 126 5 B b (.pointer (some ⟨b,0,none⟩)) bs a/\Below B w a/\Lib.OthersKept 5 (some b) w a):=by
 rcases h with h|h
 .refine(nA b w h.cell0 h.shape h.frozen0).mono ?_;rintro e a ⟨rfl,rfl⟩;exact⟨rfl,h.used _,(Below.refl B w).setCell (p:=⟨b,0,none⟩) h.1 _,(Lib.OthersKept.refl _ _ w).setCell ⟨b,0,none⟩ rfl _⟩
 .refine(nR b w h.cell0).mono ?_;rintro e a ⟨rfl,rfl⟩;exact⟨rfl,h,Below.refl B _,Lib.OthersKept.refl _ _ _⟩
theorem wo(B b:Nat)(bs:List Value)(s:ByteArray)(w:World)(h:Lib.IsBuilderF 126 5 B b bs w)(hlen:bs.length+s.size<=140737488355328)(hBw:B<=w.heap.size):
  Calls prog 78 #[.pointer (some ⟨b,0,none⟩),.string s] w λe o=>e=.returned (.tuple #[.int .i64 s.size,.nilIface])/\(Lib.BuilderAtF 126 5 B b (.pointer (some ⟨b,0,none⟩)) (bs++Lib.strCells s) o/\Below B w o/\Lib.OthersKept 5 (some b) w o):=by
 obtain⟨H,hi,t,u,x⟩:=info_parts infoByte;go_enter func78,ntmps78
 go_wp2_with (first
  |(go_at_call 147;refine(zo B b bs _ h).mono ?_)
  |fail)
 rintro e l ⟨rfl,G,j,q⟩;obtain⟨C,v,f,c,r⟩:=G
 have c0:l.cell? ⟨b,0,none⟩=some (.pointer (some ⟨b,0,none⟩)):=by rw[Lib.cell_of_heap f];rfl
 have c1:l.cell? ⟨b,1,none⟩=some v:=by rw[Lib.cell_of_heap f];rfl
 go_wp2_with (at_builtin;refine Lib.wpList_append_own_stringF _ rfl _ _ 124 9 rfl B 5 H underlying124 underlying9 hi t u x _ _ _ rfl c s rfl ?c3 ?c4 ?c5 ?_)
 case c3=>unfold maxLen;omega
 case c4=>omega
 case c5=>have:=j.size;omega
 intro E m d a _
 have n:b<l.heap.size:=by
  rcases Nat.lt_or_ge b l.heap.size with h'|h'
  .exact h'
  .simp[Array.getElem?_eq_none h']at f
 have i:m.heap[b]?=some (.cells #[.pointer (some ⟨b,0,none⟩),v] 126 (0,0)):=by
  rw[a.block b n (λe=>r e.symm)];exact f
 have d0:m.cell? ⟨b,0,none⟩=some (.pointer (some ⟨b,0,none⟩)):=by rw[Lib.cell_of_heap i];rfl
 have d1:m.cell? ⟨b,1,none⟩=some v:=by rw[Lib.cell_of_heap i];rfl
 have f1:m.frozen? ⟨b,1,none⟩=false:=Lib.frozen_of_heap i 1
 obtain⟨A,z,cap,rfl⟩:∃A z cap,E=.slice A z cap:=by
  rcases d.2 with⟨y,_⟩|⟨g,cap,cur,fz,y,_⟩
  .exact⟨_,_,_,y⟩
  .exact⟨_,_,_,y⟩
 go_wp2;go_ret2;refine⟨rfl,?_,?_,(q.grown a (Lib.ownsRowF_kind c)).setCell ⟨b,1,none⟩ rfl _⟩
 .exact Lib.BuilderAtF.put (T:=126) (e:=5) C i (bs':=bs++Lib.strCells s) (by simpa[Lib.strCells_length]using d) (by decide)
 .exact(j.grown a (by have:=j.size;omega) (λk F=>(c.lt k F).1)).setCell (p:=⟨b,1,none⟩) C _
end
section
open Go.Proofs.Tryz Go.Sort
variable{w w' w0 W W':World}{e:TypeId}{bb bw:Nat}{txt:List UInt8}
theorem LG{P:Program}{n:String}{g:Nat}{cs:Array Value}(c:P.globalNamed n=some g)(h:w.var? P n=some cs)(b:Below w.heap.size w w'):w'.var? P n=some cs:=by
 unfold World.var? at h⊢;rw[c]at h⊢;simp only[Option.bind_some]at h⊢
 have a:g<w.heap.size:=by
  rcases Nat.lt_or_ge g w.heap.size with h'|h'
  .exact h'
  .rw[Array.getElem?_eq_none h']at h;cases h
 rw[b.block g a];exact h
theorem below_grow(w:World)(k:Nat)(os:Array Obj):Below w.heap.size w (grow (w.drewN k) os):=
 ⟨rfl,rfl,rfl,by simp[grow,World.drewN],λj a=>by show(w.heap++os)[j]?=w.heap[j]?;rw[Array.getElem?_append_left a]⟩
theorem EW{b:Option Nat}(h:Below w.heap.size w w'):Lib.OthersKept e b w w':=λk _ a _ _=>(h.block k (ax.1 a).1).trans a
def cK(ns:List Int):List UInt8:=ns.flatMap λn=>32::Lib.itoa n
def dB(head:List UInt8)(ns:List Int):List UInt8:=head++(cK ns++[10])
theorem Ir(ns:List Int)(i:Nat)(n:Int)(h:ns[i]?=some n):cK (ns.take (i+1))=cK (ns.take i)++(32::Lib.itoa n):=by
 unfold cK;rw[List.take_add_one,h];simp
theorem uw(ns:List Int)(h:∀n∈ns,-9223372036854775808<=n/\n<=9223372036854775807):(cK ns).length<=ns.length*22:=by
 unfold cK
 induction ns with
 |nil=>simp
 |cons a r ih=>
  have h1:=Lib.itoa_length_le a (h a (by simp)).1 (h a (by simp)).2;have b:=ih (λn c=>h n (by simp[c]));simp only[List.flatMap_cons,List.length_append,List.length_cons]at b⊢;omega
structure Wr(w0:World)(bb bw:Nat)(txt:List UInt8)(W:World):Prop where
 bld:Lib.IsBuilderF 126 5 w0.heap.size bb (Lib.byteCells txt) W
 box:W.heap[bw]?=some (.cells #[.pointer (some ⟨bb,0,none⟩)] 123)
 low:Below w0.heap.size w0 W
theorem Wr.blk(h:Wr w0 bb bw txt W):∃p v,W.heap[bb]?=some (.cells #[p,v] 126 (0,0)):=by
 rcases h.bld with⟨_,v,a,_⟩|⟨_,v,a,_⟩
 .exact⟨_,v,a⟩
 .exact⟨_,v,a⟩
theorem Wr.ne(h:Wr w0 bb bw txt W):bw≠bb:=by
 intro e;obtain⟨p,v,b⟩:=h.blk;have a:=h.box;rw[e,b]at a;simp at a
theorem Wr.cell(h:Wr w0 bb bw txt W):W.cell? ⟨bw,0,none⟩=some (.pointer (some ⟨bb,0,none⟩)):=by
 rw[Lib.cell_of_heap h.box];rfl
theorem zU{T:TypeId}{B b:Nat}{bs:List Value}(h:Lib.IsBuilderF T e B b bs w)(a:Below w.heap.size w w'):Lib.IsBuilderF T e B b bs w':=by
 have g:w.grownBy w' none:=⟨a.os,a.tape,a.output,a.size,λi hi _=>a.block i hi⟩
 have key:∀p,Lib.BuilderAtF T e B b p bs w->Lib.BuilderAtF T e B b p bs w':=by
  rintro p ⟨f,v,c,j,d⟩;refine⟨f,v,(a.block b (ax.1 c).1).trans c,j.kept g ?_,d⟩
  cases hv:v.ownBlock with
  |none=>exact .inl rfl
  |some k=>exact .inr (by simp)
 exact h.imp (key _) (key _)
theorem Wr.below(h:Wr w0 bb bw txt W)(a:Below W.heap.size W W'):Wr w0 bb bw txt W':=
 ⟨zU h.bld a,(a.block _ (ax.1 h.box).1).trans h.box,h.low.trans (a.mono h.low.size)⟩
theorem Wr.write(h:Wr w0 bb bw txt W)(s:ByteArray)(d:txt.length+s.size<=140737488355328):
  Calls prog 78 #[.pointer (some ⟨bb,0,none⟩),.string s] W λe w'=>(∃r,e=.returned r)/\Wr w0 bb bw (txt++s.data.toList) w'/\Lib.OthersKept 5 (some bb) W w':=by
 refine(wo w0.heap.size bb (Lib.byteCells txt) s W h.bld (by rw[Lib.byteCells_length];exact d) h.low.size).mono ?_;rintro e w' ⟨rfl,a,f,b⟩;refine⟨⟨_,rfl⟩,⟨?_,?_,h.low.trans f⟩,b⟩
 .rw[Lib.strCells_eq,<-Lib.byteCells_append]at a;exact .inr a
 .refine b bw _ h.box (λe=>h.ne (by injection e)) ?_;intro c fz e
  injection e with _ e2 _
  exact absurd e2 (by decide)
theorem Wr.tell(h:Wr w0 bb bw txt W)(tab:Lib.TabIs prog w0 "internal/strconv.uint64pow10" .u64 Lib.pow10Tab)(n:Int)(h0: -9223372036854775808<=n)(h1:n<=9223372036854775807):
  Calls prog 113 #[.int .i64 n] W λe w'=>e=.returned (.string ⟨(Lib.itoa n).toArray⟩)/\Wr w0 bb bw txt w'/\Lib.OthersKept 5 (some bb) W w':=by
 have ht:Lib.TabIs prog W "internal/strconv.uint64pow10" .u64 Lib.pow10Tab:=LG (show prog.globalNamed "internal/strconv.uint64pow10" =some 6 by kernel_rfl) tab h.low;refine(Tryz.strconv_Itoa n h0 h1 W ht).mono ?_;rintro e w' ⟨rfl,k,os,rfl⟩;exact⟨rfl,h.below (below_grow W k os),EW (below_grow W k os)⟩
def PK(W:World)(bb:Nat)(v:Value)(ns:List Int):Prop:=
 ∃oa c,v=.slice oa ns.length c/\(0<ns.length->∃g off cs T fz,oa=some ⟨g,off,none⟩/\W.heap[g]?=some (.cells cs T fz)/\T≠5/\g≠bb/\∀k n,ns[k]?=some n->cs[off+k]?=some (.int .i64 n))
theorem PK.at{b:Option Addr}{c:Nat}{ns:List Int}(h:PK W bb (.slice b ns.length c) ns)(j:Lib.OthersKept 5 (some bb) W W')(k:Nat)(n:Int)(a:ns[k]?=some n):∃g off,b=some ⟨g,off,none⟩/\g<W'.heap.size/\W'.cell? ⟨g,off+k,none⟩=some (.int .i64 n):=by
 obtain⟨oa',c',e,m⟩:=h;cases e;obtain⟨g,off,cs,T,fz,rfl,f,i,l,o⟩:=m (by have:=(bP.1 a).1;omega);have d:=j g _ f (λe=>l (by injection e)) (by intro c fz' e;injection e with _ e2 _;exact i e2);refine⟨g,off,rfl,(ax.1 d).1,?_⟩;rw[Lib.cell_of_heap d];exact o k n a
theorem yG(w0:World)(bb bw:Nat)(txt:List UInt8)(head:ByteArray)(ns:List Int)(v:Value)(w:World)(h:Wr w0 bb bw txt w)(tab:Lib.TabIs prog w0 "internal/strconv.uint64pow10" .u64 Lib.pow10Tab)(hn:PK w bb v ns)
  (hr:∀n∈ns,-9223372036854775808<=n/\n<=9223372036854775807) (hl:txt.length+head.size+ns.length*22<=1000000000000) (hl2:ns.length<=1000):
  Calls prog 115 #[.string head,v,.pointer (some ⟨bw,0,none⟩)] w λe w'=>e=.returned (.tuple #[])/\Wr w0 bb bw (txt++dB head.data.toList ns) w'/\Lib.OthersKept 5 (some bb) w w':=by
 obtain⟨oa,c,rfl⟩:∃oa c,v=.slice oa ns.length c:=by
  obtain⟨oa,c,e,_⟩:=hn;exact⟨oa,c,e⟩
 have hlen:∀i,(cK (ns.take i)).length<=ns.length*22:=λi=>by
  have h1:=uw (ns.take i) (λn hn=>hr n (List.mem_of_mem_take hn))
  have h2:(ns.take i).length<=ns.length:=by rw[List.length_take];omega
  have:=Nat.mul_le_mul_right 22 h2;omega
 have hsz:head.data.toList.length=head.size:=by rw[Array.length_toList];rfl
 have HW0:Hid (Calls prog 78 #[.pointer (some ⟨bb,0,none⟩),.string head] w λe w'=>(∃r,e=.returned r)/\Hid (Wr w0 bb bw (txt++head.data.toList++cK (ns.take 0)) w'/\Lib.OthersKept 5 (some bb) w w')):=
  (h.write head (by omega)).mono λe w' ⟨h1,h2,h3⟩=>⟨h1,by simpa[cK]using h2,h3⟩
 have HB:Hid (∀(i:Nat) (wr:World),i<=ns.length->Hid (Wr w0 bb bw (txt++head.data.toList++cK (ns.take i)) wr/\Lib.OthersKept 5 (some bb) w wr)->Calls prog 78 #[.pointer (some ⟨bb,0,none⟩),.string ⟨#[32]⟩] wr λe w'=>(∃r,e=.returned r)/\w'.cell? ⟨bw,0,none⟩=some (.pointer (some ⟨bb,0,none⟩))/\Hid (Wr w0 bb bw (txt++head.data.toList++cK (ns.take i)++[32]) w'/\Lib.OthersKept 5 (some bb) w w')):=by
  intro i wr _ hi;have ZO:=hlen i;refine(hi.out.1.write ⟨#[32]⟩ (by simp only[List.length_append];show _+1<=_;omega)).mono ?_;rintro e w' ⟨h1,h2,h3⟩;exact⟨h1,h2.cell,h2,hi.out.2.trans h3⟩
 have HI:Hid (∀(i:Nat) (n:Int) (T:List UInt8) (wr:World),ns[i]?=some n->Hid (Wr w0 bb bw T wr/\Lib.OthersKept 5 (some bb) w wr)->Calls prog 113 #[.int .i64 n] wr λe w'=>e=.returned (.string ⟨(Lib.itoa n).toArray⟩)/\w'.cell? ⟨bw,0,none⟩=some (.pointer (some ⟨bb,0,none⟩))/\Hid (Wr w0 bb bw T w'/\Lib.OthersKept 5 (some bb) w w')):=by
  intro i n T wr hin hi;have hrn:=hr n (cZ hin);refine(hi.out.1.tell tab n hrn.1 hrn.2).mono ?_;rintro e w' ⟨h1,h2,h3⟩;exact⟨h1,h2.cell,h2,hi.out.2.trans h3⟩
 have HC:Hid (∀(i:Nat) (n:Int) (wr:World),ns[i]?=some n->Hid (Wr w0 bb bw (txt++head.data.toList++cK (ns.take i)++[32]) wr/\Lib.OthersKept 5 (some bb) w wr)->Calls prog 78 #[.pointer (some ⟨bb,0,none⟩),.string ⟨(Lib.itoa n).toArray⟩] wr λe w'=>(∃r,e=.returned r)/\w'.cell? ⟨bw,0,none⟩=some (.pointer (some ⟨bb,0,none⟩))/\Hid (Wr w0 bb bw (txt++head.data.toList++cK (ns.take (i+1))) w'/\Lib.OthersKept 5 (some bb) w w')):=by
  intro i n wr hin hi;have ZO:=hlen i;have hrn:=hr n (cZ hin);have hil:=Lib.itoa_length_le n hrn.1 hrn.2
  have hsi:((⟨(Lib.itoa n).toArray⟩:ByteArray)).size=(Lib.itoa n).length:=by show(Lib.itoa n).toArray.size=_;simp
  refine(hi.out.1.write ⟨(Lib.itoa n).toArray⟩ (by simp only[List.length_append,List.length_cons,List.length_nil];omega)).mono ?_;rintro e w' ⟨h1,h2,h3⟩;refine⟨h1,h2.cell,?_,hi.out.2.trans h3⟩;rw[Ir ns i n hin];simpa[List.append_assoc]using h2
 have HE:Hid (∀wr,Hid (Wr w0 bb bw (txt++head.data.toList++cK ns) wr/\Lib.OthersKept 5 (some bb) w wr)->Calls prog 78 #[.pointer (some ⟨bb,0,none⟩),.string ⟨#[10]⟩] wr λe w'=>(∃r,e=.returned r)/\Hid (Wr w0 bb bw (txt++dB head.data.toList ns) w'/\Lib.OthersKept 5 (some bb) w w')):=by
  intro wr hi;have ZO:=hlen ns.length;rw[List.take_length]at ZO;refine(hi.out.1.write ⟨#[10]⟩ (by simp only[List.length_append];show _+1<=_;omega)).mono ?_;rintro e w' ⟨h1,h2,h3⟩;refine⟨h1,?_,hi.out.2.trans h3⟩;unfold dB;simpa[List.append_assoc]using h2
 have HN:=hid hn;have hc0:=h.cell;clear h hn tab hr hlen hsz hl;go_enter func115,ntmps115
 go_wp2_with (first
  |(go_at_call 78;refine HW0.out.mono ?_;rintro e w1 ⟨⟨r1,rfl⟩,h1⟩)
  |fail)
 clear HW0 hc0
 go_loopg [12] ns.length (λgg s12 wr=>∃i:Nat,i<=ns.length/\gg=ns.length -i/\s12=.int .i64 i/\Hid (Wr w0 bb bw (txt++head.data.toList++cK (ns.take i)) wr/\Lib.OthersKept 5 (some bb) w wr))
 case atStart=>exact⟨0,aW _,rfl,rfl,h1⟩
 case round=>
  obtain⟨i,hile,iU,rfl,I⟩:=hrel;have HG:=hid iU;clear iU h1
  by_cases hlt2:i<ns.length
  .obtain⟨n,hin⟩:∃n,ns[i]?=some n:=⟨_,aO hlt2⟩;obtain⟨g,off,eo,hgl,hcn⟩:=HN.out.at I.out.2 i n hin;cases eo;have hcb:=I.out.1.cell
   have j1:(0:Int)<=(i:Int):=by omega
   have j2:(i:Int)<(ns.length:Int):=by omega
   have j3:(ns.length:Int)<=1000:=by omega
   have H1:=HB.out i wr hile I;have H1':Hid (Calls prog 78 #[.pointer (some ⟨bb,0,none⟩),.string ⟨#[32]⟩] wr λe w'=>(∃r,e=.returned r)/\w'.cell? ⟨bw,0,none⟩=some (.pointer (some ⟨bb,0,none⟩))/\Hid (Wr w0 bb bw (txt++head.data.toList++cK (ns.take i)++[32]) w'/\Lib.OthersKept 5 (some bb) w w')):=H1;have Xj:=HI.out i n (txt++head.data.toList++cK (ns.take i)++[32])
   have XM:Hid (∀wr,Hid (Wr w0 bb bw (txt++head.data.toList++cK (ns.take i)++[32]) wr/\Lib.OthersKept 5 (some bb) w wr)->Calls prog 113 #[.int .i64 n] wr λe w'=>e=.returned (.string ⟨(Lib.itoa n).toArray⟩)/\w'.cell? ⟨bw,0,none⟩=some (.pointer (some ⟨bb,0,none⟩))/\Hid (Wr w0 bb bw (txt++head.data.toList++cK (ns.take i)++[32]) w'/\Lib.OthersKept 5 (some bb) w w')):=λwr=>Xj wr hin
   have HC':Hid (∀wr,Hid (Wr w0 bb bw (txt++head.data.toList++cK (ns.take i)++[32]) wr/\Lib.OthersKept 5 (some bb) w wr)->Calls prog 78 #[.pointer (some ⟨bb,0,none⟩),.string ⟨(Lib.itoa n).toArray⟩] wr λe w'=>(∃r,e=.returned r)/\w'.cell? ⟨bw,0,none⟩=some (.pointer (some ⟨bb,0,none⟩))/\Hid (Wr w0 bb bw (txt++head.data.toList++cK (ns.take (i+1))) w'/\Lib.OthersKept 5 (some bb) w w')):=λwr=>HC.out i n wr hin
   clear H1 Xj hin I
   go_wp2_with (first
    |(go_at_call 78;refine H1'.out.mono ?_;rintro e w2 ⟨⟨r2,rfl⟩,hc2,h2⟩)
    |fail)
   have D2:Hid (Hid (Wr w0 bb bw (txt++head.data.toList++cK (ns.take i)++[32]) w2.drew/\Lib.OthersKept 5 (some bb) w w2.drew)):=⟨h2.out.1.below ((iL _ _).drew),h2.out.2.drew⟩
   go_region_held3 (λW=>W.cell? ⟨bw,0,none⟩=some (.pointer (some ⟨bb,0,none⟩))) (first|exact hc2|exact hc3|exact hc4|fail) (first
    |(go_at_call 78;refine(HC'.out _ h3).mono ?_;rintro e w4 ⟨⟨r4,rfl⟩,hc4,h4⟩)
    |(go_at_call 113;refine(XM.out _ D2.out).mono ?_;rintro e w3 ⟨rfl,hc3,h3⟩)
    |fail)
   go_wp2
   go_roundg (ns.length -(i+1))
   all_goals first
    |(have:=HG.out;omega)
    |exact⟨i+1,by omega,rfl,by first|rfl|(congr 1;omega)|go_num,h4⟩
  .have j2:¬((i:Int)<(ns.length:Int)):=by omega
   have hie:i=ns.length:=by omega
   have I2:Hid (Wr w0 bb bw (txt++head.data.toList++cK ns) wr/\Lib.OthersKept 5 (some bb) w wr):=by
    have:=I.out;rw[hie,List.take_length]at this;exact this
   have hcb:=I2.out.1.cell;clear I
   go_wp2_with (first
    |(go_at_call 78;refine(HE.out _ I2).mono ?_;rintro e w2 ⟨⟨r2,rfl⟩,h2⟩)
    |fail)
   go_end0
   exact⟨rfl,h2.out⟩
end
section
open Go.Proofs.Tryz Go.Joins Go.Sort
theorem BI(b o m:Nat)(g:Option Nat)(L:List O)(w:World)(h:aP w b o g m L):Calls prog 57 #[.pointer (some ⟨b,o,none⟩)] w λe k=>e=.returned (.int .i64 L.length)/\k=w:=by
 have hc:=h.cells;have hlt:=h.lt;clear h;go_enter func57,ntmps57;go_wp2;go_ret;exact⟨rfl,rfl⟩
theorem Jl(bb:Nat)(w:World):Calls prog 58 #[.pointer (some ⟨bb,0,none⟩)] w λe b=>e=.returned (.func (.func 115) #[] #[.pointer (some ⟨w.heap.size,0,none⟩)])/\b=w.alloc (.cells #[.pointer (some ⟨bb,0,none⟩)] 123):=by
 go_enter func58,ntmps58;go_wp2;go_ret;exact⟨rfl,rfl⟩
section
variable(f bj a:Nat)(d c:Value)(f0 f1:Int)(g:Option Nat)(i:Nat->Prop)(x:J)(L j:List O)(w:World)
theorem MR(h:az w f bj a d c f0 f1 g i x L j):Calls prog 25 #[.pointer (some ⟨f,0,none⟩)] w λe b=>e=.returned (.int .i64 x.late)/\b=w:=by
 have H:Hid (Calls prog 67 #[.pointer (some ⟨bj,0,none⟩)] w λe b=>e=.returned (.int .i64 x.late)/\b=w):=AV 0 bj a d c x w h.join;have hc:=h.cells.2.2.2.1;have hlt:=h.blt;clear h;go_enter func25,ntmps25
 go_wp2_with (first
  |(go_at_call 67;refine H.out.mono ?_;rintro e b ⟨rfl,k⟩;have k:=k.symm;subst k)
  |fail)
 go_ret;exact⟨rfl,rfl⟩
theorem jd(s:Int)(h:az w f bj a d c f0 f1 g i x L j):Calls prog 20 #[.pointer (some ⟨f,0,none⟩),.int .i64 s] w λe b=>e=.returned (.int .i64 (kW x.m0 x.m1 s))/\b=w:=by
 have H:Hid (Calls prog 64 #[.pointer (some ⟨bj,0,none⟩),.int .i64 s] w λe b=>e=.returned (.int .i64 (kW x.m0 x.m1 s))/\b=w):=Lj 0 bj a d c x s w h.join;have hc:=h.cells.2.2.2.1;have hlt:=h.blt;clear h;go_enter func20,ntmps20
 go_wp2_with (first
  |(go_at_call 64;refine H.out.mono ?_;rintro e b ⟨rfl,k⟩;have k:=k.symm;subst k)
  |fail)
 go_ret;exact⟨rfl,rfl⟩
theorem Ot(h:az w f bj a d c f0 f1 g i x L j)(l:x.R0.length<=100000):Calls prog 23 #[.pointer (some ⟨f,0,none⟩),.int .i64 0] w λe b=>∃v,e=.returned v/\b.ownsRow w.heap.size 130 4 v x.R0.length (x.R0.flatMap ak)/\Below w.heap.size w b:=by
 have H:Hid (Calls prog 65 #[.pointer (some ⟨bj,0,none⟩),.int .i64 0] w λe b=>∃v,e=.returned v/\b.ownsRow w.heap.size 130 4 v x.R0.length (x.R0.flatMap ak)/\Below w.heap.size w b):=Vp 0 bj a d c x w h.join l;have hc:=h.cells.2.2.2.1;have hlt:=h.blt;clear h;go_enter func23,ntmps23
 go_wp2_with (first
  |(go_at_call 65;refine H.out.mono ?_;rintro e w1 ⟨v,rfl,k⟩)
  |fail)
 go_ret;exact⟨v,rfl,k⟩
theorem Ou(h:az w f bj a d c f0 f1 g i x L j)(l:x.R1.length<=100000):Calls prog 23 #[.pointer (some ⟨f,0,none⟩),.int .i64 1] w λe b=>∃v,e=.returned v/\b.ownsRow w.heap.size 130 4 v x.R1.length (x.R1.flatMap ak)/\Below w.heap.size w b:=by
 have H:Hid (Calls prog 65 #[.pointer (some ⟨bj,0,none⟩),.int .i64 1] w λe b=>∃v,e=.returned v/\b.ownsRow w.heap.size 130 4 v x.R1.length (x.R1.flatMap ak)/\Below w.heap.size w b):=Vq 0 bj a d c x w h.join l;have hc:=h.cells.2.2.2.1;have hlt:=h.blt;clear h;go_enter func23,ntmps23
 go_wp2_with (first
  |(go_at_call 65;refine H.out.mono ?_;rintro e w1 ⟨v,rfl,k⟩)
  |fail)
 go_ret;exact⟨v,rfl,k⟩
end
def fu(o:O):ByteArray:=⟨if o.hl then(if o.hr then#[111,117,116,32,51]else#[111,117,116,32,49])else#[111,117,116,32,50]⟩
def dV(o:O):List Int:=(if o.hl then[o.lk,o.lt,o.lv]else[])++(if o.hr then[o.rk,o.rt,o.rv]else[])
theorem Gc(o:O)(w:World):Calls prog 59 #[vO o] w λe b=>e=.returned (.string (fu o))/\Below w.heap.size w b:=by
 simp only[vO];cases hl:o.hl
 .go_enter func59,ntmps59;go_wp2;go_ret;refine⟨by simp[fu,hl],?_⟩;exact fC _ _
 .cases hr:o.hr
  .go_enter func59,ntmps59;go_wp2;go_ret;refine⟨by simp[fu,hl,hr],?_⟩;exact fC _ _
  .go_enter func59,ntmps59;go_wp2;go_ret;refine⟨by simp[fu,hl,hr],?_⟩;exact fC _ _
end
section
open Go.Proofs.Tryz Go.Joins Go.Sort
variable{w:World}
theorem PI:(prog.info? 3).map (λi=>(i.zero,i.size,i.bytes))=some (some (.int .i64 0),1,8):=by kernel_rfl
abbrev vI(ns:List Int):List Value:=ns.map (Value.int .i64)
theorem Dc(ns:List Int):∀u∈vI ns,u.oneCell'=true:=by
 intro u a;obtain⟨n,_,rfl⟩:=dH.1 a;rfl
theorem nu{g:Nat}{a b c:Int}{T:TypeId}(h:w.heap[g]?=some (.cells #[.int .i64 a,.int .i64 b,.int .i64 c] T)):∀j u,(vI [a,b,c])[j]?=some u->w.cell? ((⟨g,0,none⟩:Addr).add j)=some u:=by
 intro j u d;rw[bZ,Lib.cell_of_heap h,<-d]
 rcases j with _|_|_|j <;>simp[vI]
theorem Gd{base bb:Nat}{v:Value}{ns:List Int}(h:w.ownsRow base 3 1 v ns.length (vI ns))(b:∀k,v.ownBlock=some k->k≠bb):PK w bb v ns:=by
 rcases h.2 with⟨rfl,c⟩|⟨g,cap,cur,rfl,h1,a,h3,h4,h5,h6⟩
 .exact⟨none,0,by rw[c],λhp=>by omega⟩
 .refine⟨_,_,rfl,λ_=>⟨g,0,cur,3,_,rfl,a,by decide,b g rfl,λk n d=>?_⟩⟩;have:=h.cells (g:=g) rfl k (.int .i64 n) (by simp[vI,d]);rw[bZ,Lib.cell_of_heap a]at this;simpa using this
abbrev kY(o:O):Obj:= .cells #[.int .i64 o.k,.int .i64 o.lk,.int .i64 o.lt,.int .i64 o.lv,.int .i64 o.rk,.int .i64 o.rt,.int .i64 o.rv,.bool o.hl,.bool o.hr] 89
theorem zf{W:World}{b:Nat}{o:O}(h:W.heap[b]?=some (kY o)):W.cell? ⟨b,1,none⟩=some (.int .i64 o.lk)/\W.cell? ⟨b,2,none⟩=some (.int .i64 o.lt)/\W.cell? ⟨b,3,none⟩=some (.int .i64 o.lv)/\W.cell? ⟨b,4,none⟩=some (.int .i64 o.rk)/\W.cell? ⟨b,5,none⟩=some (.int .i64 o.rt)/\W.cell? ⟨b,6,none⟩=some (.int .i64 o.rv)/\W.cell? ⟨b,7,none⟩=some (.bool o.hl)/\W.cell? ⟨b,8,none⟩=some (.bool o.hr):=by
 refine⟨?_,?_,?_,?_,?_,?_,?_,?_⟩ <;>(rw[fq h];rfl)
theorem zg(o:O)(w:World):Calls prog 60 #[vO o] w λe z=>∃v,e=.returned v/\z.ownsRow w.heap.size 3 1 v (dV o).length (vI (dV o))/\Below w.heap.size w z:=by
 obtain⟨s,f,h,l,d⟩:=je PI;obtain⟨k,lk,lt,lv,rk,rt,rv,t,u⟩:=o;have c:Below w.heap.size w (w.alloc (kY ⟨k,lk,lt,lv,rk,rt,rv,t,u⟩)):=fC _ _;have j:=eZ w (kY ⟨k,lk,lt,lv,rk,rt,rv,t,u⟩);simp only[vO]
 cases t <;>cases u
 all_goals go_enter func60,ntmps60
 .go_wp2;go_ret;exact⟨_,rfl,iR _ _ _ _,c⟩
 .go_wp2_with (first
   |(at_builtin;refine wpList_append_lies _ rfl _ _ 84 rfl w.heap.size 3 s (.int .i64 0) 1 8 underlying84 f h l d rfl (by decide) (.slice none 0 0) 0 [] rfl (iR _ _ _ _) ⟨w.heap.size+1,0,none⟩ 3 3 (vI [rk,rt,rv]) rfl rfl (by have:=eZ (w.alloc (.cells #[.int .i64 k,.int .i64 lk,.int .i64 lt,.int .i64 lv,.int .i64 rk,.int .i64 rt,.int .i64 rv,.bool false,.bool true] 89)) (.cells #[.int .i64 rk,.int .i64 rt,.int .i64 rv] 3);simp only[World.size_alloc]at this;exact nu this) (Dc _) (by omega) (by unfold maxLen;omega) (by omega) (by simp only[World.size_alloc];omega) _ rfl ?_)
   |fail)
  intro g cap q b a i r;go_wp2;go_ret;refine⟨_,rfl,b,?_⟩;exact(c.alloc (by simp) _).grown a (by simp;omega) (λk e=>by cases e)
 .go_wp2_with (first
   |(at_builtin;refine wpList_append_lies _ rfl _ _ 84 rfl w.heap.size 3 s (.int .i64 0) 1 8 underlying84 f h l d rfl (by decide) (.slice none 0 0) 0 [] rfl (iR _ _ _ _) ⟨w.heap.size+1,0,none⟩ 3 3 (vI [lk,lt,lv]) rfl rfl (by have:=eZ (w.alloc (.cells #[.int .i64 k,.int .i64 lk,.int .i64 lt,.int .i64 lv,.int .i64 rk,.int .i64 rt,.int .i64 rv,.bool true,.bool false] 89)) (.cells #[.int .i64 lk,.int .i64 lt,.int .i64 lv] 3);simp only[World.size_alloc]at this;exact nu this) (Dc _) (by omega) (by unfold maxLen;omega) (by omega) (by simp only[World.size_alloc];omega) _ rfl ?_)
   |fail)
  intro g cap q b a i r;have m:Below w.heap.size w q:=(c.alloc (by simp) _).grown a (by simp;omega) (λk e=>by cases e);have x:=zf (o:=⟨k,lk,lt,lv,rk,rt,rv,true,false⟩) ((a.block w.heap.size (by simp;omega) (by simp[Value.ownBlock])).trans (((fC (w.alloc (.cells #[.int .i64 k,.int .i64 lk,.int .i64 lt,.int .i64 lv,.int .i64 rk,.int .i64 rt,.int .i64 rv,.bool true,.bool false] 89)) (.cells #[.int .i64 lk,.int .i64 lt,.int .i64 lv] 3)).block w.heap.size (by simp)).trans j));clear a c j i;go_wp2;go_ret;exact⟨_,rfl,b,m⟩
 .go_wp2_with (first
   |(at_builtin;refine wpList_append_lies _ rfl _ _ 84 rfl w.heap.size 3 s (.int .i64 0) 1 8 underlying84 f h l d rfl (by decide) (.slice none 0 0) 0 [] rfl (iR _ _ _ _) ⟨w.heap.size+1,0,none⟩ 3 3 (vI [lk,lt,lv]) rfl rfl (by have:=eZ (w.alloc (.cells #[.int .i64 k,.int .i64 lk,.int .i64 lt,.int .i64 lv,.int .i64 rk,.int .i64 rt,.int .i64 rv,.bool true,.bool true] 89)) (.cells #[.int .i64 lk,.int .i64 lt,.int .i64 lv] 3);simp only[World.size_alloc]at this;exact nu this) (Dc _) (by omega) (by unfold maxLen;omega) (by omega) (by simp only[World.size_alloc];omega) _ rfl ?_)
   |fail)
  intro g cap q b a i r;have m:Below w.heap.size w q:=(c.alloc (by simp) _).grown a (by simp;omega) (λk e=>by cases e);have x:=zf (o:=⟨k,lk,lt,lv,rk,rt,rv,true,true⟩) ((a.block w.heap.size (by simp;omega) (by simp[Value.ownBlock])).trans (((fC (w.alloc (.cells #[.int .i64 k,.int .i64 lk,.int .i64 lt,.int .i64 lv,.int .i64 rk,.int .i64 rt,.int .i64 rv,.bool true,.bool true] 89)) (.cells #[.int .i64 lk,.int .i64 lt,.int .i64 lv] 3)).block w.heap.size (by simp)).trans j))
  have hl2:w.heap.size<q.heap.size:=by have:=a.size;simp at this;omega
  have y:=hid m;have A:=hid b;clear a c j i m b
  go_wp2_with (first
   |(at_builtin;refine wpList_append_lies _ rfl _ _ 84 rfl w.heap.size 3 s (.int .i64 0) 1 8 underlying84 f h l d rfl (by decide) (.slice (some ⟨g,0,none⟩) 3 cap) 3 (vI [lk,lt,lv]) rfl (A.out.alloc _) ⟨q.heap.size,0,none⟩ 3 3 (vI [rk,rt,rv]) rfl rfl (nu (eZ q (.cells #[.int .i64 rk,.int .i64 rt,.int .i64 rv] 3))) (Dc _) (by omega) (by unfold maxLen;omega) (by omega) (by simp only[World.size_alloc];omega) _ rfl ?_)
   |fail)
  intro g' cap' w3 p n hat' hlt';go_wp2;go_ret;refine⟨_,rfl,p,?_⟩;exact(y.out.alloc (by omega) _).grown n (by simp;omega) (λk e=>(A.out.lt k e).1)
end
section
open Go.Joins Go.Sort
variable{W W':World}{bb:Nat}
def In64(n:Int):Prop:= -9223372036854775808<=n/\n<=9223372036854775807
structure SL(x:J):Prop where
 lo:In64 x.lo
 hi:In64 x.hi
 mode:In64 x.mode
 m0:In64 x.m0
 m1:In64 x.m1
 late:In64 x.late
 r0:∀y∈x.R0,In64 y.k/\In64 y.t/\In64 y.v/\In64 y.n
 r1:∀y∈x.R1,In64 y.k/\In64 y.t/\In64 y.v/\In64 y.n
abbrev nI:ByteArray:=⟨#[112,108,97,110]⟩
abbrev wC:ByteArray:=⟨#[102,101,100]⟩
abbrev jL:ByteArray:=⟨#[109,97,114,107,115]⟩
abbrev pX:ByteArray:=⟨#[114,111,119]⟩
abbrev Im:ByteArray:=⟨#[101,110,100]⟩
def iw(s:Int)(R:List D):List UInt8:=R.flatMap λy=>dB pX.data.toList [s,y.k,y.t,y.v,y.n]
def iy(Z:List O):List UInt8:=Z.flatMap λo=>dB (fu o).data.toList (dV o)
def EM(x:J)(f0 f1:Int):List UInt8:=dB nI.data.toList [x.lo,x.hi,x.mode]++dB wC.data.toList [f0,f1,x.late]++dB jL.data.toList [x.m0,x.m1]
def bN(x:J)(f0 f1:Int)(Z:List O):List UInt8:=EM x f0 f1++iw 0 x.R0++iw 1 x.R1++iy Z++dB Im.data.toList []
theorem o6(hd:List UInt8)(ns:List Int)(h:∀n∈ns,In64 n):(dB hd ns).length<=hd.length+ns.length*22+1:=by
 have:=uw ns h;unfold dB;simp only[List.length_append,List.length_cons,List.length_nil];omega
theorem zh(s:Int)(hs:In64 s)(R:List D)(h:∀y∈R,In64 y.k/\In64 y.t/\In64 y.v/\In64 y.n):(iw s R).length<=R.length*120:=by
 unfold iw
 induction R with
 |nil=>simp
 |cons a r ih=>
  have f:=ih (λy c=>h y (by simp[c]));obtain⟨a1,a2,a3,a4⟩:=h a (by simp);have d:=o6 pX.data.toList [s,a.k,a.t,a.v,a.n] (by intro n b;simp only[List.mem_cons,List.mem_nil_iff,or_false]at b;rcases b with rfl|rfl|rfl|rfl|rfl <;>assumption);have e:pX.data.toList.length=3:=rfl;simp only[List.flatMap_cons,List.length_append,List.length_cons,List.length_nil]at f d⊢;omega
theorem MS(s:Int)(R:List D)(i:Nat)(y:D)(h:R[i]?=some y):iw s (R.take (i+1))=iw s (R.take i)++dB pX.data.toList [s,y.k,y.t,y.v,y.n]:=by
 unfold iw;rw[List.take_add_one,h];simp
theorem in64_of_wf{n:Int}(h:(Lit.int .i64 n).wf=true):In64 n:=by
 simp[Lit.wf,IntKind.min,IntKind.max,IntKind.signed,IntKind.bits]at h;unfold In64;omega
theorem yD(o:O)(h:o.wf):∀n∈dV o,In64 n:=by
 intro n a;unfold dV at a;rw[List.mem_append]at a
 rcases a with a|a
 .split at a
  .simp only[List.mem_cons,List.mem_nil_iff,or_false]at a
   rcases a with rfl|rfl|rfl
   .exact in64_of_wf h.lk
   .exact in64_of_wf h.lt
   .exact in64_of_wf h.lv
  .cases a
 .split at a
  .simp only[List.mem_cons,List.mem_nil_iff,or_false]at a
   rcases a with rfl|rfl|rfl
   .exact in64_of_wf h.rk
   .exact in64_of_wf h.rt
   .exact in64_of_wf h.rv
  .cases a
theorem BJ(o:O):(dV o).length<=6:=by
 unfold dV;rw[List.length_append]
 split <;>split <;>simp
theorem zi(o:O):(fu o).size=5:=by
 unfold fu
 split
 .split <;>rfl
 .rfl
theorem MU(o:O):(fu o).data.toList.length=5:=by
 have:=zi o;rw[Array.length_toList];exact this
theorem MV(Z:List O)(i:Nat)(o:O)(h:Z[i]?=some o):iy (Z.take (i+1))=iy (Z.take i)++dB (fu o).data.toList (dV o):=by
 unfold iy;rw[List.take_add_one,h];simp
theorem Gf(Z:List O)(h:∀o∈Z,o.wf):(iy Z).length<=Z.length*140:=by
 unfold iy
 induction Z with
 |nil=>simp
 |cons a r ih=>
  have c:=ih (λy b=>h y (by simp[b]));have h2:=o6 (fu a).data.toList (dV a) (yD a (h a (by simp)));have h3:=BJ a;have h4:=MU a;simp only[List.flatMap_cons,List.length_append,List.length_cons]at c⊢;omega
theorem jy{b:Nat}{o:O}(h:W.heap[b]?=some (kY o)):W.cell? ⟨b,0,none⟩=some (.int .i64 o.k)/\W.cell? ⟨b,1,none⟩=some (.int .i64 o.lk)/\W.cell? ⟨b,2,none⟩=some (.int .i64 o.lt)/\W.cell? ⟨b,3,none⟩=some (.int .i64 o.lv)/\W.cell? ⟨b,4,none⟩=some (.int .i64 o.rk)/\W.cell? ⟨b,5,none⟩=some (.int .i64 o.rt)/\W.cell? ⟨b,6,none⟩=some (.int .i64 o.rv)/\W.cell? ⟨b,7,none⟩=some (.bool o.hl)/\W.cell? ⟨b,8,none⟩=some (.bool o.hr):=by
 refine⟨?_,?_,?_,?_,?_,?_,?_,?_,?_⟩ <;>(rw[fq h];rfl)
def Rs(x:J)(i:Nat):List D:=if i=0 then x.R0 else x.R1
def iT(x:J)(i:Nat):List UInt8:=if i=0 then[]else if i=1 then iw 0 x.R0 else iw 0 x.R0++iw 1 x.R1
theorem Jm(x:J)(i:Nat)(h:i<2):iT x (i+1)=iT x i++iw (i:Int) (Rs x i):=by
 have:i=0∨i=1:=by omega
 rcases this with rfl|rfl
 .simp[iT,Rs]
 .simp[iT,Rs]
theorem Q5{ns:List Int}{g:Nat}(h:W'.heap[g]?=some (.cells (vI ns).toArray 3))(a:g≠bb):PK W' bb (.slice (some ⟨g,0,none⟩) ns.length ns.length) ns:=
 ⟨_,_,rfl,λ_=>⟨g,0,_,3,_,rfl,h,by decide,a,λk n b=>by simp[vI,b]⟩⟩
theorem sQ{w0:World}{bw:Nat}{txt:List UInt8}(h:Wr w0 bb bw txt W)(tab:Lib.TabIs Tryz.prog w0 "internal/strconv.uint64pow10" .u64 Lib.pow10Tab)(hd:ByteArray)(ns:List Int)(hr:∀n∈ns,In64 n)(hl:txt.length+hd.size<=100000000)(hn:ns.length<=10)
  (hb:Below W.heap.size W W') (hg:W'.heap[W.heap.size]?=some (.cells (vI ns).toArray 3)):
  Calls Tryz.prog 115 #[.string hd,.slice (some ⟨W.heap.size,0,none⟩) ns.length ns.length,.pointer (some ⟨bw,0,none⟩)] W' λe w'=>e=.returned (.tuple #[])/\Wr w0 bb bw (txt++dB hd.data.toList ns) w'/\Lib.OthersKept 5 (some bb) W w':=by
 have hlt:bb<W.heap.size:=by
  obtain⟨p,v,h1⟩:=h.blk;exact(ax.1 h1).1
 refine(yG w0 bb bw txt hd ns _ W' (h.below hb) tab (Q5 hg (by omega)) hr (by omega) (by omega)).mono ?_;rintro e w' ⟨h1,h2,h3⟩;exact⟨h1,h2,(EW hb).trans h3⟩
theorem WJ(w:World):Wr w w.heap.size (w.heap.size+1) [] ((w.alloc (.cells #[.pointer none,.slice none 0 0] 126)).alloc (.cells #[.pointer (some ⟨w.heap.size,0,none⟩)] 123)):=by
 refine⟨.inl ⟨aC _,.slice none 0 0,?_,World.ownsRowF_nil _ _ _ _,by simp[Value.ownBlock]⟩,?_,fK _ _ _⟩
 .exact((fC (w.alloc (.cells #[.pointer none,.slice none 0 0] 126)) (.cells #[.pointer (some ⟨w.heap.size,0,none⟩)] 123)).block _ (by simp)).trans (eZ w _)
 .have:=eZ (w.alloc (.cells #[.pointer none,.slice none 0 0] 126)) (.cells #[.pointer (some ⟨w.heap.size,0,none⟩)] 123);simp only[World.size_alloc]at this;exact this
end
end Go.Proofs.YthfpipieboophaaGreatDoor
