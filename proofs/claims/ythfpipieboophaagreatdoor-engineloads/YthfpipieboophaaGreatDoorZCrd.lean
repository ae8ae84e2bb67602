import Derived.Lay
import Derived.Deep.DeepHandedRow
import Derived.Lib.LaidU8
import Derived.Test.YthfpipieboophaaGreatDoorCards
import Derived.Test.YthfpipieboophaaGreatDoorTie
import Derived.Test.YthfpipieboophaaGreatDoorZRls
namespace Go.Proofs.YthfpipieboophaaGreatDoor
set_option maxRecDepth 100000
set_option maxHeartbeats 40000000
section
open Go.Proofs.Tryz Go.ChangeShapes Go.WideShapes Go.ChangeAt Go.RowKit Go.Deep Go.Joins
set_option linter.unusedVariables false
theorem own:ownKnob prog.godebug=none:=by kernel_rfl
def uV(P:Program)(os:Os):World:=
 let w0:=World.holding P os ⟨#[],#[],[]⟩
 { w0 with heap:=w0.heap.modify 2 fun
   |.cells _ t frozen=>.cells #[.iface 278 (.agg #[.pointer (some ⟨12,29,none⟩)])] t frozen
   |o=>o}
theorem BQ{P:Program}{w0 b:World}{laid:List (String×DataW Unit)}(e:b.heap=(w0.layVars P laid).heap)(d:w0.layFits P laid []=true)(hi:w0.layIfaces P laid b=true):laidMet P laid b:=by
 have a:(laid.filter λx=>(laid.map (·.1)).contains x.1)=laid:=List.filter_eq_self.2 λx c=>List.contains_iff_mem.2 (dH.2 ⟨x,c,rfl⟩)
 have f:(laid.filter λx=>!(laid.map (·.1)).contains x.1)=[]:=List.filter_eq_nil_iff.2 λx c=>by rw[List.contains_iff_mem.2 (dH.2 ⟨x,c,rfl⟩)];simp
 exact laidMet_layVars (w0:=w0) (laid.map (·.1)) [] (by rw[a];exact e) (by rw[a];exact d) (by rw[a];exact hi) (by rw[f];exact LaidIn.none)
theorem Ak{H:Type}{enc:TypeId×Value->H}{W:World}{base:Nat}{spare:Nat->Bool}{a:Bool}{t:TypeId}{v:Value}{d:DataW H}{p:List MemPlace}
  (h:DataW.Trod enc prog W base spare a t v d p):∀x∈p,x.block<W.heap.size:=by
 obtain⟨m,b⟩:=h;exact DataW.trod_lt m _ _ _ b
theorem Gu:prog.globalNamed "errors.errorType" =some 2:=by kernel_rfl
theorem Nu:(prog.cutTypes.find? (·.1== "internal/reflectlite.rtype")).map (·.2)=some 278:=by kernel_rfl
theorem UD:((List.range 420).filter λt=>prog.rowNamed t [101,114,114,111,114])=[29]:=by kernel_rfl
theorem types_size:prog.types.size=420:=by kernel_rfl
end
section
open Go.Proofs.Tryz Go.ChangeShapes Go.WideShapes Go.ChangeAt Go.RowKit Go.Deep Go.Joins
set_option linter.unusedVariables false
variable{H:Type}{W:World}
theorem RN:prog.cellsOf 39=6:=by kernel_rfl
theorem RO:prog.cellsOf 37=3:=by kernel_rfl
theorem cellsIn:prog.cellsOf 3=1:=by kernel_rfl
theorem Xk{α:Type}{l:List α}(h:l.length=6):∃a b c d e f,l=[a,b,c,d,e,f]:=by
 match l,h with
 |[a,b,c,d,e,f],_=>exact⟨a,b,c,d,e,f,rfl⟩
theorem Dx{enc:TypeId×Value->H}{base fuel:Nat}{spare:Nat->Bool}{h:Bool}{cs:List Value}{y:DataW H×List MemPlace}(z:cs.length=6)
  (x:DataW.trod enc prog W base spare h fuel 39 cs=some y):∃a b c d e f:Int,cs=[.int .i64 a,.int .i64 b,.int .i64 c,.int .i64 d,.int .i64 e,.int .i64 f]:=by
 obtain⟨c0,c1,c2,c3,c4,c5,rfl⟩:=Xk z;obtain⟨xs,n,_,_,_,i,g⟩:=DataW.trod_struct underlying39 x
 match xs,i with
 |[y0,y1,y2,y3],_=>
  have f0:=g 0 _ rfl;have f1:=g 1 _ rfl;have f2:=g 2 _ rfl;have f3:=g 3 _ rfl;simp[cellsIn,RO]at f0 f1 f2 f3;obtain⟨z0,z1,z2,m,_,_,o,q,l⟩:=trod_struct3 underlying37 f3;simp[cellsIn]at o q l;obtain⟨A,j,_,w0⟩:=DataW.trod_int underlying3 f0;obtain⟨B,r,_,w1⟩:=DataW.trod_int underlying3 f1;obtain⟨C,p,_,w2⟩:=DataW.trod_int underlying3 f2;obtain⟨u,s,_,w3⟩:=DataW.trod_int underlying3 o;obtain⟨w,t,_,w4⟩:=DataW.trod_int underlying3 q;obtain⟨v,k,_,w5⟩:=DataW.trod_int underlying3 l;simp at j r p s t k;subst j r p s t k;exact⟨A,B,C,u,w,v,rfl⟩
theorem Gv{enc:TypeId×Value->H}{B:Option Addr}{n c:Nat}{d:DataW H}{p:List MemPlace}
  (h:DataW.Trod enc prog W 0 (λ_=>true) true 22 (.slice B n c) d p):n=0∨∃(g off:Nat),B=some ⟨g,off,none⟩/\g<W.heap.size/\∀k,k<n->∃a b c d e f:Int,∀j u,[Value.int .i64 a,.int .i64 b,.int .i64 c,.int .i64 d,.int .i64 e,.int .i64 f][j]?=some u->W.cell? ⟨g,off+k*6+j,none⟩=some u:=by
 obtain⟨fuel,P⟩:=h;have A:DataW.trod enc prog W 0 (λ_=>true) true fuel 22 [.slice B n c]=some (d,p):=P
 rcases open_slice underlying22 A with⟨w,_⟩|⟨a,len,cap,m,q,D,Pl,s,_,hl,_,G,_,l⟩
 .simp at w;exact .inl w.2.1
 .simp only[List.cons.injEq,Value.slice.injEq,and_true]at s;obtain⟨rfl,rfl,rfl⟩:=s;simp at G;subst G;rw[RN]at l
  by_cases hn:n=0
  .exact .inl hn
  have F:∀i,i<n->∃y v c0 d0 t f0:Int,∀j u,[Value.int .i64 y,.int .i64 v,.int .i64 c0,.int .i64 d0,.int .i64 t,.int .i64 f0][j]?=some u->W.cell? (a.add (i*6+j))=some u:=λi hi=>by
   obtain⟨cs,w,L⟩:=l i (by omega);have I:=World.cells?_some w;obtain⟨y,v,c0,d0,t,f0,rfl⟩:=Dx I.2.1 L;refine⟨y,v,c0,d0,t,f0,λj u x=>?_⟩;have S:j<6:=(bP.1 x).1;have E:=I.2.2 j S;rw[Addr.add_add]at E;rw[E,x]
  obtain⟨g,off,spot⟩:=a;obtain⟨y,v,c0,d0,t,f0,M⟩:=F 0 (by omega);have r:=M 0 _ rfl
  have o:spot=none:=by
   simp[Addr.add]at r;simpa using World.cell?_spot r
  subst o
  have C:∀k,(⟨g,off,none⟩:Addr).add k=⟨g,off+k,none⟩:=λk=>by unfold Addr.add;split <;>simp_all
  refine .inr ⟨g,off,rfl,World.block_lt_of_cell? _ _ r,λk N=>?_⟩;obtain⟨R,K,c1,d1,Q,f1,z⟩:=F k N;refine⟨R,K,c1,d1,Q,f1,λj u x=>?_⟩;have:=z j u x;rw[C,<-Nat.add_assoc]at this;exact this
end
section
open Go.Proofs.Tryz Go.ChangeShapes Go.WideShapes Go.ChangeAt Go.RowKit Go.Deep Go.Joins
set_option linter.unusedVariables false
variable{W:World}{n:String}{g:Nat}
abbrev abo:List (String×DataW Unit):=[("math/bits.deBruijn32tab",Rows.laid_math_bits_deBruijn32tab),("math/bits.deBruijn64tab",Rows.laid_math_bits_deBruijn64tab),("internal/strconv.uint64pow10",Rows.laid_internal_strconv_uint64pow10),("unicode/utf8.acceptRanges",Rows.laid_unicode_utf8_acceptRanges),("strconv.ErrRange",Rows.laid_strconv_ErrRange),("strconv.ErrSyntax",Rows.laid_strconv_ErrSyntax),("unicode.White_Space",Rows.laid_unicode_White_Space),("strings.asciiSpace",Rows.laid_strings_asciiSpace),("unicode/utf8.first",Rows.laid_unicode_utf8_first)]
abbrev abA:List (String×DataW Unit):=[("math/bits.deBruijn32tab",Rows.laid_math_bits_deBruijn32tab),("math/bits.deBruijn64tab",Rows.laid_math_bits_deBruijn64tab),("internal/strconv.uint64pow10",Rows.laid_internal_strconv_uint64pow10),("unicode/utf8.acceptRanges",Rows.laid_unicode_utf8_acceptRanges),("errors.errorType",Rows.laid_errors_errorType),("strconv.ErrRange",Rows.laid_strconv_ErrRange),("strconv.ErrSyntax",Rows.laid_strconv_ErrSyntax),("unicode.White_Space",Rows.laid_unicode_White_Space),("strings.asciiSpace",Rows.laid_strings_asciiSpace),("unicode/utf8.first",Rows.laid_unicode_utf8_first)]
def aaX(P:Program)(os:Os):World:=(uV P os).layVars P abo
theorem abQ(os:Os):(aaX prog os).os=os:=World.layVars_os _ _ _
theorem acF(os:Os):laidMet prog abo (aaX prog os):=BQ (w0:=uV prog os) rfl (by kernel_rfl) (by kernel_rfl)
theorem abD(os:Os)(args:Array Value):laidMetH prog abA ((aaX prog os).forCall (λ_ _=>0) ⟨#[],args,[]⟩).memory:=
 laidMetH_of_parts ((acF os).of_heap (by simp[World.memory,World.forCall,Input.heap])) (by kernel_rfl)
theorem ab0{nm:String}{d:DataW Unit}(h:Lib.VarReads prog W n (.iface nm d))(b:prog.globalNamed n=some g)(f:(prog.globals[g]?).map (·.type)=some 29):
  ∃a,W.cell? ⟨g,0,none⟩=some a/\(a=.nilIface∨∃te i,a=.iface te i):=by
 obtain⟨g',t,cs,fuel,p,l,c,m,k⟩:=h;obtain rfl:=Option.some.inj (l.symm.trans b);obtain rfl:=Option.some.inj (c.symm.trans f);obtain⟨_,u,v,hc,_⟩:=iface_of_trod underlying29 k;have j:=World.var?_cell b m 0
 have e:cs=#[.iface u v]:=by cases cs;simp_all
 subst e;exact⟨_,by simpa using j,.inr ⟨u,v,rfl⟩⟩
theorem ab1{t el len:Nat}{k:IntKind}{zs:List Int}(h:Lib.VarReads prog W n (Lib.tabData (H:=Unit) k zs))(e:prog.globalNamed n=some g)(c:(prog.globals[g]?).map (·.type)=some t)(u1:prog.underlying t=some (.array len el))(u2:prog.underlying el=some (.int k))(c1:prog.cellsOf el=1)(a:prog.cellsOf t=len):Lib.TabIs prog W n k zs:=by
 obtain⟨g',t',cs,fuel,p,i,b,d,f⟩:=h;obtain rfl:=Option.some.inj (i.symm.trans e);obtain rfl:=Option.some.inj (b.symm.trans c);have:=Lib.cells_of_tab u1 u2 c1 a f;unfold Lib.TabIs;rw[d,<-this]
theorem acG:WhiteExtra prog Tryz.lays157_ren:=by constructor <;>kernel_rfl
theorem abR(h:laidMetH prog abA W)(hs:W.ShapedOpen prog):aa3 W:=by
 have h':laidMet prog abo W/\handlesMet prog [("errors.errorType",Rows.laid_errors_errorType)] W:=h;refine⟨⟨⟨?_,?_,?_⟩,?_,?_⟩,?_,?_⟩
 .obtain⟨name,u,ty,e1,e2,e3,e4,e5⟩:=h'.2 _ (List.mem_singleton.2 rfl);have en:name=[101,114,114,111,114]:=(Option.some.inj e1).symm;subst en;obtain rfl:=Option.some.inj (Nu.symm.trans e2)
  have hm:ty∈(List.range 420).filter λt=>prog.rowNamed t [101,114,114,111,114]:=List.mem_filter.2 ⟨List.mem_range.2 (by rw[<-types_size];exact e3),e4⟩
  rw[UD]at hm;obtain rfl:=List.mem_singleton.1 hm
  have hh:typeHandle prog 29=.pointer (some ⟨12,29,none⟩):=by kernel_rfl
  rw[hh]at e5;have hq:=World.var?_cell Gu e5 0;unfold iD;simpa using hq
 .have hm:(("internal/strconv.uint64pow10",Rows.laid_internal_strconv_uint64pow10):String×DataW Unit)∈abo:= .tail _ (.tail _ (.head _));have hr:=Lib.laidMet.reads h'.1 hm
  have e:Rows.laid_internal_strconv_uint64pow10=Lib.tabData (H:=Unit) .u64 Lib.pow10Tab:=by kernel_rfl
  rw[e]at hr;exact ab1 (g:=6) (t:=358) (el:=307) (len:=20) hr (by kernel_rfl) (by kernel_rfl) (by kernel_rfl) (by kernel_rfl) (by kernel_rfl) (by kernel_rfl)
 .exact cell_of_shapedOpen_int (zero:= #[.int .i64 0]) hs (g:=3) (of_decide_eq_true (by kernel_rfl)) (by kernel_rfl) (by kernel_rfl) (by kernel_rfl) (by kernel_rfl) underlying3
 .exact ab0 (Lib.laidMet.reads h'.1 (n:= "strconv.ErrSyntax") (.tail _ (.tail _ (.tail _ (.tail _ (.tail _ (.head _))))))) (by kernel_rfl) (by kernel_rfl)
 .exact ab0 (Lib.laidMet.reads h'.1 (n:= "strconv.ErrRange") (.tail _ (.tail _ (.tail _ (.tail _ (.head _)))))) (by kernel_rfl) (by kernel_rfl)
 .have hm:(("strings.asciiSpace",Rows.laid_strings_asciiSpace):String×DataW Unit)∈abo:= .tail _ (.tail _ (.tail _ (.tail _ (.tail _ (.tail _ (.tail _ (.head _)))))));have hr:=Lib.laidMet.reads h'.1 hm
  have e:Rows.laid_strings_asciiSpace=Lib.tabData (H:=Unit) .u8 Lib.asciiSpaceTab:=by kernel_rfl
  rw[e]at hr;exact ab1 (g:=0) (t:=158) (el:=5) (len:=256) hr (by kernel_rfl) (by kernel_rfl) (by kernel_rfl) (by kernel_rfl) (by kernel_rfl) (by kernel_rfl)
 .have hm:(("unicode.White_Space",Rows.laid_unicode_White_Space):String×DataW Unit)∈abo:= .tail _ (.tail _ (.tail _ (.tail _ (.tail _ (.tail _ (.head _))))));have hr:=Lib.laidMet.reads h'.1 hm
  have e:Rows.laid_unicode_White_Space=Lib.whiteData:=by kernel_rfl
  rw[e]at hr;exact whiteTab_of_reads (ρ:=Tryz.lays157_ren) { Tryz.lays157 with} acG hr
end
section
theorem adP:(Rows.engineLoadsRow.inPlace==Tryz.prog.inPlace 3)=true:=by kernel_rfl
theorem abS:(Rows.engineLoadsRow.unfollowed==Tryz.prog.unfollowed 3)=true:=by kernel_rfl
theorem acH:(Rows.engineLoadsRow.recurses==Tryz.prog.recurses 3)=true:=by kernel_rfl
theorem adQ:(Rows.engineLoadsRow.named==Tryz.prog.varsNamed 3)=true:=by kernel_rfl
theorem adq:joinedFacts Tryz.prog 3 Tryz.f3 Rows.engineLoadsSpec Rows.engineLoadsRow=true:=by
 unfold joinedFacts;rw[adP,abS,acH,adQ]
 kernel_rfl
end
end Go.Proofs.YthfpipieboophaaGreatDoor
