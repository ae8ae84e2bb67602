import Derived.Lay
import Derived.Deep.DeepHandedRow
import Derived.Lib.LaidU8
import Derived.Test.YthfpipieboophaaGreatDoorZVwa
import Derived.Test.YthfpipieboophaaGreatDoorCards
import Derived.Test.YthfpipieboophaaGreatDoorTie
namespace Go.Proofs.YthfpipieboophaaGreatDoor
set_option maxRecDepth 100000
set_option maxHeartbeats 40000000
open Go.Proofs.Tryz Go.ChangeShapes Go.WideShapes Go.ChangeAt Go.RowKit Go.Deep Go.Joins
set_option linter.unusedVariables false
variable{W:World}
theorem own:ownKnob prog.godebug=none:=by kernel_rfl
abbrev Ai:List (String×DataW Unit):=[("math/bits.deBruijn32tab",Rows.laid_math_bits_deBruijn32tab),("math/bits.deBruijn64tab",Rows.laid_math_bits_deBruijn64tab),("internal/strconv.uint64pow10",Rows.laid_internal_strconv_uint64pow10),("unicode/utf8.acceptRanges",Rows.laid_unicode_utf8_acceptRanges),("strconv.ErrRange",Rows.laid_strconv_ErrRange),("strconv.ErrSyntax",Rows.laid_strconv_ErrSyntax),("unicode/utf8.first",Rows.laid_unicode_utf8_first)]
abbrev Aj:List (String×DataW Unit):=[("math/bits.deBruijn32tab",Rows.laid_math_bits_deBruijn32tab),("math/bits.deBruijn64tab",Rows.laid_math_bits_deBruijn64tab),("internal/strconv.uint64pow10",Rows.laid_internal_strconv_uint64pow10),("unicode/utf8.acceptRanges",Rows.laid_unicode_utf8_acceptRanges),("errors.errorType",Rows.laid_errors_errorType),("strconv.ErrRange",Rows.laid_strconv_ErrRange),("strconv.ErrSyntax",Rows.laid_strconv_ErrSyntax),("unicode/utf8.first",Rows.laid_unicode_utf8_first)]
def uV(P:Program)(os:Os):World:=
 let w0:=World.holding P os ⟨#[],#[],[]⟩
 { w0 with heap:=w0.heap.modify 2 fun
   |.cells _ t frozen=>.cells #[.iface 278 (.agg #[.pointer (some ⟨12,29,none⟩)])] t frozen
   |o=>o}
def lW(P:Program)(os:Os):World:=(uV P os).layVars P Ai
theorem BQ{P:Program}{w0 b:World}{laid:List (String×DataW Unit)}(f:b.heap=(w0.layVars P laid).heap)(d:w0.layFits P laid []=true)(hi:w0.layIfaces P laid b=true):laidMet P laid b:=by
 have a:(laid.filter λx=>(laid.map (·.1)).contains x.1)=laid:=List.filter_eq_self.2 λx c=>List.contains_iff_mem.2 (oz.2 ⟨x,c,rfl⟩)
 have e:(laid.filter λx=>!(laid.map (·.1)).contains x.1)=[]:=List.filter_eq_nil_iff.2 λx c=>by rw[List.contains_iff_mem.2 (oz.2 ⟨x,c,rfl⟩)];simp
 exact laidMet_layVars (w0:=w0) (laid.map (·.1)) [] (by rw[a];exact f) (by rw[a];exact d) (by rw[a];exact hi) (by rw[e];exact LaidIn.none)
theorem rf(os:Os):(lW prog os).os=os:=World.layVars_os _ _ _
theorem Gt(os:Os):laidMet prog Ai (lW prog os):=BQ (w0:=uV prog os) rfl (by kernel_rfl) (by kernel_rfl)
theorem qb(os:Os)(args:Array Value):laidMetH prog Aj ((lW prog os).forCall (λ_ _=>0) ⟨#[],args,[]⟩).memory:=
 laidMetH_of_parts ((Gt os).of_heap (by simp[World.memory,World.forCall,Input.heap])) (by kernel_rfl)
theorem Gu:prog.globalNamed "errors.errorType" =some 2:=by kernel_rfl
theorem Nu:(prog.cutTypes.find? (·.1== "internal/reflectlite.rtype")).map (·.2)=some 278:=by kernel_rfl
theorem UD:((List.range 420).filter λt=>prog.rowNamed t [101,114,114,111,114])=[29]:=by kernel_rfl
theorem types_size:prog.types.size=420:=by kernel_rfl
theorem Du(h:laidMet prog Ai W){n nm:String}{d:DataW Unit}(c:(n,DataW.iface nm d)∈Ai){g:Nat}(b:prog.globalNamed n=some g)(m:(prog.globals[g]?).map (·.type)=some 29):
  ∃a,W.cell? ⟨g,0,none⟩=some a/\(a=.nilIface∨∃te j,a=.iface te j):=by
 obtain⟨g',t,cs,fuel,p,f,k,l,o⟩:=Lib.laidMet.reads h c;obtain rfl:=Option.some.inj (f.symm.trans b);obtain rfl:=Option.some.inj (k.symm.trans m);obtain⟨_,u,v,hc,_⟩:=iface_of_trod underlying29 o;have i:=World.var?_cell b l 0
 have e:cs=#[.iface u v]:=by cases cs;simp_all
 subst e;exact⟨_,by simpa using i,.inr ⟨u,v,rfl⟩⟩
theorem rq(h:laidMetH prog Aj W)(hs:W.ShapedOpen prog):aU W:=by
 have h':laidMet prog Ai W/\handlesMet prog [("errors.errorType",Rows.laid_errors_errorType)] W:=h;refine⟨⟨?_,?_,?_⟩,?_,?_⟩
 .obtain⟨name,u,ty,e1,e2,e3,e4,e5⟩:=h'.2 _ (List.mem_singleton.2 rfl);have en:name=[101,114,114,111,114]:=(Option.some.inj e1).symm;subst en;obtain rfl:=Option.some.inj (Nu.symm.trans e2)
  have hm:ty∈(List.range 420).filter λt=>prog.rowNamed t [101,114,114,111,114]:=List.mem_filter.2 ⟨List.mem_range.2 (by rw[<-types_size];exact e3),e4⟩
  rw[UD]at hm;obtain rfl:=List.mem_singleton.1 hm
  have hh:typeHandle prog 29=.pointer (some ⟨12,29,none⟩):=by kernel_rfl
  rw[hh]at e5;have hq:=World.var?_cell Gu e5 0;unfold iD;simpa using hq
 .have hm:(("internal/strconv.uint64pow10",Rows.laid_internal_strconv_uint64pow10):String×DataW Unit)∈Ai:= .tail _ (.tail _ (.head _));obtain⟨g,t,cs,fuel,p,h1,h2,h3,h4⟩:=Lib.laidMet.reads h'.1 hm;have hg:g=6:=Option.some.inj (h1.symm.trans (show prog.globalNamed "internal/strconv.uint64pow10" =some 6 by kernel_rfl));subst hg;have ht:t=358:=Option.some.inj (h2.symm.trans (show(prog.globals[6]?).map (·.type)=some 358 by kernel_rfl));subst ht
  have e:Rows.laid_internal_strconv_uint64pow10=Lib.tabData (H:=Unit) .u64 Lib.pow10Tab:=by kernel_rfl
  rw[e]at h4;have:=Lib.cells_of_tab (show prog.underlying 358=some (.array 20 307) by kernel_rfl) (show prog.underlying 307=some (.int .u64) by kernel_rfl) (by kernel_rfl) (by kernel_rfl) h4;unfold Lib.TabIs;rw[h3,<-this]
 .exact cell_of_shapedOpen_int (zero:= #[.int .i64 0]) hs (g:=3) (of_decide_eq_true (by kernel_rfl)) (by kernel_rfl) (by kernel_rfl) (by kernel_rfl) (by kernel_rfl) underlying3
 .exact Du h'.1 (n:= "strconv.ErrSyntax") (.tail _ (.tail _ (.tail _ (.tail _ (.tail _ (.head _)))))) (by kernel_rfl) (by kernel_rfl)
 .exact Du h'.1 (n:= "strconv.ErrRange") (.tail _ (.tail _ (.tail _ (.tail _ (.head _))))) (by kernel_rfl) (by kernel_rfl)
end Go.Proofs.YthfpipieboophaaGreatDoor
