import Derived.Test.YthfpipieboophaaGreatDoorZLdm
import Derived.Test.YthfpipieboophaaGreatDoorZVwa
namespace Go.Proofs.YthfpipieboophaaGreatDoor
set_option maxRecDepth 100000
set_option maxHeartbeats 40000000
open Go.Proofs.Tryz Go.Joins Go.RowKit Go.Sort
section
theorem Po(B:Nat)(w:World)(M:nH w B)(N:B<w.heap.size)
  (L:∀(s sep:ByteArray) (W:World),Below w.heap.size w W->s.size<4294967281->1<=sep.size->Calls prog 80 #[.string s,.string sep] W λe E=>e=.returned (.slice (some ⟨W.heap.size,0,none⟩) (Lib.countB s sep+1) (Lib.countB s sep+1))/\E=W.alloc (.cells ((Lib.splitB sep 0 (Lib.countB s sep) s).map Value.string).toArray 9)):
  Calls prog 91 #[.string ⟨#[101,110,100]⟩,.map (some B)] w λe E=>∃g,e=.returned (.tuple #[.agg #[.string ⟨#[101,110,100]⟩,.slice (some ⟨g,0,none⟩) 0 0],.bool true])/\E.heap[g]?=some (.cells #[] 3)/\w.heap.size<=g/\Below w.heap.size w E:=by
 have G:=L ⟨#[101,110,100]⟩ ⟨#[32]⟩ (w.alloc zL) (wh _ _) (by decide) (by decide);have I:Lib.countB ⟨#[101,110,100]⟩ ⟨#[32]⟩=0:=mR [101,110,100] [] (by decide) (by simp);have K:Lib.splitB ⟨#[32]⟩ 0 0 ⟨#[101,110,100]⟩=[⟨#[101,110,100]⟩]:=rfl;rw[I,K]at G;obtain⟨i,DD,hmk⟩:∃i:Array Value,Hid (i=(List.replicate 0 (Value.int .i64 0)).toArray)/\∀W:World,(Instr.makeSlice 84 (.int .i64 (0:Nat)) (.int .i64 (0:Nat))).run prog W=.ok (.slice (some ⟨W.heap.size,0,none⟩) 0 0) (W.alloc (.cells i 3)):=wM 0 (by omega);have l:∀W:World,(Instr.makeSlice 84 (.int .i64 0) (.int .i64 0)).run prog W=.ok (.slice (some ⟨W.heap.size,0,none⟩) 0 0) (W.alloc (.cells i 3)):=hmk;clear hmk I K;go_enter func91,ntmps91;go_wp2_with fail;refine G.mono ?_;rintro e a ⟨rfl,rfl⟩;obtain⟨a,hw1⟩:∃a,(w.alloc zL).alloc (.cells (List.map Value.string [(⟨#[101,110,100]⟩:ByteArray)]).toArray 9)=a:=⟨_,rfl⟩;rw[hw1]
 have k:w.heap.size+1<a.heap.size:=by rw[<-hw1];simp
 have C:w.heap.size<a.heap.size:=by rw[<-hw1];simp;omega
 have o:Below w.heap.size w a:=by rw[<-hw1];exact wT _ _ _
 have z:a.heap[w.heap.size]?=some zL:=by rw[<-hw1];exact(bV _ _ _).1
 have y:a.heap[w.heap.size+1]?=some (.cells (List.map Value.string [(⟨#[101,110,100]⟩:ByteArray)]).toArray 9):=by rw[<-hw1];exact(bV _ _ _).2
 have A:a.cell? ⟨w.heap.size+1,0,none⟩=some (.string ⟨#[101,110,100]⟩):=by rw[vE y];rfl
 have x:(Instr.lookup 152 (.map (some B)) (.string ⟨#[101,110,100]⟩) true).run prog a=.ok (.tuple #[.int .i64 0,.bool true]) a:=qI (M.still (o.block B N)) .fin;have m:Hid (Below w.heap.size w a/\a.heap[w.heap.size]?=some zL):=⟨o,z⟩;clear hw1 o z y;simp only[World.size_alloc]at *;clear G;go_wp2
 go_region
 .have r:Below a.heap.size a (((a.alloc (.cells i 3)).alloc (.cells #[.string ⟨#[101,110,100]⟩,.slice (some ⟨a.heap.size,0,none⟩) 0 0] 169)).drew):=(wT _ _ _).drew
  have f:(((a.alloc (.cells i 3)).alloc (.cells #[.string ⟨#[101,110,100]⟩,.slice (some ⟨a.heap.size,0,none⟩) 0 0] 169)).drew).heap[a.heap.size]?=some (.cells #[] 3):=by
   show(((a.alloc (.cells i 3)).alloc (.cells #[.string ⟨#[101,110,100]⟩,.slice (some ⟨a.heap.size,0,none⟩) 0 0] 169))).heap[a.heap.size]?=_;rw[(bV a _ _).1,DD.out];rfl
  have d:(((a.alloc (.cells i 3)).alloc (.cells #[.string ⟨#[101,110,100]⟩,.slice (some ⟨a.heap.size,0,none⟩) 0 0] 169)).drew).heap[(a.heap.size+1)]?=some (.cells #[.string ⟨#[101,110,100]⟩,.slice (some ⟨a.heap.size,0,none⟩) 0 0] 169):=(bV a _ _).2;have b:=(r.block _ C).trans m.out.2;have c:=m.out.1.trans (r.mono m.out.1.size)
  have j:w.heap.size<=a.heap.size:=by omega
  have h:a.heap.size≠w.heap.size:=by omega
  clear m x DD l A r;revert f d b c;generalize(((a.alloc (.cells i 3)).alloc (.cells #[.string ⟨#[101,110,100]⟩,.slice (some ⟨a.heap.size,0,none⟩) 0 0] 169)).drew)=w2;generalize(a.heap.size+1)=bl at *;generalize a.heap.size=gs at *;intro f d b c;clear C k
  have c0:w2.cell? ⟨bl,0,none⟩=some (.string ⟨#[101,110,100]⟩):=by rw[vE d];rfl
  have c1:w2.cell? ⟨bl,1,none⟩=some (.slice (some ⟨gs,0,none⟩) 0 0):=by rw[vE d];rfl
  have d0:w2.cell? ⟨w.heap.size,0,none⟩=some (.string ⟨#[]⟩):=by rw[vE b];rfl
  have d1:w2.cell? ⟨w.heap.size,1,none⟩=some (.slice none 0 0):=by rw[vE b];rfl
  have f0:w2.frozen? ⟨w.heap.size,0,none⟩=false:=x9 b 0;have f1:w2.frozen? ⟨w.heap.size,1,none⟩=false:=x9 b 1
  have F:Hid (∀u v,(((w2.setCell ⟨w.heap.size,0,none⟩ u).setCell ⟨w.heap.size,1,none⟩ v).heap[gs]?=some (.cells #[] 3))/\w.heap.size<=gs/\Below w.heap.size w ((w2.setCell ⟨w.heap.size,0,none⟩ u).setCell ⟨w.heap.size,1,none⟩ v)):=by
   intro u v;refine⟨?_,j,(c.setCell (p:=⟨w.heap.size,0,none⟩) (aO _) _).setCell (p:=⟨w.heap.size,1,none⟩) (aO _) _⟩;rw[zw _ _ _ _ h,zw _ _ _ _ h,f]
  clear f d b c j h;go_wp2
  go_loopg [60] 0 (λ_ H wr=>H=.int .i64 0/\wr=w2)
  case atStart=>exact⟨rfl,rfl⟩
  case round=>
   obtain⟨rfl,n⟩:=hrel;have n:=n.symm;subst n;go_wp2
   have t:((w2.setCell ⟨w.heap.size,0,none⟩ (.string ⟨#[101,110,100]⟩)).setCell ⟨w.heap.size,1,none⟩ (.slice (some ⟨gs,0,none⟩) 0 0)).cell? ⟨w.heap.size,0,none⟩=some (.string ⟨#[101,110,100]⟩):=by
    rw[World.cell?_setCell_other _ _ _ _ (by simp)];exact World.cell?_setCell_same' _ _ _ (by rw[d0];rfl)
   have q:((w2.setCell ⟨w.heap.size,0,none⟩ (.string ⟨#[101,110,100]⟩)).setCell ⟨w.heap.size,1,none⟩ (.slice (some ⟨gs,0,none⟩) 0 0)).cell? ⟨w.heap.size,1,none⟩=some (.slice (some ⟨gs,0,none⟩) 0 0):=
    World.cell?_setCell_same' _ _ _ (by rw[World.cell?_setCell_other _ _ _ _ (by simp),d1];rfl)
   refine CU (v:= .tuple #[.agg #[.string ⟨#[101,110,100]⟩,.slice (some ⟨gs,0,none⟩) 0 0],.bool true]) (by simp[results,Tryz.results91,go_sem,t,q]) rfl ⟨gs,rfl,F.out _ _⟩
 .have r:Below a.heap.size a (((a.alloc (.cells #[.string ⟨#[101,110,100]⟩,.slice (some ⟨a.heap.size+1,0,none⟩) 0 0] 169)).alloc (.cells i 3)).drew):=(wT _ _ _).drew
  have f:(((a.alloc (.cells #[.string ⟨#[101,110,100]⟩,.slice (some ⟨a.heap.size+1,0,none⟩) 0 0] 169)).alloc (.cells i 3)).drew).heap[(a.heap.size+1)]?=some (.cells #[] 3):=by
   show(((a.alloc (.cells #[.string ⟨#[101,110,100]⟩,.slice (some ⟨a.heap.size+1,0,none⟩) 0 0] 169)).alloc (.cells i 3))).heap[(a.heap.size+1)]?=_;rw[(bV a _ _).2,DD.out];rfl
  have d:(((a.alloc (.cells #[.string ⟨#[101,110,100]⟩,.slice (some ⟨a.heap.size+1,0,none⟩) 0 0] 169)).alloc (.cells i 3)).drew).heap[a.heap.size]?=some (.cells #[.string ⟨#[101,110,100]⟩,.slice (some ⟨(a.heap.size+1),0,none⟩) 0 0] 169):=(bV a _ _).1;have b:=(r.block _ C).trans m.out.2;have c:=m.out.1.trans (r.mono m.out.1.size)
  have j:w.heap.size<=(a.heap.size+1):=by omega
  have h:(a.heap.size+1)≠w.heap.size:=by omega
  clear m x DD l A r;revert f d b c;generalize(((a.alloc (.cells #[.string ⟨#[101,110,100]⟩,.slice (some ⟨a.heap.size+1,0,none⟩) 0 0] 169)).alloc (.cells i 3)).drew)=w2;generalize(a.heap.size+1)=gs at *;generalize a.heap.size=bl at *;intro f d b c;clear C k
  have c0:w2.cell? ⟨bl,0,none⟩=some (.string ⟨#[101,110,100]⟩):=by rw[vE d];rfl
  have c1:w2.cell? ⟨bl,1,none⟩=some (.slice (some ⟨gs,0,none⟩) 0 0):=by rw[vE d];rfl
  have d0:w2.cell? ⟨w.heap.size,0,none⟩=some (.string ⟨#[]⟩):=by rw[vE b];rfl
  have d1:w2.cell? ⟨w.heap.size,1,none⟩=some (.slice none 0 0):=by rw[vE b];rfl
  have f0:w2.frozen? ⟨w.heap.size,0,none⟩=false:=x9 b 0;have f1:w2.frozen? ⟨w.heap.size,1,none⟩=false:=x9 b 1
  have F:Hid (∀u v,(((w2.setCell ⟨w.heap.size,0,none⟩ u).setCell ⟨w.heap.size,1,none⟩ v).heap[gs]?=some (.cells #[] 3))/\w.heap.size<=gs/\Below w.heap.size w ((w2.setCell ⟨w.heap.size,0,none⟩ u).setCell ⟨w.heap.size,1,none⟩ v)):=by
   intro u v;refine⟨?_,j,(c.setCell (p:=⟨w.heap.size,0,none⟩) (aO _) _).setCell (p:=⟨w.heap.size,1,none⟩) (aO _) _⟩;rw[zw _ _ _ _ h,zw _ _ _ _ h,f]
  clear f d b c j h;go_wp2
  go_loopg [60] 0 (λ_ H wr=>H=.int .i64 0/\wr=w2)
  case atStart=>exact⟨rfl,rfl⟩
  case round=>
   obtain⟨rfl,n⟩:=hrel;have n:=n.symm;subst n;go_wp2
   have t:((w2.setCell ⟨w.heap.size,0,none⟩ (.string ⟨#[101,110,100]⟩)).setCell ⟨w.heap.size,1,none⟩ (.slice (some ⟨gs,0,none⟩) 0 0)).cell? ⟨w.heap.size,0,none⟩=some (.string ⟨#[101,110,100]⟩):=by
    rw[World.cell?_setCell_other _ _ _ _ (by simp)];exact World.cell?_setCell_same' _ _ _ (by rw[d0];rfl)
   have q:((w2.setCell ⟨w.heap.size,0,none⟩ (.string ⟨#[101,110,100]⟩)).setCell ⟨w.heap.size,1,none⟩ (.slice (some ⟨gs,0,none⟩) 0 0)).cell? ⟨w.heap.size,1,none⟩=some (.slice (some ⟨gs,0,none⟩) 0 0):=
    World.cell?_setCell_same' _ _ _ (by rw[World.cell?_setCell_other _ _ _ _ (by simp),d1];rfl)
   refine CU (v:= .tuple #[.agg #[.string ⟨#[101,110,100]⟩,.slice (some ⟨gs,0,none⟩) 0 0],.bool true]) (by simp[results,Tryz.results91,go_sem,t,q]) rfl ⟨gs,rfl,F.out _ _⟩
end
section
theorem Py(g off c:Nat)(a b m:Int)(P:Nat->World->Prop)(w:World)(l:g<w.heap.size)(u:w.cell? ⟨g,off,none⟩=some (.int .i64 a))(t:w.cell? ⟨g,off+1,none⟩=some (.int .i64 b))(x:w.cell? ⟨g,off+2,none⟩=some (.int .i64 m))
  (s:∀be W o,P be W->Below W.heap.size W o->P be o)
  (q:∀W,Below w.heap.size w W->Calls prog 13 #[.agg #[.int .i64 a,.int .i64 b,.int .i64 m]] W λe d=>∃be,e=.returned (.tuple #[.pointer (some ⟨be,0,none⟩),.nilIface])/\P be d/\Below W.heap.size W d):
  Calls prog 93 #[.agg #[.string ⟨#[112,108,97,110]⟩,.slice (some ⟨g,off,none⟩) 3 c]] w λe d=>∃be,e=.returned (.tuple #[.pointer (some ⟨be,0,none⟩),.bool true])/\P be d:=by
 have n:Hid (∀W,Below w.heap.size w W->W.cell? ⟨w.heap.size,1,none⟩=some (.slice (some ⟨g,off,none⟩) 3 c)->Calls prog 13 #[.agg #[.int .i64 a,.int .i64 b,.int .i64 m]] W λe d=>∃be,e=.returned (.tuple #[.pointer (some ⟨be,0,none⟩),.nilIface])/\(d.cell? ⟨w.heap.size,1,none⟩=some (.slice (some ⟨g,off,none⟩) 3 c)/\d.cell? ⟨g,off,none⟩=some (.int .i64 a)/\d.cell? ⟨g,off+1,none⟩=some (.int .i64 b)/\d.cell? ⟨g,off+2,none⟩=some (.int .i64 m))/\Hid (P be d)):=by
  intro W k i;refine(q W k).mono ?_;rintro e d ⟨be,rfl,y,r⟩;have f:=k.trans (r.mono k.size);exact⟨be,rfl,⟨(r.cell (p:=⟨w.heap.size,1,none⟩) (World.block_lt_of_cell? _ _ i)).trans i,(f.cell (p:=⟨g,off,none⟩) l).trans u,(f.cell (p:=⟨g,off+1,none⟩) l).trans t,(f.cell (p:=⟨g,off+2,none⟩) l).trans x⟩,y⟩
 have A:Hid (Below w.heap.size w (w.alloc (.cells #[.string ⟨#[112,108,97,110]⟩,.slice (some ⟨g,off,none⟩) 3 c] 169)).drew):=(wh _ _).drew
 have j:Hid (∀be W,Hid (P be W)->P be W.drew):=λbe W h=>s be W _ h.out ((zI _ _).drew)
 clear q s;go_enter func93,ntmps93;go_wp2_with fail
 go_region_held3 (λW=>W.cell? ⟨w.heap.size,1,none⟩=some (.slice (some ⟨g,off,none⟩) 3 c)/\W.cell? ⟨g,off,none⟩=some (.int .i64 a)/\W.cell? ⟨g,off+1,none⟩=some (.int .i64 b)/\W.cell? ⟨g,off+2,none⟩=some (.int .i64 m)) (first|(go_keep;done)|fail) (first
  |(go_at_call 13;refine(n.out _ A.out (by go_keep)).mono ?_;rintro e w2 ⟨be,rfl,hc2,z⟩)
  |fail)
 go_wp2
 go_region
 go_wp2;refine CU (v:= .tuple #[.pointer (some ⟨be,0,none⟩),.bool true]) (by simp[results,Tryz.results93,go_sem]) rfl ⟨be,rfl,j.out _ _ z⟩
def lF:Prop:=∀(g off n c:Nat) (k t v:Int) (w:World),g<w.heap.size->3<=n->n<=1000->w.cell? ⟨g,off,none⟩=some (.int .i64 k)->w.cell? ⟨g,off+1,none⟩=some (.int .i64 t)->w.cell? ⟨g,off+2,none⟩=some (.int .i64 v)->
  Calls prog 165 #[.slice (some ⟨g,off,none⟩) n c] w λe w'=>e=.returned (.agg #[.int .i64 k,.int .i64 t,.int .i64 v])/\Below w.heap.size w w'
theorem EK(be g off c:Nat)(P:World->Prop)(w:World)
  (H:∀W,Below w.heap.size w W->Calls prog 162 #[.pointer (some ⟨be,0,none⟩),.slice (some ⟨g,off,none⟩) 3 c] W λe a=>e=.returned (.bool true)/\P a):
  Calls prog 92 #[.pointer (some ⟨be,0,none⟩),.agg #[.string ⟨#[102,101,100]⟩,.slice (some ⟨g,off,none⟩) 3 c]] w λe a=>e=.returned (.bool true)/\P a:=by
 have d:Hid (∀W,Below w.heap.size w W->Calls prog 162 #[.pointer (some ⟨be,0,none⟩),.slice (some ⟨g,off,none⟩) 3 c] W λe a=>e=.returned (.bool true)/\Hid (P a)):=H;have f:Hid (Below w.heap.size w (w.alloc (.cells #[.string ⟨#[102,101,100]⟩,.slice (some ⟨g,off,none⟩) 3 c] 169))):=wh _ _;clear H;go_enter func92,ntmps92
 go_wp2_with (first
  |(go_at_call 162;refine(d.out _ f.out).mono ?_;rintro e w2 ⟨rfl,b⟩)
  |fail)
 go_ret;exact⟨rfl,b.out⟩
theorem zS(be g off c:Nat)(P:World->Prop)(w:World)
  (H:∀W,Below w.heap.size w W->Calls prog 163 #[.pointer (some ⟨be,0,none⟩),.slice (some ⟨g,off,none⟩) 2 c] W λe a=>e=.returned (.bool true)/\P a):
  Calls prog 92 #[.pointer (some ⟨be,0,none⟩),.agg #[.string ⟨#[109,97,114,107,115]⟩,.slice (some ⟨g,off,none⟩) 2 c]] w λe a=>e=.returned (.bool true)/\P a:=by
 have d:Hid (∀W,Below w.heap.size w W->Calls prog 163 #[.pointer (some ⟨be,0,none⟩),.slice (some ⟨g,off,none⟩) 2 c] W λe a=>e=.returned (.bool true)/\Hid (P a)):=H;have f:Hid (Below w.heap.size w (w.alloc (.cells #[.string ⟨#[109,97,114,107,115]⟩,.slice (some ⟨g,off,none⟩) 2 c] 169))):=wh _ _;clear H;go_enter func92,ntmps92
 go_wp2_with (first
  |(go_at_call 163;refine(d.out _ f.out).mono ?_;rintro e w2 ⟨rfl,b⟩)
  |fail)
 go_ret;exact⟨rfl,b.out⟩
theorem EL(be g off c:Nat)(P:World->Prop)(w:World)(h:∀W,Below w.heap.size w W->P W):
  Calls prog 92 #[.pointer (some ⟨be,0,none⟩),.agg #[.string ⟨#[101,110,100]⟩,.slice (some ⟨g,off,none⟩) 0 c]] w λe b=>e=.returned (.bool true)/\P b:=by
 have a:Hid (P (w.alloc (.cells #[.string ⟨#[101,110,100]⟩,.slice (some ⟨g,off,none⟩) 0 c] 169))):=h _ (wh _ _);clear h;go_enter func92,ntmps92;go_wp2;go_ret;exact⟨rfl,a.out⟩
end
section
variable{w:World}
theorem low_mono{W:World}{f:Nat}{av:Array Value}{x:Ending}(h:Calls prog f av W λe a=>e=x/\Below W.heap.size W a)(b:Hid (Below w.heap.size w W)):Calls prog f av W λe a=>e=x/\Hid (Below w.heap.size w a):=
 h.mono λ_ _ q=>⟨q.1,b.out.trans (q.2.mono b.out.size)⟩
theorem Z9(f:lF){g off n c:Nat}{k t v:Int}(b:g<w.heap.size)(hn:3<=n)(hc:n<=1000)(i:w.cell? ⟨g,off,none⟩=some (.int .i64 k))(h:w.cell? ⟨g,off+1,none⟩=some (.int .i64 t))(d:w.cell? ⟨g,off+2,none⟩=some (.int .i64 v))(W:World)(a:Hid (Below w.heap.size w W)):
  Calls prog 165 #[.slice (some ⟨g,off,none⟩) n c] W λe j=>e=.returned (.agg #[.int .i64 k,.int .i64 t,.int .i64 v])/\Hid (Below w.heap.size w j):=
 low_mono (f g off n c k t v W (fO b a.out.size) (by omega) (by omega) ((a.out.cell (p:=⟨g,off,none⟩) b).trans i) ((a.out.cell (p:=⟨g,off+1,none⟩) b).trans h) ((a.out.cell (p:=⟨g,off+2,none⟩) b).trans d)) a
theorem vK(u:lF)(be bj g off:Nat)(s k t v n:Int)(P:World->Prop)(w:World)(l:g<w.heap.size)(i:be<w.heap.size)
  (z:w.cell? ⟨g,off,none⟩=some (.int .i64 s)) (o:w.cell? ⟨g,off+1,none⟩=some (.int .i64 k)) (r:w.cell? ⟨g,off+2,none⟩=some (.int .i64 t)) (d:w.cell? ⟨g,off+3,none⟩=some (.int .i64 v)) (y:w.cell? ⟨g,off+4,none⟩=some (.int .i64 n))
  (A:w.cell? ⟨be,3,none⟩=some (.pointer (some ⟨bj,0,none⟩)))
  (b:∀W,P W->W.cell? ⟨be,3,none⟩=some (.pointer (some ⟨bj,0,none⟩))/\W.cell? ⟨g,off,none⟩=some (.int .i64 s)/\W.cell? ⟨g,off+4,none⟩=some (.int .i64 n))
  (H:∀W,Below w.heap.size w W->Calls prog 164 #[.pointer (some ⟨bj,0,none⟩),.int .i64 s,.agg #[.int .i64 k,.int .i64 t,.int .i64 v],.int .i64 n] W λe a=>e=.returned .nilIface/\P a):
  Calls prog 92 #[.pointer (some ⟨be,0,none⟩),.agg #[.string ⟨#[114,111,119]⟩,.slice (some ⟨g,off,none⟩) 5 5]] w λe a=>e=.returned (.bool true)/\P a:=by
 have B:Hid (∀W,Hid (Below w.heap.size w W)->Calls prog 164 #[.pointer (some ⟨bj,0,none⟩),.int .i64 s,.agg #[.int .i64 k,.int .i64 t,.int .i64 v],.int .i64 n] W λe a=>e=.returned .nilIface/\(a.cell? ⟨be,3,none⟩=some (.pointer (some ⟨bj,0,none⟩))/\a.cell? ⟨g,off,none⟩=some (.int .i64 s)/\a.cell? ⟨g,off+4,none⟩=some (.int .i64 n))/\Hid (P a)):=by
  intro W h;refine(H W h.out).mono ?_;rintro e a ⟨rfl,m⟩;exact⟨rfl,b a m,m⟩
 have x:Hid (∀W,Hid (Below w.heap.size w W)->Calls prog 165 #[.slice (some ⟨g,off+1,none⟩) 4 4] W λe a=>e=.returned (.agg #[.int .i64 k,.int .i64 t,.int .i64 v])/\(a.cell? ⟨be,3,none⟩=some (.pointer (some ⟨bj,0,none⟩))/\a.cell? ⟨g,off,none⟩=some (.int .i64 s)/\a.cell? ⟨g,off+4,none⟩=some (.int .i64 n))/\Hid (Below w.heap.size w a)):=λW h=>
  (Z9 u (n:=4) (c:=4) l (by omega) (by omega) o r d W h).mono λe a q=>⟨q.1,⟨(q.2.out.cell (p:=⟨be,3,none⟩) i).trans A,(q.2.out.cell (p:=⟨g,off,none⟩) l).trans z,(q.2.out.cell (p:=⟨g,off+4,none⟩) l).trans y⟩,q.2⟩
 have hB:Hid (Below w.heap.size w (w.alloc (.cells #[.string ⟨#[114,111,119]⟩,.slice (some ⟨g,off,none⟩) 5 5] 169))):=wh _ _;have j:Hid (Below w.heap.size w (w.alloc (.cells #[.string ⟨#[114,111,119]⟩,.slice (some ⟨g,off,none⟩) 5 5] 169)).drew):=(wh _ _).drew;clear H u b o r d;go_enter func92,ntmps92;go_wp2_with fail
 go_region_held3 (λW=>W.cell? ⟨be,3,none⟩=some (.pointer (some ⟨bj,0,none⟩))/\W.cell? ⟨g,off,none⟩=some (.int .i64 s)/\W.cell? ⟨g,off+4,none⟩=some (.int .i64 n)) (first|(go_keep;done)|fail) (first
  |(go_at_call 164;refine(B.out _ f).mono ?_;rintro e w3 ⟨rfl,hc3,d⟩)
  |(go_at_call 165;refine(x.out _ j).mono ?_;rintro e w2 ⟨rfl,hc2,f⟩)
  |fail)
 go_wp2;go_ret;exact⟨rfl,d.out⟩
theorem CK(l:lF)(be g off:Nat)(k t v:Int)(P:World->Prop)(w:World)(r:g<w.heap.size)
  (i:w.cell? ⟨g,off,none⟩=some (.int .i64 k)) (h:w.cell? ⟨g,off+1,none⟩=some (.int .i64 t)) (j:w.cell? ⟨g,off+2,none⟩=some (.int .i64 v))
  (H:∀W,Below w.heap.size w W->Calls prog 166 #[.pointer (some ⟨be,0,none⟩),.agg #[.int .i64 k,.int .i64 k,.int .i64 t,.int .i64 v,.int .i64 0,.int .i64 0,.int .i64 0,.bool true,.bool false]] W λe d=>e=.returned (.bool true)/\P d):
  Calls prog 92 #[.pointer (some ⟨be,0,none⟩),.agg #[.string ⟨#[111,117,116,32,49]⟩,.slice (some ⟨g,off,none⟩) 3 3]] w λe d=>e=.returned (.bool true)/\P d:=by
 have m:=hid λ(W:World) (f:Hid (Below w.heap.size w W))=>H W f.out
 have o:=hid (Z9 l (n:=3) (c:=3) r (by omega) (by omega) i h j)
 have p:=hid λ(W:World) (f:Hid (Below w.heap.size w W))=>low_mono (um k t v W) f
 have q:Hid (Below w.heap.size w (w.alloc (.cells #[.string ⟨#[111,117,116,32,49]⟩,.slice (some ⟨g,off,none⟩) 3 3] 169))):=wh _ _;clear H l i h j;go_enter func92,ntmps92
 go_wp2_with (first
  |(go_at_call 166;refine(m.out _ b).mono ?_;rintro e w4 ⟨rfl,s⟩)
  |(go_at_call 167;refine(p.out _ a).mono ?_;rintro e w3 ⟨rfl,b⟩)
  |(go_at_call 165;refine(o.out _ q).mono ?_;rintro e w2 ⟨rfl,a⟩)
  |fail)
 go_ret;exact⟨rfl,s⟩
theorem zT(l:lF)(be g off:Nat)(k t v:Int)(P:World->Prop)(w:World)(r:g<w.heap.size)
  (i:w.cell? ⟨g,off,none⟩=some (.int .i64 k)) (h:w.cell? ⟨g,off+1,none⟩=some (.int .i64 t)) (j:w.cell? ⟨g,off+2,none⟩=some (.int .i64 v))
  (H:∀W,Below w.heap.size w W->Calls prog 166 #[.pointer (some ⟨be,0,none⟩),.agg #[.int .i64 k,.int .i64 0,.int .i64 0,.int .i64 0,.int .i64 k,.int .i64 t,.int .i64 v,.bool false,.bool true]] W λe d=>e=.returned (.bool true)/\P d):
  Calls prog 92 #[.pointer (some ⟨be,0,none⟩),.agg #[.string ⟨#[111,117,116,32,50]⟩,.slice (some ⟨g,off,none⟩) 3 3]] w λe d=>e=.returned (.bool true)/\P d:=by
 have m:=hid λ(W:World) (f:Hid (Below w.heap.size w W))=>H W f.out
 have o:=hid (Z9 l (n:=3) (c:=3) r (by omega) (by omega) i h j)
 have p:=hid λ(W:World) (f:Hid (Below w.heap.size w W))=>low_mono (qH k t v W) f
 have q:=hid (wh w (.cells #[.string ⟨#[111,117,116,32,50]⟩,.slice (some ⟨g,off,none⟩) 3 3] 169));clear H l i h j;go_enter func92,ntmps92
 go_wp2_with (first
  |(go_at_call 166;refine(m.out _ b).mono ?_;rintro e w4 ⟨rfl,s⟩)
  |(go_at_call 167;refine(p.out _ a).mono ?_;rintro e w3 ⟨rfl,b⟩)
  |(go_at_call 165;refine(o.out _ q).mono ?_;rintro e w2 ⟨rfl,a⟩)
  |fail)
 go_ret;exact⟨rfl,s⟩
theorem CL(l:lF)(be g off:Nat)(k t v q t2 o:Int)(P:World->Prop)(w:World)(z:g<w.heap.size)
  (x:w.cell? ⟨g,off,none⟩=some (.int .i64 k)) (u:w.cell? ⟨g,off+1,none⟩=some (.int .i64 t)) (y:w.cell? ⟨g,off+2,none⟩=some (.int .i64 v))
  (r:w.cell? ⟨g,off+3,none⟩=some (.int .i64 q)) (s:w.cell? ⟨g,off+4,none⟩=some (.int .i64 t2)) (a:w.cell? ⟨g,off+5,none⟩=some (.int .i64 o))
  (H:∀W,Below w.heap.size w W->Calls prog 166 #[.pointer (some ⟨be,0,none⟩),.agg #[.int .i64 k,.int .i64 k,.int .i64 t,.int .i64 v,.int .i64 q,.int .i64 t2,.int .i64 o,.bool true,.bool true]] W λe p=>e=.returned (.bool true)/\P p):
  Calls prog 92 #[.pointer (some ⟨be,0,none⟩),.agg #[.string ⟨#[111,117,116,32,51]⟩,.slice (some ⟨g,off,none⟩) 6 6]] w λe p=>e=.returned (.bool true)/\P p:=by
 have A:=hid λ(W:World) (d:Hid (Below w.heap.size w W))=>H W d.out
 have f:=hid (Z9 l (n:=6) (c:=6) z (by omega) (by omega) x u y);have j:=hid (Z9 l (off:=off+3) (n:=3) (c:=3) z (by omega) (by omega) r s a)
 have B:=hid λ(W:World) (d:Hid (Below w.heap.size w W))=>low_mono (EU k t v q t2 o W) d
 have C:=hid (wh w (.cells #[.string ⟨#[111,117,116,32,51]⟩,.slice (some ⟨g,off,none⟩) 6 6] 169));clear H l x u y r s a;go_enter func92,ntmps92;go_wp2_with fail;have i:=hid C.out.drew
 go_region_held3 (λ_=>True) (first|exact trivial|fail) (first
  |(go_at_call 166;refine(A.out _ m).mono ?_;rintro e w5 ⟨rfl,a⟩)
  |(go_at_call 168;refine(B.out _ h).mono ?_;rintro e w4 ⟨rfl,m⟩)
  |(go_at_call 165;refine(j.out _ b).mono ?_;rintro e w3 ⟨rfl,h⟩)
  |(go_at_call 165;refine(f.out _ i).mono ?_;rintro e w2 ⟨rfl,b⟩)
  |fail)
 go_wp2;go_ret;exact⟨rfl,a⟩
end
end Go.Proofs.YthfpipieboophaaGreatDoor
