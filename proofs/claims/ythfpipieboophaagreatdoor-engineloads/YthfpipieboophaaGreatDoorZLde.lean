import Derived.Test.YthfpipieboophaaGreatDoorZLdm
import Derived.Test.YthfpipieboophaaGreatDoorZVwa
namespace Go.Proofs.YthfpipieboophaaGreatDoor
set_option maxRecDepth 100000
set_option maxHeartbeats 40000000
open Go.Proofs.Tryz Go.Joins Go.RowKit Go.Sort
section
theorem Po(y:Nat)(w:World)(N:nH w y)(M:y<w.heap.size)
  (L:∀(s sep:ByteArray) (W:World),Below w.heap.size w W->s.size<4294967281->1<=sep.size->Calls prog 80 #[.string s,.string sep] W λe E=>e=.returned (.slice (some ⟨W.heap.size,0,none⟩) (Lib.countB s sep+1) (Lib.countB s sep+1))/\E=W.alloc (.cells ((Lib.splitB sep 0 (Lib.countB s sep) s).map Value.string).toArray 9)):
  Calls prog 91 #[.string ⟨#[101,110,100]⟩,.map (some y)] w λe E=>∃g,e=.returned (.tuple #[.agg #[.string ⟨#[101,110,100]⟩,.slice (some ⟨g,0,none⟩) 0 0],.bool true])/\E.heap[g]?=some (.cells #[] 3)/\w.heap.size<=g/\Below w.heap.size w E:=by
 have H:=L ⟨#[101,110,100]⟩ ⟨#[32]⟩ (w.alloc zL) (fC _ _) (by decide) (by decide);have K:Lib.countB ⟨#[101,110,100]⟩ ⟨#[32]⟩=0:=mR [101,110,100] [] (by decide) (by simp);have I:Lib.splitB ⟨#[32]⟩ 0 0 ⟨#[101,110,100]⟩=[⟨#[101,110,100]⟩]:=rfl;rw[K,I]at H;obtain⟨i,DD,hmk⟩:∃i:Array Value,Hid (i=(List.replicate 0 (Value.int .i64 0)).toArray)/\∀W:World,(Instr.makeSlice 84 (.int .i64 (0:Nat)) (.int .i64 (0:Nat))).run prog W=.ok (.slice (some ⟨W.heap.size,0,none⟩) 0 0) (W.alloc (.cells i 3)):=wM 0 (by omega);have m:∀W:World,(Instr.makeSlice 84 (.int .i64 0) (.int .i64 0)).run prog W=.ok (.slice (some ⟨W.heap.size,0,none⟩) 0 0) (W.alloc (.cells i 3)):=hmk;clear hmk K I;go_enter func91,ntmps91;go_wp2_with fail;refine H.mono ?_;rintro e a ⟨rfl,rfl⟩;obtain⟨a,hw1⟩:∃a,(w.alloc zL).alloc (.cells (List.map Value.string [(⟨#[101,110,100]⟩:ByteArray)]).toArray 9)=a:=⟨_,rfl⟩;rw[hw1]
 have k:w.heap.size+1<a.heap.size:=by rw[<-hw1];simp
 have C:w.heap.size<a.heap.size:=by rw[<-hw1];simp;omega
 have n:Below w.heap.size w a:=by rw[<-hw1];exact fK _ _ _
 have A:a.heap[w.heap.size]?=some zL:=by rw[<-hw1];exact(bV _ _ _).1
 have B:a.heap[w.heap.size+1]?=some (.cells (List.map Value.string [(⟨#[101,110,100]⟩:ByteArray)]).toArray 9):=by rw[<-hw1];exact(bV _ _ _).2
 have x:a.cell? ⟨w.heap.size+1,0,none⟩=some (.string ⟨#[101,110,100]⟩):=by rw[fq B];rfl
 have z:(Instr.lookup 152 (.map (some y)) (.string ⟨#[101,110,100]⟩) true).run prog a=.ok (.tuple #[.int .i64 0,.bool true]) a:=qI (N.still (n.block y M)) .fin;have l:Hid (Below w.heap.size w a/\a.heap[w.heap.size]?=some zL):=⟨n,A⟩;clear hw1 n A B;simp only[World.size_alloc]at *;clear H;go_wp2
 go_region
 .have o:Below a.heap.size a (((a.alloc (.cells i 3)).alloc (.cells #[.string ⟨#[101,110,100]⟩,.slice (some ⟨a.heap.size,0,none⟩) 0 0] 169)).drew):=(fK _ _ _).drew
  have f:(((a.alloc (.cells i 3)).alloc (.cells #[.string ⟨#[101,110,100]⟩,.slice (some ⟨a.heap.size,0,none⟩) 0 0] 169)).drew).heap[a.heap.size]?=some (.cells #[] 3):=by
   show(((a.alloc (.cells i 3)).alloc (.cells #[.string ⟨#[101,110,100]⟩,.slice (some ⟨a.heap.size,0,none⟩) 0 0] 169))).heap[a.heap.size]?=_;rw[(bV a _ _).1,DD.out];rfl
  have d:(((a.alloc (.cells i 3)).alloc (.cells #[.string ⟨#[101,110,100]⟩,.slice (some ⟨a.heap.size,0,none⟩) 0 0] 169)).drew).heap[(a.heap.size+1)]?=some (.cells #[.string ⟨#[101,110,100]⟩,.slice (some ⟨a.heap.size,0,none⟩) 0 0] 169):=(bV a _ _).2;have b:=(o.block _ C).trans l.out.2;have c:=l.out.1.trans (o.mono l.out.1.size)
  have j:w.heap.size<=a.heap.size:=by omega
  have h:a.heap.size≠w.heap.size:=by omega
  clear l z DD m x o;revert f d b c;generalize(((a.alloc (.cells i 3)).alloc (.cells #[.string ⟨#[101,110,100]⟩,.slice (some ⟨a.heap.size,0,none⟩) 0 0] 169)).drew)=w2;generalize(a.heap.size+1)=bl at *;generalize a.heap.size=gs at *;intro f d b c;clear C k
  have c0:w2.cell? ⟨bl,0,none⟩=some (.string ⟨#[101,110,100]⟩):=by rw[fq d];rfl
  have c1:w2.cell? ⟨bl,1,none⟩=some (.slice (some ⟨gs,0,none⟩) 0 0):=by rw[fq d];rfl
  have d0:w2.cell? ⟨w.heap.size,0,none⟩=some (.string ⟨#[]⟩):=by rw[fq b];rfl
  have d1:w2.cell? ⟨w.heap.size,1,none⟩=some (.slice none 0 0):=by rw[fq b];rfl
  have f0:w2.frozen? ⟨w.heap.size,0,none⟩=false:=fV b 0;have f1:w2.frozen? ⟨w.heap.size,1,none⟩=false:=fV b 1
  have G:Hid (∀u v,(((w2.setCell ⟨w.heap.size,0,none⟩ u).setCell ⟨w.heap.size,1,none⟩ v).heap[gs]?=some (.cells #[] 3))/\w.heap.size<=gs/\Below w.heap.size w ((w2.setCell ⟨w.heap.size,0,none⟩ u).setCell ⟨w.heap.size,1,none⟩ v)):=by
   intro u v;refine⟨?_,j,(c.setCell (p:=⟨w.heap.size,0,none⟩) (aC _) _).setCell (p:=⟨w.heap.size,1,none⟩) (aC _) _⟩;rw[iJ _ _ _ _ h,iJ _ _ _ _ h,f]
  clear f d b c j h;go_wp2
  go_loopg [60] 0 (λ_ F wr=>F=.int .i64 0/\wr=w2)
  case atStart=>exact⟨rfl,rfl⟩
  case round=>
   obtain⟨rfl,q⟩:=hrel;have q:=q.symm;subst q;go_wp2
   have r:((w2.setCell ⟨w.heap.size,0,none⟩ (.string ⟨#[101,110,100]⟩)).setCell ⟨w.heap.size,1,none⟩ (.slice (some ⟨gs,0,none⟩) 0 0)).cell? ⟨w.heap.size,0,none⟩=some (.string ⟨#[101,110,100]⟩):=by
    rw[World.cell?_setCell_other _ _ _ _ (by simp)];exact World.cell?_setCell_same' _ _ _ (by rw[d0];rfl)
   have t:((w2.setCell ⟨w.heap.size,0,none⟩ (.string ⟨#[101,110,100]⟩)).setCell ⟨w.heap.size,1,none⟩ (.slice (some ⟨gs,0,none⟩) 0 0)).cell? ⟨w.heap.size,1,none⟩=some (.slice (some ⟨gs,0,none⟩) 0 0):=
    World.cell?_setCell_same' _ _ _ (by rw[World.cell?_setCell_other _ _ _ _ (by simp),d1];rfl)
   refine ja (v:= .tuple #[.agg #[.string ⟨#[101,110,100]⟩,.slice (some ⟨gs,0,none⟩) 0 0],.bool true]) (by simp[results,Tryz.results91,go_sem,r,t]) rfl ⟨gs,rfl,G.out _ _⟩
 .have o:Below a.heap.size a (((a.alloc (.cells #[.string ⟨#[101,110,100]⟩,.slice (some ⟨a.heap.size+1,0,none⟩) 0 0] 169)).alloc (.cells i 3)).drew):=(fK _ _ _).drew
  have f:(((a.alloc (.cells #[.string ⟨#[101,110,100]⟩,.slice (some ⟨a.heap.size+1,0,none⟩) 0 0] 169)).alloc (.cells i 3)).drew).heap[(a.heap.size+1)]?=some (.cells #[] 3):=by
   show(((a.alloc (.cells #[.string ⟨#[101,110,100]⟩,.slice (some ⟨a.heap.size+1,0,none⟩) 0 0] 169)).alloc (.cells i 3))).heap[(a.heap.size+1)]?=_;rw[(bV a _ _).2,DD.out];rfl
  have d:(((a.alloc (.cells #[.string ⟨#[101,110,100]⟩,.slice (some ⟨a.heap.size+1,0,none⟩) 0 0] 169)).alloc (.cells i 3)).drew).heap[a.heap.size]?=some (.cells #[.string ⟨#[101,110,100]⟩,.slice (some ⟨(a.heap.size+1),0,none⟩) 0 0] 169):=(bV a _ _).1;have b:=(o.block _ C).trans l.out.2;have c:=l.out.1.trans (o.mono l.out.1.size)
  have j:w.heap.size<=(a.heap.size+1):=by omega
  have h:(a.heap.size+1)≠w.heap.size:=by omega
  clear l z DD m x o;revert f d b c;generalize(((a.alloc (.cells #[.string ⟨#[101,110,100]⟩,.slice (some ⟨a.heap.size+1,0,none⟩) 0 0] 169)).alloc (.cells i 3)).drew)=w2;generalize(a.heap.size+1)=gs at *;generalize a.heap.size=bl at *;intro f d b c;clear C k
  have c0:w2.cell? ⟨bl,0,none⟩=some (.string ⟨#[101,110,100]⟩):=by rw[fq d];rfl
  have c1:w2.cell? ⟨bl,1,none⟩=some (.slice (some ⟨gs,0,none⟩) 0 0):=by rw[fq d];rfl
  have d0:w2.cell? ⟨w.heap.size,0,none⟩=some (.string ⟨#[]⟩):=by rw[fq b];rfl
  have d1:w2.cell? ⟨w.heap.size,1,none⟩=some (.slice none 0 0):=by rw[fq b];rfl
  have f0:w2.frozen? ⟨w.heap.size,0,none⟩=false:=fV b 0;have f1:w2.frozen? ⟨w.heap.size,1,none⟩=false:=fV b 1
  have G:Hid (∀u v,(((w2.setCell ⟨w.heap.size,0,none⟩ u).setCell ⟨w.heap.size,1,none⟩ v).heap[gs]?=some (.cells #[] 3))/\w.heap.size<=gs/\Below w.heap.size w ((w2.setCell ⟨w.heap.size,0,none⟩ u).setCell ⟨w.heap.size,1,none⟩ v)):=by
   intro u v;refine⟨?_,j,(c.setCell (p:=⟨w.heap.size,0,none⟩) (aC _) _).setCell (p:=⟨w.heap.size,1,none⟩) (aC _) _⟩;rw[iJ _ _ _ _ h,iJ _ _ _ _ h,f]
  clear f d b c j h;go_wp2
  go_loopg [60] 0 (λ_ F wr=>F=.int .i64 0/\wr=w2)
  case atStart=>exact⟨rfl,rfl⟩
  case round=>
   obtain⟨rfl,q⟩:=hrel;have q:=q.symm;subst q;go_wp2
   have r:((w2.setCell ⟨w.heap.size,0,none⟩ (.string ⟨#[101,110,100]⟩)).setCell ⟨w.heap.size,1,none⟩ (.slice (some ⟨gs,0,none⟩) 0 0)).cell? ⟨w.heap.size,0,none⟩=some (.string ⟨#[101,110,100]⟩):=by
    rw[World.cell?_setCell_other _ _ _ _ (by simp)];exact World.cell?_setCell_same' _ _ _ (by rw[d0];rfl)
   have t:((w2.setCell ⟨w.heap.size,0,none⟩ (.string ⟨#[101,110,100]⟩)).setCell ⟨w.heap.size,1,none⟩ (.slice (some ⟨gs,0,none⟩) 0 0)).cell? ⟨w.heap.size,1,none⟩=some (.slice (some ⟨gs,0,none⟩) 0 0):=
    World.cell?_setCell_same' _ _ _ (by rw[World.cell?_setCell_other _ _ _ _ (by simp),d1];rfl)
   refine ja (v:= .tuple #[.agg #[.string ⟨#[101,110,100]⟩,.slice (some ⟨gs,0,none⟩) 0 0],.bool true]) (by simp[results,Tryz.results91,go_sem,r,t]) rfl ⟨gs,rfl,G.out _ _⟩
end
section
theorem Py(g off c:Nat)(a b m:Int)(P:Nat->World->Prop)(w:World)(j:g<w.heap.size)(x:w.cell? ⟨g,off,none⟩=some (.int .i64 a))(z:w.cell? ⟨g,off+1,none⟩=some (.int .i64 b))(u:w.cell? ⟨g,off+2,none⟩=some (.int .i64 m))
  (r:∀be W s,P be W->Below W.heap.size W s->P be s)
  (o:∀W,Below w.heap.size w W->Calls prog 13 #[.agg #[.int .i64 a,.int .i64 b,.int .i64 m]] W λe d=>∃be,e=.returned (.tuple #[.pointer (some ⟨be,0,none⟩),.nilIface])/\P be d/\Below W.heap.size W d):
  Calls prog 93 #[.agg #[.string ⟨#[112,108,97,110]⟩,.slice (some ⟨g,off,none⟩) 3 c]] w λe d=>∃be,e=.returned (.tuple #[.pointer (some ⟨be,0,none⟩),.bool true])/\P be d:=by
 have l:Hid (∀W,Below w.heap.size w W->W.cell? ⟨w.heap.size,1,none⟩=some (.slice (some ⟨g,off,none⟩) 3 c)->Calls prog 13 #[.agg #[.int .i64 a,.int .i64 b,.int .i64 m]] W λe d=>∃be,e=.returned (.tuple #[.pointer (some ⟨be,0,none⟩),.nilIface])/\(d.cell? ⟨w.heap.size,1,none⟩=some (.slice (some ⟨g,off,none⟩) 3 c)/\d.cell? ⟨g,off,none⟩=some (.int .i64 a)/\d.cell? ⟨g,off+1,none⟩=some (.int .i64 b)/\d.cell? ⟨g,off+2,none⟩=some (.int .i64 m))/\Hid (P be d)):=by
  intro W k i;refine(o W k).mono ?_;rintro e d ⟨be,rfl,t,q⟩;have f:=k.trans (q.mono k.size);exact⟨be,rfl,⟨(q.cell (p:=⟨w.heap.size,1,none⟩) (World.block_lt_of_cell? _ _ i)).trans i,(f.cell (p:=⟨g,off,none⟩) j).trans x,(f.cell (p:=⟨g,off+1,none⟩) j).trans z,(f.cell (p:=⟨g,off+2,none⟩) j).trans u⟩,t⟩
 have A:Hid (Below w.heap.size w (w.alloc (.cells #[.string ⟨#[112,108,97,110]⟩,.slice (some ⟨g,off,none⟩) 3 c] 169)).drew):=(fC _ _).drew
 have n:Hid (∀be W,Hid (P be W)->P be W.drew):=λbe W h=>r be W _ h.out ((iL _ _).drew)
 clear o r;go_enter func93,ntmps93;go_wp2_with fail
 go_region_held3 (λW=>W.cell? ⟨w.heap.size,1,none⟩=some (.slice (some ⟨g,off,none⟩) 3 c)/\W.cell? ⟨g,off,none⟩=some (.int .i64 a)/\W.cell? ⟨g,off+1,none⟩=some (.int .i64 b)/\W.cell? ⟨g,off+2,none⟩=some (.int .i64 m)) (first|(go_keep;done)|fail) (first
  |(go_at_call 13;refine(l.out _ A.out (by go_keep)).mono ?_;rintro e w2 ⟨be,rfl,hc2,y⟩)
  |fail)
 go_wp2
 go_region
 go_wp2;refine ja (v:= .tuple #[.pointer (some ⟨be,0,none⟩),.bool true]) (by simp[results,Tryz.results93,go_sem]) rfl ⟨be,rfl,n.out _ _ y⟩
def lF:Prop:=∀(g off n c:Nat) (k t v:Int) (w:World),g<w.heap.size->3<=n->n<=1000->w.cell? ⟨g,off,none⟩=some (.int .i64 k)->w.cell? ⟨g,off+1,none⟩=some (.int .i64 t)->w.cell? ⟨g,off+2,none⟩=some (.int .i64 v)->
  Calls prog 165 #[.slice (some ⟨g,off,none⟩) n c] w λe w'=>e=.returned (.agg #[.int .i64 k,.int .i64 t,.int .i64 v])/\Below w.heap.size w w'
theorem EK(be g off c:Nat)(P:World->Prop)(w:World)
  (H:∀W,Below w.heap.size w W->Calls prog 162 #[.pointer (some ⟨be,0,none⟩),.slice (some ⟨g,off,none⟩) 3 c] W λe a=>e=.returned (.bool true)/\P a):
  Calls prog 92 #[.pointer (some ⟨be,0,none⟩),.agg #[.string ⟨#[102,101,100]⟩,.slice (some ⟨g,off,none⟩) 3 c]] w λe a=>e=.returned (.bool true)/\P a:=by
 have d:Hid (∀W,Below w.heap.size w W->Calls prog 162 #[.pointer (some ⟨be,0,none⟩),.slice (some ⟨g,off,none⟩) 3 c] W λe a=>e=.returned (.bool true)/\Hid (P a)):=H;have f:Hid (Below w.heap.size w (w.alloc (.cells #[.string ⟨#[102,101,100]⟩,.slice (some ⟨g,off,none⟩) 3 c] 169))):=fC _ _;clear H;go_enter func92,ntmps92
 go_wp2_with (first
  |(go_at_call 162;refine(d.out _ f.out).mono ?_;rintro e w2 ⟨rfl,b⟩)
  |fail)
 go_ret;exact⟨rfl,b.out⟩
theorem zS(be g off c:Nat)(P:World->Prop)(w:World)
  (H:∀W,Below w.heap.size w W->Calls prog 163 #[.pointer (some ⟨be,0,none⟩),.slice (some ⟨g,off,none⟩) 2 c] W λe a=>e=.returned (.bool true)/\P a):
  Calls prog 92 #[.pointer (some ⟨be,0,none⟩),.agg #[.string ⟨#[109,97,114,107,115]⟩,.slice (some ⟨g,off,none⟩) 2 c]] w λe a=>e=.returned (.bool true)/\P a:=by
 have d:Hid (∀W,Below w.heap.size w W->Calls prog 163 #[.pointer (some ⟨be,0,none⟩),.slice (some ⟨g,off,none⟩) 2 c] W λe a=>e=.returned (.bool true)/\Hid (P a)):=H;have f:Hid (Below w.heap.size w (w.alloc (.cells #[.string ⟨#[109,97,114,107,115]⟩,.slice (some ⟨g,off,none⟩) 2 c] 169))):=fC _ _;clear H;go_enter func92,ntmps92
 go_wp2_with (first
  |(go_at_call 163;refine(d.out _ f.out).mono ?_;rintro e w2 ⟨rfl,b⟩)
  |fail)
 go_ret;exact⟨rfl,b.out⟩
theorem EL(be g off c:Nat)(P:World->Prop)(w:World)(h:∀W,Below w.heap.size w W->P W):
  Calls prog 92 #[.pointer (some ⟨be,0,none⟩),.agg #[.string ⟨#[101,110,100]⟩,.slice (some ⟨g,off,none⟩) 0 c]] w λe a=>e=.returned (.bool true)/\P a:=by
 have b:Hid (P (w.alloc (.cells #[.string ⟨#[101,110,100]⟩,.slice (some ⟨g,off,none⟩) 0 c] 169))):=h _ (fC _ _);clear h;go_enter func92,ntmps92;go_wp2;go_ret;exact⟨rfl,b.out⟩
end
section
variable{w:World}
theorem low_mono{W:World}{f:Nat}{av:Array Value}{x:Ending}(h:Calls prog f av W λe a=>e=x/\Below W.heap.size W a)(b:Hid (Below w.heap.size w W)):Calls prog f av W λe a=>e=x/\Hid (Below w.heap.size w a):=
 h.mono λ_ _ q=>⟨q.1,b.out.trans (q.2.mono b.out.size)⟩
theorem Z9(j:lF){g off n c:Nat}{k t v:Int}(b:g<w.heap.size)(hn:3<=n)(hc:n<=1000)(i:w.cell? ⟨g,off,none⟩=some (.int .i64 k))(h:w.cell? ⟨g,off+1,none⟩=some (.int .i64 t))(f:w.cell? ⟨g,off+2,none⟩=some (.int .i64 v))(W:World)(a:Hid (Below w.heap.size w W)):
  Calls prog 165 #[.slice (some ⟨g,off,none⟩) n c] W λe d=>e=.returned (.agg #[.int .i64 k,.int .i64 t,.int .i64 v])/\Hid (Below w.heap.size w d):=
 low_mono (j g off n c k t v W (aR b a.out.size) (by omega) (by omega) ((a.out.cell (p:=⟨g,off,none⟩) b).trans i) ((a.out.cell (p:=⟨g,off+1,none⟩) b).trans h) ((a.out.cell (p:=⟨g,off+2,none⟩) b).trans f)) a
theorem vK(r:lF)(be bj g off:Nat)(s k t v n:Int)(P:World->Prop)(w:World)(f:g<w.heap.size)(l:be<w.heap.size)
  (z:w.cell? ⟨g,off,none⟩=some (.int .i64 s)) (o:w.cell? ⟨g,off+1,none⟩=some (.int .i64 k)) (m:w.cell? ⟨g,off+2,none⟩=some (.int .i64 t)) (d:w.cell? ⟨g,off+3,none⟩=some (.int .i64 v)) (x:w.cell? ⟨g,off+4,none⟩=some (.int .i64 n))
  (y:w.cell? ⟨be,3,none⟩=some (.pointer (some ⟨bj,0,none⟩)))
  (b:∀W,P W->W.cell? ⟨be,3,none⟩=some (.pointer (some ⟨bj,0,none⟩))/\W.cell? ⟨g,off,none⟩=some (.int .i64 s)/\W.cell? ⟨g,off+4,none⟩=some (.int .i64 n))
  (H:∀W,Below w.heap.size w W->Calls prog 164 #[.pointer (some ⟨bj,0,none⟩),.int .i64 s,.agg #[.int .i64 k,.int .i64 t,.int .i64 v],.int .i64 n] W λe a=>e=.returned .nilIface/\P a):
  Calls prog 92 #[.pointer (some ⟨be,0,none⟩),.agg #[.string ⟨#[114,111,119]⟩,.slice (some ⟨g,off,none⟩) 5 5]] w λe a=>e=.returned (.bool true)/\P a:=by
 have B:Hid (∀W,Hid (Below w.heap.size w W)->Calls prog 164 #[.pointer (some ⟨bj,0,none⟩),.int .i64 s,.agg #[.int .i64 k,.int .i64 t,.int .i64 v],.int .i64 n] W λe a=>e=.returned .nilIface/\(a.cell? ⟨be,3,none⟩=some (.pointer (some ⟨bj,0,none⟩))/\a.cell? ⟨g,off,none⟩=some (.int .i64 s)/\a.cell? ⟨g,off+4,none⟩=some (.int .i64 n))/\Hid (P a)):=by
  intro W h;refine(H W h.out).mono ?_;rintro e a ⟨rfl,u⟩;exact⟨rfl,b a u,u⟩
 have A:Hid (∀W,Hid (Below w.heap.size w W)->Calls prog 165 #[.slice (some ⟨g,off+1,none⟩) 4 4] W λe a=>e=.returned (.agg #[.int .i64 k,.int .i64 t,.int .i64 v])/\(a.cell? ⟨be,3,none⟩=some (.pointer (some ⟨bj,0,none⟩))/\a.cell? ⟨g,off,none⟩=some (.int .i64 s)/\a.cell? ⟨g,off+4,none⟩=some (.int .i64 n))/\Hid (Below w.heap.size w a)):=λW h=>
  (Z9 r (n:=4) (c:=4) f (by omega) (by omega) o m d W h).mono λe a q=>⟨q.1,⟨(q.2.out.cell (p:=⟨be,3,none⟩) l).trans y,(q.2.out.cell (p:=⟨g,off,none⟩) f).trans z,(q.2.out.cell (p:=⟨g,off+4,none⟩) f).trans x⟩,q.2⟩
 have hB:Hid (Below w.heap.size w (w.alloc (.cells #[.string ⟨#[114,111,119]⟩,.slice (some ⟨g,off,none⟩) 5 5] 169))):=fC _ _;have i:Hid (Below w.heap.size w (w.alloc (.cells #[.string ⟨#[114,111,119]⟩,.slice (some ⟨g,off,none⟩) 5 5] 169)).drew):=(fC _ _).drew;clear H r b o m d;go_enter func92,ntmps92;go_wp2_with fail
 go_region_held3 (λW=>W.cell? ⟨be,3,none⟩=some (.pointer (some ⟨bj,0,none⟩))/\W.cell? ⟨g,off,none⟩=some (.int .i64 s)/\W.cell? ⟨g,off+4,none⟩=some (.int .i64 n)) (first|(go_keep;done)|fail) (first
  |(go_at_call 164;refine(B.out _ j).mono ?_;rintro e w3 ⟨rfl,hc3,d⟩)
  |(go_at_call 165;refine(A.out _ i).mono ?_;rintro e w2 ⟨rfl,hc2,j⟩)
  |fail)
 go_wp2;go_ret;exact⟨rfl,d.out⟩
theorem CK(l:lF)(be g off:Nat)(k t v:Int)(P:World->Prop)(w:World)(o:g<w.heap.size)
  (i:w.cell? ⟨g,off,none⟩=some (.int .i64 k)) (j:w.cell? ⟨g,off+1,none⟩=some (.int .i64 t)) (h:w.cell? ⟨g,off+2,none⟩=some (.int .i64 v))
  (H:∀W,Below w.heap.size w W->Calls prog 166 #[.pointer (some ⟨be,0,none⟩),.agg #[.int .i64 k,.int .i64 k,.int .i64 t,.int .i64 v,.int .i64 0,.int .i64 0,.int .i64 0,.bool true,.bool false]] W λe a=>e=.returned (.bool true)/\P a):
  Calls prog 92 #[.pointer (some ⟨be,0,none⟩),.agg #[.string ⟨#[111,117,116,32,49]⟩,.slice (some ⟨g,off,none⟩) 3 3]] w λe a=>e=.returned (.bool true)/\P a:=by
 have p:=hid λ(W:World) (d:Hid (Below w.heap.size w W))=>H W d.out
 have s:=hid (Z9 l (n:=3) (c:=3) o (by omega) (by omega) i j h)
 have m:=hid λ(W:World) (d:Hid (Below w.heap.size w W))=>low_mono (um k t v W) d
 have r:Hid (Below w.heap.size w (w.alloc (.cells #[.string ⟨#[111,117,116,32,49]⟩,.slice (some ⟨g,off,none⟩) 3 3] 169))):=fC _ _;clear H l i j h;go_enter func92,ntmps92
 go_wp2_with (first
  |(go_at_call 166;refine(p.out _ f).mono ?_;rintro e w4 ⟨rfl,q⟩)
  |(go_at_call 167;refine(m.out _ b).mono ?_;rintro e w3 ⟨rfl,f⟩)
  |(go_at_call 165;refine(s.out _ r).mono ?_;rintro e w2 ⟨rfl,b⟩)
  |fail)
 go_ret;exact⟨rfl,q⟩
theorem zT(l:lF)(be g off:Nat)(k t v:Int)(P:World->Prop)(w:World)(o:g<w.heap.size)
  (i:w.cell? ⟨g,off,none⟩=some (.int .i64 k)) (j:w.cell? ⟨g,off+1,none⟩=some (.int .i64 t)) (h:w.cell? ⟨g,off+2,none⟩=some (.int .i64 v))
  (H:∀W,Below w.heap.size w W->Calls prog 166 #[.pointer (some ⟨be,0,none⟩),.agg #[.int .i64 k,.int .i64 0,.int .i64 0,.int .i64 0,.int .i64 k,.int .i64 t,.int .i64 v,.bool false,.bool true]] W λe a=>e=.returned (.bool true)/\P a):
  Calls prog 92 #[.pointer (some ⟨be,0,none⟩),.agg #[.string ⟨#[111,117,116,32,50]⟩,.slice (some ⟨g,off,none⟩) 3 3]] w λe a=>e=.returned (.bool true)/\P a:=by
 have p:=hid λ(W:World) (d:Hid (Below w.heap.size w W))=>H W d.out
 have s:=hid (Z9 l (n:=3) (c:=3) o (by omega) (by omega) i j h)
 have m:=hid λ(W:World) (d:Hid (Below w.heap.size w W))=>low_mono (qH k t v W) d
 have r:=hid (fC w (.cells #[.string ⟨#[111,117,116,32,50]⟩,.slice (some ⟨g,off,none⟩) 3 3] 169));clear H l i j h;go_enter func92,ntmps92
 go_wp2_with (first
  |(go_at_call 166;refine(p.out _ f).mono ?_;rintro e w4 ⟨rfl,q⟩)
  |(go_at_call 167;refine(m.out _ b).mono ?_;rintro e w3 ⟨rfl,f⟩)
  |(go_at_call 165;refine(s.out _ r).mono ?_;rintro e w2 ⟨rfl,b⟩)
  |fail)
 go_ret;exact⟨rfl,q⟩
theorem CL(j:lF)(be g off:Nat)(k t v d t2 b:Int)(P:World->Prop)(w:World)(y:g<w.heap.size)
  (x:w.cell? ⟨g,off,none⟩=some (.int .i64 k)) (z:w.cell? ⟨g,off+1,none⟩=some (.int .i64 t)) (r:w.cell? ⟨g,off+2,none⟩=some (.int .i64 v))
  (u:w.cell? ⟨g,off+3,none⟩=some (.int .i64 d)) (s:w.cell? ⟨g,off+4,none⟩=some (.int .i64 t2)) (a:w.cell? ⟨g,off+5,none⟩=some (.int .i64 b))
  (H:∀W,Below w.heap.size w W->Calls prog 166 #[.pointer (some ⟨be,0,none⟩),.agg #[.int .i64 k,.int .i64 k,.int .i64 t,.int .i64 v,.int .i64 d,.int .i64 t2,.int .i64 b,.bool true,.bool true]] W λe f=>e=.returned (.bool true)/\P f):
  Calls prog 92 #[.pointer (some ⟨be,0,none⟩),.agg #[.string ⟨#[111,117,116,32,51]⟩,.slice (some ⟨g,off,none⟩) 6 6]] w λe f=>e=.returned (.bool true)/\P f:=by
 have B:=hid λ(W:World) (h:Hid (Below w.heap.size w W))=>H W h.out
 have l:=hid (Z9 j (n:=6) (c:=6) y (by omega) (by omega) x z r);have i:=hid (Z9 j (off:=off+3) (n:=3) (c:=3) y (by omega) (by omega) u s a)
 have A:=hid λ(W:World) (h:Hid (Below w.heap.size w W))=>low_mono (EU k t v d t2 b W) h
 have C:=hid (fC w (.cells #[.string ⟨#[111,117,116,32,51]⟩,.slice (some ⟨g,off,none⟩) 6 6] 169));clear H j x z r u s a;go_enter func92,ntmps92;go_wp2_with fail;have m:=hid C.out.drew
 go_region_held3 (λ_=>True) (first|exact trivial|fail) (first
  |(go_at_call 166;refine(B.out _ p).mono ?_;rintro e w5 ⟨rfl,a⟩)
  |(go_at_call 168;refine(A.out _ q).mono ?_;rintro e w4 ⟨rfl,p⟩)
  |(go_at_call 165;refine(i.out _ o).mono ?_;rintro e w3 ⟨rfl,q⟩)
  |(go_at_call 165;refine(l.out _ m).mono ?_;rintro e w2 ⟨rfl,o⟩)
  |fail)
 go_wp2;go_ret;exact⟨rfl,a⟩
end
end Go.Proofs.YthfpipieboophaaGreatDoor
