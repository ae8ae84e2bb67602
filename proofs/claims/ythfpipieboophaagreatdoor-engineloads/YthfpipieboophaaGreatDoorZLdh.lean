import Derived.Test.YthfpipieboophaaGreatDoorZLdt
import Derived.Test.YthfpipieboophaaGreatDoorZLdb
namespace Go.Proofs.YthfpipieboophaaGreatDoor
set_option maxRecDepth 100000
set_option maxHeartbeats 40000000
open Go.RowKit
section
open Go.Joins Go.Sort
variable{a:Nat}
theorem aci(hd:List UInt8)(vs:List (List UInt8))(many:Int)(there:Bool)(i:there=false∨(vs.length:Int)≠many)(t:hd≠[111,117,116]∨vs=[])
  (n:∀W,nH W a->(Instr.lookup 152 (.map (some a)) (.string (bW hd)) true).run Tryz.prog W=.ok (.tuple #[.int .i64 many,.bool there]) W)
  (m:(32:UInt8)∉hd) (r:∀x∈vs,(32:UInt8)∉x) (q:(dW hd vs).length<=1000000) (w:World) (E:nH w a) (C:a<w.heap.size)
  (B:∀(s sep:ByteArray) (W:World),Below w.heap.size w W->s.size<4294967281->1<=sep.size->Calls Tryz.prog 80 #[.string s,.string sep] W λe z=>e=.returned (.slice (some ⟨W.heap.size,0,none⟩) (Lib.countB s sep+1) (Lib.countB s sep+1))/\z=W.alloc (.cells ((Lib.splitB sep 0 (Lib.countB s sep) s).map Value.string).toArray 9)):
  Calls Tryz.prog 91 #[.string (bW (dW hd vs)),.map (some a)] w λe z=>ZK w z e:=by
 have hvl:vs.length<=1000000:=aH (aaT hd vs).2.1 q
 have hv2:(vs.length:Int)<=1000000:=by omega
 have A:=B (bW (dW hd vs)) ⟨#[32]⟩ (w.alloc zL) (fC _ _) (by show(dW hd vs).toArray.size<_;simp only[List.size_toArray];omega) (by decide);rw[mR hd vs m r,vM vs hd m r]at A;go_enter Tryz.func91,Tryz.ntmps91;go_wp2_with fail;refine A.mono ?_;rintro e b ⟨rfl,rfl⟩;obtain⟨b,hw1⟩:∃b,(w.alloc zL).alloc (.cells (List.map Value.string (List.map (λx=>(⟨x.toArray⟩:ByteArray)) (hd::vs))).toArray 9)=b:=⟨_,rfl⟩;rw[hw1]
 have hlt1:w.heap.size+1<b.heap.size:=by rw[<-hw1];simp
 have pY:w.heap.size<b.heap.size:=by rw[<-hw1];simp;omega
 have k:Below w.heap.size w b:=by rw[<-hw1];exact fK _ _ _
 have j:b.heap[w.heap.size]?=some zL:=by rw[<-hw1];exact(gL _ _ _ (by simp)).trans (eZ w _)
 have o:b.heap[w.heap.size+1]?=some (.cells (List.map Value.string (List.map (λx=>(⟨x.toArray⟩:ByteArray)) (hd::vs))).toArray 9):=by
  rw[<-hw1];have:=eZ (w.alloc zL) (.cells (List.map Value.string (List.map (λx=>(⟨x.toArray⟩:ByteArray)) (hd::vs))).toArray 9)
  rwa [World.size_alloc]at this
 have hc0:b.cell? ⟨w.heap.size+1,0,none⟩=some (.string (bW hd)):=by rw[fq o];simp
 have Ce:=n b (E.still (k.block a C))
 have f:b.cell? ⟨w.heap.size,0,none⟩=some (.string ⟨#[]⟩):=by rw[fq j];rfl
 have g:b.cell? ⟨w.heap.size,1,none⟩=some (.slice none 0 0):=by rw[fq j];rfl
 have hf0:b.frozen? ⟨w.heap.size,0,none⟩=false:=fV j 0;have hf1:b.frozen? ⟨w.heap.size,1,none⟩=false:=fV j 1;have l:=hid k;clear hw1 k j o;simp only[World.size_alloc]at *;clear A r n
 by_cases hne:hd=[111,117,116]
 .have y:vs=[]:=by
   rcases t with h|h
   .exact absurd hne h
   .exact h
  subst y hne;clear t
  rcases i with rfl|i
  .go_wp2
   have c:((b.setCell ⟨w.heap.size,0,none⟩ (.string ⟨#[]⟩)).setCell ⟨w.heap.size,1,none⟩ (.slice none 0 0)).cell? ⟨w.heap.size,0,none⟩=some (.string ⟨#[]⟩):=by
    rw[World.cell?_setCell_other _ _ _ _ (by simp)];exact World.cell?_setCell_same' _ _ _ (by rw[f];rfl)
   have d:((b.setCell ⟨w.heap.size,0,none⟩ (.string ⟨#[]⟩)).setCell ⟨w.heap.size,1,none⟩ (.slice none 0 0)).cell? ⟨w.heap.size,1,none⟩=some (.slice none 0 0):=by
    exact World.cell?_setCell_same' _ _ _ (by rw[World.cell?_setCell_other _ _ _ _ (by simp),g];rfl)
   refine ja (v:= .tuple #[.agg #[.string ⟨#[]⟩,.slice none 0 0],.bool false]) (by simp[results,Tryz.results91,go_sem,c,d]) rfl ⟨rfl,?_⟩;exact(l.out.setCell (p:=⟨w.heap.size,0,none⟩) (aC _) _).setCell (p:=⟨w.heap.size,1,none⟩) (aC _) _
  .have u:((0:Int)==many)=false:=by simpa using i
   cases there
   .go_wp2
    have c:((b.setCell ⟨w.heap.size,0,none⟩ (.string ⟨#[]⟩)).setCell ⟨w.heap.size,1,none⟩ (.slice none 0 0)).cell? ⟨w.heap.size,0,none⟩=some (.string ⟨#[]⟩):=by
     rw[World.cell?_setCell_other _ _ _ _ (by simp)];exact World.cell?_setCell_same' _ _ _ (by rw[f];rfl)
    have d:((b.setCell ⟨w.heap.size,0,none⟩ (.string ⟨#[]⟩)).setCell ⟨w.heap.size,1,none⟩ (.slice none 0 0)).cell? ⟨w.heap.size,1,none⟩=some (.slice none 0 0):=by
     exact World.cell?_setCell_same' _ _ _ (by rw[World.cell?_setCell_other _ _ _ _ (by simp),g];rfl)
    refine ja (v:= .tuple #[.agg #[.string ⟨#[]⟩,.slice none 0 0],.bool false]) (by simp[results,Tryz.results91,go_sem,c,d]) rfl ⟨rfl,?_⟩;exact(l.out.setCell (p:=⟨w.heap.size,0,none⟩) (aC _) _).setCell (p:=⟨w.heap.size,1,none⟩) (aC _) _
   .go_wp2
    have c:((b.setCell ⟨w.heap.size,0,none⟩ (.string ⟨#[]⟩)).setCell ⟨w.heap.size,1,none⟩ (.slice none 0 0)).cell? ⟨w.heap.size,0,none⟩=some (.string ⟨#[]⟩):=by
     rw[World.cell?_setCell_other _ _ _ _ (by simp)];exact World.cell?_setCell_same' _ _ _ (by rw[f];rfl)
    have d:((b.setCell ⟨w.heap.size,0,none⟩ (.string ⟨#[]⟩)).setCell ⟨w.heap.size,1,none⟩ (.slice none 0 0)).cell? ⟨w.heap.size,1,none⟩=some (.slice none 0 0):=by
     exact World.cell?_setCell_same' _ _ _ (by rw[World.cell?_setCell_other _ _ _ _ (by simp),g];rfl)
    refine ja (v:= .tuple #[.agg #[.string ⟨#[]⟩,.slice none 0 0],.bool false]) (by simp[results,Tryz.results91,go_sem,c,d]) rfl ⟨rfl,?_⟩;exact(l.out.setCell (p:=⟨w.heap.size,0,none⟩) (aC _) _).setCell (p:=⟨w.heap.size,1,none⟩) (aC _) _
 .have hne2:(hd==[111,117,116])=false:=by simpa using hne
  clear t
  rcases i with rfl|i
  .go_wp2
   have c:((b.setCell ⟨w.heap.size,0,none⟩ (.string ⟨#[]⟩)).setCell ⟨w.heap.size,1,none⟩ (.slice none 0 0)).cell? ⟨w.heap.size,0,none⟩=some (.string ⟨#[]⟩):=by
    rw[World.cell?_setCell_other _ _ _ _ (by simp)];exact World.cell?_setCell_same' _ _ _ (by rw[f];rfl)
   have d:((b.setCell ⟨w.heap.size,0,none⟩ (.string ⟨#[]⟩)).setCell ⟨w.heap.size,1,none⟩ (.slice none 0 0)).cell? ⟨w.heap.size,1,none⟩=some (.slice none 0 0):=by
    exact World.cell?_setCell_same' _ _ _ (by rw[World.cell?_setCell_other _ _ _ _ (by simp),g];rfl)
   refine ja (v:= .tuple #[.agg #[.string ⟨#[]⟩,.slice none 0 0],.bool false]) (by simp[results,Tryz.results91,go_sem,c,d]) rfl ⟨rfl,?_⟩;exact(l.out.setCell (p:=⟨w.heap.size,0,none⟩) (aC _) _).setCell (p:=⟨w.heap.size,1,none⟩) (aC _) _
  .have u:((vs.length:Int)==many)=false:=by simpa using i
   cases there
   .go_wp2
    have c:((b.setCell ⟨w.heap.size,0,none⟩ (.string ⟨#[]⟩)).setCell ⟨w.heap.size,1,none⟩ (.slice none 0 0)).cell? ⟨w.heap.size,0,none⟩=some (.string ⟨#[]⟩):=by
     rw[World.cell?_setCell_other _ _ _ _ (by simp)];exact World.cell?_setCell_same' _ _ _ (by rw[f];rfl)
    have d:((b.setCell ⟨w.heap.size,0,none⟩ (.string ⟨#[]⟩)).setCell ⟨w.heap.size,1,none⟩ (.slice none 0 0)).cell? ⟨w.heap.size,1,none⟩=some (.slice none 0 0):=by
     exact World.cell?_setCell_same' _ _ _ (by rw[World.cell?_setCell_other _ _ _ _ (by simp),g];rfl)
    refine ja (v:= .tuple #[.agg #[.string ⟨#[]⟩,.slice none 0 0],.bool false]) (by simp[results,Tryz.results91,go_sem,c,d]) rfl ⟨rfl,?_⟩;exact(l.out.setCell (p:=⟨w.heap.size,0,none⟩) (aC _) _).setCell (p:=⟨w.heap.size,1,none⟩) (aC _) _
   .go_wp2
    have c:((b.setCell ⟨w.heap.size,0,none⟩ (.string ⟨#[]⟩)).setCell ⟨w.heap.size,1,none⟩ (.slice none 0 0)).cell? ⟨w.heap.size,0,none⟩=some (.string ⟨#[]⟩):=by
     rw[World.cell?_setCell_other _ _ _ _ (by simp)];exact World.cell?_setCell_same' _ _ _ (by rw[f];rfl)
    have d:((b.setCell ⟨w.heap.size,0,none⟩ (.string ⟨#[]⟩)).setCell ⟨w.heap.size,1,none⟩ (.slice none 0 0)).cell? ⟨w.heap.size,1,none⟩=some (.slice none 0 0):=by
     exact World.cell?_setCell_same' _ _ _ (by rw[World.cell?_setCell_other _ _ _ _ (by simp),g];rfl)
    refine ja (v:= .tuple #[.agg #[.string ⟨#[]⟩,.slice none 0 0],.bool false]) (by simp[results,Tryz.results91,go_sem,c,d]) rfl ⟨rfl,?_⟩;exact(l.out.setCell (p:=⟨w.heap.size,0,none⟩) (aC _) _).setCell (p:=⟨w.heap.size,1,none⟩) (aC _) _
end
section
open Go.Proofs.Tryz Go.Joins Go.Sort
theorem aeq(a:List UInt8)(vs:List (List UInt8))(k:Nat)(hk:jN (bW (111::117::116::32::a)) k)(hk1:1<=k)(hl:vs.length=k)
  (h1:(32:UInt8)∉a) (hwt:∀x∈vs,(32:UInt8)∉x) (hsz:(dW [111,117,116] (a::vs)).length<=1000000) (bm:Nat) (w:World) (hK:nH w bm) (Eu:bm<w.heap.size)
  (M7:∀(s sep:ByteArray) (W:World),Below w.heap.size w W->s.size<4294967281->1<=sep.size->Calls prog 80 #[.string s,.string sep] W λe b=>e=.returned (.slice (some ⟨W.heap.size,0,none⟩) (Lib.countB s sep+1) (Lib.countB s sep+1))/\b=W.alloc (.cells ((Lib.splitB sep 0 (Lib.countB s sep) s).map Value.string).toArray 9))
  (Ya:∀(y:List UInt8) (W:World),Below w.heap.size w W->y.length<=1000000->Calls prog 161 #[.string (bW y)] W λe b=>(∃n,ZJ n/\e=.returned (.tuple #[.int .i64 n,.nilIface])/\Below W.heap.size W b)∨∃n t u,e=.returned (.tuple #[.int .i64 n,.iface t u])/\Below W.heap.size W b):
  Calls prog 91 #[.string (bW (dW [111,117,116] (a::vs))),.map (some bm)] w λe b=>ZK w b e∨X0 w b e (bW (111::117::116::32::a)) k:=by
 have ZM:k<=6:=by cases hk <;>omega
 have h0:(0:Int)<(k:Int):=by omega
 have hk0:k≠0:=by omega
 have h6:(k:Int)<=6:=by omega
 have hvl:∀x∈vs,x.length<=1000000:=λx S=>aH ((aaT [111,117,116] (a::vs)).2.2 x (by simp[S])) hsz
 have Z:(32:UInt8)∉[111,117,116]:=by decide
 have hw:∀x∈a::vs,(32:UInt8)∉x:=λx S=>by
  rcases dM.1 S with rfl|S
  .exact h1
  .exact hwt x S
 have hS:=M7 (bW (dW [111,117,116] (a::vs))) ⟨#[32]⟩ (w.alloc zL) (fC _ _) (by show(dW [111,117,116] (a::vs)).toArray.size<_;simp only[List.size_toArray];omega) (by decide);rw[mR [111,117,116] (a::vs) Z hw,vM (a::vs) [111,117,116] Z hw]at hS;rw[List.length_cons,hl]at hS;obtain⟨r,DD,hmk⟩:∃r:Array Value,Hid (r=(List.replicate k (Value.int .i64 0)).toArray)/\∀W:World,(Instr.makeSlice 84 (.int .i64 k) (.int .i64 k)).run prog W=.ok (.slice (some ⟨W.heap.size,0,none⟩) k k) (W.alloc (.cells r 3)):=wM k (by omega);go_enter func91,ntmps91;go_wp2_with fail;refine hS.mono ?_;rintro e g ⟨rfl,rfl⟩;obtain⟨g,hw1⟩:∃g,(w.alloc zL).alloc (.cells (List.map Value.string (List.map (λx=>(⟨x.toArray⟩:ByteArray)) ([111,117,116]::a::vs))).toArray 9)=g:=⟨_,rfl⟩;rw[hw1]
 have f:w.heap.size+1<g.heap.size:=by rw[<-hw1];simp
 have M:w.heap.size<g.heap.size:=by rw[<-hw1];simp;omega
 have P:Below w.heap.size w g:=by rw[<-hw1];exact fK _ _ _
 have hz1:g.heap[w.heap.size]?=some zL:=by rw[<-hw1];exact(gL _ _ _ (by simp)).trans (eZ w _)
 have z:g.heap[w.heap.size+1]?=some (.cells (List.map Value.string (List.map (λx=>(⟨x.toArray⟩:ByteArray)) ([111,117,116]::a::vs))).toArray 9):=by
  rw[<-hw1];have:=eZ (w.alloc zL) (.cells (List.map Value.string (List.map (λx=>(⟨x.toArray⟩:ByteArray)) ([111,117,116]::a::vs))).toArray 9)
  rwa [World.size_alloc]at this
 have k1:(1:Int)<(k:Int)+1+1:=by omega
 have F:g.cell? ⟨w.heap.size+1,0,none⟩=some (.string ⟨#[111,117,116]⟩):=by rw[fq z];rfl
 have hc1:g.cell? ⟨w.heap.size+1,1,none⟩=some (.string (bW a)):=by rw[fq z];rfl
 have hf1:g.frozen? ⟨w.heap.size+1,1,none⟩=false:=fV z 1
 have hml:¬(9223372036854775807<4+a.length):=by
  have:=(aaT [111,117,116] (a::vs)).2.2 a (by simp);omega
 clear hw1;simp only[World.size_alloc]at *;clear hS hw;have ec:((⟨#[111,117,116,32]⟩:ByteArray)++bW a)=bW (111::117::116::32::a):=yE (by simp)
 have R:∀j,j≠w.heap.size+1->(g.setCell ⟨w.heap.size+1,1,none⟩ (.string (bW (111::117::116::32::a)))).heap[j]?=g.heap[j]? :=λj e=>iJ _ _ _ _ e
 have C:=fZ (i:=1) z (.string (bW (111::117::116::32::a)));have A:Below w.heap.size w (g.setCell ⟨w.heap.size+1,1,none⟩ (.string (bW (111::117::116::32::a)))):=P.setCell (p:=⟨w.heap.size+1,1,none⟩) (by simp) _;have G:=(R w.heap.size (by omega)).trans hz1
 have B:(g.setCell ⟨w.heap.size+1,1,none⟩ (.string (bW (111::117::116::32::a)))).heap.size=g.heap.size:=by simp
 have Q:=qI (hK.still (A.block bm Eu)) hk;go_wp2;clear F hc1 hf1 ec P hz1 z R Q;revert C A G B;generalize(g.setCell ⟨w.heap.size+1,1,none⟩ (.string (bW (111::117::116::32::a))))=w2;intro C A G B
 have l1:w.heap.size+1<w2.heap.size:=by omega
 have l0:w.heap.size<w2.heap.size:=by omega
 clear B M f;have f:=l1;have M:=l0;clear l1 l0
 have F:w2.cell? ⟨w.heap.size+1,1,none⟩=some (.string (bW (111::117::116::32::a))):=by rw[fq C];simp
 have H1:Hid (Below w.heap.size w w2/\w2.heap[w.heap.size]?=some zL/\∀j x,vs[j]?=some x->w2.cell? ⟨w.heap.size+1,1+(j+1),none⟩=some (.string (bW x))):=by
  refine⟨A,G,λj n T=>?_⟩;rw[fq C,show 1+(j+1)=j+1+1 by omega];simp[T]
 clear A G C hk
 go_region
 .have R0:M6 w (w.heap.size+1) 1 w2.heap.size (w2.heap.size+1) (bW (111::117::116::32::a)) k vs [] (((w2.alloc (.cells r 3)).alloc (.cells #[.string (bW (111::117::116::32::a)),.slice (some ⟨w2.heap.size,0,none⟩) k k] 169)).drew):=by
   have h:Below w2.heap.size w2 (((w2.alloc (.cells r 3)).alloc (.cells #[.string (bW (111::117::116::32::a)),.slice (some ⟨w2.heap.size,0,none⟩) k k] 169)).drew):=(fK _ _ _).drew;obtain⟨Y,a2,a3⟩:=H1.out;refine⟨Y.trans (h.mono Y.size),(h.block _ M).trans a2,λj n T=>(h.cell (p:=⟨w.heap.size+1,1+(j+1),none⟩) f).trans (a3 j n T),?_,?_,by omega,by omega,by simp⟩
   .show(((w2.alloc (.cells r 3)).alloc (.cells #[.string (bW (111::117::116::32::a)),.slice (some ⟨w2.heap.size,0,none⟩) k k] 169))).heap[w2.heap.size]?=_;rw[(bV w2 _ _).1,DD.out];simp
   .show(((w2.alloc (.cells r 3)).alloc (.cells #[.string (bW (111::117::116::32::a)),.slice (some ⟨w2.heap.size,0,none⟩) k k] 169))).heap[(w2.heap.size+1)]?=_;exact(bV w2 _ _).2
  clear H1 DD hmk F;revert R0;generalize(((w2.alloc (.cells r 3)).alloc (.cells #[.string (bW (111::117::116::32::a)),.slice (some ⟨w2.heap.size,0,none⟩) k k] 169)).drew)=w9;generalize hbl:(w2.heap.size+1)=bl;generalize hgs:w2.heap.size=gs;intro R0;clear hgs hbl M f;have L:=R0.lts;have hc:=R0.cells;have RR:=hid R0;clear R0;go_wp2
  go_loopg [60] k (λgg Pp wr=>∃ns:List Int,ns.length<=k/\gg=k -ns.length/\Pp=.int .i64 ns.length/\Hid (M6 w (w.heap.size+1) 1 gs bl (bW (111::117::116::32::a)) k vs ns wr))
  case atStart=>exact⟨[],aW _,rfl,rfl,RR⟩
  case round=>
   obtain⟨ns,N,U,rfl,I⟩:=hrel;have HG:=hid U;clear U RR hc L
   by_cases hlt2:ns.length<k
   .obtain⟨x,hin⟩:∃x,vs[ns.length]?=some x:=⟨_,aO (by omega)⟩;have K:=I.out.wrd ns.length x hin;rw[show 1+(ns.length+1)=1+1+ns.length by omega]at K
    have j1:(0:Int)<=(ns.length:Int):=by omega
    have j2:(ns.length:Int)<(k:Int):=by omega
    have j3:(ns.length:Int)+1<(k:Int)+1:=by omega
    have cw:=I.out.cells
    have H:Hid (Calls prog 161 #[.string (bW x)] wr λe b=>(∃n,e=.returned (.tuple #[.int .i64 n,.nilIface])/\(b.cell? ⟨bl,1,none⟩=some (.slice (some ⟨gs,0,none⟩) k k)/\b.cell? ⟨gs,ns.length,none⟩=some (.int .i64 0)/\b.frozen? ⟨gs,ns.length,none⟩=false)/\Hid (ZJ n/\M6 w (w.heap.size+1) 1 gs bl (bW (111::117::116::32::a)) k vs ns b))∨
      ∃n t u,e=.returned (.tuple #[.int .i64 n,.iface t u])/\(b.cell? ⟨w.heap.size,0,none⟩=some (.string ⟨#[]⟩)/\b.cell? ⟨w.heap.size,1,none⟩=some (.slice none 0 0)/\b.frozen? ⟨w.heap.size,0,none⟩=false/\b.frozen? ⟨w.heap.size,1,none⟩=false)/\Hid (M6 w (w.heap.size+1) 1 gs bl (bW (111::117::116::32::a)) k vs ns b)):=by
     refine(Ya x wr I.out.low (hvl x (cZ hin))).mono ?_;rintro e b (⟨n,hn,rfl,h⟩|⟨n,t,u,rfl,h⟩)
     .have c:=I.out.below h;have d:=c.cells;exact .inl ⟨n,rfl,⟨d.2.1,d.2.2.2.2.2.2.2 hlt2,d.2.2.2.2.2.2.1⟩,hn,c⟩
     .have c:=I.out.below h;have d:=c.cells;exact .inr ⟨n,t,u,rfl,⟨d.2.2.1,d.2.2.2.1,d.2.2.2.2.1,d.2.2.2.2.2.1⟩,c⟩
    have X:Hid (∀b n,Hid (ZJ n/\M6 w (w.heap.size+1) 1 gs bl (bW (111::117::116::32::a)) k vs ns b)->M6 w (w.heap.size+1) 1 gs bl (bW (111::117::116::32::a)) k vs (ns++[n]) (b.setCell ⟨gs,ns.length,none⟩ (.int .i64 n))):=λb n hI=>hI.out.2.store hlt2 hI.out.1
    clear I hin cw;go_wp2_with fail;refine H.out.mono ?_;rintro e V (⟨n,rfl,m,E⟩|⟨n,t,u,rfl,m,E⟩)
    .clear H;go_wp2
     go_roundg (k -(ns.length+1))
     all_goals first
      |(have:=HG.out;omega)
      |exact⟨ns++[n],by simp;omega,by simp,by first|rfl|(simp;done)|(congr 1;simp)|(simp;omega),X.out _ _ E⟩
    .clear H X;have hz3:=E.out.lts.1;go_wp2
     have l:((V.setCell ⟨w.heap.size,0,none⟩ (.string ⟨#[]⟩)).setCell ⟨w.heap.size,1,none⟩ (.slice none 0 0)).cell? ⟨w.heap.size,0,none⟩=some (.string ⟨#[]⟩):=by
      rw[World.cell?_setCell_other _ _ _ _ (by simp)];exact World.cell?_setCell_same' _ _ _ (by rw[m.1];rfl)
     have q:((V.setCell ⟨w.heap.size,0,none⟩ (.string ⟨#[]⟩)).setCell ⟨w.heap.size,1,none⟩ (.slice none 0 0)).cell? ⟨w.heap.size,1,none⟩=some (.slice none 0 0):=by
      exact World.cell?_setCell_same' _ _ _ (by rw[World.cell?_setCell_other _ _ _ _ (by simp),m.2.1];rfl)
     refine ja (v:= .tuple #[.agg #[.string ⟨#[]⟩,.slice none 0 0],.bool false]) (by simp[results,Tryz.results91,go_sem,l,q]) rfl (.inl ⟨rfl,?_⟩);exact(E.out.low.setCell (p:=⟨w.heap.size,0,none⟩) (aC _) _).setCell (p:=⟨w.heap.size,1,none⟩) (aC _) _
   .have j2:¬((ns.length:Int)<(k:Int)):=by omega
    have o:ns.length=k:=by omega
    have c:=I.out;have d:=c.cells;clear I
    have HF:Hid (∀u v,(((wr.setCell ⟨w.heap.size,0,none⟩ u).setCell ⟨w.heap.size,1,none⟩ v).heap[gs]?=some (.cells (ns.map (Value.int .i64)).toArray 3))/\w.heap.size<=gs/\Below w.heap.size w ((wr.setCell ⟨w.heap.size,0,none⟩ u).setCell ⟨w.heap.size,1,none⟩ v)):=by
     intro u v;refine⟨?_,c.ge,(c.low.setCell (p:=⟨w.heap.size,0,none⟩) (aC _) _).setCell (p:=⟨w.heap.size,1,none⟩) (aC _) _⟩;rw[iJ _ _ _ _ (Ne.symm c.nes.1),iJ _ _ _ _ (Ne.symm c.nes.1),c.nums,o,Nat.sub_self];simp
    have HN:Hid (ns.length=k/\∀n∈ns,ZJ n):=⟨o,c.all⟩;have l2:=c.lts;clear c o;go_wp2
    have l:((wr.setCell ⟨w.heap.size,0,none⟩ (.string (bW (111::117::116::32::a)))).setCell ⟨w.heap.size,1,none⟩ (.slice (some ⟨gs,0,none⟩) k k)).cell? ⟨w.heap.size,0,none⟩=some (.string (bW (111::117::116::32::a))):=by
     rw[World.cell?_setCell_other _ _ _ _ (by simp)];exact World.cell?_setCell_same' _ _ _ (by rw[d.2.2.1];rfl)
    have q:((wr.setCell ⟨w.heap.size,0,none⟩ (.string (bW (111::117::116::32::a)))).setCell ⟨w.heap.size,1,none⟩ (.slice (some ⟨gs,0,none⟩) k k)).cell? ⟨w.heap.size,1,none⟩=some (.slice (some ⟨gs,0,none⟩) k k):=by
     exact World.cell?_setCell_same' _ _ _ (by rw[World.cell?_setCell_other _ _ _ _ (by simp),d.2.2.2.1];rfl)
    refine ja (v:= .tuple #[.agg #[.string (bW (111::117::116::32::a)),.slice (some ⟨gs,0,none⟩) k k],.bool true]) (by simp[results,Tryz.results91,go_sem,l,q]) rfl (.inr ⟨ns,gs,HN.out.1,HN.out.2,rfl,HF.out _ _⟩)
 .have R0:M6 w (w.heap.size+1) 1 (w2.heap.size+1) w2.heap.size (bW (111::117::116::32::a)) k vs [] (((w2.alloc (.cells #[.string (bW (111::117::116::32::a)),.slice (some ⟨w2.heap.size+1,0,none⟩) k k] 169)).alloc (.cells r 3)).drew):=by
   have h:Below w2.heap.size w2 (((w2.alloc (.cells #[.string (bW (111::117::116::32::a)),.slice (some ⟨w2.heap.size+1,0,none⟩) k k] 169)).alloc (.cells r 3)).drew):=(fK _ _ _).drew;obtain⟨Y,a2,a3⟩:=H1.out;refine⟨Y.trans (h.mono Y.size),(h.block _ M).trans a2,λj n T=>(h.cell (p:=⟨w.heap.size+1,1+(j+1),none⟩) f).trans (a3 j n T),?_,?_,by omega,by omega,by simp⟩
   .show(((w2.alloc (.cells #[.string (bW (111::117::116::32::a)),.slice (some ⟨w2.heap.size+1,0,none⟩) k k] 169)).alloc (.cells r 3))).heap[(w2.heap.size+1)]?=_;rw[(bV w2 _ _).2,DD.out];simp
   .show(((w2.alloc (.cells #[.string (bW (111::117::116::32::a)),.slice (some ⟨w2.heap.size+1,0,none⟩) k k] 169)).alloc (.cells r 3))).heap[w2.heap.size]?=_;exact(bV w2 _ _).1
  clear H1 DD hmk F;revert R0;generalize(((w2.alloc (.cells #[.string (bW (111::117::116::32::a)),.slice (some ⟨w2.heap.size+1,0,none⟩) k k] 169)).alloc (.cells r 3)).drew)=w9;generalize hgs:(w2.heap.size+1)=gs;generalize hbl:w2.heap.size=bl;intro R0;clear hgs hbl M f;have L:=R0.lts;have hc:=R0.cells;have RR:=hid R0;clear R0;go_wp2
  go_loopg [60] k (λgg Pp wr=>∃ns:List Int,ns.length<=k/\gg=k -ns.length/\Pp=.int .i64 ns.length/\Hid (M6 w (w.heap.size+1) 1 gs bl (bW (111::117::116::32::a)) k vs ns wr))
  case atStart=>exact⟨[],aW _,rfl,rfl,RR⟩
  case round=>
   obtain⟨ns,N,U,rfl,I⟩:=hrel;have HG:=hid U;clear U RR hc L
   by_cases hlt2:ns.length<k
   .obtain⟨x,hin⟩:∃x,vs[ns.length]?=some x:=⟨_,aO (by omega)⟩;have K:=I.out.wrd ns.length x hin;rw[show 1+(ns.length+1)=1+1+ns.length by omega]at K
    have j1:(0:Int)<=(ns.length:Int):=by omega
    have j2:(ns.length:Int)<(k:Int):=by omega
    have j3:(ns.length:Int)+1<(k:Int)+1:=by omega
    have cw:=I.out.cells
    have H:Hid (Calls prog 161 #[.string (bW x)] wr λe b=>(∃n,e=.returned (.tuple #[.int .i64 n,.nilIface])/\(b.cell? ⟨bl,1,none⟩=some (.slice (some ⟨gs,0,none⟩) k k)/\b.cell? ⟨gs,ns.length,none⟩=some (.int .i64 0)/\b.frozen? ⟨gs,ns.length,none⟩=false)/\Hid (ZJ n/\M6 w (w.heap.size+1) 1 gs bl (bW (111::117::116::32::a)) k vs ns b))∨
      ∃n t u,e=.returned (.tuple #[.int .i64 n,.iface t u])/\(b.cell? ⟨w.heap.size,0,none⟩=some (.string ⟨#[]⟩)/\b.cell? ⟨w.heap.size,1,none⟩=some (.slice none 0 0)/\b.frozen? ⟨w.heap.size,0,none⟩=false/\b.frozen? ⟨w.heap.size,1,none⟩=false)/\Hid (M6 w (w.heap.size+1) 1 gs bl (bW (111::117::116::32::a)) k vs ns b)):=by
     refine(Ya x wr I.out.low (hvl x (cZ hin))).mono ?_;rintro e b (⟨n,hn,rfl,h⟩|⟨n,t,u,rfl,h⟩)
     .have c:=I.out.below h;have d:=c.cells;exact .inl ⟨n,rfl,⟨d.2.1,d.2.2.2.2.2.2.2 hlt2,d.2.2.2.2.2.2.1⟩,hn,c⟩
     .have c:=I.out.below h;have d:=c.cells;exact .inr ⟨n,t,u,rfl,⟨d.2.2.1,d.2.2.2.1,d.2.2.2.2.1,d.2.2.2.2.2.1⟩,c⟩
    have X:Hid (∀b n,Hid (ZJ n/\M6 w (w.heap.size+1) 1 gs bl (bW (111::117::116::32::a)) k vs ns b)->M6 w (w.heap.size+1) 1 gs bl (bW (111::117::116::32::a)) k vs (ns++[n]) (b.setCell ⟨gs,ns.length,none⟩ (.int .i64 n))):=λb n hI=>hI.out.2.store hlt2 hI.out.1
    clear I hin cw;go_wp2_with fail;refine H.out.mono ?_;rintro e V (⟨n,rfl,m,E⟩|⟨n,t,u,rfl,m,E⟩)
    .clear H;go_wp2
     go_roundg (k -(ns.length+1))
     all_goals first
      |(have:=HG.out;omega)
      |exact⟨ns++[n],by simp;omega,by simp,by first|rfl|(simp;done)|(congr 1;simp)|(simp;omega),X.out _ _ E⟩
    .clear H X;have hz3:=E.out.lts.1;go_wp2
     have l:((V.setCell ⟨w.heap.size,0,none⟩ (.string ⟨#[]⟩)).setCell ⟨w.heap.size,1,none⟩ (.slice none 0 0)).cell? ⟨w.heap.size,0,none⟩=some (.string ⟨#[]⟩):=by
      rw[World.cell?_setCell_other _ _ _ _ (by simp)];exact World.cell?_setCell_same' _ _ _ (by rw[m.1];rfl)
     have q:((V.setCell ⟨w.heap.size,0,none⟩ (.string ⟨#[]⟩)).setCell ⟨w.heap.size,1,none⟩ (.slice none 0 0)).cell? ⟨w.heap.size,1,none⟩=some (.slice none 0 0):=by
      exact World.cell?_setCell_same' _ _ _ (by rw[World.cell?_setCell_other _ _ _ _ (by simp),m.2.1];rfl)
     refine ja (v:= .tuple #[.agg #[.string ⟨#[]⟩,.slice none 0 0],.bool false]) (by simp[results,Tryz.results91,go_sem,l,q]) rfl (.inl ⟨rfl,?_⟩);exact(E.out.low.setCell (p:=⟨w.heap.size,0,none⟩) (aC _) _).setCell (p:=⟨w.heap.size,1,none⟩) (aC _) _
   .have j2:¬((ns.length:Int)<(k:Int)):=by omega
    have o:ns.length=k:=by omega
    have c:=I.out;have d:=c.cells;clear I
    have HF:Hid (∀u v,(((wr.setCell ⟨w.heap.size,0,none⟩ u).setCell ⟨w.heap.size,1,none⟩ v).heap[gs]?=some (.cells (ns.map (Value.int .i64)).toArray 3))/\w.heap.size<=gs/\Below w.heap.size w ((wr.setCell ⟨w.heap.size,0,none⟩ u).setCell ⟨w.heap.size,1,none⟩ v)):=by
     intro u v;refine⟨?_,c.ge,(c.low.setCell (p:=⟨w.heap.size,0,none⟩) (aC _) _).setCell (p:=⟨w.heap.size,1,none⟩) (aC _) _⟩;rw[iJ _ _ _ _ (Ne.symm c.nes.1),iJ _ _ _ _ (Ne.symm c.nes.1),c.nums,o,Nat.sub_self];simp
    have HN:Hid (ns.length=k/\∀n∈ns,ZJ n):=⟨o,c.all⟩;have l2:=c.lts;clear c o;go_wp2
    have l:((wr.setCell ⟨w.heap.size,0,none⟩ (.string (bW (111::117::116::32::a)))).setCell ⟨w.heap.size,1,none⟩ (.slice (some ⟨gs,0,none⟩) k k)).cell? ⟨w.heap.size,0,none⟩=some (.string (bW (111::117::116::32::a))):=by
     rw[World.cell?_setCell_other _ _ _ _ (by simp)];exact World.cell?_setCell_same' _ _ _ (by rw[d.2.2.1];rfl)
    have q:((wr.setCell ⟨w.heap.size,0,none⟩ (.string (bW (111::117::116::32::a)))).setCell ⟨w.heap.size,1,none⟩ (.slice (some ⟨gs,0,none⟩) k k)).cell? ⟨w.heap.size,1,none⟩=some (.slice (some ⟨gs,0,none⟩) k k):=by
     exact World.cell?_setCell_same' _ _ _ (by rw[World.cell?_setCell_other _ _ _ _ (by simp),d.2.2.2.1];rfl)
    refine ja (v:= .tuple #[.agg #[.string (bW (111::117::116::32::a)),.slice (some ⟨gs,0,none⟩) k k],.bool true]) (by simp[results,Tryz.results91,go_sem,l,q]) rfl (.inr ⟨ns,gs,HN.out.1,HN.out.2,rfl,HF.out _ _⟩)
end
section
open Go.Joins Go.Sort
theorem acL(a:List UInt8)(vs:List (List UInt8))(n:Nat)(many:Int)(there:Bool)(h:there=false∨(vs.length:Int)≠many)
  (t:∀W,nH W n->(Instr.lookup 152 (.map (some n)) (.string (bW (111::117::116::32::a))) true).run Tryz.prog W=.ok (.tuple #[.int .i64 many,.bool there]) W)
  (M:(32:UInt8)∉a) (I:∀x∈vs,(32:UInt8)∉x) (B:(dW [111,117,116] (a::vs)).length<=1000000) (w:World) (N:nH w n) (L:n<w.heap.size)
  (K:∀(s sep:ByteArray) (W:World),Below w.heap.size w W->s.size<4294967281->1<=sep.size->Calls Tryz.prog 80 #[.string s,.string sep] W λe F=>e=.returned (.slice (some ⟨W.heap.size,0,none⟩) (Lib.countB s sep+1) (Lib.countB s sep+1))/\F=W.alloc (.cells ((Lib.splitB sep 0 (Lib.countB s sep) s).map Value.string).toArray 9)):
  Calls Tryz.prog 91 #[.string (bW (dW [111,117,116] (a::vs))),.map (some n)] w λe F=>ZK w F e:=by
 have G:(a::vs).length<=1000000:=aH (aaT [111,117,116] (a::vs)).2.1 B;simp only[List.length_cons]at G
 have hv2:(vs.length:Int)+1<=1000000:=by omega
 have q:(32:UInt8)∉[111,117,116]:=by decide
 have C:∀x∈a::vs,(32:UInt8)∉x:=λx E=>by
  rcases dM.1 E with rfl|E
  .exact M
  .exact I x E
 have A:=K (bW (dW [111,117,116] (a::vs))) ⟨#[32]⟩ (w.alloc zL) (fC _ _) (by show(dW [111,117,116] (a::vs)).toArray.size<_;simp only[List.size_toArray];omega) (by decide);rw[mR [111,117,116] (a::vs) q C,vM (a::vs) [111,117,116] q C]at A;rw[List.length_cons]at A;go_enter Tryz.func91,Tryz.ntmps91;go_wp2_with fail;refine A.mono ?_;rintro e b ⟨rfl,rfl⟩;obtain⟨b,hw1⟩:∃b,(w.alloc zL).alloc (.cells (List.map Value.string (List.map (λx=>(⟨x.toArray⟩:ByteArray)) ([111,117,116]::a::vs))).toArray 9)=b:=⟨_,rfl⟩;rw[hw1]
 have hlt1:w.heap.size+1<b.heap.size:=by rw[<-hw1];simp
 have pY:w.heap.size<b.heap.size:=by rw[<-hw1];simp;omega
 have o:Below w.heap.size w b:=by rw[<-hw1];exact fK _ _ _
 have u:b.heap[w.heap.size]?=some zL:=by rw[<-hw1];exact(gL _ _ _ (by simp)).trans (eZ w _)
 have f:b.heap[w.heap.size+1]?=some (.cells (List.map Value.string (List.map (λx=>(⟨x.toArray⟩:ByteArray)) ([111,117,116]::a::vs))).toArray 9):=by
  rw[<-hw1];have:=eZ (w.alloc zL) (.cells (List.map Value.string (List.map (λx=>(⟨x.toArray⟩:ByteArray)) ([111,117,116]::a::vs))).toArray 9)
  rwa [World.size_alloc]at this
 have k1:(1:Int)<(vs.length:Int)+1+1:=by omega
 have hc0:b.cell? ⟨w.heap.size+1,0,none⟩=some (.string ⟨#[111,117,116]⟩):=by rw[fq f];rfl
 have hc1:b.cell? ⟨w.heap.size+1,1,none⟩=some (.string (bW a)):=by rw[fq f];rfl
 have hf1:b.frozen? ⟨w.heap.size+1,1,none⟩=false:=fV f 1
 have hml:¬(9223372036854775807<4+a.length):=by
  have:=(aaT [111,117,116] (a::vs)).2.2 a (by simp);omega
 clear hw1;simp only[World.size_alloc]at *;clear A C;have ec:((⟨#[111,117,116,32]⟩:ByteArray)++bW a)=bW (111::117::116::32::a):=yE (by simp)
 have r:∀j,j≠w.heap.size+1->(b.setCell ⟨w.heap.size+1,1,none⟩ (.string (bW (111::117::116::32::a)))).heap[j]?=b.heap[j]? :=λj e=>iJ _ _ _ _ e
 have y:=fZ (i:=1) f (.string (bW (111::117::116::32::a)));have m:Below w.heap.size w (b.setCell ⟨w.heap.size+1,1,none⟩ (.string (bW (111::117::116::32::a)))):=o.setCell (p:=⟨w.heap.size+1,1,none⟩) (by simp) _;have c:=(r w.heap.size (by omega)).trans u
 have z:(b.setCell ⟨w.heap.size+1,1,none⟩ (.string (bW (111::117::116::32::a)))).heap.size=b.heap.size:=by simp
 have hlk2:=t _ (N.still (m.block n L));have H:=hid m
 have k:(b.setCell ⟨w.heap.size+1,1,none⟩ (.string (bW (111::117::116::32::a)))).cell? ⟨w.heap.size,0,none⟩=some (.string ⟨#[]⟩):=by rw[fq c];rfl
 have l:(b.setCell ⟨w.heap.size+1,1,none⟩ (.string (bW (111::117::116::32::a)))).cell? ⟨w.heap.size,1,none⟩=some (.slice none 0 0):=by rw[fq c];rfl
 have hq0:(b.setCell ⟨w.heap.size+1,1,none⟩ (.string (bW (111::117::116::32::a)))).frozen? ⟨w.heap.size,0,none⟩=false:=fV c 0;have hq1:(b.setCell ⟨w.heap.size+1,1,none⟩ (.string (bW (111::117::116::32::a)))).frozen? ⟨w.heap.size,1,none⟩=false:=fV c 1
 have hcw:(b.setCell ⟨w.heap.size+1,1,none⟩ (.string (bW (111::117::116::32::a)))).cell? ⟨w.heap.size+1,1,none⟩=some (.string (bW (111::117::116::32::a))):=by rw[fq y];simp
 clear o u f r y c m z t
 rcases h with rfl|h
 .go_wp2
  have d:(((b.setCell ⟨w.heap.size+1,1,none⟩ (.string (bW (111::117::116::32::a)))).setCell ⟨w.heap.size,0,none⟩ (.string ⟨#[]⟩)).setCell ⟨w.heap.size,1,none⟩ (.slice none 0 0)).cell? ⟨w.heap.size,0,none⟩=some (.string ⟨#[]⟩):=by
   rw[World.cell?_setCell_other _ _ _ _ (by simp)];exact World.cell?_setCell_same' _ _ _ (by rw[k];rfl)
  have g:(((b.setCell ⟨w.heap.size+1,1,none⟩ (.string (bW (111::117::116::32::a)))).setCell ⟨w.heap.size,0,none⟩ (.string ⟨#[]⟩)).setCell ⟨w.heap.size,1,none⟩ (.slice none 0 0)).cell? ⟨w.heap.size,1,none⟩=some (.slice none 0 0):=by
   exact World.cell?_setCell_same' _ _ _ (by rw[World.cell?_setCell_other _ _ _ _ (by simp),l];rfl)
  refine ja (v:= .tuple #[.agg #[.string ⟨#[]⟩,.slice none 0 0],.bool false]) (by simp[results,Tryz.results91,go_sem,d,g]) rfl ⟨rfl,?_⟩;exact(H.out.setCell (p:=⟨w.heap.size,0,none⟩) (aC _) _).setCell (p:=⟨w.heap.size,1,none⟩) (aC _) _
 .have afg:((vs.length:Int) !=many)=true:=by simpa using h
  clear h;cases there
  .go_wp2
   have d:(((b.setCell ⟨w.heap.size+1,1,none⟩ (.string (bW (111::117::116::32::a)))).setCell ⟨w.heap.size,0,none⟩ (.string ⟨#[]⟩)).setCell ⟨w.heap.size,1,none⟩ (.slice none 0 0)).cell? ⟨w.heap.size,0,none⟩=some (.string ⟨#[]⟩):=by
    rw[World.cell?_setCell_other _ _ _ _ (by simp)];exact World.cell?_setCell_same' _ _ _ (by rw[k];rfl)
   have g:(((b.setCell ⟨w.heap.size+1,1,none⟩ (.string (bW (111::117::116::32::a)))).setCell ⟨w.heap.size,0,none⟩ (.string ⟨#[]⟩)).setCell ⟨w.heap.size,1,none⟩ (.slice none 0 0)).cell? ⟨w.heap.size,1,none⟩=some (.slice none 0 0):=by
    exact World.cell?_setCell_same' _ _ _ (by rw[World.cell?_setCell_other _ _ _ _ (by simp),l];rfl)
   refine ja (v:= .tuple #[.agg #[.string ⟨#[]⟩,.slice none 0 0],.bool false]) (by simp[results,Tryz.results91,go_sem,d,g]) rfl ⟨rfl,?_⟩;exact(H.out.setCell (p:=⟨w.heap.size,0,none⟩) (aC _) _).setCell (p:=⟨w.heap.size,1,none⟩) (aC _) _
  .go_wp2
   have d:(((b.setCell ⟨w.heap.size+1,1,none⟩ (.string (bW (111::117::116::32::a)))).setCell ⟨w.heap.size,0,none⟩ (.string ⟨#[]⟩)).setCell ⟨w.heap.size,1,none⟩ (.slice none 0 0)).cell? ⟨w.heap.size,0,none⟩=some (.string ⟨#[]⟩):=by
    rw[World.cell?_setCell_other _ _ _ _ (by simp)];exact World.cell?_setCell_same' _ _ _ (by rw[k];rfl)
   have g:(((b.setCell ⟨w.heap.size+1,1,none⟩ (.string (bW (111::117::116::32::a)))).setCell ⟨w.heap.size,0,none⟩ (.string ⟨#[]⟩)).setCell ⟨w.heap.size,1,none⟩ (.slice none 0 0)).cell? ⟨w.heap.size,1,none⟩=some (.slice none 0 0):=by
    exact World.cell?_setCell_same' _ _ _ (by rw[World.cell?_setCell_other _ _ _ _ (by simp),l];rfl)
   refine ja (v:= .tuple #[.agg #[.string ⟨#[]⟩,.slice none 0 0],.bool false]) (by simp[results,Tryz.results91,go_sem,d,g]) rfl ⟨rfl,?_⟩;exact(H.out.setCell (p:=⟨w.heap.size,0,none⟩) (aC _) _).setCell (p:=⟨w.heap.size,1,none⟩) (aC _) _
end
section
open Go.Sort
variable{k:Nat}
theorem aba(l:List UInt8)(c:l.length<=2000000):(∃k,jN (bW l) k)∨∀W a,nH W a->(Instr.lookup 152 (.map (some a)) (.string (bW l)) true).run Tryz.prog W=.ok (.tuple #[.int .i64 0,.bool false]) W:=by
 by_cases h:∃k,jN (bW l) k
 .exact .inl h
 .refine .inr (λW a b=>?_)
  rcases adv b (bW l) (by show l.toArray.size<=_;simpa using c)with⟨k,hk,_⟩|h2
  .exact absurd ⟨k,hk⟩ h
  .exact h2
theorem ab7{hd:ByteArray}(h:jN hd k)(hk:k=0):hd=⟨#[101,110,100]⟩:=by
 cases h <;>first|rfl|omega
theorem aeI(h:jN (bW [111,117,116]) k):False:=by
 generalize e:bW [111,117,116]=b at h
 cases h <;>exact absurd (congrArg (λb:ByteArray=>b.data.toList) e) (by decide)
theorem aeJ(v:List UInt8):bW (111::v)≠⟨#[101,110,100]⟩:=by
 intro e;have:=congrArg (λb:ByteArray=>b.data.toList) e;simp at this
theorem adw(x:List UInt8)(i:x.length<=1000000)(c:Nat)(w:World)(m:nH w c)(j:c<w.heap.size)
  (l:∀(s sep:ByteArray) (W:World),Below w.heap.size w W->s.size<4294967281->1<=sep.size->Calls Tryz.prog 80 #[.string s,.string sep] W λe a=>e=.returned (.slice (some ⟨W.heap.size,0,none⟩) (Lib.countB s sep+1) (Lib.countB s sep+1))/\a=W.alloc (.cells ((Lib.splitB sep 0 (Lib.countB s sep) s).map Value.string).toArray 9))
  (r:∀(y:List UInt8) (W:World),Below w.heap.size w W->y.length<=1000000->Calls Tryz.prog 161 #[.string (bW y)] W λe a=>(∃n,ZJ n/\e=.returned (.tuple #[.int .i64 n,.nilIface])/\Below W.heap.size W a)∨∃n t u,e=.returned (.tuple #[.int .i64 n,.iface t u])/\Below W.heap.size W a):
  Calls Tryz.prog 91 #[.string (bW x),.map (some c)] w λe a=>ZK w a e∨∃hd k,jN hd k/\X0 w a e hd k:=by
 obtain⟨h,t,f,o,rfl⟩:=adV x;have E:=aaT h t
 by_cases ho:h=[111,117,116]
 .subst ho
  cases t with
  |nil=>
   rcases aba [111,117,116] (by simp)with⟨k,hk⟩|hn
   .exact(aeI hk).elim
   .exact(aci [111,117,116] [] 0 false (.inl rfl) (.inr rfl) (λW d=>hn W c d) f o i w m j l).mono (λe a h=>.inl h)
  |cons v1 t=>
   have p:=o v1 (by simp)
   have q:∀x∈t,(32:UInt8)∉x:=λx i=>o x (by simp[i])
   have hv:=E.2.2 v1 (by simp)
   rcases aba (111::117::116::32::v1) (by simp;omega)with⟨k,hk⟩|hn
   .by_cases hk0:k=0
    .exact absurd (ab7 hk hk0) (aeJ _)
    .by_cases hlk:t.length=k
     .refine(aeq v1 t k hk (by omega) hlk p q i c w m j l r).mono ?_;rintro e a (h|h)
      .exact .inl h
      .exact .inr ⟨_,k,hk,h⟩
     .exact(acL v1 t c k true (.inr (by omega)) (λW d=>qI d hk) p q i w m j l).mono (λe a h=>.inl h)
   .exact(acL v1 t c 0 false (.inl rfl) (λW d=>hn W c d) p q i w m j l).mono (λe a h=>.inl h)
 .rcases aba h (by omega)with⟨k,hk⟩|hn
  .by_cases hlk:t.length=k
   .by_cases hk0:k=0
    .have v:=ab7 hk hk0
     have A:h=[101,110,100]:=by simpa using congrArg (λb:ByteArray=>b.data.toList) v
     have B:t=[]:=di (by omega);subst A B hk0
     have C:dW [101,110,100] []=[101,110,100]:=by simp[dW]
     rw[C];refine(Po c w m j l).mono ?_;rintro e a ⟨g,rfl,p,z,F⟩;exact .inr ⟨_,0,hk,[],g,rfl,by simp,rfl,by simpa using p,z,F⟩
    .refine(aep h t k hk (by omega) ho hlk f o i c w m j l r).mono ?_;rintro e a (h|h)
     .exact .inl h
     .exact .inr ⟨_,k,hk,h⟩
   .exact(aci h t k true (.inr (by omega)) (.inl ho) (λW d=>qI d hk) f o i w m j l).mono (λe a h=>.inl h)
  .exact(aci h t 0 false (.inl rfl) (.inl ho) (λW d=>hn W c d) f o i w m j l).mono (λe a h=>.inl h)
end
section
open Go.Proofs.Tryz Go.Sort Go.Shelf
variable{st:Sx}{i l:Nat}{S:Nat->Prop}{W:World}{t:Int}{ns:List Int}
theorem LD(l bj k:Nat)(p o:Value)(f0 f1:Int)(y:Option Nat)(v:Nat->Prop)(x:J)(L u:List O)(s t:Int)(w:World)(h:az w l bj k p o f0 f1 y v x L u)(n:vk x.m0 x.m1 s t≠0) :
    Calls prog 15 #[.pointer (some ⟨l,0,none⟩),.int .i64 s,.int .i64 t] w λe a => e = .returned (.iface 24 (.int .i64 (vk x.m0 x.m1 s t)))/\Below w.heap.size w a:=by
  have m:Hid (∀ W,Below w.heap.size w W->Calls prog 51 #[.pointer (some ⟨bj,0,none⟩),.int .i64 s,.int .i64 t] W λe a => e = .returned (.iface 24 (.int .i64 (vk x.m0 x.m1 s t)))/\a.cell? ⟨l,3,none⟩=some (.pointer (some ⟨bj,0,none⟩))/\Hid (Below w.heap.size w a)):=by
    intro W c
    refine(Ll 0 bj k p o x s t W (h.below c).join n).mono ?_
    rintro e a ⟨rfl,r⟩
    have b:=c.trans (r.mono c.size)
    exact⟨rfl,(h.below b).cells.2.2.2.1,b⟩
  have hc:=h.cells.2.2.2.1
  have hlt:=h.blt
  have j:Hid (Below w.heap.size w w/\Below w.heap.size w w.drew):=⟨iL _ _,(iL _ _).drew⟩
  generalize vk x.m0 x.m1 s t=ke at *
  clear h n
  go_enter func15,ntmps15
  first
    | (go_wp2_with (first
        | (go_at_call 51; refine(m.out _ j.out.1).mono ?_; rintro e q ⟨rfl,f,d⟩)
        | fail)
       go_ret
       exact⟨rfl,d.out⟩)
    | (go_wp2
       go_region_held3 (λW => W.cell? ⟨l,3,none⟩=some (.pointer (some ⟨bj,0,none⟩))) (first | (go_keep; done) | fail) (first
        | (go_at_call 51; refine(m.out _ j.out.2).mono ?_; rintro e q ⟨rfl,f,d⟩)
        | fail)
       go_wp2
       go_ret
       exact⟨rfl,d.out⟩)
structure YU(st:Sx)(i:Nat):Prop where
  sv:DI st.x st.f0 st.f1
  tell:∀ o∈st.L,iK o
  len:st.L.length<=i
theorem YU.more{j:Nat}(h:YU st i)(a:i<=j):YU st j:=⟨h.sv,h.tell,aH h.len a⟩
theorem aeL(n:YU st i)(t:Int)(o:PE st l S W)(r:vk st.x.m0 st.x.m1 0 t=0) :
    Calls prog 15 #[.pointer (some ⟨l,0,none⟩),.int .i64 0,.int .i64 t] W λe b => e = .returned .nilIface/\PE ⟨{ st.x with m0:=t,R1:=keepR (λy => decide (y.t<=t+st.x.lo)) st.x.R1 },st.f0,st.f1,st.L⟩ l S b/\Turned S W b:=by
  obtain⟨bj,bm,v0,v1,om,Sg,h,hS⟩:=o
  obtain⟨⟨p1,p2⟩,⟨p3,p4⟩,_⟩:=n.sv.pl
  refine(pG l bj bm v0 v1 st.f0 st.f1 om Sg st.x { st.x with m0:=t,R1:=keepR (λy => decide (y.t<=t+st.x.lo)) st.x.R1 } st.L st.L 0 t W h ⟨rfl,rfl,rfl⟩ (λW q => ?_)).mono ?_
  · refine(AX 0 bj bm v0 v1 st.x t W q r (by have:= n.sv.l1; omega) p1 p2 p3 p4).mono ?_
    rintro e b ⟨rfl,p,j,c,f⟩
    exact⟨rfl,v0,p,j,c.mono (λk e => e.elim .inl (λe => e.elim (λe => .inr (.inl e)) (λe => .inr (.inr (.inr e))))),rfl,f⟩
  · rintro e b ⟨rfl,m,a,j,c,f,s⟩
    have d:∀ k,S k ↔ aT bj bm m a om Sg k:=λk => by rw[hS k]; unfold aT eP; rw[f,s]
    exact⟨rfl,⟨bj,bm,m,a,om,Sg,j,d⟩,c.mono (λk e => (hS k).2 e)⟩
theorem aeM(n:YU st i)(t:Int)(o:PE st l S W)(r:vk st.x.m0 st.x.m1 1 t=0) :
    Calls prog 15 #[.pointer (some ⟨l,0,none⟩),.int .i64 1,.int .i64 t] W λe b => e = .returned .nilIface/\PE ⟨{ st.x with m1:=t,R0:=keepR (λy => decide (y.t<=t-st.x.hi)) st.x.R0 },st.f0,st.f1,st.L⟩ l S b/\Turned S W b:=by
  obtain⟨bj,bm,v0,v1,om,Sg,h,hS⟩:=o
  obtain⟨⟨p1,p2⟩,⟨p3,p4⟩,_⟩:=n.sv.pl
  refine(pG l bj bm v0 v1 st.f0 st.f1 om Sg st.x { st.x with m1:=t,R0:=keepR (λy => decide (y.t<=t-st.x.hi)) st.x.R0 } st.L st.L 1 t W h ⟨rfl,rfl,rfl⟩ (λW q => ?_)).mono ?_
  · refine(AZ 0 bj bm v0 v1 st.x t W q r (by have:= n.sv.l0; omega) p3 p4).mono ?_
    rintro e b ⟨rfl,p,j,c,f⟩
    exact⟨rfl,p,v1,j,c.mono (λk e => e.elim .inl (λe => e.elim (λe => .inr (.inl e)) (λe => .inr (.inr (.inl e))))),f,rfl⟩
  · rintro e b ⟨rfl,m,a,j,c,f,s⟩
    have d:∀ k,S k ↔ aT bj bm m a om Sg k:=λk => by rw[hS k]; unfold aT eP; rw[f,s]
    exact⟨rfl,⟨bj,bm,m,a,om,Sg,j,d⟩,c.mono (λk e => (hS k).2 e)⟩
theorem adb{a m1 s:Int}(h:vk a m1 s t=0) : -1099511627776<=t/\t<=1099511627776:=by
  unfold vk at h
  split at h
  · cases h
  · split at h
    · cases h
    · omega
theorem YU.mv0(h:YU st i)(e:vk st.x.m0 st.x.m1 0 t=0):YU ⟨{ st.x with m0:=t,R1:=keepR (λy => decide (y.t<=t+st.x.lo)) st.x.R1 },st.f0,st.f1,st.L⟩ i:=by
  have a:=adb e
  obtain⟨⟨a1,a2,a3,a4,a5,a6,a7,a8,a9,a10,a11,a12⟩,b,c⟩:=h
  exact⟨⟨a1,⟨by show -1099511627777<=t; omega,a.2⟩,a3,a4,a5,a6,a7,vZ a8,a9,aH (dG _ _) a10,a11,λy d => a12 y (List.mem_filter.1 d).1⟩,b,c⟩
theorem YU.mv1(h:YU st i)(e:vk st.x.m0 st.x.m1 1 t=0):YU ⟨{ st.x with m1:=t,R0:=keepR (λy => decide (y.t<=t-st.x.hi)) st.x.R0 },st.f0,st.f1,st.L⟩ i:=by
  have a:=adb e
  obtain⟨⟨a1,a2,a3,a4,a5,a6,a7,a8,a9,a10,a11,a12⟩,b,c⟩:=h
  exact⟨⟨a1,a2,⟨by show -1099511627777<=t; omega,a.2⟩,a4,a5,a6,vZ a7,a8,aH (dG _ _) a9,a10,λy d => a11 y (List.mem_filter.1 d).1,a12⟩,b,c⟩
abbrev YV(i l:Nat)(S:Nat->Prop)(W w':World)(e:Ending):Prop:=(e = .returned (.bool false)/\Turned S W w')∨(e = .returned (.bool true)/\∃ S',(∃ st',PE st' l S' w'/\YU st' (i+1))/\(∀ k,S' k->(S k∨W.heap.size<=k)/\k<w'.heap.size)/\Turned S W w')
theorem acQ{a:Sx}{b:World}(c:YU a (i+1))(h:Rn a l S W b):YV i l S W b (.returned (.bool true)):=by
  obtain⟨S',h1,h2,h3⟩:=h
  exact .inr ⟨rfl,S',⟨a,h1,c⟩,h2,h3⟩
theorem aes(h:ns.length=3):∃ a b c,ns=[a,b,c]:=by
  match ns,h with
  | [a,b,c],_ => exact⟨a,b,c,rfl⟩
theorem afO(h:ns.length=2):∃ a b,ns=[a,b]:=by
  match ns,h with
  | [a,b],_ => exact⟨a,b,rfl⟩
theorem afP(h:ns.length=5):∃ a b c d e,ns=[a,b,c,d,e]:=by
  match ns,h with
  | [a,b,c,d,e],_ => exact⟨a,b,c,d,e,rfl⟩
theorem afQ(h:ns.length=6):∃ a b c d e f,ns=[a,b,c,d,e,f]:=by
  match ns,h with
  | [a,b,c,d,e,f],_ => exact⟨a,b,c,d,e,f,rfl⟩
section
variable{st:Sx}{i l g:Nat}{S:Nat->Prop}{W:World}
theorem ac6{a b:Int}(M:PE st l S W)(R:YU st i)(K:W.heap[g]?= some (.cells ([a,b].map (Value.int .i64)).toArray 3))(Q:¬ S g) :
    Calls prog 92 #[.pointer (some ⟨l,0,none⟩),.agg #[.string ⟨#[109,97,114,107,115]⟩,.slice (some ⟨g,0,none⟩) 2 2]] W λe m => YV i l S W m e:=by
  have I:=(ax.1 K).1
  refine(abF l g 0 2 (λb m => YV i l S W m (.returned (.bool b))) W (λr n => ?_)).mono (by rintro e m ⟨b,rfl,h⟩; exact h)
  have A:=(n.block g I).trans K
  have F:PE st l S r:=cz _ _ S W r M n.size (λk w => n.block k (by obtain⟨bj,bm,v0,v1,om,Sg,h,hS⟩:=M; exact h.lt ((hS k).1 w)))
  let St:Nat->World->Prop:=λj V => ∃ c,PE c l S V/\YU c i/\Turned S r V/\(j=0->c.x.m0=st.x.m0)/\(j<=1->c.x.m1=st.x.m1)
  have p:∀ V,Turned S r V->V.heap[g]?= some (.cells ([a,b].map (Value.int .i64)).toArray 3):=λV d => (d.block g (ax.1 A).1 Q).trans A
  refine(adD l g 0 2 (λj => if j=0 then a else b) (λj => if j=0 then st.x.m0 else st.x.m1) St (λV => Turned S r V) r ?_ ?_ ?_ ?_ ?_ ?_ ?_).mono ?_
  · exact⟨st,F,R,Turned.of_below (iL _ _),λ_ => rfl,λ_ => rfl⟩
  · rintro j V ⟨c,_,_,d,_⟩
    exact(ax.1 (p V d)).1
  · rintro j V P ⟨c,f,q,o,B,y⟩ v
    refine⟨c,cz _ _ S V P f v.size (λk w => v.block k ?_),q,o.trans (Turned.of_below (S:=λ_ => False) v) (λ_ _ e => e.elim),B,y⟩
    obtain⟨bj,bm,v0,v1,om,Sg,h,hS⟩:=f
    exact h.lt ((hS k).1 w)
  · rintro j k V ⟨c,_,_,d,_⟩ w
    have C:k=0∨k=1:=by omega
    rcases C with rfl | rfl
    · exact aI (p V d) 0 rfl
    · exact aI (p V d) 1 rfl
  · rintro j V N ⟨c,f,q,o,B,y⟩
    obtain⟨bj,bm,v0,v1,om,Sg,h,hS⟩:=f
    have z:j=0∨j=1:=by omega
    have:= jd (s:=(j:Int)) (h:=h)
    rcases z with rfl | rfl
    · have H:kW c.x.m0 c.x.m1 ((0:Nat):Int)=st.x.m0:=by simp[kW,B rfl]
      rw[H]at this
      exact this
    · have H:kW c.x.m0 c.x.m1 ((1:Nat):Int)=st.x.m1:=by simp[kW,y (aC _)]
      rw[H]at this
      exact this
  · rintro j V N hne ⟨c,f,q,o,B,y⟩
    have z:j=0∨j=1:=by omega
    rcases z with rfl | rfl
    · by_cases u:vk c.x.m0 c.x.m1 0 a=0
      · refine .inl ((aeL q a f u).mono ?_)
        rintro e m ⟨rfl,G,E⟩
        exact⟨rfl,_,G,q.mv0 u,o.trans E (λ_ _ e => e),λe => by omega,λ_ => y (by omega)⟩
      · obtain⟨bj,bm,v0,v1,om,Sg,h,hS⟩:=f
        refine .inr ⟨vk c.x.m0 c.x.m1 0 a,(LD l bj bm v0 v1 c.f0 c.f1 om Sg c.x c.L c.L 0 a V h u).mono ?_⟩
        rintro e m ⟨rfl,v⟩
        have d:Turned S r m:=o.trans (Turned.of_below (S:=λ_ => False) v) (λ_ _ e => e.elim)
        exact⟨rfl,aI (p m d) 0 rfl,d⟩
    · by_cases u:vk c.x.m0 c.x.m1 1 b=0
      · refine .inl ((aeM q b f u).mono ?_)
        rintro e m ⟨rfl,G,E⟩
        exact⟨rfl,_,G,q.mv1 u,o.trans E (λ_ _ e => e),λe => by omega,λe => by omega⟩
      · obtain⟨bj,bm,v0,v1,om,Sg,h,hS⟩:=f
        refine .inr ⟨vk c.x.m0 c.x.m1 1 b,(LD l bj bm v0 v1 c.f0 c.f1 om Sg c.x c.L c.L 1 b V h u).mono ?_⟩
        rintro e m ⟨rfl,v⟩
        have d:Turned S r m:=o.trans (Turned.of_below (S:=λ_ => False) v) (λ_ _ e => e.elim)
        exact⟨rfl,aI (p m d) 1 rfl,d⟩
  · rintro j V N u ⟨c,f,q,o,B,y⟩
    exact⟨c,f,q,o,λe => by omega,λe => y (by omega)⟩
  · rintro e m (⟨rfl,c,f,q,o,_,_⟩ | ⟨rfl,d⟩)
    · refine⟨true,rfl,.inr ⟨rfl,S,⟨c,f,q.more (by omega)⟩,λk w => ⟨.inl w,?_⟩,(Turned.of_below (S:=S) n).trans o (λ_ _ e => e)⟩⟩
      obtain⟨bj,bm,v0,v1,om,Sg,h,hS⟩:=f
      exact h.lt ((hS k).1 w)
    · exact⟨false,rfl,.inl ⟨rfl,(Turned.of_below (S:=S) n).trans d (λ_ _ e => e)⟩⟩
end
end
section
open Go.Proofs.Tryz Go.Shelf
theorem adx(Q:∀(s:ByteArray) (c:UInt8) (w:World),Calls prog 154 #[.string s,.string ⟨#[c]⟩] w λe A=>e=.returned (.int .i64 (Lib.indexByte s.data.toList c))/\A=w)
  (n:Nat) (hn:1<=n) (l bs bp bv:Nat) (ls:List (List UInt8)) (z:ls≠[]) (hls:∀x∈ls,(10:UInt8)∉x) (B:(aA ls).length<=1000000)
  (J:Nat->World->Prop) (K:World->Prop) (T:∀i W f,J i W->W.grownBy f (some bs)->J i f)
  (M:∀i x rest W,J i W->ls[i]?=some x->kI W bs bp bv rest->YieldAt Fence.wide (n -1) prog l #[.string ⟨x.toArray⟩] W λe f=>(e=.returned (.bool true)/\J (i+1) f/\kI f bs bp bv rest)∨(e=.returned (.bool false)/\K f))
  (W:World) (P:kI W bs bp bv (aA ls)) (S:J 0 W):
  CallsIn Fence.wide n prog 237 #[.func (.yield l) #[] #[],.pointer (some ⟨bp,0,none⟩),.pointer (some ⟨bs,0,none⟩),.pointer (some ⟨bv,0,none⟩)] W λe f=>(∃v,e=.returned v)/\(J ls.length f∨K f):=by
 refine callsIn_of_wp func237 rfl trivial ?_ rfl;simp only[ntmps237,List.size_toArray,List.length_cons,List.length_nil,Nat.reduceAdd,Nat.reduceSub,Array.replicate_succ,Array.replicate_zero,List.push_toArray,List.append_toArray,List.nil_append,List.cons_append];have hc:=P.cells;have acE:Fence.wide.fn 154:=trivial
 gi_wp2
 gi_loopw [7] (λ_ wr=>∃i x t,ls.drop i=x::t/\kI wr bs bp bv (aA (x::t))/\J i wr)
  (λ_ wr=>yF wr bs)
 case atStart=>
  obtain⟨x,t,rfl⟩:=List.exists_cons_of_ne_nil z;exact⟨0,x,t,rfl,P,S⟩
 case round=>
  obtain⟨i,x,t,hd,d,I⟩:=hrel
  have F:ls[i]?=some x:=by
   have:=congrArg List.head? hd;simpa[List.head?_drop]using this
  have h:x∈ls:=cZ F
  have g:(aA (x::t)).length<=1000000:=by
   refine aH ?_ B;rw[<-hd];exact xX ls i
  have b:=d.cells
  cases t with
  |nil=>
   have a:=Q ⟨x.toArray⟩ 10 wr;have p:Lib.indexByte (⟨x.toArray⟩:ByteArray).data.toList 10= -1:=qg x 10 (hls x h);rw[p]at a;obtain⟨fn,tmps,assign,body,N,G⟩:=M i x _ wr I F d
   have E:i+1=ls.length:=by
    have:=congrArg List.length hd;simp at this;omega
   simp only[aA]at b;clear hd d p g
   gi_wp2_with (first
    |(gi_at_call 154;refine(jf.2 a).mono ?_;rintro e A ⟨rfl,k⟩;have k:=k.symm;subst k)
    |gi_in)
   refine G.mono ?_;rintro e C (⟨rfl,m,_⟩|⟨rfl,j⟩)
   .gi_wp2
    go_end0
    rw[<-E];exact⟨⟨_,rfl⟩,.inl m⟩
   .gi_wp2
    go_end0
    exact⟨⟨_,rfl⟩,.inr j⟩
  |cons y t=>
   have a:=Q ⟨(aA (x::y::t)).toArray⟩ 10 wr;have p:Lib.indexByte (⟨(aA (x::y::t)).toArray⟩:ByteArray).data.toList 10=(x.length:Int):=jT x _ 10 (hls x h);rw[p]at a;obtain⟨fn,tmps,assign,body,N,G⟩:=M i x _ wr I F d;have H:(⟨(aA (x::y::t)).toArray⟩:ByteArray).extract 0 x.length=⟨x.toArray⟩:=qj x (10::aA (y::t));have el:(⟨(aA (x::y::t)).toArray⟩:ByteArray).extract (x.length+1) (aA (x::y::t)).length=⟨(aA (y::t)).toArray⟩:=rV x (aA (y::t)) 10 _ rfl
   have L:(aA (x::y::t)).length=x.length+1+(aA (y::t)).length:=by simp[aA];omega
   have k1:(x.length:Int)<=1000000:=by omega
   have k3:(x.length:Int)+1<=((aA (x::y::t)).length:Int):=by omega
   have k2:(x.length:Int)<=((aA (x::y::t)).length:Int):=by omega
   have k4:((aA (x::y::t)).length:Int)<=1000000:=by omega
   rw[<-H]at N
   have u:ls.drop (i+1)=y::t:=by
    rw[<-List.drop_drop,hd];rfl
   have U:Hid (yF wr bs=(aA (x::y::t)).length/\(aA (x::y::t)).length=x.length+1+(aA (y::t)).length):=⟨by unfold yF;rw[b.1];simp[ByteArray.size],L⟩;have V:=hid el;clear H el p g L hd;generalize(aA (x::y::t))=R at *
   gi_wp2_with (first
    |(gi_at_call 154;refine(jf.2 a).mono ?_;rintro e A ⟨rfl,k⟩;have k:=k.symm;subst k)
    |gi_in)
   refine G.mono ?_;rintro e C (⟨rfl,m,q⟩|⟨rfl,j⟩)
   rotate_left 1
   .clear b
    gi_wp2
    (try simp only[Exit.inBlock,Exit.then])
    refine ja (results_none rfl _ _ _) rfl ?_;exact⟨⟨_,rfl⟩,.inr j⟩
   have hc3:=q.cells;clear b
   gi_wp2
   rw[V.out];have o:=q.next (r:=aA (y::t));refine⟨⟨i+1,y,t,u,o,T _ _ _ m (grownBy_setCell' C bs _)⟩,?_⟩
   have e4:yF (C.setCell ⟨bs,0,none⟩ (.string ⟨(aA (y::t)).toArray⟩)) bs=(aA (y::t)).length:=by unfold yF;rw[o.cells.1];simp[ByteArray.size]
   have:=U.out;omega
def X9(bs bp bv D l:Nat)(I Ix:World->Prop)(W:World):Exit->Act->World->Prop
 |.normal,_,W'=>I W'/\W.heap.size<=W'.heap.size/\∀k,k=bs∨k=bp∨k=bv∨k=D∨k=l->W'.heap[k]?=W.heap[k]?
 |.ret,_,W'=>Ix W'/\∀k,k=D∨k=l->W'.heap[k]?=W.heap[k]?
 |_,_,_=>False
theorem ac5(WX:∀(s:ByteArray) (c:UInt8) (w:World),Calls prog 154 #[.string s,.string ⟨#[c]⟩] w λe w'=>e=.returned (.int .i64 (Lib.indexByte s.data.toList c))/\w'=w)
  {n:Nat} (h2:2<=n) {g:Operand} {p:Tmp} {assign body:Code} {Q:Exit->Act->World->Prop} {a:Act} {w:World} {bs bp bv:Nat}
  (hg:a.eval g=.func (.func 237) #[] #[.pointer (some ⟨bp,0,none⟩),.pointer (some ⟨bs,0,none⟩),.pointer (some ⟨bv,0,none⟩)])
  (ls:List (List UInt8)) (T:ls≠[]) (hls:∀x∈ls,(10:UInt8)∉x) (Z:(aA ls).length<=1000000) (S:kI w bs bp bv (aA ls))
  (I:Nat->World->Prop) (E:∀i W M row,I i W->W.grownBy M row->(∀k,row=some k->k=bs∨k=w.heap.size+1)->I i M) (h0:I 0 w) (N:World->Prop) (F:∀W M row,N W->W.grownBy M row->(∀k,row=some k->k=w.heap.size+1)->N M)
  (a₁:List UInt8->Act)
  (d:∀(x:List UInt8) (W:World) (K:Act->World->Prop),K (a₁ x) W->
   assign.wpIn (Fence.wide.inRound (w.heap.size+1)) (n -1 -1) prog (Exit.then K (λ_ _ _=>False)) { tmps:=((#[p]:Array Tmp).zip #[.string ⟨x.toArray⟩]).foldl (λt (p,v)=>t.setIfInBounds p v) a.tmps,defers:=[]} W)
  (q:∀(i:Nat) (x:List UInt8) (W:World),ls[i]?=some x->I i W->w.heap.size+2<=W.heap.size->body.wpIn (Fence.wide.inRound (w.heap.size+1)) (n -1 -1) prog (X9 bs bp bv w.heap.size (w.heap.size+1) (I (i+1)) N W) (a₁ x) W)
  (u:∀(W:World),I ls.length W->W.heap[w.heap.size]?=some (.deferred (some []))->Q .normal { a with defers:={ target:= .collected w.heap.size,args:= #[]}::a.defers} W)
  (hstop:∀(W:World),N W->W.heap[w.heap.size]?=some (.deferred (some []))->Code.ret.wpIn Fence.wide n prog Q { a with defers:={ target:= .collected w.heap.size,args:= #[]}::a.defers} W):
  (Code.rangeFunc g #[p] assign body).wpIn Fence.wide n prog Q a w:=by
 have hlt:bs<w.heap.size/\bp<w.heap.size/\bv<w.heap.size:=⟨(ax.1 S.s).1,(ax.1 S.p).1,(ax.1 S.v).1⟩;refine wpIn_rangeFunc ?_;intro fn hfn;obtain⟨rec,hrec⟩:∃rec:LoopState->Option Code->Loop,rec=JK fn a.tmps #[p] assign body w.heap.size:=⟨_,rfl⟩;obtain⟨l,hW1⟩:∃l,(w.alloc (.deferred (some []))).alloc (.loop (rec .ready none))=l:=⟨_,rfl⟩
 have hL1:l.heap[w.heap.size+1]?=some (.loop (rec .ready none)):=by
  rw[<-hW1];have:=World.alloc_heap_new (w.alloc (.deferred (some []))) (.loop (rec .ready none));rwa [World.size_alloc]at this
 have hK1:l.heap[w.heap.size]?=some (.deferred (some [])):=by
  rw[<-hW1];exact(gL _ _ _ (by simp)).trans (World.alloc_heap_new w _)
 have Y:I 0 l:=by
  rw[<-hW1];exact E 0 _ _ none (E 0 _ _ none h0 (iV _ _ _) (λ_ e=>by cases e)) (iV _ _ _) (λ_ e=>by cases e)
 have U:kI l bs bp bv (aA ls):=by
  refine S.still (λk j=>?_)
  have V:k<w.heap.size:=by rcases j with rfl|rfl|rfl <;>omega
  rw[<-hW1];exact(gL _ _ _ (by simp;omega)).trans (gL _ _ _ V)
 refine⟨w.heap.size+1,[{ target:= .collected w.heap.size,args:= #[]}],l,{ target:= .fn (.func 237) #[.pointer (some ⟨bp,0,none⟩),.pointer (some ⟨bs,0,none⟩),.pointer (some ⟨bv,0,none⟩)],args:= #[.func (.yield (w.heap.size+1)) #[] #[]]},l,237,
  #[.func (.yield (w.heap.size+1)) #[] #[],.pointer (some ⟨bp,0,none⟩),.pointer (some ⟨bs,0,none⟩),.pointer (some ⟨bv,0,none⟩)],l,?_,?_,?_,?_,λ_=>by omega,?_⟩
 .rw[<-hW1,hrec];exact run_enterLoop_outer _ _ _ _ _
 .simp only[resolve,hg];simp[go_sem]
 .intro f' _;trivial
 .simp[invoke,go_sem]
 .refine(adx WX (n -1) (by omega) (w.heap.size+1) bs bp bv ls T hls Z
   (λi W=>I i W/\W.heap[w.heap.size+1]?=some (.loop (rec .ready none))/\W.heap[w.heap.size]?=some (.deferred (some [])))
   (λW=>N W/\W.heap[w.heap.size+1]?=some (.loop (rec .done (some .ret)))/\W.heap[w.heap.size]?=some (.deferred (some [])))
   (λi A B H r=>⟨E i A B _ H.1 r (λk e=>by cases e;exact .inl rfl),(r.block _ (ax.1 H.2.1).1 (by simp;omega)).trans H.2.1,(r.block _ (ax.1 H.2.2).1 (by simp;omega)).trans H.2.2⟩)
   ?_ l U ⟨Y,hL1,hK1⟩).mono ?_
  .rintro i x rest W ⟨hi,y,j⟩ hx hBx;have R:w.heap.size+1<W.heap.size:=(ax.1 y).1;have hy:=run_yield (P:=prog) (args:= #[.string ⟨x.toArray⟩]) y (by rw[hrec];rfl);rw[hrec]at hy;refine⟨fn,_,assign,body,hy,roundIn_of_wpIn hfn (d x W _ ⟨_,run_beginRound y (by rw[hrec];rfl),?_⟩)⟩;clear hy;have L:(W.putObj (w.heap.size+1) (.loop { rec .ready none with state:= .busy})).heap[w.heap.size+1]?=some (.loop { rec .ready none with state:= .busy}):=World.putObj_heap_same R;have G:(W.putObj (w.heap.size+1) (.loop { rec .ready none with state:= .busy})).heap[w.heap.size]?=some (.deferred (some [])):=(World.putObj_heap_other (by omega)).trans j;have X:I i (W.putObj (w.heap.size+1) (.loop { rec .ready none with state:= .busy})):=E i _ _ _ hi (grownBy_putObj' W _ _) (λk e=>by cases e;exact .inr rfl);refine wpIn_mono (q i x _ hx X (by simp;omega)) ?_;rintro e a3 W3 C
   cases e with
   |normal=>
    obtain⟨z,hs3,b⟩:=C;have f:=(b _ (.inr (.inr (.inr (.inr rfl))))).trans L;have o:=(b _ (.inr (.inr (.inr (.inl rfl))))).trans G;have hr:=run_endRound (P:=prog) none f;have h:=(ax.1 f).1;refine⟨_,_,hr,.inl ⟨rfl,⟨E (i+1) _ _ _ z (grownBy_putObj' W3 _ _) (λk e=>by cases e;exact .inr rfl),?_,(World.putObj_heap_other (by omega)).trans o⟩,?_⟩⟩
    .rw[World.putObj_heap_same h,hrec];rfl
    .refine hBx.still (λk j=>?_)
     have m:k≠w.heap.size+1:=by rcases j with rfl|rfl|rfl <;>omega
     refine(World.putObj_heap_other m).trans ((b k ?_).trans (World.putObj_heap_other m))
     rcases j with rfl|rfl|rfl
     .exact .inl rfl
     .exact .inr (.inl rfl)
     .exact .inr (.inr (.inl rfl))
   |ret=>
    obtain⟨z,b⟩:=C;have f:=(b _ (.inr rfl)).trans L;have o:=(b _ (.inl rfl)).trans G;have hr:=run_endRound (P:=prog) (some .ret) f;have h:=(ax.1 f).1;refine⟨_,_,hr,.inr ⟨rfl,F _ _ _ z (grownBy_putObj' W3 _ _) (λk e=>by cases e;rfl),?_,(World.putObj_heap_other (by omega)).trans o⟩⟩;rw[World.putObj_heap_same h,hrec];rfl
   |exit id=>exact C.elim
   |goto t=>exact C.elim
   |panic ch=>exact C.elim
   |outgrown=>exact C.elim
  .rintro e W2 ⟨⟨v,rfl⟩,⟨hi,y,j⟩|⟨hi,y,j⟩⟩
   rotate_left 1
   .exact⟨some .ret,_,by have:=run_endLoop (P:=prog) y (by rw[hrec];simp[JK]);rw[hrec]at this;exact this,hstop _ (F _ _ _ hi (grownBy_putObj' W2 _ _) (λk e=>by cases e;rfl)) ((World.putObj_heap_other (by omega)).trans j)⟩
   exact⟨none,_,by have:=run_endLoop (P:=prog) y (by rw[hrec];simp[JK]);rw[hrec]at this;exact this,u _ (E _ _ _ _ hi (grownBy_putObj' W2 _ _) (λk e=>by cases e;exact .inr rfl)) ((World.putObj_heap_other (by omega)).trans j)⟩
end
section
open Go.Proofs.Tryz Go.Joins Go.Sort Go.Shelf
attribute [local go_sem] Oper.semAt_some
theorem adW(b:List UInt8):∃ls:List (List UInt8),ls≠[]/\(∀x∈ls,(10:UInt8)∉x)/\ls.length<=(aA ls).length+1/\aA ls=b:=by
 induction b with
 |nil=>exact⟨[[]],by simp,by simp,by simp[aA],rfl⟩
 |cons c b ih=>
  obtain⟨ls,f,a,g,e⟩:=ih;obtain⟨x,t,rfl⟩:=List.exists_cons_of_ne_nil f
  by_cases hc:c=10
  .subst hc;refine⟨[]::x::t,by simp,?_,?_,?_⟩
   .intro y d
    rcases dM.1 d with rfl|d
    .simp
    .exact a y d
   .simp only[aA,List.length_cons,List.length_append,List.length_nil]at g⊢;omega
   .simp only[aA,List.nil_append];rw[e]
  .refine⟨(c::x)::t,by simp,?_,?_,?_⟩
   .intro y d
    rcases dM.1 d with rfl|d
    .intro i
     rcases dM.1 i with h|h
     .exact hc h.symm
     .exact a x (by simp) h
    .exact a y (by simp[d])
   .cases t with
    |nil=>simp[aA]
    |cons y t=>simp only[aA,List.length_cons,List.length_append]at g⊢;omega
   .cases t with
    |nil=>simp only[aA]at e⊢;rw[e]
    |cons y t=>simp only[aA]at e⊢;rw[<-e];rfl
theorem ady(ls:List (List UInt8)):∀x∈ls,x.length<=(aA ls).length:=by
 induction ls with
 |nil=>simp
 |cons y ls ih=>
  intro x a
  cases ls with
  |nil=>simp at a;subst a;simp[aA]
  |cons z t=>
   rcases dM.1 a with rfl|a
   .simp[aA]
   .have:=ih x a;simp only[aA,List.length_append,List.length_cons]at this⊢;omega
def Ixs(w:World)(W:World):Prop:=Below w.heap.size w W/\W.heap[w.heap.size]?=some (.cells #[.pointer none] 27)/\W.heap[w.heap.size+1]?=some (.cells #[.bool false] 4)
theorem Bd.leave{w:World}{kb a:Nat}{b:Value}{W:World}(h:Bd w kb a b W):Ixs w ((W.setCell ⟨w.heap.size,0,none⟩ (.pointer none)).setCell ⟨w.heap.size+1,0,none⟩ (.bool false)):=by
 refine⟨(h.low.setCell (p:=⟨w.heap.size,0,none⟩) (aC _) _).setCell (p:=⟨w.heap.size+1,0,none⟩) (by show w.heap.size<=w.heap.size+1;omega) _,?_,?_⟩
 .rw[iJ _ _ _ _ (by simp),fZ h.r1];rfl
 .rw[fZ ((iJ _ _ _ _ (by simp)).trans h.r2)];rfl
theorem aa1(w:World)(W:World)(k:Nat)(a:k≠w.heap.size)(b:k≠w.heap.size+1):((W.setCell ⟨w.heap.size,0,none⟩ (.pointer none)).setCell ⟨w.heap.size+1,0,none⟩ (.bool false)).heap[k]?=W.heap[k]? :=
 (iJ _ _ _ _ b).trans (iJ _ _ _ _ a)
theorem adz(WX:∀(s:ByteArray) (c:UInt8) (w:World),Calls prog 154 #[.string s,.string ⟨#[c]⟩] w λe b=>e=.returned (.int .i64 (Lib.indexByte s.data.toList c))/\b=w)
  (HTr:∀(s p:ByteArray) (w:World),s.size<=9223372036854775807->Calls prog 90 #[.string s,.string p] w λe b=>e=.returned (.string ⟨(Lib.trimSuffix s.data.toList p.data.toList).toArray⟩)/\b=w)
  (P:Nat->Nat->(Nat->Prop)->World->Prop) (hP:∀i be,tV (P i be)) (U:ByteArray->List Int->Prop) (s:ByteArray) (hsz:s.size<=1000000) (w:World)
  (ZL:∀(x:List UInt8) bm W,(10:UInt8)∉x->x.length<=1000000->Below w.heap.size w W->nH W bm->bm<W.heap.size->Calls prog 91 #[.string ⟨x.toArray⟩,.map (some bm)] W λe b=>(e=.returned (.tuple #[.agg #[.string ⟨#[]⟩,.slice none 0 0],.bool false])/\Below W.heap.size W b)∨∃hd ns g,U hd ns/\e=.returned (.tuple #[.agg #[.string hd,.slice (some ⟨g,0,none⟩) ns.length ns.length],.bool true])/\b.heap[g]?=some (.cells (ns.map (Value.int .i64)).toArray 3)/\W.heap.size<=g/\Below W.heap.size W b)
  (HS:∀hd ns g W,U hd ns->Below w.heap.size w W->W.heap[g]?=some (.cells (ns.map (Value.int .i64)).toArray 3)->Calls prog 93 #[.agg #[.string hd,.slice (some ⟨g,0,none⟩) ns.length ns.length]] W λe b=>(e=.returned (.tuple #[.pointer none,.bool false])/\Below W.heap.size W b)∨∃be S,e=.returned (.tuple #[.pointer (some ⟨be,0,none⟩),.bool true])/\P 1 be S b/\(∀k,S k->W.heap.size<=k/\k<b.heap.size)/\Below W.heap.size W b)
  (HR:∀(i:Nat) hd ns be S g W,i<=s.size->U hd ns->Below w.heap.size w W->P i be S W->W.heap[g]?=some (.cells (ns.map (Value.int .i64)).toArray 3)->¬S g->Calls prog 92 #[.pointer (some ⟨be,0,none⟩),.agg #[.string hd,.slice (some ⟨g,0,none⟩) ns.length ns.length]] W λe b=>(e=.returned (.bool false)/\Turned S W b)∨(e=.returned (.bool true)/\∃S',P (i+1) be S' b/\(∀k,S' k->(S k∨W.heap.size<=k)/\k<b.heap.size)/\Turned S W b)):
  Calls prog 42 #[.string s] w λe b=>(e=.returned (.tuple #[.pointer none,.bool false])/\Below w.heap.size w b)∨∃i be S,i<=s.size+1/\e=.returned (.tuple #[.pointer (some ⟨be,0,none⟩),.bool true])/\P i be S b/\(∀k,S k->w.heap.size<=k/\k<b.heap.size)/\Below w.heap.size w b:=by
 obtain⟨ls,hne,h10,hll,v⟩:=adW (Lib.trimSuffix s.data.toList [10])
 have htl:(Lib.trimSuffix s.data.toList [10]).length<=s.size:=by
  unfold Lib.trimSuffix
  split
  .rw[List.length_take];exact aH (Nat.min_le_right _ _) (aC _)
  .exact aC _
 have htr:∀W,Calls prog 90 #[.string s,.string ⟨#[10]⟩] W λe b=>e=.returned (.string ⟨(aA ls).toArray⟩)/\b=W:=by
  intro W;refine(HTr _ ⟨#[10]⟩ W (by omega)).mono ?_;rintro e b ⟨rfl,h⟩;refine⟨?_,h⟩;rw[v]
 have hlen:(aA ls).length<=1000000:=by rw[v];omega
 have afM:ls.length<=s.size+1:=by rw[<-v]at htl;omega
 have hxl:∀x∈ls,x.length<=1000000:=λx hx=>aH (ady ls x hx) hlen
 clear HTr hsz v htl;refine(jf (n:=4)).1 ?_;refine callsIn_of_wp_marks func42 rfl trivial ?_ rfl;simp only[ntmps42,List.size_toArray,List.length_cons,List.length_nil,Nat.reduceAdd,Nat.reduceSub,Array.replicate_succ,Array.replicate_zero,List.push_toArray,List.append_toArray,List.nil_append,List.cons_append];have f83:Fence.wide.fn 88:=trivial;have f84:Fence.wide.fn 89:=trivial;have f85:Fence.wide.fn 90:=trivial
 gi_wp2_with (first
  |(gi_at_call 89;refine(jf.2 (CG _ _ _)).mono ?_;rintro e q ⟨rfl,A⟩;subst A)
  |(gi_at_call 90;refine(jf.2 (htr _)).mono ?_;rintro e w3 ⟨rfl,hw3⟩;have hw3:=hw3.symm;subst hw3)
  |(gi_at_call 88;refine(jf.2 (EI _)).mono ?_;rintro e j ⟨rfl,L,r⟩)
  |gi_in)
 have hW0:Below w.heap.size w (((w.alloc (.cells #[.pointer none] 27)).alloc (.cells #[.bool false] 4)).alloc (.cells #[.pointer none] 27)):=((fK _ _ _).alloc (by simp only[World.size_alloc];omega) _)
 have B:(((w.alloc (.cells #[.pointer none] 27)).alloc (.cells #[.bool false] 4)).alloc (.cells #[.pointer none] 27)).heap.size=w.heap.size+1+1+1:=by simp
 have q1:(((w.alloc (.cells #[.pointer none] 27)).alloc (.cells #[.bool false] 4)).alloc (.cells #[.pointer none] 27)).heap[w.heap.size]?=some (.cells #[.pointer none] 27):=(gL _ _ _ (by simp only[World.size_alloc];omega)).trans ((gL _ _ _ (by simp only[World.size_alloc];omega)).trans (eZ w _))
 have q2:(((w.alloc (.cells #[.pointer none] 27)).alloc (.cells #[.bool false] 4)).alloc (.cells #[.pointer none] 27)).heap[w.heap.size+1]?=some (.cells #[.bool false] 4):=by
  refine(gL _ _ _ (by simp only[World.size_alloc];omega)).trans ?_;have:=eZ (w.alloc (.cells #[.pointer none] 27)) (.cells #[.bool false] 4)
  rwa [World.size_alloc]at this
 have q3:(((w.alloc (.cells #[.pointer none] 27)).alloc (.cells #[.bool false] 4)).alloc (.cells #[.pointer none] 27)).heap[w.heap.size+1+1]?=some (.cells #[.pointer none] 27):=by
  have:=eZ ((w.alloc (.cells #[.pointer none] 27)).alloc (.cells #[.bool false] 4)) (.cells #[.pointer none] 27)
  rwa [World.size_alloc,World.size_alloc]at this
 have X6:∀(W:World),Below j.heap.size j W->W.heap[j.heap.size]?=some (.cells #[.map (some (w.heap.size+1+1+1))] 152)->Bd w j.heap.size (w.heap.size+1+1+1) (.pointer none) W:=by
  intro W hW hkb;have hz:=r.size;rw[B]at hz L;have m:=r.trans (hW.mono r.size);have l:=L.lt;exact⟨hW0.trans (m.mono (by rw[B];omega)),(m.block _ (by rw[B];omega)).trans q1,(m.block _ (by rw[B];omega)).trans q2,(m.block _ (by rw[B];omega)).trans q3,hkb,L.still (hW.block _ l),by omega,by omega⟩
 have hlo:w.heap.size+1+1+1<=j.heap.size:=by have:=r.size;rwa [B]at this
 clear hW0 B q1 q2 q3 L r;obtain⟨q,A⟩:∃q,((((j.alloc (.cells #[.map (some (w.heap.size+1+1+1))] 152)).alloc (.cells #[.string ⟨(aA ls).toArray⟩] 9)).alloc (.cells #[.string ⟨#[10]⟩] 9)).alloc (.cells #[.int .i64 0] 3))=q:=⟨_,rfl⟩
 have hs4:q.heap.size=j.heap.size+4:=by rw[<-A];simp
 have hBx:kI q (j.heap.size+1) (j.heap.size+1+1) (j.heap.size+1+2) (aA ls):=by
  rw[<-A];refine⟨?_,?_,?_,by omega,by omega⟩
  .refine(gL _ _ _ (by simp only[World.size_alloc];omega)).trans ((gL _ _ _ (by simp only[World.size_alloc];omega)).trans ?_);have:=eZ (j.alloc (.cells #[.map (some (w.heap.size+1+1+1))] 152)) (.cells #[.string ⟨(aA ls).toArray⟩] 9)
   rwa [World.size_alloc]at this
  .refine(gL _ _ _ (by simp only[World.size_alloc];omega)).trans ?_;have:=eZ ((j.alloc (.cells #[.map (some (w.heap.size+1+1+1))] 152)).alloc (.cells #[.string ⟨(aA ls).toArray⟩] 9)) (.cells #[.string ⟨#[10]⟩] 9)
   rwa [World.size_alloc,World.size_alloc]at this
  .have:=eZ (((j.alloc (.cells #[.map (some (w.heap.size+1+1+1))] 152)).alloc (.cells #[.string ⟨(aA ls).toArray⟩] 9)).alloc (.cells #[.string ⟨#[10]⟩] 9)) (.cells #[.int .i64 0] 3)
   rwa [World.size_alloc,World.size_alloc,World.size_alloc]at this
 have X:Bd w j.heap.size (w.heap.size+1+1+1) (.pointer none) q:=by
  rw[<-A];refine X6 _ (((fK _ _ _).alloc (by simp only[World.size_alloc];omega) _).alloc (by simp only[World.size_alloc];omega) _) ?_;exact(gL _ _ _ (by simp only[World.size_alloc];omega)).trans ((gL _ _ _ (by simp only[World.size_alloc];omega)).trans ((gL _ _ _ (by simp only[World.size_alloc];omega)).trans (eZ j _)))
 have acp:w.heap.size+1+1+1<j.heap.size+4:=by omega
 have acr:q.heap.size<=j.heap.size+4:=by omega
 have acs:j.heap.size+4<=q.heap.size:=by omega
 clear hs4;rw[A];clear A X6
 refine ac5 WX (n:=4) (by omega) (bs:=j.heap.size+1) (bp:=j.heap.size+1+1) (bv:=j.heap.size+1+2) rfl ls hne h10 hlen hBx
  (Bi P w j.heap.size (w.heap.size+1+1+1) (q.heap.size+2)) ?hI ⟨_,X,.inl ⟨rfl,rfl⟩⟩ (Ixs w) ?hIx
  (λx=>{ tmps:= #[.string s,undef,.pointer (some ⟨w.heap.size,0,none⟩),.pointer (some ⟨w.heap.size+1,0,none⟩),.pointer (some ⟨w.heap.size+1+1,0,none⟩),.pointer (some ⟨j.heap.size,0,none⟩),.string ⟨x.toArray⟩,undef,undef,.map (some (w.heap.size+1+1+1)),.string s,.string ⟨(aA ls).toArray⟩,.func (.func 237) #[] #[.pointer (some ⟨j.heap.size+1+1,0,none⟩),.pointer (some ⟨j.heap.size+1,0,none⟩),.pointer (some ⟨j.heap.size+1+2,0,none⟩)],.string ⟨x.toArray⟩,undef,undef,undef,undef,undef,undef,undef,undef,undef,undef,undef,undef,undef,undef,undef,undef,undef,undef,undef,undef,undef,undef,undef],defers:=[]}) ?assign ?body ?done ?stop
 case hI=>
  intro i W W' row hB hg hr;refine hB.grown hP hg (λk e=>?_)
  rcases hr k e with rfl|rfl
  .omega
  .omega
 case hIx=>
  rintro W W' row ⟨V,h2,T⟩ hg hr;have a1:=(ax.1 T).1;have a2:=V.size;refine⟨V.grown hg (by omega) (λk e=>by have:=hr k e;omega),(hg.block _ (by omega) (λe=>by have:=hr _ e.symm;omega)).trans h2,(hg.block _ a1 (λe=>by have:=hr _ e.symm;omega)).trans T⟩
 case assign=>
  intro x W K hK
  gi_wp2
  exact hK
 case body=>
  intro i x W hx hB hWs;have hil:i<ls.length:=(bP.1 hx).1;obtain⟨ve,o,hE⟩:=hB;have hcs:=o.cells;have lts:=o.lts;have WR:=ZL x _ W (h10 x (cZ hx)) (hxl x (cZ hx)) o.low o.kn lts.2.2
  have hn2:1<=4 -1 -1:=by decide
  have f86:Fence.wide.fn 91:=trivial;have f87:Fence.wide.fn 92:=trivial;have f88:Fence.wide.fn 93:=trivial;have hlt:=lts.2.1;have HBd:=hid o;have HE:=hid hE;clear o hE lts X hBx
  have Vr:Hid (Calls prog 91 #[.string ⟨x.toArray⟩,.map (some (w.heap.size+1+1+1))] W λe b=>(e=.returned (.tuple #[.agg #[.string ⟨#[]⟩,.slice none 0 0],.bool false])/\(b.cell? ⟨w.heap.size,0,none⟩=some (.pointer none)/\b.cell? ⟨w.heap.size+1,0,none⟩=some (.bool false)/\b.frozen? ⟨w.heap.size,0,none⟩=false/\b.frozen? ⟨w.heap.size+1,0,none⟩=false/\w.heap.size+1+1<b.heap.size)/\(b.cell? ⟨w.heap.size+1+1,0,none⟩=some ve/\b.frozen? ⟨w.heap.size+1+1,0,none⟩=false)/\Hid (Bd w j.heap.size (w.heap.size+1+1+1) ve b/\Below W.heap.size W b))∨
    ∃hd ns g,e=.returned (.tuple #[.agg #[.string hd,.slice (some ⟨g,0,none⟩) ns.length ns.length],.bool true])/\(b.cell? ⟨w.heap.size,0,none⟩=some (.pointer none)/\b.cell? ⟨w.heap.size+1,0,none⟩=some (.bool false)/\b.frozen? ⟨w.heap.size,0,none⟩=false/\b.frozen? ⟨w.heap.size+1,0,none⟩=false/\w.heap.size+1+1<b.heap.size)/\(b.cell? ⟨w.heap.size+1+1,0,none⟩=some ve/\b.frozen? ⟨w.heap.size+1+1,0,none⟩=false)/\Hid (U hd ns/\b.heap[g]?=some (.cells (ns.map (Value.int .i64)).toArray 3)/\W.heap.size<=g/\Bd w j.heap.size (w.heap.size+1+1+1) ve b/\Below W.heap.size W b)):=by
   refine WR.mono ?_;rintro e b (⟨rfl,z⟩|⟨hd,ns,g,y,rfl,hg1,hge,z⟩)
   .have u:=HBd.out.below z;have c:=u.cells;exact .inl ⟨rfl,⟨c.1,c.2.1,c.2.2.2.2.1,c.2.2.2.2.2.1,u.lts.1⟩,⟨c.2.2.1,c.2.2.2.2.2.2⟩,u,z⟩
   .have u:=HBd.out.below z;have c:=u.cells;exact .inr ⟨hd,ns,g,rfl,⟨c.1,c.2.1,c.2.2.2.2.1,c.2.2.2.2.2.1,u.lts.1⟩,⟨c.2.2.1,c.2.2.2.2.2.2⟩,y,hg1,hge,u,z⟩
  clear WR ZL
  gi_wp2_with gi_in
  refine(CallsIn.inRound _ (jf.2 Vr.out)).mono ?_;rintro e Z (⟨rfl,R,H,V⟩|⟨hd,ns,g,rfl,R,H,V⟩)
  .have hx:=(V.out.1.below (fC Z (.cells #[.string ⟨#[]⟩,.slice none 0 0] 169))).cells;clear Vr hcs R H
   gi_wp2
   obtain⟨u,z⟩:=V.out;have hz:=z.size;have I:=fC Z (.cells #[.string ⟨#[]⟩,.slice none 0 0] 169);refine⟨(u.below I).leave,λk d=>(aa1 w _ k ?_ ?_).trans ((I.block k ?_).trans (z.block k ?_))⟩
   all_goals (rcases d with rfl|rfl <;>omega)
  .clear Vr hcs
   rcases HE.out with⟨rfl,rfl⟩|⟨be,S,hi1,rfl,YR,G⟩
   .have C:Hid (Calls prog 93 #[.agg #[.string hd,.slice (some ⟨g,0,none⟩) ns.length ns.length]] (Z.alloc (.cells #[.string hd,.slice (some ⟨g,0,none⟩) ns.length ns.length] 169)) λe b=>(e=.returned (.tuple #[.pointer none,.bool false])/\(b.cell? ⟨w.heap.size,0,none⟩=some (.pointer none)/\b.cell? ⟨w.heap.size+1,0,none⟩=some (.bool false)/\b.frozen? ⟨w.heap.size,0,none⟩=false/\b.frozen? ⟨w.heap.size+1,0,none⟩=false/\w.heap.size+1+1<b.heap.size)/\(b.cell? ⟨w.heap.size+1+1,0,none⟩=some (.pointer none)/\b.frozen? ⟨w.heap.size+1+1,0,none⟩=false)/\Hid (Bd w j.heap.size (w.heap.size+1+1+1) (.pointer none) b/\Below W.heap.size W b))∨
      ∃be,e=.returned (.tuple #[.pointer (some ⟨be,0,none⟩),.bool true])/\(b.cell? ⟨w.heap.size+1+1,0,none⟩=some (.pointer none)/\b.frozen? ⟨w.heap.size+1+1,0,none⟩=false)/\Hid (∃S,P 1 be S b/\(∀k,S k->W.heap.size<=k/\k<b.heap.size)/\Bd w j.heap.size (w.heap.size+1+1+1) (.pointer none) b/\Below W.heap.size W b)):=by
     obtain⟨y,g1,_,g2,g3⟩:=V.out;have I:=fC Z (.cells #[.string hd,.slice (some ⟨g,0,none⟩) ns.length ns.length] 169);have E:=g2.below I;have Y:=g3.size;have hz2:=I.size;refine(HS hd ns g _ y E.low ((I.block g (ax.1 g1).1).trans g1)).mono ?_;rintro e b (⟨rfl,m⟩|⟨be,S,rfl,hP1,M,m⟩)
     .have f:=E.below m;have c:=f.cells;exact .inl ⟨rfl,⟨c.1,c.2.1,c.2.2.2.2.1,c.2.2.2.2.2.1,f.lts.1⟩,⟨c.2.2.1,c.2.2.2.2.2.2⟩,f,g3.trans ((I.trans (m.mono hz2)).mono Y)⟩
     .have f:=E.below m;have c:=f.cells;exact .inr ⟨be,rfl,⟨c.2.2.1,c.2.2.2.2.2.2⟩,S,hP1,λk d=>⟨by have:=(M k d).1;omega,(M k d).2⟩,f,g3.trans ((I.trans (m.mono hz2)).mono Y)⟩
    clear HS HR HE
    gi_wp2_with gi_in
    refine(CallsIn.inRound _ (jf.2 C.out)).mono ?_;rintro e W3 (⟨rfl,hc3,hd3,T⟩|⟨be,rfl,hd3,T⟩)
    .have hx:=(T.out.1.put (.pointer none)).cells;clear C R H hc3
     gi_wp2
     obtain⟨f,m⟩:=T.out;have hz:=m.size;refine⟨(f.put (.pointer none)).leave,λk d=>(aa1 w _ k ?_ ?_).trans ((iJ _ _ _ _ (show k≠w.heap.size+1+1 from ?_)).trans (m.block k ?_))⟩
     all_goals (rcases d with rfl|rfl <;>omega)
    .clear C R H
     gi_wp2
     obtain⟨S,hP1,M,f,hbW⟩:=T.out;have X:=f.put (.pointer (some ⟨be,0,none⟩))
     have hset:∀k,k≠w.heap.size+1+1->(W3.setCell ⟨w.heap.size+1+1,0,none⟩ (.pointer (some ⟨be,0,none⟩))).heap[k]?=W3.heap[k]? :=λk e=>iJ _ _ _ _ e
     have hz:=hbW.size;refine⟨⟨_,X,.inr ⟨be,S,aC _,rfl,hP 1 be S W3 _ hP1 (by simp) (λk d=>hset k (by have:=(M k d).1;omega)),λk d=>⟨by have:=(M k d).1;omega,by simpa using(M k d).2⟩⟩⟩,by simpa using hz,λk d=>?_⟩
     rcases d with rfl|rfl|rfl|rfl|rfl
     all_goals exact(hset _ (by omega)).trans (hbW.block _ (by omega))
   .have C:Hid (Calls prog 92 #[.pointer (some ⟨be,0,none⟩),.agg #[.string hd,.slice (some ⟨g,0,none⟩) ns.length ns.length]] (Z.alloc (.cells #[.string hd,.slice (some ⟨g,0,none⟩) ns.length ns.length] 169)) λe b=>(e=.returned (.bool false)/\(b.cell? ⟨w.heap.size,0,none⟩=some (.pointer none)/\b.cell? ⟨w.heap.size+1,0,none⟩=some (.bool false)/\b.frozen? ⟨w.heap.size,0,none⟩=false/\b.frozen? ⟨w.heap.size+1,0,none⟩=false/\w.heap.size+1+1<b.heap.size)/\Hid (Bd w j.heap.size (w.heap.size+1+1+1) (.pointer (some ⟨be,0,none⟩)) b/\Turned S W b))∨
      (e=.returned (.bool true)/\Hid (∃S',P (i+1) be S' b/\(∀k,S' k->q.heap.size+2<=k/\k<b.heap.size)/\Bd w j.heap.size (w.heap.size+1+1+1) (.pointer (some ⟨be,0,none⟩)) b/\Turned S W b))):=by
     obtain⟨y,g1,g0,g2,g3⟩:=V.out;have I:=fC Z (.cells #[.string hd,.slice (some ⟨g,0,none⟩) ns.length ns.length] 169);have E:=g2.below I;have Y:=g3.size;have hz2:=I.size;have r:=g3.trans (I.mono Y);have hP2:=hP i be S W _ YR r.size (λk d=>r.block k (G k d).2);have l2:=E.lts
     have stl:∀b,Turned S (Z.alloc (.cells #[.string hd,.slice (some ⟨g,0,none⟩) ns.length ns.length] 169)) b->Bd w j.heap.size (w.heap.size+1+1+1) (.pointer (some ⟨be,0,none⟩)) b:=λb F=>by
      have hbl:∀k,k<q.heap.size+2->k<(Z.alloc (.cells #[.string hd,.slice (some ⟨g,0,none⟩) ns.length ns.length] 169)).heap.size->b.heap[k]?=(Z.alloc (.cells #[.string hd,.slice (some ⟨g,0,none⟩) ns.length ns.length] 169)).heap[k]? :=λk d L=>F.block k L (λe=>by have:=(G k e).1;omega)
      refine E.still (F.below (by omega) (λk d=>by have:=(G k d).1;omega)) (λk d=>hbl k ?_ ?_)
      .rcases d with rfl|rfl|rfl|rfl|rfl <;>omega
      .rcases d with rfl|rfl|rfl|rfl|rfl <;>omega
     refine(HR i hd ns be S g _ (by omega) y E.low hP2 ((I.block g (ax.1 g1).1).trans g1) (λd=>by have:=(G g d).2;omega)).mono ?_;rintro e b (⟨rfl,F⟩|⟨rfl,S',hP3,YS,F⟩)
     .have f:=stl b F;have c:=f.cells;exact .inl ⟨rfl,⟨c.1,c.2.1,c.2.2.2.2.1,c.2.2.2.2.2.1,f.lts.1⟩,f,(Turned.of_below (S:=S) r).trans F (λ_ _ e=>e)⟩
     .refine .inr ⟨rfl,S',hP3,λk d=>⟨?_,(YS k d).2⟩,stl b F,(Turned.of_below (S:=S) r).trans F (λ_ _ e=>e)⟩
      rcases(YS k d).1 with h|h
      .exact(G k h).1
      .omega
    have HSk:=hid G;clear HS HR HE G YR
    gi_wp2_with gi_in
    refine(CallsIn.inRound _ (jf.2 C.out)).mono ?_;rintro e W3 (⟨rfl,hc3,T⟩|⟨rfl,T⟩)
    .have hx:=T.out.1.cells;clear C R H hc3
     gi_wp2
     obtain⟨f,F⟩:=T.out;have hz:=F.size;refine⟨f.leave,λk d=>(aa1 w _ k ?_ ?_).trans (F.block k ?_ (λe=>?_))⟩
     .rcases d with rfl|rfl <;>omega
     .rcases d with rfl|rfl <;>omega
     .rcases d with rfl|rfl <;>omega
     .have:=(HSk.out k e).1
      rcases d with rfl|rfl <;>omega
    .clear C R H
     gi_wp2
     obtain⟨S',hP3,YS,f,F⟩:=T.out;refine⟨⟨_,f,.inr ⟨be,S',by omega,rfl,hP3,YS⟩⟩,F.size,λk d=>F.block k ?_ (λe=>?_)⟩
     .rcases d with rfl|rfl|rfl|rfl|rfl <;>omega
     .have:=(HSk.out k e).1
      rcases d with rfl|rfl|rfl|rfl|rfl <;>omega
 case done=>
  intro W hB hK;obtain⟨ve,o,hE⟩:=hB
  have hl0:1<=ls.length:=by
   cases ls with
   |nil=>exact absurd rfl hne
   |cons a t=>simp
  rcases hE with⟨h,_⟩|⟨be,S,V,rfl,YR,G⟩
  .omega
  have hcs:=o.cells;have lts:=o.lts
  gi_wp2
  obtain⟨Q,WY⟩:∃Q,(W.setCell ⟨w.heap.size,0,none⟩ (.pointer (some ⟨be,0,none⟩))).setCell ⟨w.heap.size+1,0,none⟩ (.bool true)=Q:=⟨_,rfl⟩;rw[WY]
  have hz5:Q.heap.size=W.heap.size:=by rw[<-WY];simp
  have ho5:∀k,k≠w.heap.size->k≠w.heap.size+1->Q.heap[k]?=W.heap[k]? :=λk e1 e2=>by
   rw[<-WY];exact(iJ _ _ _ _ e2).trans (iJ _ _ _ _ e1)
  have h51:Q.heap[w.heap.size]?=some (.cells #[.pointer (some ⟨be,0,none⟩)] 27):=by
   rw[<-WY,iJ _ _ _ _ (by simp),fZ o.r1];rfl
  have h52:Q.heap[w.heap.size+1]?=some (.cells #[.bool true] 4):=by
   rw[<-WY,fZ ((iJ _ _ _ _ (by simp)).trans o.r2)];rfl
  have Od:Below w.heap.size w Q:=by
   rw[<-WY];exact(o.low.setCell (p:=⟨w.heap.size,0,none⟩) (aC _) _).setCell (p:=⟨w.heap.size+1,0,none⟩) (by show w.heap.size<=w.heap.size+1;omega) _
  have Xq:Q.heap[q.heap.size]?=some (.deferred (some [])):=(ho5 _ (by omega) (by omega)).trans hK
  have N:∀k,k≠q.heap.size->(Q.putObj q.heap.size (.deferred none)).heap[k]?=Q.heap[k]? :=λk e=>World.putObj_heap_other e
  have hx0:(Q.putObj q.heap.size (.deferred none)).cell? ⟨w.heap.size,0,none⟩=some (.pointer (some ⟨be,0,none⟩)):=by
   rw[fq ((N _ (by omega)).trans h51)];rfl
  have hx1:(Q.putObj q.heap.size (.deferred none)).cell? ⟨w.heap.size+1,0,none⟩=some (.bool true):=by
   rw[fq ((N _ (by omega)).trans h52)];rfl
  refine⟨by simp,.inl ⟨_,_,rfl,run_takeDeferred Xq,?_⟩⟩;refine⟨.tuple #[.pointer (some ⟨be,0,none⟩),.bool true],by simp[results,Tryz.results42,go_sem,hx0,hx1],.inr ⟨ls.length,be,S,afM,rfl,?_,λk d=>⟨by have:=(G k d).1;omega,?_⟩,?_⟩⟩
  .refine hP _ be S W _ YR (by simp[hz5]) (λk d=>(N k (by have:=(G k d).1;omega)).trans (ho5 k (by have:=(G k d).1;omega) (by have:=(G k d).1;omega)))
  .simpa[hz5]using(G k d).2
  .exact Od.trans (belowK_b (w:=w) (aC _) Q q.heap.size _ _ (by omega) Xq rfl rfl)
 case stop=>
  rintro W ⟨hlow,h51,h52⟩ hK;have a1:=(ax.1 hK).1
  gi_wp2
  have N:∀k,k≠q.heap.size->(W.putObj q.heap.size (.deferred none)).heap[k]?=W.heap[k]? :=λk e=>World.putObj_heap_other e
  have hx0:(W.putObj q.heap.size (.deferred none)).cell? ⟨w.heap.size,0,none⟩=some (.pointer none):=by
   rw[fq ((N _ (by omega)).trans h51)];rfl
  have hx1:(W.putObj q.heap.size (.deferred none)).cell? ⟨w.heap.size+1,0,none⟩=some (.bool false):=by
   rw[fq ((N _ (by omega)).trans h52)];rfl
  refine⟨by simp,.inl ⟨_,_,rfl,run_takeDeferred hK,?_⟩⟩;exact⟨.tuple #[.pointer none,.bool false],by simp[results,Tryz.results42,go_sem,hx0,hx1],.inl ⟨rfl,hlow.trans (belowK_b (w:=w) (aC _) W q.heap.size _ _ (by omega) hK rfl rfl)⟩⟩
end
section
open Go.Proofs.Tryz Go.Sort Go.Shelf
variable{s k t v n:Int}
theorem abB{a:Sx}{i f:Nat}{S:Nat->Prop}{W b:World}(h:Rn a f S W b)(c:YU a (i+1)):YV i f S W b (.returned (.bool true)):=acQ c h
section
variable{st:Sx}{i f g:Nat}{S:Nat->Prop}{W:World}
theorem ad2{a b d:Int}(C:PE st f S W)(H:YU st i)(q:W.heap[g]?=some (.cells ([a,b,d].map (Value.int .i64)).toArray 3))(B:¬S g)(w:ZJ a)(m:ZJ b)(hd:ZJ d):
  Calls prog 92 #[.pointer (some ⟨f,0,none⟩),.agg #[.string ⟨#[102,101,100]⟩,.slice (some ⟨g,0,none⟩) 3 3]] W λe l=>YV i f S W l e:=by
 have p:=(ax.1 q).1
 by_cases h:0<=a/\0<=b/\0<=d
 .refine(Ph C q B ⟨h.1,w.2⟩ ⟨h.2.1,m.2⟩ ⟨h.2.2,hd.2⟩).mono ?_;rintro e l ⟨rfl,y⟩;obtain⟨⟨E,F,G,a4,a5,a6,z,x,A,u,o,r⟩,t1,t2⟩:=H;exact abB y ⟨⟨E,F,G,⟨h.2.2,hd.2⟩,⟨h.1,w.2⟩,⟨h.2.1,m.2⟩,z,x,A,u,o,r⟩,t1,Nat.le_succ_of_le t2⟩
 .refine(acn f g 0 3 (λb l=>YV i f S W l (.returned (.bool b))) W (λI j=>?_)).mono (by rintro e l ⟨b,rfl,h⟩;exact h);have c:=(j.block g p).trans q;refine(abY f g 0 3 a b d I (by omega) (aI c 0 rfl) (aI c 1 rfl) (aI c 2 rfl)).mono ?_;rintro e l ⟨rfl,m⟩;exact⟨false,rfl,.inl ⟨rfl,Turned.of_below (j.trans (m.mono j.size))⟩⟩
theorem abb(G:PE st f S W)(a:W.heap[g]?=some (.cells ([s,k,t,v,n].map (Value.int .i64)).toArray 3))
  (H:∀bj q y p u r j,az j f bj q y p st.f0 st.f1 u r st.x st.L st.L->∃c,Calls prog 164 #[.pointer (some ⟨bj,0,none⟩),.int .i64 s,.agg #[.int .i64 k,.int .i64 t,.int .i64 v],.int .i64 n] j λe b=>e=.returned (.iface 24 (.int .i64 c))/\Below j.heap.size j b):
  Calls prog 92 #[.pointer (some ⟨f,0,none⟩),.agg #[.string ⟨#[114,111,119]⟩,.slice (some ⟨g,0,none⟩) 5 5]] W λe b=>YV i f S W b e:=by
 obtain⟨bj,q,y,p,u,r,h,hS⟩:=G;have m:=(ax.1 a).1;refine(abH (λg off n c k t v w a E F B C A=>LB g off n c k t v w a E F B C A) f bj g 0 s k t v n (λb=>Below W.heap.size W b) W m h.blt (aI a 0 rfl) (aI a 1 rfl) (aI a 2 rfl) (aI a 3 rfl) (aI a 4 rfl) h.cells.2.2.2.1 (λV z=>?_) (λj d=>?_)).mono ?_
 .have l:=(z.block g m).trans a;exact⟨(h.below z).cells.2.2.2.1,aI l 0 rfl,aI l 4 rfl⟩
 .obtain⟨c,I⟩:=H bj q y p u r j (h.below d);refine I.mono ?_;rintro e b ⟨rfl,o⟩;exact⟨c,rfl,d.trans (o.mono d.size)⟩
 .rintro e b ⟨rfl,o⟩;exact .inl ⟨rfl,Turned.of_below o⟩
theorem ad3(c:PE st f S W)(z:YU st i)(b:W.heap[g]?=some (.cells ([s,k,t,v,n].map (Value.int .i64)).toArray 3))(N:¬S g)(w:ZJ n):
  Calls prog 92 #[.pointer (some ⟨f,0,none⟩),.agg #[.string ⟨#[114,111,119]⟩,.slice (some ⟨g,0,none⟩) 5 5]] W λe B=>YV i f S W B e:=by
 by_cases hs0:s=0
 .subst hs0
  by_cases hgd:au k t v=true
  .by_cases hm:0<=n
   .by_cases hL:st.x.R0.length<300
    .refine(Lp Pq c b N z.sv.s0 hL hgd hm).mono ?_;rintro e B ⟨rfl,H⟩;obtain⟨⟨K,L,E,G,F,I,C,A,M,u,m,p⟩,t1,t2⟩:=z;refine abB H ⟨⟨K,L,E,G,F,I,qX k t v n C,A,by show(bT _ _ _).length<=_;rw[xK];omega,u,λy o=>?_,p⟩,t1,Nat.le_succ_of_le t2⟩
     rcases dM.1 ((Gh _ _ _).subset o)with rfl|o
     .exact⟨hgd,hm,w.2⟩
     .exact m y o
    .exact abb c b (λbj j l h r q a d=>⟨12,ac3 0 bj j l h st.x k t v n a d.join (by omega) hgd hm⟩)
   .exact abb c b (λbj j l h r q a d=>⟨1,ab5 bj k t v n a (.inr (by omega))⟩)
  .exact abb c b (λbj j l h r q a d=>⟨1,ab5 bj k t v n a (.inl (by simpa using hgd))⟩)
 .by_cases hs1:s=1
  .subst hs1
   by_cases hgd:au k t v=true
   .by_cases hm:0<=n
    .by_cases hL:st.x.R1.length<300
     .refine(Ls Pq c b N z.sv.s1 hL hgd hm).mono ?_;rintro e B ⟨rfl,H⟩;obtain⟨⟨K,L,E,G,F,I,C,A,M,u,m,p⟩,t1,t2⟩:=z;refine abB H ⟨⟨K,L,E,G,F,I,C,qX k t v n A,M,by show(bT _ _ _).length<=_;rw[xK];omega,m,λy o=>?_⟩,t1,Nat.le_succ_of_le t2⟩
      rcases dM.1 ((Gh _ _ _).subset o)with rfl|o
      .exact⟨hgd,hm,w.2⟩
      .exact p y o
     .exact abb c b (λbj j l h r q a d=>⟨12,ac4 0 bj j l h st.x k t v n a d.join (by omega) hgd hm⟩)
    .exact abb c b (λbj j l h r q a d=>⟨1,ab6 bj k t v n a (.inr (by omega))⟩)
   .exact abb c b (λbj j l h r q a d=>⟨1,ab6 bj k t v n a (.inl (by simpa using hgd))⟩)
  .exact abb c b (λbj j l h r q a d=>⟨1,adt bj s k t v n a (by unfold bM;simp[hs0,hs1])⟩)
theorem acu(u:PE st f S W)(c:YU st i)(hi:i<=100000)(o:O)(m:(au o.lk o.lt o.lv=true/\au o.rk o.rt o.rv=true/\(o.hl=true->o.hr=true->o.lk=o.rk))->iK o)(d:World)(a:Below W.heap.size W d):
  Calls prog 166 #[.pointer (some ⟨f,0,none⟩),vO o] d λe j=>∃b,e=.returned (.bool b)/\YV i f S W j (.returned (.bool b)):=by
 by_cases h:au o.lk o.lt o.lv=true/\au o.rk o.rt o.rv=true/\(o.hl=true->o.hr=true->o.lk=o.rk)
 .refine(yB u o (jB (m h)) (aH c.len hi) h.1 h.2.1 h.2.2 d a).mono ?_;rintro e j ⟨rfl,p⟩;refine⟨true,rfl,abB p ⟨c.sv,λq l=>?_,by show(o::st.L).length<=_;rw[List.length_cons];exact Nat.succ_le_succ c.len⟩⟩
  rcases dM.1 l with rfl|l
  .exact m h
  .exact c.tell q l
 .refine(abZ f o d ?_).mono ?_
  .cases h1:au o.lk o.lt o.lv
   .exact .inl rfl
   .cases h2:au o.rk o.rt o.rv
    .exact .inr (.inl rfl)
    .refine .inr (.inr ?_)
     by_cases h3:o.hl=true
     .by_cases h4:o.hr=true
      .by_cases h5:o.lk=o.rk
       .exact absurd ⟨h1,h2,λ_ _=>h5⟩ h
       .exact⟨h3,h4,h5⟩
      .exact absurd ⟨h1,h2,λ_ h=>absurd h h4⟩ h
     .exact absurd ⟨h1,h2,λh=>absurd h h3⟩ h
  .rintro e j ⟨rfl,r⟩;exact⟨false,rfl,.inl ⟨rfl,Turned.of_below (a.trans (r.mono a.size))⟩⟩
theorem ad4{hd:ByteArray}{ns:List Int}(p:PE st f S W)(r:YU st i)(hi:i<=100000)(y:jN hd ns.length)(o:∀n∈ns,ZJ n)(l:W.heap[g]?=some (.cells (ns.map (Value.int .i64)).toArray 3))(x:¬S g):
  Calls prog 92 #[.pointer (some ⟨f,0,none⟩),.agg #[.string hd,.slice (some ⟨g,0,none⟩) ns.length ns.length]] W λe j=>YV i f S W j e:=by
 have q:=(ax.1 l).1
 have same:∀m,Below W.heap.size W m->YV i f S W m (.returned (.bool true)):=λm c=>by
  obtain⟨bj,bm,v0,v1,om,Sg,h,C⟩:=p;exact acQ (r.more (by omega)) (uu (h.below c) C c (Turned.of_below (iL _ _)) (λk e=>.inl e))
 generalize hl:ns.length=k at y
 cases y with
 |plan=>exact(aco f g 0 3 3 (λj=>YV i f S W j (.returned (.bool true))) W same).mono (by rintro e j ⟨rfl,h⟩;exact h)
 |fed=>
  obtain⟨a,b,d,rfl⟩:=aes hl;exact ad2 p r l x (o a (by simp)) (o b (by simp)) (o d (by simp))
 |marks=>
  obtain⟨a,b,rfl⟩:=afO hl;exact ac6 p r l x
 |row=>
  obtain⟨s,k,t,v,n,rfl⟩:=afP hl;exact ad3 p r l x (o n (by simp))
 |left=>
  obtain⟨k,t,v,rfl⟩:=aes hl;refine(abV Pq f g 0 k t v (λb j=>YV i f S W j (.returned (.bool b))) W q (aI l 0 rfl) (aI l 1 rfl) (aI l 2 rfl) (λm c=>?_)).mono (by rintro e j ⟨b,rfl,h⟩;exact h);exact acu p r hi (bn 0 k t v) (λh=>.left k t v h.1) m c
 |right=>
  obtain⟨k,t,v,rfl⟩:=aes hl;refine(abG Pq f g 0 k t v (λb j=>YV i f S W j (.returned (.bool b))) W q (aI l 0 rfl) (aI l 1 rfl) (aI l 2 rfl) (λm c=>?_)).mono (by rintro e j ⟨b,rfl,h⟩;exact h);exact acu p r hi (bn 1 k t v) (λh=>.right k t v h.2.1) m c
 |pair=>
  obtain⟨k,t,v,w,t2,u,rfl⟩:=afQ hl;refine(abX Pq f g 0 k t v w t2 u (λb j=>YV i f S W j (.returned (.bool b))) W q (aI l 0 rfl) (aI l 1 rfl) (aI l 2 rfl) (aI l 3 rfl) (aI l 4 rfl) (aI l 5 rfl) (λm c=>?_)).mono (by rintro e j ⟨b,rfl,h⟩;exact h);refine acu p r hi ⟨k,k,t,v,w,t2,u,true,true⟩ (λh=>?_) m c;obtain⟨B,z,A⟩:=h;have e:k=w:=A rfl rfl;subst e;exact .pair k t v t2 u B z
 |fin=>exact(EL f g 0 0 (λj=>YV i f S W j (.returned (.bool true))) W same).mono (by rintro e j ⟨rfl,h⟩;exact h)
end
end
section
open Go.Proofs.Tryz Go.Joins Go.Sort Go.Shelf
theorem ac7{W:World}(h:aU W)(y:List UInt8)(d:y.length<=1000000):Calls prog 161 #[.string (bW y)] W λe a=>(∃n,ZJ n/\e=.returned (.tuple #[.int .i64 n,.nilIface])/\Below W.heap.size W a)∨∃n t u,e=.returned (.tuple #[.int .i64 n,.iface t u])/\Below W.heap.size W a:=by
 have hs:(bW y).size<=1000000:=by show y.toArray.size<=_;simpa using d
 obtain⟨j,k,c⟩:=h.e5;obtain⟨f,i,g⟩:=h.e6
 cases hr:Lib.atoiAll (bW y).data.toList with
 |ok v=>
  refine(Tryz.strconv_Atoi_ok (bW y) (by omega) v hr W).mono ?_;rintro e a ⟨rfl,rfl|⟨t,rfl⟩⟩
  .exact .inl ⟨v,Lib.atoiAll_bounds hr,rfl,iL _ _⟩
  .exact .inl ⟨v,Lib.atoiAll_bounds hr,rfl,below_bytesWorld _ _ _ _ (aC _)⟩
 | «syntax» =>
  refine(Tryz.strconv_Atoi_syntax (bW y) (by omega) hr j W k c).mono ?_;rintro e a ⟨N,rfl,_,_,b⟩;exact .inr ⟨_,_,_,rfl,b⟩
 |range=>
  refine(Tryz.strconv_Atoi_range (bW y) (by omega) hr f W i g).mono ?_;rintro e a ⟨N,rfl,_,_,b⟩;exact .inr ⟨_,_,_,rfl,b⟩
def ZN(s:ByteArray)(x:J)(f0 f1:Int)(Z:List O):Prop:=DI x f0 f1/\(∀o∈Z,iK o)/\bJ Z/\Z.length<=5000/\(bN x f0 f1 Z).length<=60000/\s=⟨(bN x f0 f1 Z).toArray⟩
theorem ac8(s:ByteArray)(C:s.size<=60000)(w:World)(M:aU w):
  Calls prog 42 #[.string s] w λe j=>(e=.returned (.tuple #[.pointer none,.bool false])/\Below w.heap.size w j)∨∃be S st,e=.returned (.tuple #[.pointer (some ⟨be,0,none⟩),.bool true])/\PE st be S j/\YU st 60001/\(∀k,S k->w.heap.size<=k/\k<j.heap.size)/\Below w.heap.size w j:=by
 refine(adz (λs c w=>Tryz.strings_Index_one s c w) (λs p w C=>Tryz.strings_TrimSuffix s p w C) (λi be S W=>∃st,PE st be S W/\YU st i) ?_ (λhd ns=>jN hd ns.length/\∀n∈ns,ZJ n) s (by omega) w ?_ ?_ ?_).mono ?_
 .rintro i be S W W' ⟨st,r,F⟩ H d;exact⟨st,cz _ be S W W' r H d,F⟩
 .intro x B W h10 U z P N;refine(adw x U B W P N ?_ (λy V l T=>ac7 ((M.below z).below l) y T)).mono ?_
  .intro s sep V l C r;obtain⟨m,Y⟩:=((M.below z).below l).g.max;exact Tryz.strings_Split s sep m V C Y r
  .rintro e j (⟨rfl,f⟩|⟨hd,k,d,ns,g,rfl,q,rfl,r,F,I⟩)
   .exact .inl ⟨rfl,f⟩
   .exact .inr ⟨hd,ns,g,⟨d,q⟩,rfl,r,F,I⟩
 .rintro hd ns g W ⟨t,q⟩ z o;have u:=(ax.1 o).1
  by_cases hp:hd=⟨#[112,108,97,110]⟩
  .subst hp
   have I:ns.length=3:=by
    generalize ns.length=k at t;generalize e:(⟨#[112,108,97,110]⟩:ByteArray)=b at t
    cases t <;>first|rfl|exact absurd (congrArg (λb:ByteArray=>b.data.toList) e) (by decide)
   obtain⟨a,b,m,rfl⟩:=aes I
   by_cases hpl:dn a b m
   .refine(Py g 0 3 a b m (λbe V=>∃S,PE ⟨⟨a,b,m,-1099511627777,-1099511627777,0,[],[]⟩,0,0,[]⟩ be S V/\(∀k,S k->W.heap.size<=k/\k<V.heap.size)/\Below W.heap.size W V) W u (aI o 0 rfl) (aI o 1 rfl) (aI o 2 rfl) ?_ ?_).mono ?_
    .rintro be V R ⟨S,G,v,A⟩ f;exact⟨S,cz _ be S V R G f.size (λk d=>f.block k (v k d).2),λk d=>⟨(v k d).1,aR (v k d).2 f.size⟩,A.trans (f.mono A.size)⟩
    .intro V l;have Q:=l.size;refine(JM a b m V hpl).mono ?_;rintro e j ⟨be,bj,B,rfl,L,b1,b2,b3,f⟩;refine⟨be,rfl,⟨aT bj B (.slice none 0 0) (.slice none 0 0) none (λk=>k=be),⟨bj,B,_,_,_,_,L,λ_=>Iff.rfl⟩,λk d=>⟨?_,L.lt d⟩,l.trans (f.mono Q)⟩,f⟩
     rcases d with(d|d|d|d)|d|d
     .omega
     .omega
     .simp[Value.ownBlock]at d
     .simp[Value.ownBlock]at d
     .cases d
     .have:k=be:=d;omega
    .rintro e j ⟨be,rfl,S,G,v,A⟩
     refine .inr ⟨be,S,rfl,⟨_,G,⟨⟨hpl,?_,?_,?_,?_,?_,?_,?_,?_,?_,?_,?_⟩,?_,?_⟩⟩,v,A⟩ <;>simp[ay]
   .refine(adC g 0 3 a b m W u (aI o 0 rfl) (aI o 1 rfl) (aI o 2 rfl) hpl).mono ?_;rintro e j ⟨rfl,f⟩;exact .inl ⟨rfl,f⟩
  .have e:hd=bW hd.data.toList:=by cases hd;simp
   have E:hd.data.toList≠[112,108,97,110]:=λh=>hp (by rw[e,h])
   have:=acP hd.data.toList g 0 ns.length ns.length W E;rw[<-e]at this;refine this.mono ?_;rintro e j ⟨rfl,f⟩;exact .inl ⟨rfl,f⟩
 .rintro i hd ns be S g W hi ⟨t,q⟩ z ⟨st,K,l⟩ o X;exact ad4 K l (by omega) t q o X
 .rintro e j (⟨rfl,f⟩|⟨i,be,S,hi,rfl,⟨st,K,l⟩,Z,f⟩)
  .exact .inl ⟨rfl,f⟩
  .exact .inr ⟨be,S,st,rfl,K,l.more (by omega),Z,f⟩
theorem aeh(s:ByteArray)(A:s.size<=60000)(j:¬∃x f0 f1 Z,ZN s x f0 f1 Z)(w:World)(n:aU w):
  Calls prog 8 #[.string s] w λe c=>e=.returned (.tuple #[.pointer none,.iface 24 (.int .i64 3)])/\Below w.heap.size w c:=by
 have p:=ac8 s A w n
 have q:Hid (∀be W,Hid (∃S st,PE st be S W/\YU st 60001/\(∀k,S k->w.heap.size<=k/\k<W.heap.size)/\Below w.heap.size w W)->Calls prog 18 #[.pointer (some ⟨be,0,none⟩)] W λe c=>(∃u,e=.returned (.tuple #[.string u,.iface 24 (.int .i64 4)])/\Hid (Below w.heap.size w c))∨∃u,e=.returned (.tuple #[.string u,.nilIface])/\(u.toList==s.toList)=false/\Hid (Below w.heap.size w c)):=by
  intro be W F;obtain⟨S,st,E,l,hS,f⟩:=F.out;obtain⟨Z,r,h⟩:=adu st.L;have:=NR (x:=st.x) (f0:=st.f0) (f1:=st.f1) (L:=st.L) E (n.g.below f) l.sv l.tell r h
  by_cases hlim:5000<st.L.length∨60000<(bN st.x st.f0 st.f1 Z).length
  .rw[if_pos hlim]at this;refine this.mono ?_;rintro e c ⟨rfl,a⟩;exact .inl ⟨_,rfl,f.trans (a.mono f.size)⟩
  .rw[if_neg hlim]at this;refine this.mono ?_;rintro e c ⟨rfl,a⟩;refine .inr ⟨_,rfl,?_,f.trans (a.mono f.size)⟩
   have m:(⟨(bN st.x st.f0 st.f1 Z).toArray⟩:ByteArray)≠s:=λe=>j ⟨st.x,st.f0,st.f1,Z,l.sv,λo B=>l.tell o (r.subset B),h,by rw[r.length_eq];omega,by omega,e.symm⟩
   have C:(⟨(bN st.x st.f0 st.f1 Z).toArray⟩:ByteArray).toList≠s.toList:=λe=>m (by
    rw[ByteArray.toList_eq,ByteArray.toList_eq]at e
    cases s with
    |mk d=>simp only at e;congr 1;rw[<-Array.toList_inj];exact e)
   simpa using C
 have i0:(s.size:Int)<=60000:=by omega
 have hq:=GG 4;clear A j n;go_enter func8,ntmps8;go_wp2_with fail;refine p.mono ?_;rintro e G (⟨rfl,a⟩|⟨be,S,st,rfl,z,t,b,y⟩)
 .have i:=hid a;clear p q a;go_wp2;exact ja (v:= .tuple #[.pointer none,.iface 24 (.int .i64 3)]) (by simp[results,Tryz.results8,go_sem]) rfl ⟨rfl,i.out⟩
 .have i:=q.out be G ⟨S,st,z,t,b,y⟩;clear p q z t b y;go_wp2_with fail;refine i.mono ?_;rintro e w3 (⟨u,rfl,b⟩|⟨u,rfl,hu,b⟩)
  .clear i;go_wp2;exact ja (v:= .tuple #[.pointer none,.iface 24 (.int .i64 3)]) (by simp[results,Tryz.results8,go_sem]) rfl ⟨rfl,b.out⟩
  .clear i;go_wp2;exact ja (v:= .tuple #[.pointer none,.iface 24 (.int .i64 3)]) (by simp[results,Tryz.results8,go_sem]) rfl ⟨rfl,b.out⟩
end
end Go.Proofs.YthfpipieboophaaGreatDoor
