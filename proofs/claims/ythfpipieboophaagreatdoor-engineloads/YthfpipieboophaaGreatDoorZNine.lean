import Derived.Test.YthfpipieboophaaGreatDoorZRfa
import Derived.Test.YthfpipieboophaaGreatDoorZSymr
import Derived.Test.YthfpipieboophaaGreatDoorZShelfP
namespace Go.Proofs.YthfpipieboophaaGreatDoor
set_option maxRecDepth 100000
set_option maxHeartbeats 40000000
open Go.Joins Go.RowKit Go.Sort
section
open Go.Proofs.Tryz
theorem info3:(prog.info? 3).map (λi=>(i.zero,i.size,i.bytes))=some (some (.int .i64 0),1,8):=by kernel_rfl
theorem rX{w:World}{g base n:Nat}{cs:List Value}(b:w.heap[g]?=some (.cells cs.toArray 3))(a:base<=g)(c:cs.length=n)(h:n<=1000):w.ownsRow base 3 1 (.slice (some ⟨g,0,none⟩) n n) n cs:=
 ⟨by omega,.inr ⟨g,n,cs.toArray,rfl,a,b,aC _,by unfold maxLen;omega,by simp[c],by rw[dA (by simp;omega)]⟩⟩
theorem SY(w:World)(b a c d:Obj):((((w.alloc b).alloc a).alloc c).alloc d).heap[w.heap.size+1]?=some a/\((((w.alloc b).alloc a).alloc c).alloc d).heap[w.heap.size+1+1]?=some c/\((((w.alloc b).alloc a).alloc c).alloc d).heap[w.heap.size+1+1+1]?=some d:=by
 have e:=eZ (w.alloc b) a;have f:=eZ ((w.alloc b).alloc a) c;have g:=eZ (((w.alloc b).alloc a).alloc c) d;simp only[World.size_alloc]at e f g;refine⟨?_,?_,g⟩
 .rw[gL _ _ _ (by simp),gL _ _ _ (by simp)];exact e
 .rw[gL _ _ _ (by simp)];exact f
theorem PR(w:World)(d e:Obj)(k h a b c:Int):
  ((((w.alloc d).alloc (.cells #[.int .i64 k,.int .i64 h] 3)).alloc e).alloc (.cells #[.int .i64 a,.int .i64 b,.int .i64 c] 3)).drew.ownsRow (w.heap.size+1) 3 1 (.slice (some ⟨w.heap.size+1,0,none⟩) 2 2) 2 [.int .i64 k,.int .i64 h]/\
  ∀j u,[Value.int .i64 a,.int .i64 b,.int .i64 c][j]?=some u->((((w.alloc d).alloc (.cells #[.int .i64 k,.int .i64 h] 3)).alloc e).alloc (.cells #[.int .i64 a,.int .i64 b,.int .i64 c] 3)).drew.cell? ((⟨w.heap.size+1+1+1,0,none⟩:Addr).add j)=some u:=
 ⟨(rX (n:=2) (SY w d _ e _).1 (by omega) rfl (by omega)).drew,World.news_of_block (w:=((((w.alloc d).alloc (.cells #[.int .i64 k,.int .i64 h] 3)).alloc e).alloc (.cells #[.int .i64 a,.int .i64 b,.int .i64 c] 3)).drew) (SY w d _ e _).2.2⟩
theorem PS(w:World)(d e:Obj)(k h a b c:Int):
  ((((w.alloc d).alloc e).alloc (.cells #[.int .i64 a,.int .i64 b,.int .i64 c] 3)).alloc (.cells #[.int .i64 k,.int .i64 h] 3)).drew.ownsRow (w.heap.size+1) 3 1 (.slice (some ⟨w.heap.size+1+1+1,0,none⟩) 2 2) 2 [.int .i64 k,.int .i64 h]/\
  ∀j u,[Value.int .i64 a,.int .i64 b,.int .i64 c][j]?=some u->((((w.alloc d).alloc e).alloc (.cells #[.int .i64 a,.int .i64 b,.int .i64 c] 3)).alloc (.cells #[.int .i64 k,.int .i64 h] 3)).drew.cell? ((⟨w.heap.size+1+1,0,none⟩:Addr).add j)=some u:=
 ⟨(rX (n:=2) (SY w d e _ _).2.2 (by omega) rfl (by omega)).drew,World.news_of_block (w:=((((w.alloc d).alloc e).alloc (.cells #[.int .i64 a,.int .i64 b,.int .i64 c] 3)).alloc (.cells #[.int .i64 k,.int .i64 h] 3)).drew) (SY w d e _ _).2.1⟩
theorem LP(x:O)(w a:World)(b:Below (w.heap.size+1) (w.alloc (.cells #[.int .i64 x.k,.int .i64 x.lk,.int .i64 x.lt,.int .i64 x.lv,.int .i64 x.rk,.int .i64 x.rt,.int .i64 x.rv,.bool x.hl,.bool x.hr] 89)) a):
  a.cell? ⟨w.heap.size,0,none⟩=some (.int .i64 x.k)/\a.cell? ⟨w.heap.size,1,none⟩=some (.int .i64 x.lk)/\a.cell? ⟨w.heap.size,2,none⟩=some (.int .i64 x.lt)/\a.cell? ⟨w.heap.size,3,none⟩=some (.int .i64 x.lv)/\a.cell? ⟨w.heap.size,4,none⟩=some (.int .i64 x.rk)/\a.cell? ⟨w.heap.size,5,none⟩=some (.int .i64 x.rt)/\a.cell? ⟨w.heap.size,6,none⟩=some (.int .i64 x.rv)/\a.cell? ⟨w.heap.size,7,none⟩=some (.bool x.hl)/\a.cell? ⟨w.heap.size,8,none⟩=some (.bool x.hr):=by
 have h:=λ(o:Nat)=>b.cell (p:=⟨w.heap.size,o,none⟩) (by simp)
 simp only[h];simp
set_option linter.unusedSimpArgs false
theorem Bf(x:O)(w:World):
  Calls prog 127 #[.agg #[.int .i64 x.k,.int .i64 x.lk,.int .i64 x.lt,.int .i64 x.lv,.int .i64 x.rk,.int .i64 x.rt,.int .i64 x.rv,.bool x.hl,.bool x.hr]] w λe a=>∃g cap,e=.returned (.slice (some ⟨g,0,none⟩) 9 cap)/\Below w.heap.size w a/\a.ownsRow (w.heap.size+1) 3 1 (.slice (some ⟨g,0,none⟩) 9 cap) 9 ((lO x).map (Value.int .i64)):=by
 obtain⟨z,j,l,m,i⟩:=je info3;go_enter func127,ntmps127;go_wp2
 go_region_held3 (λa=>a.cell? ⟨w.heap.size,0,none⟩=some (.int .i64 x.k)/\a.cell? ⟨w.heap.size,1,none⟩=some (.int .i64 x.lk)/\a.cell? ⟨w.heap.size,2,none⟩=some (.int .i64 x.lt)/\a.cell? ⟨w.heap.size,3,none⟩=some (.int .i64 x.lv)/\a.cell? ⟨w.heap.size,4,none⟩=some (.int .i64 x.rk)/\a.cell? ⟨w.heap.size,5,none⟩=some (.int .i64 x.rt)/\a.cell? ⟨w.heap.size,6,none⟩=some (.int .i64 x.rv)/\a.cell? ⟨w.heap.size,7,none⟩=some (.bool x.hl)/\a.cell? ⟨w.heap.size,8,none⟩=some (.bool x.hr)) (first|(go_keep;done)|(simp(disch:=first|omega|(simp only[World.size_alloc];done)|(simp only[World.size_alloc];omega)) only[World.cell?_drew,World.cell?_drewN,World.cell?_alloc_past,World.cell?_alloc_at];simp;done)|(exact LP x w _ (Below.grown (B:=w.heap.size+1) (((((iL _ _).alloc (by simp) _).alloc (by simp) _).alloc (by simp) _).drew) d (by simp) (λk q=>by simp only[Value.ownBlock,Option.some.injEq]at q;omega))))
  (first
   |(go_at_call 56;refine(jF _ _).mono ?_;rintro e a ⟨rfl,rfl⟩)
   |(go_at_call 55;refine(oK _ _ _ _).mono ?_;rintro e a ⟨rfl,rfl⟩)
   |(refine step_append_lies _ (by rfl) _ _ _ (by rfl) (w.heap.size+1) 3 z _ 1 8 underlying84 j l m i rfl (by omega) (.slice (some ⟨w.heap.size+1,0,none⟩) 2 2) 2 [.int .i64 x.k,.int .i64 (gY x.hl)] (by rfl) ?_ ⟨w.heap.size+1+1+1,0,none⟩ 3 3 [.int .i64 x.lk,.int .i64 x.lt,.int .i64 x.lv] (by rfl) (by rfl) ?_ (by simp[Value.oneCell']) (by omega) (by decide) (by omega) (by simp) _ rfl ?_;(exact(PR w _ _ _ _ _ _ _).1);(exact(PR w _ _ _ _ _ _ _).2);intro g cap r b d v E)
   |(refine step_append_lies _ (by rfl) _ _ _ (by rfl) (w.heap.size+1) 3 z _ 1 8 underlying84 j l m i rfl (by omega) (.slice (some ⟨w.heap.size+1+1+1,0,none⟩) 2 2) 2 [.int .i64 x.k,.int .i64 (gY x.hl)] (by rfl) ?_ ⟨w.heap.size+1+1,0,none⟩ 3 3 [.int .i64 x.lk,.int .i64 x.lt,.int .i64 x.lv] (by rfl) (by rfl) ?_ (by simp[Value.oneCell']) (by omega) (by decide) (by omega) (by simp) _ rfl ?_;(exact(PS w _ _ _ _ _ _ _).1);(exact(PS w _ _ _ _ _ _ _).2);intro g cap r b d v E)
   |fail)
 all_goals
  have A:Below (w.heap.size+1) (w.alloc (.cells #[.int .i64 x.k,.int .i64 x.lk,.int .i64 x.lt,.int .i64 x.lv,.int .i64 x.rk,.int .i64 x.rt,.int .i64 x.rv,.bool x.hl,.bool x.hr] 89)) r:=Below.grown (((((iL _ _).alloc (by simp) _).alloc (by simp) _).alloc (by simp) _).drew) d (by simp) (λk q=>by simp only[Value.ownBlock,Option.some.injEq]at q;omega)
  have s:w.heap.size+1<=r.heap.size:=by have:=A.size;simpa using this
  clear d v
  replace b:r.ownsRow (w.heap.size+1) 3 1 (.slice (some ⟨g,0,none⟩) 5 cap) 5 [.int .i64 x.k,.int .i64 (gY x.hl),.int .i64 x.lk,.int .i64 x.lt,.int .i64 x.lv]:=b
  go_wp2
  go_region_held3 (λa=>a.cell? ⟨w.heap.size,0,none⟩=some (.int .i64 x.k)/\a.cell? ⟨w.heap.size,1,none⟩=some (.int .i64 x.lk)/\a.cell? ⟨w.heap.size,2,none⟩=some (.int .i64 x.lt)/\a.cell? ⟨w.heap.size,3,none⟩=some (.int .i64 x.lv)/\a.cell? ⟨w.heap.size,4,none⟩=some (.int .i64 x.rk)/\a.cell? ⟨w.heap.size,5,none⟩=some (.int .i64 x.rt)/\a.cell? ⟨w.heap.size,6,none⟩=some (.int .i64 x.rv)/\a.cell? ⟨w.heap.size,7,none⟩=some (.bool x.hl)/\a.cell? ⟨w.heap.size,8,none⟩=some (.bool x.hr)) (first|(go_keep;done)|(exact LP x w _ u)|(exact LP x w _ ((n.alloc y _).alloc (by simp;omega) _))|(exact LP x w _ n)|(exact LP x w _ ((A.alloc s _).drew))|(exact LP x w _ A.drew))
   (first
    |(go_at_call 56;refine(jF _ _).mono ?_;rintro e a ⟨rfl,rfl⟩)
    |(go_at_call 55;refine(oK _ _ _ _).mono ?_;rintro e a ⟨rfl,rfl⟩)
    |(refine step_append_lies _ (by rfl) _ _ _ (by rfl) (w.heap.size+1) 3 z _ 1 8 underlying84 j l m i rfl (by omega) (.slice (some ⟨g,0,none⟩) 5 cap) 5 [.int .i64 x.k,.int .i64 (gY x.hl),.int .i64 x.lk,.int .i64 x.lt,.int .i64 x.lv] (by rfl) ?_ ⟨r.heap.size,0,none⟩ 1 1 [.int .i64 (gY x.hr)] (by rfl) (by rfl) ?_ (by simp[Value.oneCell']) (by omega) (by decide) (by omega) ?_ _ rfl ?_;(exact(b.alloc _).drew);(exact World.news_of_block (cs:= #[.int .i64 (gY x.hr)]) (t:=3) (fr:=(0,0)) (eZ r _));(simp;omega);intro F o C c f G hlt2;have n:=Below.grown ((A.alloc s _).drew) f (by simp;omega) (λk q=>(b.lt k q).1);have y:w.heap.size+1<=C.heap.size:=(by have:=n.size;simpa using this);replace c:C.ownsRow (w.heap.size+1) 3 1 (.slice (some ⟨F,0,none⟩) 6 o) 6 [.int .i64 x.k,.int .i64 (gY x.hl),.int .i64 x.lk,.int .i64 x.lt,.int .i64 x.lv,.int .i64 (gY x.hr)]:=c;clear f G)
    |(refine step_append_lies _ (by rfl) _ _ _ (by rfl) (w.heap.size+1) 3 z _ 1 8 underlying84 j l m i rfl (by omega) (.slice (some ⟨F,0,none⟩) 6 o) 6 [.int .i64 x.k,.int .i64 (gY x.hl),.int .i64 x.lk,.int .i64 x.lt,.int .i64 x.lv,.int .i64 (gY x.hr)] (by rfl) ?_ ⟨C.heap.size+1,0,none⟩ 3 3 [.int .i64 x.rk,.int .i64 x.rt,.int .i64 x.rv] (by rfl) (by rfl) ?_ (by simp[Value.oneCell']) (by omega) (by decide) (by omega) ?_ _ rfl ?_;(exact(c.alloc _).alloc _);(exact World.news_of_block (cs:= #[.int .i64 x.rk,.int .i64 x.rt,.int .i64 x.rv]) (t:=3) (fr:=(0,0)) (heap_alloc2_new C _ _));(simp;omega);intro I H w3 p h SH hlt3;have u:=Below.grown ((n.alloc y _).alloc (by simp;omega) _) h (by simp;omega) (λk q=>(c.lt k q).1))
    |fail)
  go_wp2;go_ret;exact⟨I,H,rfl,(fC _ _).trans (u.mono (by omega)),p⟩
end
section
variable{w:World}
theorem P6(x y:O)(w a:World)(b:Below (w.heap.size+1+1) ((w.alloc (.cells #[.int .i64 x.k,.int .i64 x.lk,.int .i64 x.lt,.int .i64 x.lv,.int .i64 x.rk,.int .i64 x.rt,.int .i64 x.rv,.bool x.hl,.bool x.hr] 89)).alloc (.cells #[.int .i64 y.k,.int .i64 y.lk,.int .i64 y.lt,.int .i64 y.lv,.int .i64 y.rk,.int .i64 y.rt,.int .i64 y.rv,.bool y.hl,.bool y.hr] 89)) a):
  a.cell? ⟨w.heap.size,0,none⟩=some (.int .i64 x.k)/\a.cell? ⟨w.heap.size,1,none⟩=some (.int .i64 x.lk)/\a.cell? ⟨w.heap.size,2,none⟩=some (.int .i64 x.lt)/\a.cell? ⟨w.heap.size,3,none⟩=some (.int .i64 x.lv)/\a.cell? ⟨w.heap.size,4,none⟩=some (.int .i64 x.rk)/\a.cell? ⟨w.heap.size,5,none⟩=some (.int .i64 x.rt)/\a.cell? ⟨w.heap.size,6,none⟩=some (.int .i64 x.rv)/\a.cell? ⟨w.heap.size,7,none⟩=some (.bool x.hl)/\a.cell? ⟨w.heap.size,8,none⟩=some (.bool x.hr)/\a.cell? ⟨w.heap.size+1,0,none⟩=some (.int .i64 y.k)/\a.cell? ⟨w.heap.size+1,1,none⟩=some (.int .i64 y.lk)/\a.cell? ⟨w.heap.size+1,2,none⟩=some (.int .i64 y.lt)/\a.cell? ⟨w.heap.size+1,3,none⟩=some (.int .i64 y.lv)/\a.cell? ⟨w.heap.size+1,4,none⟩=some (.int .i64 y.rk)/\a.cell? ⟨w.heap.size+1,5,none⟩=some (.int .i64 y.rt)/\a.cell? ⟨w.heap.size+1,6,none⟩=some (.int .i64 y.rv)/\a.cell? ⟨w.heap.size+1,7,none⟩=some (.bool y.hl)/\a.cell? ⟨w.heap.size+1,8,none⟩=some (.bool y.hr):=by
 have h:=λ(B o:Nat) (c:B<w.heap.size+1+1)=>b.cell (p:=⟨B,o,none⟩) c
 simp(disch:=omega) only[h];simp
theorem yM{base g cap:Nat}{zs:List Int}(h:w.ownsRow base 3 1 (.slice (some ⟨g,0,none⟩) 9 cap) 9 (zs.map (Value.int .i64)))(hl:zs.length=9):
  ∀j,j<9->w.cell? ⟨g,j,none⟩=some (.int .i64 (zs.getD j 0)):=by
 intro j hj;rw[World.ownsRow.cellAt h j (by omega)];simp[aO (show j<zs.length by omega)]
theorem Vv(x y:O)(c c1 b a d g:Nat)(w:World)
  (p:w.ownsRow d 3 1 (.slice (some ⟨c,0,none⟩) 9 c1) 9 ((lO x).map (Value.int .i64))) (q:w.ownsRow g 3 1 (.slice (some ⟨b,0,none⟩) 9 a) 9 ((lO y).map (Value.int .i64))):
  Calls Tryz.prog 119 #[.slice (some ⟨c,0,none⟩) 9 c1,.slice (some ⟨b,0,none⟩) 9 a] w λe f=>e=.returned (.int .i64 (cO x y))/\∃m,f=w.drewN m:=by
 rw[xE];exact yN (lO x) (lO y) 9 c c1 b a w rfl rfl (by omega) (yM p rfl) (yM q rfl)
theorem own_below{B:Nat}{v:Value}{n:Nat}{xs:List Value}{a:World}(h:w.ownsRow B 3 1 v n xs)(b:Below w.heap.size w a):a.ownsRow B 3 1 v n xs:=by
 refine⟨h.1,?_⟩
 rcases h.2 with hn|⟨g,cap,cur,hv,hB,hg,rest⟩
 .exact .inl hn
 .refine .inr ⟨g,cap,cur,hv,hB,?_,rest⟩;rw[b.block g ?_];exact hg
  rcases Nat.lt_or_ge g w.heap.size with h'|h'
  .exact h'
  .rw[Array.getElem?_eq_none h']at hg;cases hg
theorem Ff(x y:O)(w:World):
  Calls Tryz.prog 71 #[.agg #[.int .i64 x.k,.int .i64 x.lk,.int .i64 x.lt,.int .i64 x.lv,.int .i64 x.rk,.int .i64 x.rt,.int .i64 x.rv,.bool x.hl,.bool x.hr],.agg #[.int .i64 y.k,.int .i64 y.lk,.int .i64 y.lt,.int .i64 y.lv,.int .i64 y.rk,.int .i64 y.rt,.int .i64 y.rv,.bool y.hl,.bool y.hr]] w λe a=>e=.returned (.int .i64 (cO x y))/\Below w.heap.size w a:=by
 go_enter Tryz.func71,Tryz.ntmps71;go_wp2
 go_region_held3 (λa=>a.cell? ⟨w.heap.size,0,none⟩=some (.int .i64 x.k)/\a.cell? ⟨w.heap.size,1,none⟩=some (.int .i64 x.lk)/\a.cell? ⟨w.heap.size,2,none⟩=some (.int .i64 x.lt)/\a.cell? ⟨w.heap.size,3,none⟩=some (.int .i64 x.lv)/\a.cell? ⟨w.heap.size,4,none⟩=some (.int .i64 x.rk)/\a.cell? ⟨w.heap.size,5,none⟩=some (.int .i64 x.rt)/\a.cell? ⟨w.heap.size,6,none⟩=some (.int .i64 x.rv)/\a.cell? ⟨w.heap.size,7,none⟩=some (.bool x.hl)/\a.cell? ⟨w.heap.size,8,none⟩=some (.bool x.hr)/\a.cell? ⟨w.heap.size+1,0,none⟩=some (.int .i64 y.k)/\a.cell? ⟨w.heap.size+1,1,none⟩=some (.int .i64 y.lk)/\a.cell? ⟨w.heap.size+1,2,none⟩=some (.int .i64 y.lt)/\a.cell? ⟨w.heap.size+1,3,none⟩=some (.int .i64 y.lv)/\a.cell? ⟨w.heap.size+1,4,none⟩=some (.int .i64 y.rk)/\a.cell? ⟨w.heap.size+1,5,none⟩=some (.int .i64 y.rt)/\a.cell? ⟨w.heap.size+1,6,none⟩=some (.int .i64 y.rv)/\a.cell? ⟨w.heap.size+1,7,none⟩=some (.bool y.hl)/\a.cell? ⟨w.heap.size+1,8,none⟩=some (.bool y.hr)) (first|(go_keep;done)|(exact P6 x y w _ h)|(exact P6 x y w _ c)|(exact P6 x y w _ d))
  (first
   |(go_at_call_of 127 y.k;refine(Bf y _).mono ?_;rintro e n ⟨g2,c2,rfl,b,l⟩;have c:=d.trans (b.mono f);have hy2:w.heap.size+1+1<=n.heap.size:=(aH f b.size);replace i:=own_below i b)
   |(go_at_call 127;refine(Bf x _).mono ?_;rintro e j ⟨g1,c1,rfl,g,i⟩;have d:Below (w.heap.size+1+1) ((w.alloc (.cells #[.int .i64 x.k,.int .i64 x.lk,.int .i64 x.lt,.int .i64 x.lv,.int .i64 x.rk,.int .i64 x.rt,.int .i64 x.rv,.bool x.hl,.bool x.hr] 89)).alloc (.cells #[.int .i64 y.k,.int .i64 y.lk,.int .i64 y.lt,.int .i64 y.lv,.int .i64 y.rk,.int .i64 y.rt,.int .i64 y.rv,.bool y.hl,.bool y.hr] 89)) j:=(iL _ _).drew.trans (g.mono (by simp));have f:w.heap.size+1+1<=j.heap.size:=(by have:=g.size;simpa using this))
   |(go_at_call 119;refine(Vv x y _ _ _ _ _ _ _ i l).mono ?_;rintro e w3 ⟨rfl,m,rfl⟩;have h:=below_drewN c m)
   |fail)
 go_wp2;go_ret;exact⟨rfl,(fK _ _ _).trans (h.mono (by omega))⟩
end
section
open Go.Proofs.Tryz Go.Shelf Go.Lib
variable{blk off n cap lbx:Nat}{d:Array O}{W:World}
structure LY(blk off n cap lbx:Nat)(d:Array O)(W:World):Prop where
 size:d.size=n
 row:HoldsK ah 9 W blk off d
 box:W.cell? ⟨lbx,0,none⟩=some (.slice (some ⟨blk,off,none⟩) n cap)
 lt:blk<W.heap.size
 blt:lbx<W.heap.size
 ne:lbx≠blk
 shape:∃cur,W.heap[blk]?=some (.cells cur 89 (0,0))/\cur.size=cap*9
theorem LY.kept{c:World}(h:LY blk off n cap lbx d W)(a:Go.RowKit.Below W.heap.size W c):LY blk off n cap lbx d c:=
 ⟨h.size,λj b=>⟨(a.cell (p:=⟨blk,off+j,none⟩) h.lt).trans (h.row j b).1,(a.frozen (p:=⟨blk,off+j,none⟩) h.lt).trans (h.row j b).2⟩,(a.cell (p:=⟨lbx,0,none⟩) h.blt).trans h.box,
  aR h.lt a.size,aR h.blt a.size,h.ne,h.shape.imp λ_ ⟨e,f⟩=>⟨(a.block _ h.lt).trans e,f⟩⟩
structure uU(W:World)(blk o:Nat)(x:O):Prop where
 c0:W.cell? ⟨blk,o,none⟩=some (.int .i64 x.k)
 c1:W.cell? ⟨blk,o+1,none⟩=some (.int .i64 x.lk)
 c2:W.cell? ⟨blk,o+2,none⟩=some (.int .i64 x.lt)
 c3:W.cell? ⟨blk,o+3,none⟩=some (.int .i64 x.lv)
 c4:W.cell? ⟨blk,o+4,none⟩=some (.int .i64 x.rk)
 c5:W.cell? ⟨blk,o+5,none⟩=some (.int .i64 x.rt)
 c6:W.cell? ⟨blk,o+6,none⟩=some (.int .i64 x.rv)
 c7:W.cell? ⟨blk,o+7,none⟩=some (.bool x.hl)
 c8:W.cell? ⟨blk,o+8,none⟩=some (.bool x.hr)
theorem LY.cells(h:LY blk off n cap lbx d W)(i:Nat)(hi:i<n):uU W blk (off+i*9) d[i]! :=by
 have c:=λ(u:Nat) (a:u<9)=>(HoldsK.cell h.row (i:=i) (c:=u) (by rw[h.size];exact hi) a).1
 exact⟨c 0 (by omega),c 1 (by omega),c 2 (by omega),c 3 (by omega),c 4 (by omega),c 5 (by omega),c 6 (by omega),c 7 (by omega),c 8 (by omega)⟩
theorem uU.all{o:Nat}{x:O}(h:uU W blk o x):W.cell? ⟨blk,o,none⟩=some (.int .i64 x.k)/\W.cell? ⟨blk,o+1,none⟩=some (.int .i64 x.lk)/\W.cell? ⟨blk,o+2,none⟩=some (.int .i64 x.lt)/\W.cell? ⟨blk,o+3,none⟩=some (.int .i64 x.lv)/\W.cell? ⟨blk,o+4,none⟩=some (.int .i64 x.rk)/\W.cell? ⟨blk,o+5,none⟩=some (.int .i64 x.rt)/\W.cell? ⟨blk,o+6,none⟩=some (.int .i64 x.rv)/\W.cell? ⟨blk,o+7,none⟩=some (.bool x.hl)/\W.cell? ⟨blk,o+8,none⟩=some (.bool x.hr):=
 ⟨h.c0,h.c1,h.c2,h.c3,h.c4,h.c5,h.c6,h.c7,h.c8⟩
theorem Q0(h:LY blk off n cap lbx d W)(i j:Nat)(hi:i<n)(c:j<n):
  Calls prog 70 #[.int .i64 i,.int .i64 j,.pointer (some ⟨lbx,0,none⟩)] W λe f=>e=.returned (.bool (decide (cO d[i]! d[j]! < 0)))/\Go.RowKit.Below W.heap.size W f:=by
 have h1:(0:Int)<=(i:Int):=by omega
 have h2:(i:Int)<(n:Int):=by omega
 have h3:(0:Int)<=(j:Int):=by omega
 have h4:(j:Int)<(n:Int):=by omega
 have hk:=λp os=>((h.kept (below_regrown W p os)).box)
 have k:=λp os=>((h.kept (below_regrown W p os)).cells i hi).all
 have g:=λp os=>((h.kept (below_regrown W p os)).cells j c).all
 clear h hi c;generalize d[i]! =x at k⊢;generalize d[j]! =y at g⊢;go_enter func70,ntmps70;go_wp2;refine wp_region_quiet_below (by kernel_rfl) (by kernel_rfl) ?_
 repeat (quiet_step (first|(go_at_call 71;exact Calls.regrown_of (Ff x y _))|fail))
 refine wpQuiet_nil ?_;intro _ b;obtain⟨⟨dq,osq⟩,a⟩:=b;subst a;go_wp2;go_ret;exact⟨rfl,below_regrown _ _ _⟩
theorem TQ:∃i,prog.info? 50=some i/\i.desc=.slice 89:=by
 have h:(prog.info? 50).map (λi=>i.desc)=some (.slice 89):=by kernel_rfl
 obtain⟨i,a,b⟩:=Option.map_eq_some_iff.1 h;exact⟨i,a,b⟩
theorem Ux:∃i,prog.info? 89=some i/\i.size=9/\i.hasPointers=false/\i.bytes=64:=by
 have h:(prog.info? 89).map (λi=>(i.size,i.hasPointers,i.bytes))=some (9,false,64):=by kernel_rfl
 obtain⟨i,e,f⟩:=Option.map_eq_some_iff.1 h
 injection f with a b
 injection b with b c
 exact⟨i,e,a,b,c⟩
theorem YA(w:World):(Extern.Rtype.kind 89).run prog w=.ok 25 w:=by kernel_rfl
theorem WH(args:Array Value)(W:World):(callFunc 207 args).run prog W=((Extern.ReflectliteSwapper.swap false args).run prog W).andThen λv a=>.ok (.value v) a:=
 run_callFunc_extern func207 (by kernel_rfl) (by kernel_rfl) (by kernel_rfl) (e:=Extern.ReflectliteSwapper.swap false) (by kernel_rfl) args W
theorem Q4(h:LY blk off n cap lbx d W)(i j:Nat)(hi:i<n)(g:j<n):
  ∃c,(callFunc 207 (#[.int .i64 i,.int .i64 j]++ #[.slice (some ⟨blk,off,none⟩) n cap,typeHandle prog 89])).run prog W=.ok (.value (.tuple #[])) c/\LY blk off n cap lbx (swp d i j) c/\W.grownBy c (some blk):=by
 obtain⟨q,b,r,_,_⟩:=Ux;have l:=swapSwapsK_of_literal (P:=prog) false 207 WH 89 q b ah 9 (λ_=>rfl) r isAgg27 o7 blk off n cap W d h.row h.size i j hi g;have m:putRowK ah 9 W blk off d=W:=putRowK_self ah 9 W blk off d h.row;have f:=swap_worldK ah 9 (λ_=>rfl) W 0 0 blk off d i j (by rw[h.size];exact hi) (by rw[h.size];exact g);rw[show(putRowK ah 9 (Sort.ahead W 0) blk off d).drewN 0=W from m]at f;rw[f]at l;refine⟨_,l,⟨by rw[swp_size];exact h.size,holdsK_putRowK ah 9 W blk off d (swp d i j) h.row (swp_size _ _ _),?_,?_,?_,h.ne,?_⟩,?_⟩
 .rw[cell?_putRowK_other ah 9 _ blk off _ _ h.ne];exact h.box
 .show blk<(putRowK ah 9 W blk off (swp d i j)).heap.size;simp[putRowK,putRow,mapBlock];exact h.lt
 .show lbx<(putRowK ah 9 W blk off (swp d i j)).heap.size;simp[putRowK,putRow,mapBlock];exact h.blt
 .obtain⟨cur,p,o⟩:=h.shape;refine⟨putCells id off (flatK ah 9 (swp d i j)) cur,?_,by simp[putCells,o]⟩;show(putRowK ah 9 W blk off (swp d i j)).heap[blk]?=_;simp[putRowK,putRow,mapBlock,Array.getElem?_modify,p,onCells]
 .show W.grownBy (putRowK ah 9 W blk off (swp d i j)) (some blk);refine⟨rfl,rfl,rfl,by simp[putRowK,putRow,mapBlock],λk hk a=>?_⟩
  have:blk≠k:=λe=>a (by rw[e])
  simp[putRowK,putRow,mapBlock,Array.getElem?_modify,this]
def Ac(n:Nat):Nat:=if n=0 then 199 else if n=1 then 200 else 207
structure YB(blk off n cap:Nat)(sb:Array Value):Prop where
 few:n<=1->sb=#[]
 more:1<n->sb=#[.slice (some ⟨blk,off,none⟩) n cap,typeHandle prog 89]
theorem WI(W:World):(callFunc 200 #[.int .i64 0,.int .i64 0]).run prog W=.ok (.value (.tuple #[])) W:=by
 rw[run_callFunc_extern func200 (by kernel_rfl) (by kernel_rfl) (by kernel_rfl) (e:=λ| #[.int .i64 0,.int .i64 0]=>pure (.tuple #[])|_=>Extern.ReflectliteSwapper.outOfRange) (by kernel_rfl)];rfl
theorem MP(d:Array O)(h:d.size=1):swp d 0 0=d:=by
 apply Array.ext
 .rw[swp_size]
 .intro k a c;have e:=swp_get d (i:=0) (j:=0) (by omega) (by omega) k
  have b:k=0:=by omega
  subst b;rw[if_pos rfl]at e;rw[getElem!_pos _ 0 a,getElem!_pos _ 0 c]at e;exact e
theorem sorter{b:Array Value}(a:YB blk off n cap b):jK blk n 70 #[.pointer (some ⟨lbx,0,none⟩)] (Ac n) b (LY blk off n cap lbx) where
 size _ _ h:=h.size
 lt _ _ h:=h.lt
 kept _ _ _ h a:=h.kept a
 enters:=enters_of func70 (by kernel_rfl) rfl
 less _ _ i j h hi hj:=Q0 h i j hi hj
 swap d W i j h hi hj:=by
  by_cases h0:n=0
  .omega
  .by_cases h1:n=1
   .obtain rfl:i=0:=by omega
    obtain rfl:j=0:=by omega
    refine⟨W,?_,?_,⟨rfl,rfl,rfl,aC _,λ_ _ _=>rfl⟩⟩
    .rw[show Ac n=200 by simp[Ac,h1],a.few (by omega)];exact WI W
    .rw[MP d (by rw[h.size];exact h1)];exact h
   .rw[show Ac n=207 by simp[Ac,h0,h1],a.more (by omega)];exact Q4 h i j hi hj
theorem aaD:SWO dD:=Xh
theorem vP(w:World)(h:LY blk 0 n cap lbx d w)(hn:n<=1000000):
  Calls prog 69 #[.iface 50 (.slice (some ⟨blk,0,none⟩) n cap),.func (.func 70) #[] #[.pointer (some ⟨lbx,0,none⟩)]] w λe w'=>e=.returned (.tuple #[])/\∃d',LY blk 0 n cap lbx d' w'/\PermIn 0 n d d'/\SortedIn dD 0 n d'/\w.grownBy w' (some blk):=by
 obtain⟨i,hi,hd⟩:=TQ;obtain⟨ie,hie,hsz,hpt,hby⟩:=Ux
 have hK:swapperK n ie 25=if n=0 then 1 else if n=1 then 2 else 9:=by
  unfold swapperK
  by_cases h0:n=0
  .simp[h0]
  .by_cases h1:n=1
   .simp[h1]
   .simp[h0,h1,hpt,hby]
 have hf:prog.funcs.findIdx? (·.name== "internal/reflectlite" ++ ".Swapper$" ++toString (swapperK n ie 25))=some (Ac n):=by
  rw[hK]
  by_cases h0:n=0
  .simp only[h0,if_true,Ac];kernel_rfl
  .by_cases h1:n=1
   .rw[if_neg h0,if_pos h1];simp only[Ac,h1];kernel_rfl
   .rw[if_neg h0,if_neg h1];simp only[Ac,h0,h1,if_false];kernel_rfl
 obtain⟨sb,hsb⟩:∃sb,sb=(if swapperK n ie 25<=2 then(#[]:Array Value)else#[.slice (some ⟨blk,0,none⟩) n cap,typeHandle prog 89]):=⟨_,rfl⟩
 have hB:YB blk 0 n cap sb:=by
  rw[hK]at hsb;refine⟨λhn1=>?_,λhn1=>?_⟩
  .rw[hsb,if_pos]
   by_cases h0:n=0
   .simp[h0]
   .simp[show n=1 by omega]
  .rw[hsb,if_neg];simp[show ¬n=0 by omega,show ¬n=1 by omega]
 have hv:=run_valueOf_slice (P:=prog) 50 89 i hi hd (some ⟨blk,0,none⟩) n cap w
 have hs:=λw=>run_swapper_slice (P:=prog) 50 89 i ie hi hd hie 25 YA (some ⟨blk,0,none⟩) n cap (Ac n) hf w
 have hl:=λa w ha=>run_valueLen_slice (P:=prog) 50 89 i hi hd (by kernel_rfl) a (some ⟨blk,0,none⟩) n cap w ha
 have hgs:prog.globals.size=12:=by kernel_rfl
 rw[<-hsb]at hs;simp only[typeHandle,hgs]at hv hl;have HH:=hid h;have HB:=hid hB;clear h hf hK hsb hB hgs;have hlt:=HH.out.lt;go_enter func69,ntmps69;go_wp2
 rw[run_callFunc_extern func123 (by kernel_rfl) (by kernel_rfl) (by kernel_rfl) (e:=λargs=>Extern.ReflectliteValue.unpack (args.getD 0 (.tuple #[]))) (by kernel_rfl),
  show Sem.run prog ((λargs:Array Value=>Extern.ReflectliteValue.unpack (args.getD 0 (.tuple #[]))) #[.iface 50 (.slice (some ⟨blk,0,none⟩) n cap)]) w=_ from hv]
 simp only[Result.andThen];rw[Oper.upon_value];go_wp2;rw[run_callFunc_extern func124 (by kernel_rfl) (by kernel_rfl) (by kernel_rfl) (e:=Extern.ReflectliteSwapper.swapper "internal/reflectlite" (Extern.ReflectliteValue.valueError "Swapper")) (by kernel_rfl),hs];simp only[Result.andThen];rw[Oper.upon_value];go_wp2
 rw[run_callFunc_extern func126 (by kernel_rfl) (by kernel_rfl) (by kernel_rfl) (e:=Extern.ReflectliteValue.method (Extern.ReflectliteValue.valueError "reflectlite.Value.Len" 0) Extern.ReflectliteValue.len) (by kernel_rfl),
  hl _ _ (by simp)]
 simp only[Result.andThen];rw[Oper.upon_value]
 have hst:=λW hW=>Jk (sorter (lbx:=lbx) HB.out) aaD d W hW hn
 go_wp2_with fail;refine(hst _ ?_).mono ?_
 .exact HH.out.kept (fK _ _ _)
 .rintro e w' ⟨rfl,d',h1,h2,h3,h4⟩;go_wp2
  go_end0
  exact⟨rfl,d',h1,h2,h3,World.grownBy.trans ((iV _ _ _).trans (iV _ _ _)) h4⟩
end
end Go.Proofs.YthfpipieboophaaGreatDoor
