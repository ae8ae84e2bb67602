import Derived.Test.YthfpipieboophaaGreatDoorZbf
import Derived.Test.YthfpipieboophaaGreatDoorZbl
import Derived.Test.YthfpipieboophaaGreatDoorZad
namespace Go.Proofs.YthfpipieboophaaGreatDoor
set_option maxRecDepth 100000
set_option maxHeartbeats 40000000
open Go.Joins Go.RowKit Go.Sort
section
open Go.Proofs.Tryz
theorem info3:(prog.info? 3).map (fun i=>(i.zero,i.size,i.bytes))=some (some (.int .i64 0),1,8):=by kernel_rfl
theorem rX {w:World} {g base n:Nat} {cs:List Value} (hg:w.heap[g]? =some (.cells cs.toArray 3)) (hb:base<=g) (hn:cs.length=n) (h:n<=1000):w.ownsRow base 3 1 (.slice (some ⟨g,0,none⟩) n n) n cs:=
 ⟨by omega,.inr ⟨g,n,cs.toArray,rfl,hb,hg,Nat.le_refl _,by unfold maxLen;omega,by simp[hn],by rw[List.take_of_length_le (by simp;omega)]⟩⟩
theorem SY (w:World) (o0 o1 o2 o3:Obj):((((w.alloc o0).alloc o1).alloc o2).alloc o3).heap[w.heap.size+1]? =some o1∧((((w.alloc o0).alloc o1).alloc o2).alloc o3).heap[w.heap.size+1+1]? =some o2∧((((w.alloc o0).alloc o1).alloc o2).alloc o3).heap[w.heap.size+1+1+1]? =some o3:=by
 have h1:=heap_alloc_new (w.alloc o0) o1;have h2:=heap_alloc_new ((w.alloc o0).alloc o1) o2;have h3:=heap_alloc_new (((w.alloc o0).alloc o1).alloc o2) o3;simp only[World.size_alloc] at h1 h2 h3;refine⟨?_,?_,h3⟩
 ·rw[Below.heap_alloc _ _ _ (by simp),Below.heap_alloc _ _ _ (by simp)];exact h1
 ·rw[Below.heap_alloc _ _ _ (by simp)];exact h2
theorem PR (w:World) (o0 o2:Obj) (k h a b c:Int):
  ((((w.alloc o0).alloc (.cells #[.int .i64 k,.int .i64 h] 3)).alloc o2).alloc (.cells #[.int .i64 a,.int .i64 b,.int .i64 c] 3)).drew.ownsRow (w.heap.size+1) 3 1 (.slice (some ⟨w.heap.size+1,0,none⟩) 2 2) 2 [.int .i64 k,.int .i64 h]∧
  ∀j u,[Value.int .i64 a,.int .i64 b,.int .i64 c][j]? =some u->((((w.alloc o0).alloc (.cells #[.int .i64 k,.int .i64 h] 3)).alloc o2).alloc (.cells #[.int .i64 a,.int .i64 b,.int .i64 c] 3)).drew.cell? ((⟨w.heap.size+1+1+1,0,none⟩:Addr).add j)=some u:=
 ⟨(rX (n:=2) (SY w o0 _ o2 _).1 (by omega) rfl (by omega)).drew,World.news_of_block (w:=((((w.alloc o0).alloc (.cells #[.int .i64 k,.int .i64 h] 3)).alloc o2).alloc (.cells #[.int .i64 a,.int .i64 b,.int .i64 c] 3)).drew) (SY w o0 _ o2 _).2.2⟩
theorem PS (w:World) (o0 o1:Obj) (k h a b c:Int):
  ((((w.alloc o0).alloc o1).alloc (.cells #[.int .i64 a,.int .i64 b,.int .i64 c] 3)).alloc (.cells #[.int .i64 k,.int .i64 h] 3)).drew.ownsRow (w.heap.size+1) 3 1 (.slice (some ⟨w.heap.size+1+1+1,0,none⟩) 2 2) 2 [.int .i64 k,.int .i64 h]∧
  ∀j u,[Value.int .i64 a,.int .i64 b,.int .i64 c][j]? =some u->((((w.alloc o0).alloc o1).alloc (.cells #[.int .i64 a,.int .i64 b,.int .i64 c] 3)).alloc (.cells #[.int .i64 k,.int .i64 h] 3)).drew.cell? ((⟨w.heap.size+1+1,0,none⟩:Addr).add j)=some u:=
 ⟨(rX (n:=2) (SY w o0 o1 _ _).2.2 (by omega) rfl (by omega)).drew,World.news_of_block (w:=((((w.alloc o0).alloc o1).alloc (.cells #[.int .i64 a,.int .i64 b,.int .i64 c] 3)).alloc (.cells #[.int .i64 k,.int .i64 h] 3)).drew) (SY w o0 o1 _ _).2.1⟩
theorem LP (x:O) (w w':World) (hb:Below (w.heap.size+1) (w.alloc (.cells #[.int .i64 x.k,.int .i64 x.lk,.int .i64 x.lt,.int .i64 x.lv,.int .i64 x.rk,.int .i64 x.rt,.int .i64 x.rv,.bool x.hl,.bool x.hr] 89)) w'):
  w'.cell? ⟨w.heap.size,0,none⟩=some (.int .i64 x.k)∧w'.cell? ⟨w.heap.size,1,none⟩=some (.int .i64 x.lk)∧w'.cell? ⟨w.heap.size,2,none⟩=some (.int .i64 x.lt)∧w'.cell? ⟨w.heap.size,3,none⟩=some (.int .i64 x.lv)∧w'.cell? ⟨w.heap.size,4,none⟩=some (.int .i64 x.rk)∧w'.cell? ⟨w.heap.size,5,none⟩=some (.int .i64 x.rt)∧w'.cell? ⟨w.heap.size,6,none⟩=some (.int .i64 x.rv)∧w'.cell? ⟨w.heap.size,7,none⟩=some (.bool x.hl)∧w'.cell? ⟨w.heap.size,8,none⟩=some (.bool x.hr):=by
 have h:=fun(o:Nat)=>hb.cell (p:=⟨w.heap.size,o,none⟩) (by simp)
 simp only[h];simp
set_option linter.unusedSimpArgs false
theorem Bf (x:O) (w:World):
  Calls prog 127 #[.agg #[.int .i64 x.k,.int .i64 x.lk,.int .i64 x.lt,.int .i64 x.lv,.int .i64 x.rk,.int .i64 x.rt,.int .i64 x.rv,.bool x.hl,.bool x.hr]] w fun e w'=>∃g cap,e= .returned (.slice (some ⟨g,0,none⟩) 9 cap)∧Below w.heap.size w w'∧w'.ownsRow (w.heap.size+1) 3 1 (.slice (some ⟨g,0,none⟩) 9 cap) 9 ((lO x).map (Value.int .i64)):=by
 obtain⟨i0,hi0,hz0,hz1,hz2⟩:=info_parts info3;go_enter func127,ntmps127;go_wp2
 go_region_held3 (fun w'=>w'.cell? ⟨w.heap.size,0,none⟩=some (.int .i64 x.k)∧w'.cell? ⟨w.heap.size,1,none⟩=some (.int .i64 x.lk)∧w'.cell? ⟨w.heap.size,2,none⟩=some (.int .i64 x.lt)∧w'.cell? ⟨w.heap.size,3,none⟩=some (.int .i64 x.lv)∧w'.cell? ⟨w.heap.size,4,none⟩=some (.int .i64 x.rk)∧w'.cell? ⟨w.heap.size,5,none⟩=some (.int .i64 x.rt)∧w'.cell? ⟨w.heap.size,6,none⟩=some (.int .i64 x.rv)∧w'.cell? ⟨w.heap.size,7,none⟩=some (.bool x.hl)∧w'.cell? ⟨w.heap.size,8,none⟩=some (.bool x.hr)) (first | (go_keep;done) | (simp(disch:=first | omega | (simp only[World.size_alloc];done) | (simp only[World.size_alloc];omega)) only[World.cell?_drew,World.cell?_drewN,World.cell?_alloc_past,World.cell?_alloc_at];simp;done) | (exact LP x w _ (Below.grown (B:=w.heap.size+1) (((((Below.refl _ _).alloc (by simp) _).alloc (by simp) _).alloc (by simp) _).drew) hgrow (by simp) (fun k hk=>by simp only[Value.ownBlock,Option.some.injEq] at hk;omega))))
  (first
   | (go_at_call 56;refine(jF _ _).mono ?_;rintro e w' ⟨rfl,rfl⟩)
   | (go_at_call 55;refine(oK _ _ _ _).mono ?_;rintro e w' ⟨rfl,rfl⟩)
   | (refine step_append_lies _ (by rfl) _ _ _ (by rfl) (w.heap.size+1) 3 i0 _ 1 8 underlying84 hi0 hz0 hz1 hz2 rfl (by omega) (.slice (some ⟨w.heap.size+1,0,none⟩) 2 2) 2 [.int .i64 x.k,.int .i64 (gY x.hl)] (by rfl) ?_ ⟨w.heap.size+1+1+1,0,none⟩ 3 3 [.int .i64 x.lk,.int .i64 x.lt,.int .i64 x.lv] (by rfl) (by rfl) ?_ (by simp[Value.oneCell']) (by omega) (by decide) (by omega) (by simp) _ rfl ?_;(exact(PR w _ _ _ _ _ _ _).1);(exact(PR w _ _ _ _ _ _ _).2);intro g cap w1 hown1 hgrow hat hlt)
   | (refine step_append_lies _ (by rfl) _ _ _ (by rfl) (w.heap.size+1) 3 i0 _ 1 8 underlying84 hi0 hz0 hz1 hz2 rfl (by omega) (.slice (some ⟨w.heap.size+1+1+1,0,none⟩) 2 2) 2 [.int .i64 x.k,.int .i64 (gY x.hl)] (by rfl) ?_ ⟨w.heap.size+1+1,0,none⟩ 3 3 [.int .i64 x.lk,.int .i64 x.lt,.int .i64 x.lv] (by rfl) (by rfl) ?_ (by simp[Value.oneCell']) (by omega) (by decide) (by omega) (by simp) _ rfl ?_;(exact(PS w _ _ _ _ _ _ _).1);(exact(PS w _ _ _ _ _ _ _).2);intro g cap w1 hown1 hgrow hat hlt)
   | fail)
 all_goals
  have hB:Below (w.heap.size+1) (w.alloc (.cells #[.int .i64 x.k,.int .i64 x.lk,.int .i64 x.lt,.int .i64 x.lv,.int .i64 x.rk,.int .i64 x.rt,.int .i64 x.rv,.bool x.hl,.bool x.hr] 89)) w1:=Below.grown (((((Below.refl _ _).alloc (by simp) _).alloc (by simp) _).alloc (by simp) _).drew) hgrow (by simp) (fun k hk=>by simp only[Value.ownBlock,Option.some.injEq] at hk;omega)
  have hy1:w.heap.size+1<=w1.heap.size:=by have :=hB.size;simpa using this
  clear hgrow hat
  replace hown1:w1.ownsRow (w.heap.size+1) 3 1 (.slice (some ⟨g,0,none⟩) 5 cap) 5 [.int .i64 x.k,.int .i64 (gY x.hl),.int .i64 x.lk,.int .i64 x.lt,.int .i64 x.lv]:=hown1
  go_wp2
  go_region_held3 (fun w'=>w'.cell? ⟨w.heap.size,0,none⟩=some (.int .i64 x.k)∧w'.cell? ⟨w.heap.size,1,none⟩=some (.int .i64 x.lk)∧w'.cell? ⟨w.heap.size,2,none⟩=some (.int .i64 x.lt)∧w'.cell? ⟨w.heap.size,3,none⟩=some (.int .i64 x.lv)∧w'.cell? ⟨w.heap.size,4,none⟩=some (.int .i64 x.rk)∧w'.cell? ⟨w.heap.size,5,none⟩=some (.int .i64 x.rt)∧w'.cell? ⟨w.heap.size,6,none⟩=some (.int .i64 x.rv)∧w'.cell? ⟨w.heap.size,7,none⟩=some (.bool x.hl)∧w'.cell? ⟨w.heap.size,8,none⟩=some (.bool x.hr)) (first | (go_keep;done) | (exact LP x w _ hB3) | (exact LP x w _ ((hB2.alloc hy2 _).alloc (by simp;omega) _)) | (exact LP x w _ hB2) | (exact LP x w _ ((hB.alloc hy1 _).drew)) | (exact LP x w _ hB.drew))
   (first
    | (go_at_call 56;refine(jF _ _).mono ?_;rintro e w' ⟨rfl,rfl⟩)
    | (go_at_call 55;refine(oK _ _ _ _).mono ?_;rintro e w' ⟨rfl,rfl⟩)
    | (refine step_append_lies _ (by rfl) _ _ _ (by rfl) (w.heap.size+1) 3 i0 _ 1 8 underlying84 hi0 hz0 hz1 hz2 rfl (by omega) (.slice (some ⟨g,0,none⟩) 5 cap) 5 [.int .i64 x.k,.int .i64 (gY x.hl),.int .i64 x.lk,.int .i64 x.lt,.int .i64 x.lv] (by rfl) ?_ ⟨w1.heap.size,0,none⟩ 1 1 [.int .i64 (gY x.hr)] (by rfl) (by rfl) ?_ (by simp[Value.oneCell']) (by omega) (by decide) (by omega) ?_ _ rfl ?_;(exact(hown1.alloc _).drew);(exact World.news_of_block (cs:= #[.int .i64 (gY x.hr)]) (t:=3) (fr:=(0,0)) (heap_alloc_new w1 _));(simp;omega);intro g2 cap2 w2 hown2 hgrow2 Iy hlt2;have hB2:=Below.grown ((hB.alloc hy1 _).drew) hgrow2 (by simp;omega) (fun k hk=>(hown1.lt k hk).1);have hy2:w.heap.size+1<=w2.heap.size:=(by have :=hB2.size;simpa using this);replace hown2:w2.ownsRow (w.heap.size+1) 3 1 (.slice (some ⟨g2,0,none⟩) 6 cap2) 6 [.int .i64 x.k,.int .i64 (gY x.hl),.int .i64 x.lk,.int .i64 x.lt,.int .i64 x.lv,.int .i64 (gY x.hr)]:=hown2;clear hgrow2 Iy)
    | (refine step_append_lies _ (by rfl) _ _ _ (by rfl) (w.heap.size+1) 3 i0 _ 1 8 underlying84 hi0 hz0 hz1 hz2 rfl (by omega) (.slice (some ⟨g2,0,none⟩) 6 cap2) 6 [.int .i64 x.k,.int .i64 (gY x.hl),.int .i64 x.lk,.int .i64 x.lt,.int .i64 x.lv,.int .i64 (gY x.hr)] (by rfl) ?_ ⟨w2.heap.size+1,0,none⟩ 3 3 [.int .i64 x.rk,.int .i64 x.rt,.int .i64 x.rv] (by rfl) (by rfl) ?_ (by simp[Value.oneCell']) (by omega) (by decide) (by omega) ?_ _ rfl ?_;(exact(hown2.alloc _).alloc _);(exact World.news_of_block (cs:= #[.int .i64 x.rk,.int .i64 x.rt,.int .i64 x.rv]) (t:=3) (fr:=(0,0)) (heap_alloc2_new w2 _ _));(simp;omega);intro g3 O4 w3 hown3 hgrow3 SH hlt3;have hB3:=Below.grown ((hB2.alloc hy2 _).alloc (by simp;omega) _) hgrow3 (by simp;omega) (fun k hk=>(hown2.lt k hk).1))
    | fail)
  go_wp2;go_ret;exact⟨g3,O4,rfl,(below_alloc1 _ _).trans (hB3.mono (by omega)),hown3⟩
end
section
variable {w:World}
theorem P6 (x y:O) (w w':World) (hb:Below (w.heap.size+1+1) ((w.alloc (.cells #[.int .i64 x.k,.int .i64 x.lk,.int .i64 x.lt,.int .i64 x.lv,.int .i64 x.rk,.int .i64 x.rt,.int .i64 x.rv,.bool x.hl,.bool x.hr] 89)).alloc (.cells #[.int .i64 y.k,.int .i64 y.lk,.int .i64 y.lt,.int .i64 y.lv,.int .i64 y.rk,.int .i64 y.rt,.int .i64 y.rv,.bool y.hl,.bool y.hr] 89)) w'):
  w'.cell? ⟨w.heap.size,0,none⟩=some (.int .i64 x.k)∧w'.cell? ⟨w.heap.size,1,none⟩=some (.int .i64 x.lk)∧w'.cell? ⟨w.heap.size,2,none⟩=some (.int .i64 x.lt)∧w'.cell? ⟨w.heap.size,3,none⟩=some (.int .i64 x.lv)∧w'.cell? ⟨w.heap.size,4,none⟩=some (.int .i64 x.rk)∧w'.cell? ⟨w.heap.size,5,none⟩=some (.int .i64 x.rt)∧w'.cell? ⟨w.heap.size,6,none⟩=some (.int .i64 x.rv)∧w'.cell? ⟨w.heap.size,7,none⟩=some (.bool x.hl)∧w'.cell? ⟨w.heap.size,8,none⟩=some (.bool x.hr)∧w'.cell? ⟨w.heap.size+1,0,none⟩=some (.int .i64 y.k)∧w'.cell? ⟨w.heap.size+1,1,none⟩=some (.int .i64 y.lk)∧w'.cell? ⟨w.heap.size+1,2,none⟩=some (.int .i64 y.lt)∧w'.cell? ⟨w.heap.size+1,3,none⟩=some (.int .i64 y.lv)∧w'.cell? ⟨w.heap.size+1,4,none⟩=some (.int .i64 y.rk)∧w'.cell? ⟨w.heap.size+1,5,none⟩=some (.int .i64 y.rt)∧w'.cell? ⟨w.heap.size+1,6,none⟩=some (.int .i64 y.rv)∧w'.cell? ⟨w.heap.size+1,7,none⟩=some (.bool y.hl)∧w'.cell? ⟨w.heap.size+1,8,none⟩=some (.bool y.hr):=by
 have h:=fun(B o:Nat) (hB:B < w.heap.size+1+1)=>hb.cell (p:=⟨B,o,none⟩) hB
 simp(disch:=omega) only[h];simp
theorem yM {base g cap:Nat} {zs:List Int} (h:w.ownsRow base 3 1 (.slice (some ⟨g,0,none⟩) 9 cap) 9 (zs.map (Value.int .i64))) (hl:zs.length=9):
  ∀j,j < 9->w.cell? ⟨g,j,none⟩=some (.int .i64 (zs.getD j 0)):=by
 intro j hj;rw[World.ownsRow.cellAt h j (by omega)];simp[List.getElem?_eq_getElem (show j < zs.length by omega)]
theorem Vv (x y:O) (g1 c1 g2 c2 b1 b2:Nat) (w:World)
  (p:w.ownsRow b1 3 1 (.slice (some ⟨g1,0,none⟩) 9 c1) 9 ((lO x).map (Value.int .i64))) (q:w.ownsRow b2 3 1 (.slice (some ⟨g2,0,none⟩) 9 c2) 9 ((lO y).map (Value.int .i64))):
  Calls Tryz.prog 119 #[.slice (some ⟨g1,0,none⟩) 9 c1,.slice (some ⟨g2,0,none⟩) 9 c2] w fun e w'=>e= .returned (.int .i64 (cO x y))∧∃m,w'=w.drewN m:=by
 rw[xE];exact yN (lO x) (lO y) 9 g1 c1 g2 c2 w rfl rfl (by omega) (yM p rfl) (yM q rfl)
theorem own_below {B:Nat} {v:Value} {n:Nat} {xs:List Value} {w':World} (h:w.ownsRow B 3 1 v n xs) (hb:Below w.heap.size w w'):w'.ownsRow B 3 1 v n xs:=by
 refine⟨h.1,?_⟩
 rcases h.2 with hn | ⟨g,cap,cur,hv,hB,hg,rest⟩
 ·exact .inl hn
 ·refine .inr ⟨g,cap,cur,hv,hB,?_,rest⟩;rw[hb.block g ?_];exact hg
  rcases Nat.lt_or_ge g w.heap.size with h' | h'
  ·exact h'
  ·rw[Array.getElem?_eq_none h'] at hg;cases hg
theorem Ff (x y:O) (w:World):
  Calls Tryz.prog 71 #[.agg #[.int .i64 x.k,.int .i64 x.lk,.int .i64 x.lt,.int .i64 x.lv,.int .i64 x.rk,.int .i64 x.rt,.int .i64 x.rv,.bool x.hl,.bool x.hr],.agg #[.int .i64 y.k,.int .i64 y.lk,.int .i64 y.lt,.int .i64 y.lv,.int .i64 y.rk,.int .i64 y.rt,.int .i64 y.rv,.bool y.hl,.bool y.hr]] w fun e w'=>e= .returned (.int .i64 (cO x y))∧Below w.heap.size w w':=by
 go_enter Tryz.func71,Tryz.ntmps71;go_wp2
 go_region_held3 (fun w'=>w'.cell? ⟨w.heap.size,0,none⟩=some (.int .i64 x.k)∧w'.cell? ⟨w.heap.size,1,none⟩=some (.int .i64 x.lk)∧w'.cell? ⟨w.heap.size,2,none⟩=some (.int .i64 x.lt)∧w'.cell? ⟨w.heap.size,3,none⟩=some (.int .i64 x.lv)∧w'.cell? ⟨w.heap.size,4,none⟩=some (.int .i64 x.rk)∧w'.cell? ⟨w.heap.size,5,none⟩=some (.int .i64 x.rt)∧w'.cell? ⟨w.heap.size,6,none⟩=some (.int .i64 x.rv)∧w'.cell? ⟨w.heap.size,7,none⟩=some (.bool x.hl)∧w'.cell? ⟨w.heap.size,8,none⟩=some (.bool x.hr)∧w'.cell? ⟨w.heap.size+1,0,none⟩=some (.int .i64 y.k)∧w'.cell? ⟨w.heap.size+1,1,none⟩=some (.int .i64 y.lk)∧w'.cell? ⟨w.heap.size+1,2,none⟩=some (.int .i64 y.lt)∧w'.cell? ⟨w.heap.size+1,3,none⟩=some (.int .i64 y.lv)∧w'.cell? ⟨w.heap.size+1,4,none⟩=some (.int .i64 y.rk)∧w'.cell? ⟨w.heap.size+1,5,none⟩=some (.int .i64 y.rt)∧w'.cell? ⟨w.heap.size+1,6,none⟩=some (.int .i64 y.rv)∧w'.cell? ⟨w.heap.size+1,7,none⟩=some (.bool y.hl)∧w'.cell? ⟨w.heap.size+1,8,none⟩=some (.bool y.hr)) (first | (go_keep;done) | (exact P6 x y w _ hB3) | (exact P6 x y w _ hB2) | (exact P6 x y w _ hB1))
  (first
   | (go_at_call_of 127 y.k;refine(Bf y _).mono ?_;rintro e w2 ⟨g2,c2,rfl,hb2,ZQ⟩;have hB2:=hB1.trans (hb2.mono hy1);have hy2:w.heap.size+1+1<=w2.heap.size:=(Nat.le_trans hy1 hb2.size);replace Vw:=own_below Vw hb2)
   | (go_at_call 127;refine(Bf x _).mono ?_;rintro e w1 ⟨g1,c1,rfl,hb1,Vw⟩;have hB1:Below (w.heap.size+1+1) ((w.alloc (.cells #[.int .i64 x.k,.int .i64 x.lk,.int .i64 x.lt,.int .i64 x.lv,.int .i64 x.rk,.int .i64 x.rt,.int .i64 x.rv,.bool x.hl,.bool x.hr] 89)).alloc (.cells #[.int .i64 y.k,.int .i64 y.lk,.int .i64 y.lt,.int .i64 y.lv,.int .i64 y.rk,.int .i64 y.rt,.int .i64 y.rv,.bool y.hl,.bool y.hr] 89)) w1:=(Below.refl _ _).drew.trans (hb1.mono (by simp));have hy1:w.heap.size+1+1<=w1.heap.size:=(by have :=hb1.size;simpa using this))
   | (go_at_call 119;refine(Vv x y _ _ _ _ _ _ _ Vw ZQ).mono ?_;rintro e w3 ⟨rfl,m,rfl⟩;have hB3:=below_drewN hB2 m)
   | fail)
 go_wp2;go_ret;exact⟨rfl,(below_alloc2 _ _ _).trans (hB3.mono (by omega))⟩
end
section
open Go.Proofs.Tryz Go.Shelf Go.Lib
variable {blk off n cap lbx o:Nat} {d:Array O} {W W':World} {x:O}
structure LY (blk off n cap lbx:Nat) (d:Array O) (W:World):Prop where
 size:d.size=n
 row:HoldsK ah 9 W blk off d
 box:W.cell? ⟨lbx,0,none⟩=some (.slice (some ⟨blk,off,none⟩) n cap)
 lt:blk < W.heap.size
 blt:lbx < W.heap.size
 ne:lbx≠blk
 shape:∃cur,W.heap[blk]? =some (.cells cur 89 (0,0))∧cur.size=cap * 9
theorem LY.kept (h:LY blk off n cap lbx d W) (hb:Go.RowKit.Below W.heap.size W W'):LY blk off n cap lbx d W':=
 ⟨h.size,fun j hj=>⟨(hb.cell (p:=⟨blk,off+j,none⟩) h.lt).trans (h.row j hj).1,(hb.frozen (p:=⟨blk,off+j,none⟩) h.lt).trans (h.row j hj).2⟩,(hb.cell (p:=⟨lbx,0,none⟩) h.blt).trans h.box,
  Nat.lt_of_lt_of_le h.lt hb.size,Nat.lt_of_lt_of_le h.blt hb.size,h.ne,h.shape.imp fun _ ⟨h1,h2⟩=>⟨(hb.block _ h.lt).trans h1,h2⟩⟩
structure uU (W:World) (blk o:Nat) (x:O):Prop where
 c0:W.cell? ⟨blk,o,none⟩=some (.int .i64 x.k)
 c1:W.cell? ⟨blk,o+1,none⟩=some (.int .i64 x.lk)
 c2:W.cell? ⟨blk,o+2,none⟩=some (.int .i64 x.lt)
 c3:W.cell? ⟨blk,o+3,none⟩=some (.int .i64 x.lv)
 c4:W.cell? ⟨blk,o+4,none⟩=some (.int .i64 x.rk)
 c5:W.cell? ⟨blk,o+5,none⟩=some (.int .i64 x.rt)
 c6:W.cell? ⟨blk,o+6,none⟩=some (.int .i64 x.rv)
 c7:W.cell? ⟨blk,o+7,none⟩=some (.bool x.hl)
 c8:W.cell? ⟨blk,o+8,none⟩=some (.bool x.hr)
theorem LY.cells (h:LY blk off n cap lbx d W) (i:Nat) (hi:i < n):uU W blk (off+i * 9) d[i]! :=by
 have c:=fun(u:Nat) (hu:u < 9)=>(HoldsK.cell h.row (i:=i) (c:=u) (by rw[h.size];exact hi) hu).1
 exact⟨c 0 (by omega),c 1 (by omega),c 2 (by omega),c 3 (by omega),c 4 (by omega),c 5 (by omega),c 6 (by omega),c 7 (by omega),c 8 (by omega)⟩
theorem uU.below (h:uU W blk o x) (hb:Go.RowKit.Below W.heap.size W W') (hl:blk < W.heap.size):uU W' blk o x:=
 ⟨(hb.cell (p:=⟨blk,o,none⟩) hl).trans h.c0,(hb.cell (p:=⟨blk,o+1,none⟩) hl).trans h.c1,(hb.cell (p:=⟨blk,o+2,none⟩) hl).trans h.c2,(hb.cell (p:=⟨blk,o+3,none⟩) hl).trans h.c3,(hb.cell (p:=⟨blk,o+4,none⟩) hl).trans h.c4,(hb.cell (p:=⟨blk,o+5,none⟩) hl).trans h.c5,(hb.cell (p:=⟨blk,o+6,none⟩) hl).trans h.c6,(hb.cell (p:=⟨blk,o+7,none⟩) hl).trans h.c7,(hb.cell (p:=⟨blk,o+8,none⟩) hl).trans h.c8⟩
theorem uU.all (h:uU W blk o x):W.cell? ⟨blk,o,none⟩=some (.int .i64 x.k)∧W.cell? ⟨blk,o+1,none⟩=some (.int .i64 x.lk)∧W.cell? ⟨blk,o+2,none⟩=some (.int .i64 x.lt)∧W.cell? ⟨blk,o+3,none⟩=some (.int .i64 x.lv)∧W.cell? ⟨blk,o+4,none⟩=some (.int .i64 x.rk)∧W.cell? ⟨blk,o+5,none⟩=some (.int .i64 x.rt)∧W.cell? ⟨blk,o+6,none⟩=some (.int .i64 x.rv)∧W.cell? ⟨blk,o+7,none⟩=some (.bool x.hl)∧W.cell? ⟨blk,o+8,none⟩=some (.bool x.hr):=
 ⟨h.c0,h.c1,h.c2,h.c3,h.c4,h.c5,h.c6,h.c7,h.c8⟩
theorem Q0 (h:LY blk off n cap lbx d W) (i j:Nat) (hi:i < n) (hj:j < n):
  Calls prog 70 #[.int .i64 i,.int .i64 j,.pointer (some ⟨lbx,0,none⟩)] W fun e w'=>e= .returned (.bool (decide (cO d[i]! d[j]! < 0)))∧Go.RowKit.Below W.heap.size W w':=by
 have h1:(0:Int)<=(i:Int):=by omega
 have h2:(i:Int) < (n:Int):=by omega
 have h3:(0:Int)<=(j:Int):=by omega
 have h4:(j:Int) < (n:Int):=by omega
 have hk:=fun p os=>((h.kept (below_regrown W p os)).box)
 have hx:=fun p os=>((h.kept (below_regrown W p os)).cells i hi).all
 have hy:=fun p os=>((h.kept (below_regrown W p os)).cells j hj).all
 clear h hi hj;generalize d[i]! =x at hx⊢;generalize d[j]! =y at hy⊢;go_enter func70,ntmps70;go_wp2;refine wp_region_quiet_below (by kernel_rfl) (by kernel_rfl) ?_
 repeat (quiet_step (first | (go_at_call 71;exact Calls.regrown_of (Ff x y _)) | fail))
 refine wpQuiet_nil ?_;intro _ hw';obtain⟨⟨dq,osq⟩,hw''⟩:=hw';subst hw'';go_wp2;go_ret;exact⟨rfl,below_regrown _ _ _⟩
theorem TQ:∃i,prog.info? 50=some i∧i.desc= .slice 89:=by
 have h:(prog.info? 50).map (fun i=>i.desc)=some (.slice 89):=by kernel_rfl
 obtain⟨i,h1,h2⟩:=Option.map_eq_some_iff.1 h;exact⟨i,h1,h2⟩
theorem Ux:∃i,prog.info? 89=some i∧i.size=9∧i.hasPointers=false∧i.bytes=64:=by
 have h:(prog.info? 89).map (fun i=>(i.size,i.hasPointers,i.bytes))=some (9,false,64):=by kernel_rfl
 obtain⟨i,h1,h2⟩:=Option.map_eq_some_iff.1 h
 injection h2 with a b
 injection b with b c
 exact⟨i,h1,a,b,c⟩
theorem YA (w:World):(Extern.Rtype.kind 89).run prog w= .ok 25 w:=by kernel_rfl
theorem WH (args:Array Value) (W:World):(callFunc 207 args).run prog W=((Extern.ReflectliteSwapper.swap false args).run prog W).andThen fun v w'=> .ok (.value v) w':=
 run_callFunc_extern func207 (by kernel_rfl) (by kernel_rfl) (by kernel_rfl) (e:=Extern.ReflectliteSwapper.swap false) (by kernel_rfl) args W
theorem Q4 (h:LY blk off n cap lbx d W) (i j:Nat) (hi:i < n) (hj:j < n):
  ∃W',(callFunc 207 (#[.int .i64 i,.int .i64 j]++ #[.slice (some ⟨blk,off,none⟩) n cap,typeHandle prog 89])).run prog W= .ok (.value (.tuple #[])) W'∧LY blk off n cap lbx (swp d i j) W'∧W.grownBy W' (some blk):=by
 obtain⟨ie,hie,hs,_,_⟩:=Ux;have hS:=swapSwapsK_of_literal (P:=prog) false 207 WH 89 ie hie ah 9 (fun _=>rfl) hs isAgg27 o7 blk off n cap W d h.row h.size i j hi hj;have e0:putRowK ah 9 W blk off d=W:=putRowK_self ah 9 W blk off d h.row;have e1:=swap_worldK ah 9 (fun _=>rfl) W 0 0 blk off d i j (by rw[h.size];exact hi) (by rw[h.size];exact hj);rw[show(putRowK ah 9 (Sort.ahead W 0) blk off d).drewN 0=W from e0] at e1;rw[e1] at hS;refine⟨_,hS,⟨by rw[swp_size];exact h.size,holdsK_putRowK ah 9 W blk off d (swp d i j) h.row (swp_size _ _ _),?_,?_,?_,h.ne,?_⟩,?_⟩
 ·rw[cell?_putRowK_other ah 9 _ blk off _ _ h.ne];exact h.box
 ·show blk < (putRowK ah 9 W blk off (swp d i j)).heap.size;simp[putRowK,putRow,mapBlock];exact h.lt
 ·show lbx < (putRowK ah 9 W blk off (swp d i j)).heap.size;simp[putRowK,putRow,mapBlock];exact h.blt
 ·obtain⟨cur,h1,h2⟩:=h.shape;refine⟨putCells id off (flatK ah 9 (swp d i j)) cur,?_,by simp[putCells,h2]⟩;show(putRowK ah 9 W blk off (swp d i j)).heap[blk]? =_;simp[putRowK,putRow,mapBlock,Array.getElem?_modify,h1,onCells]
 ·show W.grownBy (putRowK ah 9 W blk off (swp d i j)) (some blk);refine⟨rfl,rfl,rfl,by simp[putRowK,putRow,mapBlock],fun k hk hne=> ?_⟩
  have :blk≠k:=fun e=>hne (by rw[e])
  simp[putRowK,putRow,mapBlock,Array.getElem?_modify,this]
def Ac (n:Nat):Nat:=if n=0 then 199 else if n=1 then 200 else 207
structure YB (blk off n cap:Nat) (sb:Array Value):Prop where
 few:n<=1->sb= #[]
 more:1 < n->sb= #[.slice (some ⟨blk,off,none⟩) n cap,typeHandle prog 89]
theorem WI (W:World):(callFunc 200 #[.int .i64 0,.int .i64 0]).run prog W= .ok (.value (.tuple #[])) W:=by
 rw[run_callFunc_extern func200 (by kernel_rfl) (by kernel_rfl) (by kernel_rfl) (e:=fun | #[.int .i64 0,.int .i64 0]=>pure (.tuple #[]) | _=>Extern.ReflectliteSwapper.outOfRange) (by kernel_rfl)];rfl
theorem MP (d:Array O) (h:d.size=1):swp d 0 0=d:=by
 apply Array.ext
 ·rw[swp_size]
 ·intro k h1 h2;have e:=swp_get d (i:=0) (j:=0) (by omega) (by omega) k
  have hk:k=0:=by omega
  subst hk;rw[if_pos rfl] at e;rw[getElem!_pos _ 0 h1,getElem!_pos _ 0 h2] at e;exact e
theorem sorter {sb:Array Value} (hb:YB blk off n cap sb):jK blk n 70 #[.pointer (some ⟨lbx,0,none⟩)] (Ac n) sb (LY blk off n cap lbx) where
 size _ _ h:=h.size
 lt _ _ h:=h.lt
 kept _ _ _ h hb:=h.kept hb
 enters:=enters_of func70 (by kernel_rfl) rfl
 less _ _ i j h hi hj:=Q0 h i j hi hj
 swap d W i j h hi hj:=by
  by_cases h0:n=0
  ·omega
  ·by_cases h1:n=1
   ·obtain rfl:i=0:=by omega
    obtain rfl:j=0:=by omega
    refine⟨W,?_,?_,⟨rfl,rfl,rfl,Nat.le_refl _,fun _ _ _=>rfl⟩⟩
    ·rw[show Ac n=200 by simp[Ac,h1],hb.few (by omega)];exact WI W
    ·rw[MP d (by rw[h.size];exact h1)];exact h
   ·rw[show Ac n=207 by simp[Ac,h0,h1],hb.more (by omega)];exact Q4 h i j hi hj
theorem aaD:SWO dD:=Xh
theorem vP (w:World) (h:LY blk 0 n cap lbx d w) (hn:n<=1000000):
  Calls prog 69 #[.iface 50 (.slice (some ⟨blk,0,none⟩) n cap),.func (.func 70) #[] #[.pointer (some ⟨lbx,0,none⟩)]] w fun e w'=>e= .returned (.tuple #[])∧∃d',LY blk 0 n cap lbx d' w'∧PermIn 0 n d d'∧SortedIn dD 0 n d'∧w.grownBy w' (some blk):=by
 obtain⟨i,hi,hd⟩:=TQ;obtain⟨ie,hie,hsz,hpt,hby⟩:=Ux
 have hK:swapperK n ie 25=if n=0 then 1 else if n=1 then 2 else 9:=by
  unfold swapperK
  by_cases h0:n=0
  ·simp[h0]
  ·by_cases h1:n=1
   ·simp[h1]
   ·simp[h0,h1,hpt,hby]
 have hf:prog.funcs.findIdx? (·.name== "internal/reflectlite" ++ ".Swapper$" ++toString (swapperK n ie 25))=some (Ac n):=by
  rw[hK]
  by_cases h0:n=0
  ·simp only[h0,if_true,Ac];kernel_rfl
  ·by_cases h1:n=1
   ·rw[if_neg h0,if_pos h1];simp only[Ac,h1];kernel_rfl
   ·rw[if_neg h0,if_neg h1];simp only[Ac,h0,h1,if_false];kernel_rfl
 obtain⟨sb,hsb⟩:∃sb,sb=(if swapperK n ie 25<=2 then(#[]:Array Value) else#[.slice (some ⟨blk,0,none⟩) n cap,typeHandle prog 89]):=⟨_,rfl⟩
 have hB:YB blk 0 n cap sb:=by
  rw[hK] at hsb;refine⟨fun hn1=> ?_,fun hn1=> ?_⟩
  ·rw[hsb,if_pos]
   by_cases h0:n=0
   ·simp[h0]
   ·simp[show n=1 by omega]
  ·rw[hsb,if_neg];simp[show ¬n=0 by omega,show ¬n=1 by omega]
 have hv:=run_valueOf_slice (P:=prog) 50 89 i hi hd (some ⟨blk,0,none⟩) n cap w
 have hs:=fun w=>run_swapper_slice (P:=prog) 50 89 i ie hi hd hie 25 YA (some ⟨blk,0,none⟩) n cap (Ac n) hf w
 have hl:=fun a w ha=>run_valueLen_slice (P:=prog) 50 89 i hi hd (by kernel_rfl) a (some ⟨blk,0,none⟩) n cap w ha
 have hgs:prog.globals.size=12:=by kernel_rfl
 rw[<-hsb] at hs;simp only[typeHandle,hgs] at hv hl;have HH:=hid h;have HB:=hid hB;clear h hf hK hsb hB hgs;have hlt:=HH.out.lt;go_enter func69,ntmps69;go_wp2
 rw[run_callFunc_extern func123 (by kernel_rfl) (by kernel_rfl) (by kernel_rfl) (e:=fun args=>Extern.ReflectliteValue.unpack (args.getD 0 (.tuple #[]))) (by kernel_rfl),
  show Sem.run prog ((fun args:Array Value=>Extern.ReflectliteValue.unpack (args.getD 0 (.tuple #[]))) #[.iface 50 (.slice (some ⟨blk,0,none⟩) n cap)]) w=_ from hv]
 simp only[Result.andThen];rw[Oper.upon_value];go_wp2;rw[run_callFunc_extern func124 (by kernel_rfl) (by kernel_rfl) (by kernel_rfl) (e:=Extern.ReflectliteSwapper.swapper "internal/reflectlite" (Extern.ReflectliteValue.valueError "Swapper")) (by kernel_rfl),hs];simp only[Result.andThen];rw[Oper.upon_value];go_wp2
 rw[run_callFunc_extern func126 (by kernel_rfl) (by kernel_rfl) (by kernel_rfl) (e:=Extern.ReflectliteValue.method (Extern.ReflectliteValue.valueError "reflectlite.Value.Len" 0) Extern.ReflectliteValue.len) (by kernel_rfl),
  hl _ _ (by simp)]
 simp only[Result.andThen];rw[Oper.upon_value]
 have hst:=fun W hW=>Jk (sorter (lbx:=lbx) HB.out) aaD d W hW hn
 go_wp2_with fail;refine(hst _ ?_).mono ?_
 ·exact HH.out.kept (below_alloc2 _ _ _)
 ·rintro e w' ⟨rfl,d',h1,h2,h3,h4⟩;go_wp2
  go_end0
  exact⟨rfl,d',h1,h2,h3,World.grownBy.trans ((World.grownBy_alloc _ _ _).trans (World.grownBy_alloc _ _ _)) h4⟩
end
end Go.Proofs.YthfpipieboophaaGreatDoor
