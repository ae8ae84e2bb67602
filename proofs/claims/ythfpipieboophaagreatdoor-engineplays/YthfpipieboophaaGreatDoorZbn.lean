import Derived.Deep.RegionLaw
import Derived.Test.YthfpipieboophaaGreatDoorZbm
namespace Go.Proofs.YthfpipieboophaaGreatDoor
set_option maxRecDepth 100000
set_option maxHeartbeats 40000000
open Go.Joins Go.RowKit
section
variable {w w' w1:World} {pj f0 f1 v:Value} {base b:Nat} {M:List O} {om:Option Nat}
theorem Iz (x y:O) (w:World):(binOp .eql 89 (vO x) (vO y)).run Tryz.prog w= .ok (.bool (decide (x=y))) w:=by
 have e:decide (x=y)=(x.k==y.k && (x.lk==y.lk && (x.lt==y.lt && (x.lv==y.lv && (x.rk==y.rk && (x.rt==y.rt && (x.rv==y.rv && (x.hl==y.hl && (x.hr==y.hr))))))))):=by
  cases x;cases y;rw[Bool.eq_iff_iff];simp
 rw[e];unfold vO
 by_cases hk:x.k=y.k
 ·by_cases hlk:x.lk=y.lk
  ·by_cases hlt:x.lt=y.lt
   ·by_cases hlv:x.lv=y.lv
    ·by_cases hrk:x.rk=y.rk
     ·by_cases hrt:x.rt=y.rt
      ·by_cases hrv:x.rv=y.rv
       ·by_cases Rp:x.hl=y.hl
        ·by_cases hhr:x.hr=y.hr
         ·go_simp
         ·go_simp
        ·go_simp
       ·go_simp
      ·go_simp
     ·go_simp
    ·go_simp
   ·go_simp
  ·go_simp
 ·go_simp
structure gT (pj f0 f1:Value) (w:World) (base b:Nat) (v:Value) (M:List O):Prop where
 blk:w.heap[b]? =some (.cells #[pj,v,f0,f1] 55)
 row:w.ownsRow base 89 9 v M.length (M.flatMap ah)
theorem gT.lt (h:gT pj f0 f1 w base b v M):b < w.heap.size:=(Array.getElem?_eq_some_iff.1 h.blk).1
theorem gT.cell (h:gT pj f0 f1 w base b v M):w.cell? ⟨b,1,none⟩=some v∧w.frozen? ⟨b,1,none⟩=false:=
 ⟨by rw[cell_of_block h.blk];rfl,unfrozen_of_block h.blk 1⟩
theorem gT.below (h:gT pj f0 f1 w base b v M) (hb:Below w.heap.size w w'):gT pj f0 f1 w' base b v M:=
 ⟨(hb.block _ h.lt).trans h.blk,aL h.row hb⟩
theorem gT.own (h:gT pj f0 f1 w base b v M):v.ownBlock≠some b:=by
 rcases h.row.2 with⟨rfl,_⟩ | ⟨g,cap,cur,rfl,hb,hg,_⟩
 ·simp[Value.ownBlock]
 ·intro e;simp[Value.ownBlock] at e;subst e;rw[h.blk] at hg;cases hg
structure nJ (b:Nat) (om:Option Nat) (w w':World):Prop where
 os:w'.os=w.os
 tape:w'.tape=w.tape
 output:w'.output=w.output
 size:w.heap.size<=w'.heap.size
 block:∀k,k < w.heap.size->k≠b->om≠some k->w'.heap[k]? =w.heap[k]?
theorem nJ.of_below (h:Below w.heap.size w w'):nJ b om w w':=⟨h.os,h.tape,h.output,h.size,fun k hk _ _=>h.block k hk⟩
theorem yI {v':Value} {M':List O} (hrow:w1.ownsRow base 89 9 v' M'.length (M'.flatMap ah)) (hk:nJ b v.ownBlock w w1) (hcell:w1.heap[b]? =some (.cells #[pj,v,f0,f1] 55)):
  gT pj f0 f1 (w1.setCell ⟨b,1,none⟩ v') base b v' M'∧nJ b v.ownBlock w (w1.setCell ⟨b,1,none⟩ v'):=by
 have hne:v'.ownBlock≠some b:=by
  rcases hrow.2 with⟨rfl,_⟩ | ⟨g,cap,cur,rfl,hb,hg,_⟩
  ·simp[Value.ownBlock]
  ·intro e;simp[Value.ownBlock] at e;subst e;rw[hcell] at hg;cases hg
 refine⟨⟨block_setCell hcell v',?_⟩,?_⟩
 ·refine hrow.kept (row:=some b) ⟨rfl,rfl,rfl,by simp,fun k hk2 hne2=> ?_⟩ (Or.inr hne);exact Below.heap_setCell _ _ _ _ (fun e=>hne2 (by rw[e]))
 ·refine⟨hk.os,hk.tape,hk.output,by simpa using hk.size,fun k hk2 h1 h2=> ?_⟩;rw[Below.heap_setCell _ _ _ _ h1];exact hk.block k hk2 h1 h2
theorem IA {W:World} (hB:Below w.heap.size w W) (hg:W.grownBy w1 om):nJ b om w w1:=
 ⟨hg.os.trans hB.os,hg.tape.trans hB.tape,hg.output.trans hB.output,Nat.le_trans hB.size hg.size,fun k hk _ h2=>(hg.block k (Nat.lt_of_lt_of_le hk hB.size) (fun e=>h2 e.symm)).trans (hB.block k hk)⟩
theorem PU (pj f0 f1:Value) (base b:Nat) (v:Value) (M:List O) (w:World) (h:gT pj f0 f1 w base b v M) (x:O) (hM:M.length<=1000000) (hb:base<=w.heap.size):
  Calls Tryz.prog 41 #[.pointer (some ⟨b,1,none⟩),vC x false] w fun e w'=>e= .returned (.int .i64 0)∧∃v',gT pj f0 f1 w' base b v' (M++[x])∧nJ b v.ownBlock w w'∧Moves w v.ownBlock v'.ownBlock:=by
 obtain⟨i0,hi,hz0,hz1,hz2⟩:=info_parts xA;have hc:=h.cell;have hlt:=h.lt;have HR:=hid h;have HO:Hid (((w.alloc (.cells #[.int .i64 x.k,.int .i64 x.lk,.int .i64 x.lt,.int .i64 x.lv,.int .i64 x.rk,.int .i64 x.rt,.int .i64 x.rv,.bool x.hl,.bool x.hr,.bool false] 95)).alloc (.cells #[.int .i64 x.k,.int .i64 x.lk,.int .i64 x.lt,.int .i64 x.lv,.int .i64 x.rk,.int .i64 x.rt,.int .i64 x.rv,.bool x.hl,.bool x.hr] 89)).drew.ownsRow base 89 9 v M.length (M.flatMap ah)):=((h.row.alloc _).alloc _).drew
 have HN:Hid (∀j u,(ah x)[j]? =some u->((w.alloc (.cells #[.int .i64 x.k,.int .i64 x.lk,.int .i64 x.lt,.int .i64 x.lv,.int .i64 x.rk,.int .i64 x.rt,.int .i64 x.rv,.bool x.hl,.bool x.hr,.bool false] 95)).alloc (.cells #[.int .i64 x.k,.int .i64 x.lk,.int .i64 x.lt,.int .i64 x.lv,.int .i64 x.rk,.int .i64 x.rt,.int .i64 x.rv,.bool x.hl,.bool x.hr] 89)).drew.cell? ((⟨w.heap.size+1,0,none⟩:Addr).add j)=some u):=by
  have h2:=heap_alloc_new (w.alloc (.cells #[.int .i64 x.k,.int .i64 x.lk,.int .i64 x.lt,.int .i64 x.lv,.int .i64 x.rk,.int .i64 x.rt,.int .i64 x.rv,.bool x.hl,.bool x.hr,.bool false] 95)) (.cells #[.int .i64 x.k,.int .i64 x.lk,.int .i64 x.lt,.int .i64 x.lv,.int .i64 x.rk,.int .i64 x.rt,.int .i64 x.rv,.bool x.hl,.bool x.hr] 89);simp only[World.size_alloc] at h2;exact World.news_of_block (w:=((w.alloc (.cells #[.int .i64 x.k,.int .i64 x.lk,.int .i64 x.lt,.int .i64 x.lv,.int .i64 x.rk,.int .i64 x.rt,.int .i64 x.rv,.bool x.hl,.bool x.hr,.bool false] 95)).alloc (.cells #[.int .i64 x.k,.int .i64 x.lk,.int .i64 x.lt,.int .i64 x.lv,.int .i64 x.rk,.int .i64 x.rt,.int .i64 x.rv,.bool x.hl,.bool x.hr] 89)).drew) h2
 clear h;simp only[vC];go_enter Tryz.func41,Tryz.ntmps41;go_wp2
 go_region_law
  (first
   | (refine step_append_lies _ (by rfl) _ _ _ (by rfl) base 89 i0 zO 9 64 Tryz.underlying50 hi hz0 hz1 hz2 rfl (by omega) v M.length (M.flatMap ah) (by rfl) ?_ ⟨w.heap.size+1,0,none⟩ 1 1 (ah x) (by rfl) (by rfl) ?_ (o7 x) (by omega) (by unfold maxLen;omega) (by omega) ?_ _ rfl ?_;(exact HO.out);(exact HN.out);(simp;omega);intro g cap w1 hown hgrow hat hlt1;have hbb:w1.heap[b]? =some (.cells #[pj,v,f0,f1] 55):=(hgrow.block b (by simp;omega) (fun e=>HR.out.own e.symm)).trans (Eq.trans (Below.heap_alloc _ _ _ (by simp;omega)) (Eq.trans (Below.heap_alloc _ _ _ hlt) HR.out.blk));have hcb:w1.cell? ⟨b,1,none⟩=some v:=(by rw[cell_of_block hbb];rfl);have hfb:w1.frozen? ⟨b,1,none⟩=false:=unfrozen_of_block hbb 1)
   | fail)
 all_goals (try go_wp2)
 all_goals go_ret
 all_goals
  refine⟨rfl,.slice (some ⟨g,0,none⟩) (M.length+1) cap,?_⟩;have hB:Below w.heap.size w ((w.alloc (.cells #[.int .i64 x.k,.int .i64 x.lk,.int .i64 x.lt,.int .i64 x.lv,.int .i64 x.rk,.int .i64 x.rt,.int .i64 x.rv,.bool x.hl,.bool x.hr,.bool false] 95)).alloc (.cells #[.int .i64 x.k,.int .i64 x.lk,.int .i64 x.lt,.int .i64 x.lv,.int .i64 x.rk,.int .i64 x.rt,.int .i64 x.rv,.bool x.hl,.bool x.hr] 89)).drew:=((below_alloc2 _ _ _).drew)
  have hown2:w1.ownsRow base 89 9 (.slice (some ⟨g,0,none⟩) (M.length+1) cap) (M++[x]).length ((M++[x]).flatMap ah):=by
   simpa[List.flatMap_append] using hown
  have hs:=yI (v:=v) hown2 (IA hB hgrow) hbb;refine⟨hs.1,hs.2,?_⟩
  rcases hat with hat | hat
  ·exact Or.inl (by rw[hat];rfl)
  ·exact Or.inr ⟨g,rfl,by rw[hat];simp;omega⟩
end
section
open Go.Proofs.Tryz
theorem eU {P:Program} (w:World) {ops:Array Oper} {o:Oper} {a:Act} {K:Act->World->Prop} {Q:Exit->Act->World->Prop} {E:Prop} (hgd:o.guard=none) (s x:Operand) (t:TypeId)
  (ho:o.op= .call { callee:= .builtin .append,args:= #[s,x],argTypes:= #[t,t]})
  (base:Nat) (e:TypeId) (i:TypeInfo) (z:Value) (size bytes:Nat) (ht:P.underlying t=some (.slice e)) (hi:P.info? e=some i) (hz:i.zero=some z)
  (hsize:i.size=size) (hby:i.bytes=bytes) (hzs:z.cells.size=size) (hsz:0 < size)
  (g0 c0 n:Nat) (xs:List Value) (hs:a.eval s= .slice (some ⟨g0,0,none⟩) n c0) (hown:w.ownsRow base e size (.slice (some ⟨g0,0,none⟩) n c0) n xs)
  (ad:Addr) (m c:Nat) (news:List Value) (hx:a.eval x= .slice (some ad) m c) (hl:news.length=m * size) (hnews:∀j u,news[j]? =some u->w.cell? (ad.add j)=some u) (h1:∀u∈news,u.oneCell'=true)
  (h63:n+m<=maxLen) (hbytes:(n+m) * bytes<=140737488355328) (hbase:base<=w.heap.size)
  (h:∀g cap w',w'.ownsRow base e size (.slice (some ⟨g,0,none⟩) (n+m) cap) (n+m) (xs++news)->w.grownBy w' (some g0)->(g=g0∨g=w.heap.size)->K (a.put o.dst (.slice (some ⟨g,0,none⟩) (n+m) cap)) w'):
  if Region.wanted o (yielded ops a.tmps)=true then Oper.wp P o a w K Q else E:=by
 have hw:Region.wanted o (yielded ops a.tmps)=true:=by simp[Region.wanted,hgd]
 rw[if_pos hw];obtain⟨v',w',hr,h2,h3,h4,h5⟩:=run_append_own_at (P:=P) w base t o.type e i z size bytes ht hi hz hsize hby hzs hsz _ n xs hown ad m c news hl hnews h1 h63 hbytes hbase
 rcases h2.2 with⟨rfl,_⟩ | ⟨g,cap,cur,rfl,_⟩
 ·have :=(h4.1 rfl).1;cases this
 ·unfold Oper.wp execOp;simp only[ho,resolve,invoke,builtin,Sem.run_bind,Sem.run_pure,Result.andThen_ok,List.map_toArray,List.map_cons,List.map_nil,hs,hx,hr];refine h g cap w' h2 h3 ?_;simpa[Value.ownBlock] using h5
theorem Uo {W:World} {B:Nat} {x:O} {gone:Bool} (hb:W.heap[B]? =some (.cells #[.int .i64 x.k,.int .i64 x.lk,.int .i64 x.lt,.int .i64 x.lv,.int .i64 x.rk,.int .i64 x.rt,.int .i64 x.rv,.bool x.hl,.bool x.hr,.bool gone] 95)):
  W.cell? ⟨B,0,none⟩=some (.int .i64 x.k)∧W.cell? ⟨B,1,none⟩=some (.int .i64 x.lk)∧W.cell? ⟨B,2,none⟩=some (.int .i64 x.lt)∧W.cell? ⟨B,3,none⟩=some (.int .i64 x.lv)∧W.cell? ⟨B,4,none⟩=some (.int .i64 x.rk)∧W.cell? ⟨B,5,none⟩=some (.int .i64 x.rt)∧W.cell? ⟨B,6,none⟩=some (.int .i64 x.rv)∧W.cell? ⟨B,7,none⟩=some (.bool x.hl)∧W.cell? ⟨B,8,none⟩=some (.bool x.hr):=by
 refine⟨?_,?_,?_,?_,?_,?_,?_,?_,?_⟩ <;>(rw[cell_of_block hb];rfl)
theorem LQ (pj f0 f1:Value) (base b:Nat) (v:Value) (M:List O) (w:World) (h:gT pj f0 f1 w base b v M) (x:O) (hM:M.length<=1000000) (hno:x∉M):
  Calls prog 41 #[.pointer (some ⟨b,1,none⟩),vC x true] w fun e w'=>e= .returned (.int .i64 8)∧Below w.heap.size w w':=by
 have hc:=h.cell;have hlt:=h.lt;simp only[vC]
 rcases ownsRow_forms h.row with⟨rfl,h0⟩ | ⟨gs,ck,rfl⟩
 ·rw[h0] at *;clear h h0;go_enter func41,ntmps41;go_wp2;refine wp_loop_rounds 1 ?_;rw[rounds_succ];go_wp2;go_ret;exact⟨rfl,below_alloc1 _ _⟩
 ·have HR:=hid h.row;have HN:=hid hno;clear h hno;go_enter func41,ntmps41;go_wp2
  go_loopg [26] M.length (fun g v26 wr=>∃k:Nat,k<=M.length∧g=M.length -k∧v26= .int .i64 k∧Hid (Below w.heap.size w wr∧wr.heap[w.heap.size]? =some (.cells #[.int .i64 x.k,.int .i64 x.lk,.int .i64 x.lt,.int .i64 x.lv,.int .i64 x.rk,.int .i64 x.rt,.int .i64 x.rv,.bool x.hl,.bool x.hr,.bool true] 95)))
  case atStart=>exact⟨0,Nat.zero_le _,rfl,rfl,⟨below_alloc1 _ _,heap_alloc_new _ _⟩⟩
  case round=>
   obtain⟨k,hk,hg,rfl,I⟩:=hrel;have HG:=hid hg;clear hg
   by_cases hlt2:k < M.length
   ·obtain⟨y,hy⟩:∃y,M[k]? =some y:=⟨_,List.getElem?_eq_getElem hlt2⟩;have hcy:=nQ (aL HR.out I.out.1) k y hy;have hcx:=Uo I.out.2;have hz:w.heap.size < wr.heap.size:=(Array.getElem?_eq_some_iff.1 I.out.2).1
    have i1:(0:Int)<=(k:Int):=by omega
    have i2:(k:Int) < (M.length:Int):=by omega
    have i3:(M.length:Int)<=1000000:=by omega
    have hne:y≠x:=fun e=>HN.out (by rw[<-e];exact List.mem_of_getElem? hy)
    have heq:∀w',(binOp .eql 89 (vO y) (vO x)).run prog w'= .ok (.bool false) w':=fun w'=>by rw[Iz,decide_eq_false hne]
    have I2:Hid (Below w.heap.size w (wr.alloc (.cells #[.int .i64 y.k,.int .i64 y.lk,.int .i64 y.lt,.int .i64 y.lv,.int .i64 y.rk,.int .i64 y.rt,.int .i64 y.rv,.bool y.hl,.bool y.hr] 89))∧(wr.alloc (.cells #[.int .i64 y.k,.int .i64 y.lk,.int .i64 y.lt,.int .i64 y.lv,.int .i64 y.rk,.int .i64 y.rt,.int .i64 y.rv,.bool y.hl,.bool y.hr] 89)).heap[w.heap.size]? =some (.cells #[.int .i64 x.k,.int .i64 x.lk,.int .i64 x.lt,.int .i64 x.lv,.int .i64 x.rk,.int .i64 x.rt,.int .i64 x.rv,.bool x.hl,.bool x.hr,.bool true] 95)):=
     ⟨I.out.1.alloc I.out.1.size _,(Below.heap_alloc _ _ _ hz).trans I.out.2⟩
    simp only[vO] at heq;clear hy hne;go_wp2
    go_roundg (M.length -(k+1))
    case measure=>have :=HG.out;omega
    case rel=>exact⟨k+1,by omega,rfl,by first | rfl | (congr 1;omega) | go_num,I2⟩
   ·have i2:¬((k:Int) < (M.length:Int)):=by omega
    go_wp2;go_ret;exact⟨rfl,I.out.1⟩
end
section
open Go.Proofs.Tryz
variable {w W W':World} {pj f0 f1:Value} {base b gs ck:Nat} {M:List O}
theorem LU (M:List O) (i:Nat):(M.take i).flatMap ah=(M.flatMap ah).take (i * 9):=by
 induction M generalizing i with
 | nil=>simp
 | cons a r ih=>
  cases i with
  | zero=>simp
  | succ i=>
   rw[List.take_succ_cons,List.flatMap_cons,List.flatMap_cons,ih,List.take_append,fI,List.take_of_length_le (l:=ah a) (by rw[fI];omega),show(i+1) * 9 -9=i * 9 by omega]
theorem LV (M:List O) (i:Nat):(M.drop i).flatMap ah=(M.flatMap ah).drop (i * 9):=by
 induction M generalizing i with
 | nil=>simp
 | cons a r ih=>
  cases i with
  | zero=>simp
  | succ i=>
   rw[List.drop_succ_cons,List.flatMap_cons,ih,List.drop_append,fI,List.drop_eq_nil_of_le (show(ah a).length<=(i+1) * 9 by rw[fI];omega),List.nil_append,show(i+1) * 9 -9=i * 9 by omega]
theorem yJ (M:List O):∀u∈M.flatMap ah,u.oneCell'=true:=by
 intro u hu;obtain⟨x,_,h⟩:=List.mem_flatMap.1 hu;exact o7 x u h
structure Goes (w:World) (pj f0 f1:Value) (base b gs ck:Nat) (M:List O) (W:World):Prop where
 below:Below w.heap.size w W
 blk:W.heap[b]? =some (.cells #[pj,.slice (some ⟨gs,0,none⟩) M.length ck,f0,f1] 55)
 row:W.ownsRow base 89 9 (.slice (some ⟨gs,0,none⟩) M.length ck) M.length (M.flatMap ah)
theorem Goes.go (h:Goes w pj f0 f1 base b gs ck M W) (hb:Below W.heap.size W W'):Goes w pj f0 f1 base b gs ck M W':=by
 have hl:b < W.heap.size:=(Array.getElem?_eq_some_iff.1 h.blk).1;exact⟨h.below.trans (hb.mono h.below.size),(hb.block _ hl).trans h.blk,aL h.row hb⟩
theorem Goes.cell (h:Goes w pj f0 f1 base b gs ck M W):W.cell? ⟨b,1,none⟩=some (.slice (some ⟨gs,0,none⟩) M.length ck)∧W.frozen? ⟨b,1,none⟩=false:=
 ⟨by rw[cell_of_block h.blk];rfl,unfrozen_of_block h.blk 1⟩
theorem Goes.get (h:Goes w pj f0 f1 base b gs ck M W) (j:Nat) (u:Value) (hu:(M.flatMap ah)[j]? =some u):W.cell? ⟨gs,j,none⟩=some u:=by
 have :=h.row.cells (g:=gs) rfl j u hu
 rwa [bZ] at this
theorem Goes.grown {g:Nat} (h:Goes w pj f0 f1 base b gs ck M W) (hg:W.grownBy W' (some g)) (h1:w.heap.size<=g) (h2:g≠b) (h3:g≠gs):Goes w pj f0 f1 base b gs ck M W':=by
 have hl:b < W.heap.size:=(Array.getElem?_eq_some_iff.1 h.blk).1;refine⟨h.below.grown hg h.below.size (fun k e=>by cases e;exact h1),(hg.block _ hl (fun e=>h2 (by cases e;rfl))).trans h.blk,h.row.kept hg (Or.inr (by simp[Value.ownBlock];exact fun e=>h3 e.symm))⟩
theorem LW (hb:base<=W.heap.size):(W.alloc (.cells #[] 89)).drew.ownsRow base 89 9 (.slice (some ⟨W.heap.size,0,none⟩) 0 0) 0 []:=
 ⟨rfl,.inr ⟨W.heap.size,0,#[],rfl,hb,heap_alloc_new _ _,Nat.le_refl _,Nat.zero_le _,rfl,rfl⟩⟩
theorem Goes.head (h:Goes w pj f0 f1 base b gs ck M W) (k j:Nat) (u:Value) (hu:((M.take k).flatMap ah)[j]? =some u):W.cell? ((⟨gs,0,none⟩:Addr).add j)=some u:=by
 rw[bZ];refine h.get j u ?_;rw[LU] at hu;have hj:=(List.getElem?_eq_some_iff.1 hu).1;rw[List.length_take] at hj;rw[List.getElem?_take_of_lt (by omega)] at hu;exact hu
theorem Goes.tail (h:Goes w pj f0 f1 base b gs ck M W) (k j:Nat) (u:Value) (hu:((M.drop k).flatMap ah)[j]? =some u):W.cell? ((⟨gs,k * 9,none⟩:Addr).add j)=some u:=by
 rw[Addr.add_lit];refine h.get (k * 9+j) u ?_;rw[LV,List.getElem?_drop] at hu;exact hu
theorem PV (M:List O) (k:Nat) (hk:k < M.length) (cap g:Nat) (w:World) (base:Nat) (h:w.ownsRow base 89 9 (.slice (some ⟨g,0,none⟩) (0+k+(M.length -(k+1))) cap) (0+k+(M.length -(k+1))) ([]++(M.take k).flatMap ah++(M.drop (k+1)).flatMap ah)):
  w.ownsRow base 89 9 (.slice (some ⟨g,0,none⟩) (k+(M.length -(k+1))) cap) (M.take k++M.drop (k+1)).length ((M.take k++M.drop (k+1)).flatMap ah):=by
 rw[List.flatMap_append,show(M.take k++M.drop (k+1)).length=k+(M.length -(k+1)) by simp;omega];rw[Nat.zero_add] at h;exact h
theorem LX (pj f0 f1:Value) (base b:Nat) (v:Value) (M:List O) (w:World) (h:gT pj f0 f1 w base b v M) (x:O) (hM:M.length<=1000000) (hb:base<=w.heap.size) (hmem:x∈M):
  Calls prog 41 #[.pointer (some ⟨b,1,none⟩),vC x true] w fun e w'=>e= .returned (.int .i64 0)∧∃v',gT pj f0 f1 w' base b v' (M.erase x)∧nJ b v.ownBlock w w'∧Moves w v.ownBlock v'.ownBlock:=by
 obtain⟨i0,hi,hz0,hz1,hz2⟩:=info_parts xA;have hc:=h.cell;have hlt:=h.lt;simp only[vC];obtain⟨gs,ck,rfl⟩:=ownsRow_form h.row (List.length_pos_of_mem hmem)
 have hck:M.length<=ck:=by
  rcases h.row.2 with⟨h1,_⟩ | ⟨g,cap,cur,h1,_,_,h2,_⟩
  ·cases h1
  ·cases h1;exact h2
 have Vt:ck<=maxLen:=by
  rcases h.row.2 with⟨h1,_⟩ | ⟨g,cap,cur,h1,_,_,_,h2,_⟩
  ·cases h1
  ·cases h1;exact h2
 have hgl:gs < w.heap.size:=(h.row.lt gs rfl).2;have HG0:Hid (Goes w pj f0 f1 base b gs ck M w):=⟨Below.refl _ _,h.blk,h.row⟩
 have HI:Hid (M.idxOf x < M.length∧M[M.idxOf x]? =some x∧(∀j y,j < M.idxOf x->M[j]? =some y->y≠x)∧M.erase x=M.take (M.idxOf x)++M.drop (M.idxOf x+1)):=by
  have h1:M.idxOf x < M.length:=List.idxOf_lt_length_of_mem hmem;refine⟨h1,?_,?_,?_⟩
  ·rw[List.getElem?_eq_getElem h1,List.getElem_idxOf]
  ·intro j y hj hy e;subst e;obtain⟨hjl,hye⟩:=List.getElem?_eq_some_iff.1 hy;have :=List.not_of_lt_findIdx (p:=(· ==y)) hj;rw[hye] at this;simp at this
  ·rw[List.erase_eq_eraseIdx_of_idxOf rfl,List.eraseIdx_eq_take_drop_succ]
 have hi1:=HI.out.1;generalize hI:M.idxOf x=i at *;clear h hI hmem;go_enter func41,ntmps41;go_wp2
 go_loopg [26] M.length (fun g v26 wr=>∃k:Nat,k<=i∧g=M.length -k∧v26= .int .i64 k∧Hid (Goes w pj f0 f1 base b gs ck M wr∧wr.heap[w.heap.size]? =some (.cells #[.int .i64 x.k,.int .i64 x.lk,.int .i64 x.lt,.int .i64 x.lv,.int .i64 x.rk,.int .i64 x.rt,.int .i64 x.rv,.bool x.hl,.bool x.hr,.bool true] 95)))
 case atStart=>exact⟨0,Nat.zero_le _,rfl,rfl,⟨HG0.out.go (below_alloc1 _ _),heap_alloc_new _ _⟩⟩
 case round=>
  obtain⟨k,hk,hg,rfl,I⟩:=hrel;have HG:=hid hg;clear hg;obtain⟨y,hy⟩:∃y,M[k]? =some y:=⟨_,List.getElem?_eq_getElem (show k < M.length by omega)⟩;have hcy:=nQ I.out.1.row k y hy;have hcx:=Uo I.out.2;have hz:w.heap.size < wr.heap.size:=(Array.getElem?_eq_some_iff.1 I.out.2).1
  have i1:(0:Int)<=(k:Int):=by omega
  have i2:(k:Int) < (M.length:Int):=by omega
  have i3:(M.length:Int)<=1000000:=by omega
  have I2:Hid (Goes w pj f0 f1 base b gs ck M (wr.alloc (.cells #[.int .i64 y.k,.int .i64 y.lk,.int .i64 y.lt,.int .i64 y.lv,.int .i64 y.rk,.int .i64 y.rt,.int .i64 y.rv,.bool y.hl,.bool y.hr] 89))∧(wr.alloc (.cells #[.int .i64 y.k,.int .i64 y.lk,.int .i64 y.lt,.int .i64 y.lv,.int .i64 y.rk,.int .i64 y.rt,.int .i64 y.rv,.bool y.hl,.bool y.hr] 89)).heap[w.heap.size]? =some (.cells #[.int .i64 x.k,.int .i64 x.lk,.int .i64 x.lt,.int .i64 x.lv,.int .i64 x.rk,.int .i64 x.rt,.int .i64 x.rv,.bool x.hl,.bool x.hr,.bool true] 95)):=
   ⟨I.out.1.go (below_alloc1 _ _),(Below.heap_alloc _ _ _ hz).trans I.out.2⟩
  by_cases hki:k < i
  ·have hne:y≠x:=HI.out.2.2.1 k y hki hy
   have heq:∀w',(binOp .eql 89 (vO y) (vO x)).run prog w'= .ok (.bool false) w':=fun w'=>by rw[Iz,decide_eq_false hne]
   simp only[vO] at heq;clear hy hne;go_wp2
   go_roundg (M.length -(k+1))
   case measure=>have :=HG.out;omega
   case rel=>exact⟨k+1,by omega,rfl,by first | rfl | (congr 1;omega) | go_num,I2⟩
  ·have Vu:k=i:=by omega
   have hyx:y=x:=by
    have h2:=HI.out.2.1;rw[<-Vu,hy] at h2;exact Option.some.inj h2
   have heq:∀w',(binOp .eql 89 (vO y) (vO x)).run prog w'= .ok (.bool true) w':=fun w'=>by rw[Iz,decide_eq_true hyx]
   have HE:Hid (M.erase x=M.take k++M.drop (k+1)):=by
    show M.erase x=M.take k++M.drop (k+1);rw[Vu];exact HI.out.2.2.2
   simp only[vO] at heq;clear hy hyx Vu hki
   have HN:Hid (∃A:Addr,(if ck=k+1 then some (⟨gs,0,none⟩:Addr) else some ⟨gs,(k+1) * 9,none⟩)=some A∧∀W',Goes w pj f0 f1 base b gs ck M W'->∀j u,((M.drop (k+1)).flatMap ah)[j]? =some u->W'.cell? (A.add j)=some u):=by
    by_cases h1:ck=k+1
    ·refine⟨⟨gs,0,none⟩,by simp[h1],fun W' _ j u hu=> ?_⟩;rw[List.drop_eq_nil_of_le (by omega)] at hu;simp at hu
    ·exact⟨⟨gs,(k+1) * 9,none⟩,by simp[h1],fun W' hW j u hu=>hW.tail (k+1) j u hu⟩
   obtain⟨A,hA,hN⟩:=HN.out;have HN2:=hid hN;clear hN HN
   have hwr:IntKind.i64.wrap ((k:Int)+1)=(k:Int)+1:=by rw[IntKind.wrap_i64];omega
   have hp0:(0:Int)<=(k:Int)+1:=by omega
   have hp1:(k:Int)+1<=(M.length:Int):=by omega
   have hp2:((k:Int)+1).toNat=k+1:=by omega
   have hkc:k<=ck:=by omega
   have hl1:Hid (((M.take k).flatMap ah).length=k * 9):=by
    show((M.take k).flatMap ah).length=k * 9;rw[lV,List.length_take];congr 1;omega
   have hl2:Hid (((M.drop (k+1)).flatMap ah).length=(M.length -(k+1)) * 9):=by
    show((M.drop (k+1)).flatMap ah).length=(M.length -(k+1)) * 9;rw[lV,List.length_drop]
   go_wp2_with fail;have HW:=hid I2.out.1
   have hz4:w.heap.size < (wr.alloc (.cells #[.int .i64 y.k,.int .i64 y.lk,.int .i64 y.lt,.int .i64 y.lv,.int .i64 y.rk,.int .i64 y.rt,.int .i64 y.rv,.bool y.hl,.bool y.hr] 89)).heap.size:=by simp;omega
   clear I2 hcx hcy heq I hc;revert HW hz4;generalize wr.alloc (.cells #[.int .i64 y.k,.int .i64 y.lk,.int .i64 y.lt,.int .i64 y.lv,.int .i64 y.rk,.int .i64 y.rt,.int .i64 y.rv,.bool y.hl,.bool y.hr] 89)=W;intro HW hz4;have hcb:=HW.out.cell;have acM:=(HW.out.go (below_alloc1 W (.cells #[] 89))).cell
   have hgb:W.heap.size≠b:=by omega
   have hgg:W.heap.size≠gs:=by omega
   go_region_law
    (first
     | (refine eU _ (by rfl) _ _ _ (by rfl) base 89 i0 zO 9 64 underlying50 hi hz0 hz1 hz2 rfl (by omega) W.heap.size 0 0 [] (by rfl) (LW (by omega)) ⟨gs,0,none⟩ k ck ((M.take k).flatMap ah) (by first | rfl | simp[Act.eval,Act.put]) hl1.out ?_ (yJ _) (by unfold maxLen;omega) (by omega) ?_ ?_;(exact(HW.out.go ((below_alloc1 _ _).drew)).head k);(simp;omega);intro g1 oL w1 hown1 hgrow1 wF;have G1:Hid (Goes w pj f0 f1 base b gs ck M w1):=(HW.out.go ((below_alloc1 _ _).drew)).grown hgrow1 (by omega) hgb hgg;have hg1:W.heap.size<=g1:=(by have :=wF;simp at this;omega);have acN:=G1.out.cell)
     | (refine eU _ (by rfl) _ _ _ (by rfl) base 89 i0 zO 9 64 underlying50 hi hz0 hz1 hz2 rfl (by omega) g1 oL (0+k) ([]++(M.take k).flatMap ah) (by first | rfl | simp[Act.eval,Act.put]) hown1 A (M.length -(k+1)) (ck -(k+1)) ((M.drop (k+1)).flatMap ah) (by first | rfl | simp[Act.eval,Act.put]) hl2.out (HN2.out _ G1.out) (yJ _) (by unfold maxLen;omega) (by omega) ?_ ?_;(have :=G1.out.below.size;omega);intro g2 cap2 w2 hown2 hgrow2 Iy;have G2:Hid (Goes w pj f0 f1 base b gs ck M w2):=G1.out.grown hgrow2 (by omega) (by omega) (by omega);have acO:=G2.out.cell)
     | fail)
   all_goals (try go_wp2)
   all_goals go_ret
   all_goals
    refine⟨rfl,.slice (some ⟨g2,0,none⟩) (k+(M.length -(k+1))) cap2,?_⟩;have hs:=yI (v:= .slice (some ⟨gs,0,none⟩) M.length ck) (PV M k (by omega) cap2 g2 w2 base hown2) (nJ.of_below G2.out.below) G2.out.blk;rw[HE.out];refine⟨hs.1,hs.2,Or.inr ⟨g2,rfl,?_⟩⟩;have :=G1.out.below.size
    rcases Iy with h | h <;>omega
end
section
open Go.Proofs.Tryz Go.Shelf Go.Lib Go.Sort
variable {W:World} {base g n cap:Nat} {M:List O} {d:Array O}
theorem p8 {P:Program} (w:World) {ops:Array Oper} {rest:List Oper} {o:Oper} {a:Act} {Q:Exit->Act->World->Prop} (hgd:o.guard=none) (s x:Operand) (t:TypeId)
  (ho:o.op= .call { callee:= .builtin .append,args:= #[s,x],argTypes:= #[t,t]})
  (base:Nat) (e:TypeId) (i:TypeInfo) (z:Value) (size bytes:Nat) (ht:P.underlying t=some (.slice e)) (hi:P.info? e=some i) (hz:i.zero=some z)
  (hsize:i.size=size) (hby:i.bytes=bytes) (hzs:z.cells.size=size) (hsz:0 < size)
  (g0 c0 n:Nat) (xs:List Value) (hs:a.eval s= .slice (some ⟨g0,0,none⟩) n c0) (hown:w.ownsRow base e size (.slice (some ⟨g0,0,none⟩) n c0) n xs)
  (ad:Addr) (m c:Nat) (news:List Value) (hx:a.eval x= .slice (some ad) m c) (hl:news.length=m * size) (hnews:∀j u,news[j]? =some u->w.cell? (ad.add j)=some u) (h1:∀u∈news,u.oneCell'=true)
  (h63:n+m<=maxLen) (hbytes:(n+m) * bytes<=140737488355328) (hbase:base<=w.heap.size)
  (h:∀g cap w',w'.ownsRow base e size (.slice (some ⟨g,0,none⟩) (n+m) cap) (n+m) (xs++news)->w.grownBy w' (some g0)->(g=g0∨g=w.heap.size)->wpList P ops Q rest (a.put o.dst (.slice (some ⟨g,0,none⟩) (n+m) cap)) w'):wpList P ops Q (o::rest) a w:=by
 refine wpList_plain hgd fun _ hK=> ?_
 obtain⟨v',w',hr,h2,h3,h4,h5⟩:=run_append_own_at (P:=P) w base t o.type e i z size bytes ht hi hz hsize hby hzs hsz _ n xs hown ad m c news hl hnews h1 h63 hbytes hbase
 rcases h2.2 with⟨rfl,_⟩ | ⟨g,cap,cur,rfl,_⟩
 ·have :=(h4.1 rfl).1;cases this
 ·unfold Oper.wp execOp;simp only[ho,resolve,invoke,builtin,Sem.run_bind,Sem.run_pure,Result.andThen_ok,List.map_toArray,List.map_cons,List.map_nil,hs,hx,hr];refine hK _ _ (h g cap w' h2 h3 ?_);simpa[Value.ownBlock] using h5
theorem Fb (hb:base<=W.heap.size):(W.alloc (.cells #[] 89)).ownsRow base 89 9 (.slice (some ⟨W.heap.size,0,none⟩) 0 0) 0 []:=
 ⟨rfl,.inr ⟨W.heap.size,0,#[],rfl,hb,heap_alloc_new _ _,Nat.le_refl _,Nat.zero_le _,rfl,rfl⟩⟩
theorem PW {w1:World} (hn:M.length=n) (h:w1.ownsRow base 89 9 (.slice (some ⟨g,0,none⟩) n cap) n (M.flatMap ah)):
  LY g 0 n cap w1.heap.size M.toArray (w1.alloc (.cells #[.slice (some ⟨g,0,none⟩) n cap] 50)):=by
 rcases h.2 with⟨h1,_⟩ | ⟨g',cap',cur,h1,hb,hg,h2,h3,h4,h5⟩
 ·cases h1
 ·cases h1;have hlt:g < w1.heap.size:=(Array.getElem?_eq_some_iff.1 hg).1;have hg':(w1.alloc (.cells #[.slice (some ⟨g,0,none⟩) n cap] 50)).heap[g]? =some (.cells cur 89 (0,0)):=(Below.heap_alloc _ _ _ hlt).trans hg;refine⟨by simpa using hn,Nk hg' (by rw[hn];exact h5),by simp,by simp;omega,by simp,by omega,cur,hg',h4⟩
theorem yK {lbx:Nat} (h:LY g 0 n cap lbx d W) (hb:base<=g) (hn:n<=cap) (hc:cap<=maxLen):W.ownsRow base 89 9 (.slice (some ⟨g,0,none⟩) n cap) d.toList.length (d.toList.flatMap ah):=by
 obtain⟨cur,h1,h2⟩:=h.shape
 have hl:d.toList.length=n:=by simpa using h.size
 refine⟨by rw[lV],.inr ⟨g,cap,cur,by rw[hl],hb,h1,by omega,hc,h2,?_⟩⟩;rw[<-qx];apply List.ext_getElem?;intro j
 by_cases hj:j < d.toList.length * 9
 ·rw[List.getElem?_take_of_lt hj,Array.getElem?_toList,Array.getElem?_toList]
  have hs:j < (flatK ah 9 d).size:=by rw[size_flatK];simpa using hj
  have hcell:=(h.row j hs).1;simp only[World.cell?,h1,Nat.zero_add] at hcell;simp only[Option.isSome_none,Bool.false_eq_true,if_false] at hcell;rw[hcell,Array.getElem?_eq_getElem hs,getElem!_pos _ j hs];rfl
 ·rw[List.getElem?_take_eq_none (by omega),List.getElem?_eq_none (by simp at hj;simp;omega)]
theorem Fe (hn:M.length=n) (hz:d.size=n) (hp:PermIn 0 n M.toArray d) (hs:SortedIn dD 0 n d):d.toList.Perm M∧bJ d.toList:=by
 refine⟨?_,ny (by rw[hz];exact hs)⟩;have h3:=hp.2.2
 have e1:(d.extract 0 n).toList=d.toList:=by simp[<-hz]
 have e2:(M.toArray.extract 0 n).toList=M:=by simp[<-hn]
 rw[e1,e2] at h3;exact h3
theorem oD (pj f0 f1:Value) (base b:Nat) (v:Value) (M:List O) (w:World) (h:gT pj f0 f1 w base b v M) (hM:M.length<=1000000):
  Calls prog 28 #[.pointer (some ⟨b,1,none⟩)] w fun e w'=>∃v' Z,e= .returned v'∧Z.Perm M∧bJ Z∧w'.ownsRow w.heap.size 89 9 v' Z.length (Z.flatMap ah)∧Below w.heap.size w w':=by
 obtain⟨i0,hi,hz0,hz1,hz2⟩:=info_parts xA;have hc:=h.cell;have hlt:=h.lt;have hE:=Fb (W:=w) (base:=w.heap.size) (Nat.le_refl _);have HE:=hid hE;clear hE
 rcases ownsRow_forms h.row with⟨rfl,h0⟩ | ⟨gs,ck,rfl⟩
 ·obtain rfl:M=[]:=List.eq_nil_of_length_eq_zero h0;clear h h0
  have HS:=vP (blk:=w.heap.size) (n:=0) (cap:=0) (lbx:=w.heap.size+1) (d:= #[]) ((w.alloc (.cells #[] 89)).alloc (.cells #[.slice (some ⟨w.heap.size,0,none⟩) 0 0] 50)) (by
   have :=PW (M:=[]) rfl HE.out
   simpa using this) (by omega)
  go_enter func28,ntmps28
  go_wp2_with (first
   | (refine wpList_append_own_none rfl _ _ _ rfl w.heap.size 89 i0 9 underlying50 hi _ 0 [] rfl HE.out rfl ?_)
   | (go_at_call 69;refine HS.mono ?_;rintro e w' ⟨rfl,d',h1,h2,h3,h4⟩;have hbx:=h1.box)
   | fail)
  go_ret;have hz:d'.toList=[]:=List.eq_nil_of_length_eq_zero (by simpa using h1.size);have hw:=yK (base:=w.heap.size) h1 (Nat.le_refl _) (Nat.le_refl _) (Nat.zero_le _);rw[hz] at hw;exact⟨_,[],rfl,List.Perm.refl _,List.Pairwise.nil,hw,(below_alloc2 w _ _).grown h4 (by simp;omega) (fun k e=>by cases e;exact Nat.le_refl _)⟩
 ·have HR:=hid h
  have HN:Hid (∀j u,(M.flatMap ah)[j]? =some u->(w.alloc (.cells #[] 89)).cell? ((⟨gs,0,none⟩:Addr).add j)=some u):=fun j u hu=>
   (aL h.row (below_alloc1 w (.cells #[] 89))).cells (g:=gs) rfl j u hu
  clear h;go_enter func28,ntmps28
  go_wp2_with (first
   | (refine p8 _ rfl _ _ _ rfl w.heap.size 89 i0 zO 9 64 underlying50 hi hz0 hz1 hz2 rfl (by omega) w.heap.size 0 0 [] rfl HE.out ⟨gs,0,none⟩ M.length ck (M.flatMap ah) rfl (lV M) HN.out (yJ M) (by unfold maxLen;omega) (by omega) (by simp) ?_;intro g1 oL w1 hown1 hgrow1 wF;have hw1:w.heap.size < w1.heap.size:=(by have :=hgrow1.size;simp at this;omega))
   | fail)
  rw[Nat.zero_add,List.nil_append] at hown1;have hB1:Below w.heap.size w w1:=(below_alloc1 w _).grown hgrow1 (by simp) (fun k e=>by cases e;exact Nat.le_refl _)
  have hg1:w.heap.size<=g1:=by
   have :=wF;simp at this;omega
  have Uq:M.length<=oL∧oL<=maxLen:=by
   rcases hown1.2 with⟨h1,_⟩ | ⟨g',cap',cur,h1,_,_,h2,h3,_⟩
   ·cases h1
   ·cases h1;exact⟨h2,h3⟩
  have HS:=vP (d:=M.toArray) (w1.alloc (.cells #[.slice (some ⟨g1,0,none⟩) M.length oL] 50)) (PW rfl hown1) (by omega);refine HS.mono ?_;rintro e w' ⟨rfl,d',h1,h2,h3,h4⟩;have hbx:=h1.box;go_wp2;go_ret;have hsl:=Fe rfl h1.size h2 h3;exact⟨_,d'.toList,rfl,hsl.1,hsl.2,yK h1 hg1 Uq.1 Uq.2,(hB1.alloc hB1.size _).grown h4 (by simp;omega) (fun k e=>by cases e;exact hg1)⟩
end
end Go.Proofs.YthfpipieboophaaGreatDoor
