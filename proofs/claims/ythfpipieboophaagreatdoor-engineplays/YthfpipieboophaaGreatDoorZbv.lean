import Derived.Test.YthfpipieboophaaGreatDoorZbu
namespace Go.Proofs.YthfpipieboophaaGreatDoor
set_option maxRecDepth 100000
set_option maxHeartbeats 40000000
open Go.Proofs.Tryz Go.Joins Go.RowKit Go.Shelf
section
variable {base n g cap i:Nat} {W:World}
theorem KY (w:World):Calls prog 46 #[.nilIface] w fun e w'=>e= .returned (.int .i64 0)∧w'=w:=by
 go_enter func46,ntmps46;go_wp2;go_ret;exact⟨rfl,rfl⟩
theorem Tryz.not174 (v:Value) (w:World):(Instr.typeAssert (.iface 24 v) 29 174 true).run prog w= .ok (.tuple #[.pointer none,.bool false]) w:=by kernel_rfl
theorem Tryz.lacks176 (v:Value) (xT:TypeId) (w:World):(Instr.typeAssert (.iface 24 v) xT 176 true).run prog w= .ok (.tuple #[.nilIface,.bool false]) w:=
 run_typeAssert_lacksB underlying176 (by kernel_rfl) (by kernel_rfl) v xT w
theorem zI (w:World):Calls prog 43 #[.nilIface] w fun e w'=>e= .returned (.tuple #[.int .i64 0,.bool true])∧w'=w:=by
 go_enter func43,ntmps43
 go_wp2_with (go_at_call 46;refine(KY _).mono ?_;rintro e w' ⟨rfl,rfl⟩)
 refine wp_loop_rounds 1 ?_;rw[rounds_succ];go_wp2;go_ret2;exact⟨rfl,rfl⟩
theorem x9 (k:Int) (w:World) (hg:w.cell? ⟨2,0,none⟩=some (.iface 278 (.agg #[.pointer (some ⟨12,29,none⟩)]))):
  Calls prog 43 #[.iface 24 (.int .i64 k)] w fun e w'=>e= .returned (.tuple #[.int .i64 k,.bool true])∧Below w.heap.size w w':=by
 have hz:0 < w.heap.size:=Nat.lt_of_le_of_lt (Nat.zero_le _) (World.block_lt_of_cell? _ _ hg);have hl:=Tryz.lacks176;have hn:=Tryz.not174;go_enter func43,ntmps43
 go_wp2_with (go_at_call 46;refine(AA k _ hg hz).mono ?_;rintro e w' ⟨rfl,hb⟩)
 refine wp_loop_rounds 1 ?_;rw[rounds_succ];go_wp2;go_ret2;exact⟨rfl,hb⟩
theorem wT (k:Int) (w:World) (hg:w.cell? ⟨2,0,none⟩=some iD):
  Calls prog 9 #[jI k,.int .i64 k] w fun e w'=>e= .returned (.bool true)∧Below w.heap.size w w':=by
 unfold jI
 by_cases h0:k=0
 ·subst h0;rw[if_pos rfl];go_enter func9,ntmps9
  go_wp2_with (go_at_call 43;refine(zI _).mono ?_;rintro e w' ⟨rfl,rfl⟩)
  go_ret;exact⟨rfl,Below.refl _ _⟩
 ·rw[if_neg h0];go_enter func9,ntmps9
  go_wp2_with (go_at_call 43;refine(x9 k _ hg).mono ?_;rintro e w' ⟨rfl,hb⟩)
  go_ret;exact⟨rfl,hb⟩
theorem aD {w w':World} {K:Nat} {T:TypeId} {v:Value} {xs:List Value} (h:w.ownsRow base T K v n xs) (hb:Below w.heap.size w w'):w'.ownsRow base T K v n xs:=
 ag h (fun g e=>hb.block g (h.lt g e).2)
theorem KZ (q:Gi):(jG q).length=6:=rfl
theorem vg {Z:List Ch} {z:Ch} (h:W.ownsRow base 95 10 (.slice (some ⟨g,0,none⟩) n cap) n (Z.flatMap aQ)) (hn:Z.length=n) (hi:Z[i]? =some z):W.cell? ⟨g,i * 10,none⟩=some (.int .i64 z.x.k)∧W.cell? ⟨g,i * 10+1,none⟩=some (.int .i64 z.x.lk)∧W.cell? ⟨g,i * 10+2,none⟩=some (.int .i64 z.x.lt)∧W.cell? ⟨g,i * 10+3,none⟩=some (.int .i64 z.x.lv)∧W.cell? ⟨g,i * 10+4,none⟩=some (.int .i64 z.x.rk)∧W.cell? ⟨g,i * 10+5,none⟩=some (.int .i64 z.x.rt)∧W.cell? ⟨g,i * 10+6,none⟩=some (.int .i64 z.x.rv)∧W.cell? ⟨g,i * 10+7,none⟩=some (.bool z.x.hl)∧W.cell? ⟨g,i * 10+8,none⟩=some (.bool z.x.hr)∧W.cell? ⟨g,i * 10+9,none⟩=some (.bool z.g):=by
 subst hn;have hl:i < Z.length:=(List.getElem?_eq_some_iff.1 hi).1
 have e:∀j,j < 10->W.cell? ⟨g,i * 10+j,none⟩=(aQ z)[j]? :=fun j hj=>by
  rw[h.cellAt (i * 10+j) (by omega),cB aQ 10 kC Z i j z hi hj]
 exact⟨e 0 (by omega),e 1 (by omega),e 2 (by omega),e 3 (by omega),e 4 (by omega),e 5 (by omega),e 6 (by omega),e 7 (by omega),e 8 (by omega),e 9 (by omega)⟩
theorem Ei (z:Ch) (w:World):(binOp .neq 95 (.agg #[.int .i64 z.x.k,.int .i64 z.x.lk,.int .i64 z.x.lt,.int .i64 z.x.lv,.int .i64 z.x.rk,.int .i64 z.x.rt,.int .i64 z.x.rv,.bool z.x.hl,.bool z.x.hr,.bool z.g]) (.agg #[.int .i64 z.x.k,.int .i64 z.x.lk,.int .i64 z.x.lt,.int .i64 z.x.lv,.int .i64 z.x.rk,.int .i64 z.x.rt,.int .i64 z.x.rv,.bool z.x.hl,.bool z.x.hr,.bool z.g])).run prog w= .ok (.bool false) w:=by go_simp
theorem Cr (v1 v2:Value) (Z:List Ch) (b1 b2:Nat) (w:World) (h1:w.ownsRow b1 95 10 v1 Z.length (Z.flatMap aQ)) (h2:w.ownsRow b2 95 10 v2 Z.length (Z.flatMap aQ)) (hZ:Z.length<=1000000):
  Calls prog 12 #[v1,v2] w fun e w'=>e= .returned (.bool true)∧Below w.heap.size w w':=by
 by_cases hz0:Z.length=0
 ·rw[hz0] at h1 h2
  rcases ownsRow_forms h1 with⟨rfl,_⟩ | ⟨ga,ca,rfl⟩ <;>rcases ownsRow_forms h2 with⟨rfl,_⟩ | ⟨gb,cb,rfl⟩
  all_goals
   clear h1 h2;go_enter func12,ntmps12;go_wp2;refine wp_loop_rounds 1 ?_;rw[rounds_succ];go_wp2;go_ret;exact⟨rfl,Below.refl _ _⟩
 ·obtain⟨ga,ca,rfl⟩:=ownsRow_form h1 (by omega);obtain⟨gb,cb,rfl⟩:=ownsRow_form h2 (by omega);have U3:Hid _:=h1;have U4:Hid _:=h2;clear h1 h2;go_enter func12,ntmps12;go_wp2
  go_loopg [5] Z.length (fun g i wr=>∃i':Nat,i'<=Z.length∧g=Z.length -i'∧i= .int .i64 i'∧Below w.heap.size w wr)
  case atStart=>exact⟨0,Nat.zero_le _,rfl,rfl,Below.refl _ _⟩
  case round=>
   obtain⟨i',hi',hgi,rfl,hBr⟩:=hrel;have sU:Hid _:=hgi;have Jw:Hid _:=hBr;clear hgi
   by_cases hlt:i' < Z.length
   ·obtain⟨z,hz⟩:∃z,Z[i']? =some z:=⟨_,List.getElem?_eq_getElem hlt⟩;have hca:=vg (aD U3.out hBr) rfl hz;have hcb:=vg (aD U4.out hBr) rfl hz;have hnq:=Ei z
    have i1:(0:Int)<=(i':Int):=by omega
    have i2:(i':Int) < (Z.length:Int):=by omega
    clear hBr hz;go_wp2;go_quiet (fail)
    all_goals (try go_wp2)
    go_roundg (Z.length -(i'+1))
    case measure=>have :=sU.out;omega
    case rel=>exact⟨i'+1,by omega,rfl,by go_num,Jw.out.trans ⟨rfl,rfl,rfl,Nat.le_refl _,fun _ _=>rfl⟩⟩
   ·have e4:i'=Z.length:=by omega
    have hge4:¬((i':Int) < (Z.length:Int)):=by omega
    clear hBr;go_wp2;go_ret;exact⟨rfl,Jw.out⟩
theorem Ej {Z:List O} {z:O} (h:W.ownsRow base 89 9 (.slice (some ⟨g,0,none⟩) n cap) n (Z.flatMap ah)) (hn:Z.length=n) (hi:Z[i]? =some z):W.cell? ⟨g,i * 9,none⟩=some (.int .i64 z.k)∧W.cell? ⟨g,i * 9+1,none⟩=some (.int .i64 z.lk)∧W.cell? ⟨g,i * 9+2,none⟩=some (.int .i64 z.lt)∧W.cell? ⟨g,i * 9+3,none⟩=some (.int .i64 z.lv)∧W.cell? ⟨g,i * 9+4,none⟩=some (.int .i64 z.rk)∧W.cell? ⟨g,i * 9+5,none⟩=some (.int .i64 z.rt)∧W.cell? ⟨g,i * 9+6,none⟩=some (.int .i64 z.rv)∧W.cell? ⟨g,i * 9+7,none⟩=some (.bool z.hl)∧W.cell? ⟨g,i * 9+8,none⟩=some (.bool z.hr):=by
 subst hn;have hl:i < Z.length:=(List.getElem?_eq_some_iff.1 hi).1
 have e:∀j,j < 9->W.cell? ⟨g,i * 9+j,none⟩=(ah z)[j]? :=fun j hj=>by
  rw[h.cellAt (i * 9+j) (by omega),cB ah 9 fI Z i j z hi hj]
 exact⟨e 0 (by omega),e 1 (by omega),e 2 (by omega),e 3 (by omega),e 4 (by omega),e 5 (by omega),e 6 (by omega),e 7 (by omega),e 8 (by omega)⟩
theorem Oj (z:O) (w:World):(binOp .neq 89 (.agg #[.int .i64 z.k,.int .i64 z.lk,.int .i64 z.lt,.int .i64 z.lv,.int .i64 z.rk,.int .i64 z.rt,.int .i64 z.rv,.bool z.hl,.bool z.hr]) (.agg #[.int .i64 z.k,.int .i64 z.lk,.int .i64 z.lt,.int .i64 z.lv,.int .i64 z.rk,.int .i64 z.rt,.int .i64 z.rv,.bool z.hl,.bool z.hr])).run prog w= .ok (.bool false) w:=by go_simp
theorem K5 (v1 v2:Value) (Z:List O) (b1 b2:Nat) (w:World) (h1:w.ownsRow b1 89 9 v1 Z.length (Z.flatMap ah)) (h2:w.ownsRow b2 89 9 v2 Z.length (Z.flatMap ah)) (hZ:Z.length<=1000000):
  Calls prog 26 #[v1,v2] w fun e w'=>e= .returned (.bool true)∧Below w.heap.size w w':=by
 by_cases hz0:Z.length=0
 ·rw[hz0] at h1 h2
  rcases ownsRow_forms h1 with⟨rfl,_⟩ | ⟨ga,ca,rfl⟩ <;>rcases ownsRow_forms h2 with⟨rfl,_⟩ | ⟨gb,cb,rfl⟩
  all_goals
   clear h1 h2;go_enter func26,ntmps26;go_wp2;refine wp_loop_rounds 1 ?_;rw[rounds_succ];go_wp2;go_ret;exact⟨rfl,Below.refl _ _⟩
 ·obtain⟨ga,ca,rfl⟩:=ownsRow_form h1 (by omega);obtain⟨gb,cb,rfl⟩:=ownsRow_form h2 (by omega);have U3:Hid _:=h1;have U4:Hid _:=h2;clear h1 h2;go_enter func26,ntmps26;go_wp2
  go_loopg [5] Z.length (fun g i wr=>∃i':Nat,i'<=Z.length∧g=Z.length -i'∧i= .int .i64 i'∧Below w.heap.size w wr)
  case atStart=>exact⟨0,Nat.zero_le _,rfl,rfl,Below.refl _ _⟩
  case round=>
   obtain⟨i',hi',hgi,rfl,hBr⟩:=hrel;have sU:Hid _:=hgi;have Jw:Hid _:=hBr;clear hgi
   by_cases hlt:i' < Z.length
   ·obtain⟨z,hz⟩:∃z,Z[i']? =some z:=⟨_,List.getElem?_eq_getElem hlt⟩;have hca:=Ej (aD U3.out hBr) rfl hz;have hcb:=Ej (aD U4.out hBr) rfl hz;have hnq:=Oj z
    have i1:(0:Int)<=(i':Int):=by omega
    have i2:(i':Int) < (Z.length:Int):=by omega
    clear hBr hz;go_wp2;go_quiet (fail)
    all_goals (try go_wp2)
    go_roundg (Z.length -(i'+1))
    case measure=>have :=sU.out;omega
    case rel=>exact⟨i'+1,by omega,rfl,by go_num,Jw.out.trans ⟨rfl,rfl,rfl,Nat.le_refl _,fun _ _=>rfl⟩⟩
   ·have e4:i'=Z.length:=by omega
    have hge4:¬((i':Int) < (Z.length:Int)):=by omega
    clear hBr;go_wp2;go_ret;exact⟨rfl,Jw.out⟩
theorem yc {Z:List Gi} {z:Gi} (h:W.ownsRow base 140 6 (.slice (some ⟨g,0,none⟩) n cap) n (Z.flatMap jG)) (hn:Z.length=n) (hi:Z[i]? =some z):W.cell? ⟨g,i * 6,none⟩=some (.int .i64 z.key)∧W.cell? ⟨g,i * 6+1,none⟩=some (.int .i64 z.count)∧W.cell? ⟨g,i * 6+2,none⟩=some (.int .i64 z.sum)∧W.cell? ⟨g,i * 6+3,none⟩=some (.int .i64 z.least)∧W.cell? ⟨g,i * 6+4,none⟩=some (.int .i64 z.most)∧W.cell? ⟨g,i * 6+5,none⟩=some (.bool z.some):=by
 subst hn;have hl:i < Z.length:=(List.getElem?_eq_some_iff.1 hi).1
 have e:∀j,j < 6->W.cell? ⟨g,i * 6+j,none⟩=(jG z)[j]? :=fun j hj=>by
  rw[h.cellAt (i * 6+j) (by omega),cB jG 6 KZ Z i j z hi hj]
 exact⟨e 0 (by omega),e 1 (by omega),e 2 (by omega),e 3 (by omega),e 4 (by omega),e 5 (by omega)⟩
theorem G9 (z:Gi) (w:World):(binOp .neq 140 (.agg #[.int .i64 z.key,.int .i64 z.count,.int .i64 z.sum,.int .i64 z.least,.int .i64 z.most,.bool z.some]) (.agg #[.int .i64 z.key,.int .i64 z.count,.int .i64 z.sum,.int .i64 z.least,.int .i64 z.most,.bool z.some])).run prog w= .ok (.bool false) w:=by go_simp
theorem El (v1 v2:Value) (Z:List Gi) (b1 b2:Nat) (w:World) (h1:w.ownsRow b1 140 6 v1 Z.length (Z.flatMap jG)) (h2:w.ownsRow b2 140 6 v2 Z.length (Z.flatMap jG)) (hZ:Z.length<=1000000):
  Calls prog 29 #[v1,v2] w fun e w'=>e= .returned (.bool true)∧Below w.heap.size w w':=by
 by_cases hz0:Z.length=0
 ·rw[hz0] at h1 h2
  rcases ownsRow_forms h1 with⟨rfl,_⟩ | ⟨ga,ca,rfl⟩ <;>rcases ownsRow_forms h2 with⟨rfl,_⟩ | ⟨gb,cb,rfl⟩
  all_goals
   clear h1 h2;go_enter func29,ntmps29;go_wp2;refine wp_loop_rounds 1 ?_;rw[rounds_succ];go_wp2;go_ret;exact⟨rfl,Below.refl _ _⟩
 ·obtain⟨ga,ca,rfl⟩:=ownsRow_form h1 (by omega);obtain⟨gb,cb,rfl⟩:=ownsRow_form h2 (by omega);have U3:Hid _:=h1;have U4:Hid _:=h2;clear h1 h2;go_enter func29,ntmps29;go_wp2
  go_loopg [5] Z.length (fun g i wr=>∃i':Nat,i'<=Z.length∧g=Z.length -i'∧i= .int .i64 i'∧Below w.heap.size w wr)
  case atStart=>exact⟨0,Nat.zero_le _,rfl,rfl,Below.refl _ _⟩
  case round=>
   obtain⟨i',hi',hgi,rfl,hBr⟩:=hrel;have sU:Hid _:=hgi;have Jw:Hid _:=hBr;clear hgi
   by_cases hlt:i' < Z.length
   ·obtain⟨z,hz⟩:∃z,Z[i']? =some z:=⟨_,List.getElem?_eq_getElem hlt⟩;have hca:=yc (aD U3.out hBr) rfl hz;have hcb:=yc (aD U4.out hBr) rfl hz;have hnq:=G9 z
    have i1:(0:Int)<=(i':Int):=by omega
    have i2:(i':Int) < (Z.length:Int):=by omega
    clear hBr hz;go_wp2;go_quiet (fail)
    all_goals (try go_wp2)
    go_roundg (Z.length -(i'+1))
    case measure=>have :=sU.out;omega
    case rel=>exact⟨i'+1,by omega,rfl,by go_num,Jw.out.trans ⟨rfl,rfl,rfl,Nat.le_refl _,fun _ _=>rfl⟩⟩
   ·have e4:i'=Z.length:=by omega
    have hge4:¬((i':Int) < (Z.length:Int)):=by omega
    clear hBr;go_wp2;go_ret;exact⟨rfl,Jw.out⟩
theorem Sn {Z:List D} {z:D} (h:W.ownsRow base 130 4 (.slice (some ⟨g,0,none⟩) n cap) n (Z.flatMap ak)) (hn:Z.length=n) (hi:Z[i]? =some z):W.cell? ⟨g,i * 4,none⟩=some (.int .i64 z.k)∧W.cell? ⟨g,i * 4+1,none⟩=some (.int .i64 z.t)∧W.cell? ⟨g,i * 4+2,none⟩=some (.int .i64 z.v)∧W.cell? ⟨g,i * 4+3,none⟩=some (.int .i64 z.n):=by
 subst hn;have hl:i < Z.length:=(List.getElem?_eq_some_iff.1 hi).1
 have e:∀j,j < 4->W.cell? ⟨g,i * 4+j,none⟩=(ak z)[j]? :=fun j hj=>by
  rw[h.cellAt (i * 4+j) (by omega),cB ak 4 bS Z i j z hi hj]
 exact⟨e 0 (by omega),e 1 (by omega),e 2 (by omega),e 3 (by omega)⟩
theorem U5 {Z:List Hl} {z:Hl} (h:W.ownsRow base 117 5 (.slice (some ⟨g,0,none⟩) n cap) n (Z.flatMap bz)) (hn:Z.length=n) (hi:Z[i]? =some z):W.cell? ⟨g,i * 5,none⟩=some (.int .i64 z.k)∧W.cell? ⟨g,i * 5+1,none⟩=some (.int .i64 z.t)∧W.cell? ⟨g,i * 5+2,none⟩=some (.int .i64 z.v)∧W.cell? ⟨g,i * 5+3,none⟩=some (.int .i64 z.met)∧W.cell? ⟨g,i * 5+4,none⟩=some (.int .i64 z.came):=by
 subst hn;have hl:i < Z.length:=(List.getElem?_eq_some_iff.1 hi).1
 have e:∀j,j < 5->W.cell? ⟨g,i * 5+j,none⟩=(bz z)[j]? :=fun j hj=>by
  rw[h.cellAt (i * 5+j) (by omega),cB bz 5 fM Z i j z hi hj]
 exact⟨e 0 (by omega),e 1 (by omega),e 2 (by omega),e 3 (by omega),e 4 (by omega)⟩
theorem Sq (k t v:Int) (w:World):(binOp .neq 37 (.agg #[.int .i64 k,.int .i64 t,.int .i64 v]) (.agg #[.int .i64 k,.int .i64 t,.int .i64 v])).run prog w= .ok (.bool false) w:=by go_simp
theorem AB (v1 v2:Value) (E:List Hl) (b1 b2:Nat) (w:World) (h1:w.ownsRow b1 130 4 v1 E.length ((E.map fE).flatMap ak)) (h2:w.ownsRow b2 117 5 v2 E.length (E.flatMap bz)) (hZ:E.length<=1000000):
  Calls prog 22 #[v1,v2] w fun e w'=>e= .returned (.bool true)∧Below w.heap.size w w':=by
 by_cases hz0:E.length=0
 ·rw[hz0] at h1 h2
  rcases ownsRow_forms h1 with⟨rfl,_⟩ | ⟨ga,ca,rfl⟩ <;>rcases ownsRow_forms h2 with⟨rfl,_⟩ | ⟨gb,cb,rfl⟩
  all_goals
   clear h1 h2;go_enter func22,ntmps22;go_wp2;refine wp_loop_rounds 1 ?_;rw[rounds_succ];go_wp2;go_ret;exact⟨rfl,Below.refl _ _⟩
 ·obtain⟨ga,ca,rfl⟩:=ownsRow_form h1 (by omega);obtain⟨gb,cb,rfl⟩:=ownsRow_form h2 (by omega);have U3:Hid _:=h1;have U4:Hid _:=h2;clear h1 h2;go_enter func22,ntmps22;go_wp2
  go_loopg [5] E.length (fun g i wr=>∃i':Nat,i'<=E.length∧g=E.length -i'∧i= .int .i64 i'∧Below w.heap.size w wr)
  case atStart=>exact⟨0,Nat.zero_le _,rfl,rfl,Below.refl _ _⟩
  case round=>
   obtain⟨i',hi',hgi,rfl,hBr⟩:=hrel;have sU:Hid _:=hgi;have Jw:Hid _:=hBr;clear hgi
   by_cases hlt:i' < E.length
   ·obtain⟨z,hz⟩:∃z,E[i']? =some z:=⟨_,List.getElem?_eq_getElem hlt⟩;have hca:=Sn (aD U3.out hBr) (by simp) (show(E.map fE)[i']? =some (fE z) by rw[List.getElem?_map,hz];rfl);have hcb:=U5 (aD U4.out hBr) rfl hz;simp only[fE] at hca;have hnq:=Sq z.k z.t z.v
    have i1:(0:Int)<=(i':Int):=by omega
    have i2:(i':Int) < (E.length:Int):=by omega
    clear hBr hz;go_wp2;go_quiet (fail)
    all_goals (try go_wp2)
    go_roundg (E.length -(i'+1))
    case measure=>have :=sU.out;omega
    case rel=>exact⟨i'+1,by omega,rfl,by go_num,Jw.out.trans ⟨rfl,rfl,rfl,Nat.le_refl _,fun _ _=>rfl⟩⟩
   ·have e4:i'=E.length:=by omega
    have hge4:¬((i':Int) < (E.length:Int)):=by omega
    clear hBr;go_wp2;go_ret;exact⟨rfl,Jw.out⟩
end
section
open Go.Sort
variable {b n be:Nat} {st:Sx} {rs:RS} {P S:Nat->Prop} {W w':World}
theorem He {v0 v1:Value} {x:RJ} (s k t v:Int) (w:World) (h:dh w 0 b v0 v1 x) (hs:bM s=false):
  Calls prog 44 #[.pointer (some ⟨b,0,none⟩),.int .i64 s,.agg #[.int .i64 k,.int .i64 t,.int .i64 v]] w fun e w'=>e= .returned (.tuple #[.slice none 0 0,.int .i64 1])∧Below w.heap.size w w':=by
 have hi:iG 0 1 s=false:=by
  simp[bM] at hs;simp[iG];omega
 have pW:=fun W=>bG s 0 1 W
 rw[hi] at pW;have hlt:=h.lt;clear h hs hi;go_enter func44,ntmps44;go_wp2_with fail;refine(pW _).mono ?_;rintro e w2 ⟨rfl,rfl⟩;clear pW;go_wp2;go_ret2;exact⟨rfl,by repeat' (first | exact below_alloc1 _ _ | refine Below.drew ?_)⟩
def fedC (st:Sx) (s k t v:Int):Int×Sx:=if s=0 then st.feed0 k t v else if s=1 then st.feed1 k t v else(1,st)
def fedL (st:Sx) (s k t v:Int):List Ch:=if s=0 then Dh st k t v else if s=1 then Di st k t v else[]
theorem dH.fedC (h:dH n st) (hn:n<=1600) (s k t v:Int):dH (n+1) (fedC st s k t v).2:=by
 unfold Proofs.YthfpipieboophaaGreatDoor.fedC
 split
 ·exact h.feed0 hn k t v
 ·split
  ·exact h.feed1 hn k t v
  ·exact h.more (by omega)
theorem JP {s:Int} (h0:¬s=0) (h1:¬s=1):bM s=false:=by simp[bM,h0,h1]
theorem Su (h:RE be rs P W) (hL:dN n st rs) (hO:dH n st) (hn:n<=1600) (s k t u:Int):
  Calls prog 10 #[.pointer (some ⟨be,0,none⟩),.int .i64 s,.agg #[.int .i64 k,.int .i64 t,.int .i64 u]] W fun e w'=>∃vx,e= .returned (.tuple #[vx,.int .i64 (fedC st s k t u).1])∧w'.ownsRow W.heap.size 95 10 vx (fedL st s k t u).length ((fedL st s k t u).flatMap aQ)∧Ol be (n+1) (fedC st s k t u).2 P W w':=by
 unfold fedC fedL
 by_cases h0:s=0
 ·subst h0;rw[if_pos rfl,if_pos rfl];exact Em h hL hO hn k t u
 rw[if_neg h0,if_neg h0]
 by_cases h1:s=1
 ·subst h1;rw[if_pos rfl,if_pos rfl];exact En h hL hO hn k t u
 rw[if_neg h1,if_neg h1];have hs:=JP h0 h1;obtain⟨bj,v,v0,v1,hA,hP⟩:=h
 have Hf:rs.M.length<=900000:=by
  obtain⟨A,B,hH,hV,hlen,ha,hb⟩:=hO.ex;rw[hL.v.length_eq,hV.length_eq];have :=o8 st.x.lo st.x.hi st.x.mode A B n hn hlen;omega
 refine(kG s 1 k t u W hA (fun _=>False) (fun C x' bA v1'=>C=[]∧x'=rs.x∧bA=v0∧v1'=v1) Hf (.inr (.inr ⟨.inl rfl,rfl,rfl⟩)) (fun _ e=>e.elim) (fun W1 hs1 sS=>(He s k t u W1 sS hs).mono ?_)).mono ?_
 ·rintro e w' ⟨rfl,hb⟩;exact⟨_,v0,v1,[],rs.x,rfl,World.ownsRow_nil _ _ _ _,by simp,sS.below hb,Turned.of_below hb,rfl,rfl,rfl,rfl⟩
 ·rintro e w' ⟨vx,v',bA,v1',C,x',rfl,h1,h2,⟨hC,hx,hv0,hv1⟩,h4,h5⟩;subst hC hx;rw[hv0,hv1] at h2;refine⟨vx,rfl,?_,jh (rs:=rs) hP (S:=fun _=>False) (fun _ e=>e.elim) h2 (hL.more (by omega)) h4 h5 (fun _ e=> .inl e) (fun _ e=> .inl e)⟩;simpa using h1
theorem Sv (hP:PE st be S W) (hO:dH n st) (hn:n<=1600) (hg0:W.cell? ⟨2,0,none⟩=some iD) (s k t v:Int):
  Calls prog 11 #[.pointer (some ⟨be,0,none⟩),.int .i64 s,.agg #[.int .i64 k,.int .i64 t,.int .i64 v]] W fun e w'=>∃v9 S',e= .returned (.tuple #[v9,jI (fedC st s k t v).1])∧w'.ownsRow W.heap.size 95 10 v9 (fedL st s k t v).length ((fedL st s k t v).flatMap aQ)∧PE (fedC st s k t v).2 be S' w'∧eO S S' W w':=by
 unfold fedC fedL
 by_cases h0:s=0
 ·subst h0;rw[if_pos rfl,if_pos rfl];refine(JC hP hO hn hg0 k t v).mono ?_;rintro e w' ⟨v9,S',rfl,h1,h2,h3⟩;refine⟨v9,S',rfl,?_,h3⟩;unfold Dh
  split
  ·rename_i h;exact h1 h
  ·rename_i h;rw[h2 h];exact World.ownsRow_nil _ _ _ _
 rw[if_neg h0,if_neg h0]
 by_cases h1:s=1
 ·subst h1;rw[if_pos rfl,if_pos rfl];refine(JD hP hO hn hg0 k t v).mono ?_;rintro e w' ⟨v9,S',rfl,h1,h2,h3⟩;refine⟨v9,S',rfl,?_,h3⟩;unfold Di
  split
  ·rename_i h;exact h1 h
  ·rename_i h;rw[h2 h];exact World.ownsRow_nil _ _ _ _
 rw[if_neg h1,if_neg h1];refine(GA hP hg0 s k t v (.inl (JP h0 h1))).mono ?_;rintro e w' ⟨rfl,hb⟩;have h1:=cz st be S W w' hP hb.size (fun k hk=>hb.block k (dQ hP k hk));exact⟨_,S,rfl,World.ownsRow_nil _ _ _ _,h1,⟨fun k hk=>⟨.inl hk,dQ h1 k hk⟩,Turned.of_below hb⟩⟩
theorem K7 (h:w'.heap[b]? =W.heap[b]?) (o:Nat):w'.cell? ⟨b,o,none⟩=W.cell? ⟨b,o,none⟩:=by
 unfold World.cell?;rw[h]
abbrev kH (K:Nat->Prop) (W w':World):Prop:=∀k,K k->w'.heap[k]? =W.heap[k]?
def EQ (w1:World) (be br:Nat) (st sr:Sx) (j:Nat) (K:Nat->Prop) (W:World):Prop:=
 ∃S P rs,PE st be S W∧RE br rs P W∧dN j sr rs∧(∀k,S k->¬P k∧¬K k∧w1.heap.size<=k)∧(∀k,P k->¬K k∧w1.heap.size<=k)∧(∀k,K k->k < W.heap.size)∧Below w1.heap.size w1 W
section
variable {w1 W W':World} {be br j n:Nat} {st sr:Sx} {K:Nat->Prop}
theorem EQ.base (h:EQ w1 be br st sr j K W):Below w1.heap.size w1 W:=by
 obtain⟨S,P,rs,a1,a2,a3,a4,a5,a6,a7⟩:=h;exact a7
theorem EQ.hold (h:EQ w1 be br st sr j K W) (hb:Below W.heap.size W W') (K':Nat->Prop) (hK:∀k,K' k->K k∨W.heap.size<=k∧k < W'.heap.size):EQ w1 be br st sr j K' W':=by
 obtain⟨S,P,rs,a1,a2,a3,a4,a5,a6,a7⟩:=h;refine⟨S,P,rs,cz st be S W W' a1 hb.size (fun k hk=>hb.block k (dQ a1 k hk)),a2.below hb,a3,fun k hk=>⟨(a4 k hk).1,fun e=> ?_,(a4 k hk).2.2⟩,fun k hk=>⟨fun e=> ?_,(a5 k hk).2⟩,fun k hk=> ?_,a7.trans (hb.mono a7.size)⟩
 ·rcases hK k e with e | e
  ·exact(a4 k hk).2.1 e
  ·have :=dQ a1 k hk;omega
 ·rcases hK k e with e | e
  ·exact(a5 k hk).1 e
  ·have :=a2.plt k hk;omega
 ·rcases hK k hk with e | e
  ·exact Nat.lt_of_lt_of_le (a6 k e) hb.size
  ·exact e.2
theorem EQ.below (h:EQ w1 be br st sr j K W) (hb:Below W.heap.size W W'):EQ w1 be br st sr j K W':=h.hold hb K (fun _ e=> .inl e)
theorem rO {w1:World} (h:Below w1.heap.size w1 W) (ht:Turned S W w') (hS:∀k,S k->w1.heap.size<=k):Below w1.heap.size w1 w':=
 ⟨ht.os.trans h.os,ht.tape.trans h.tape,ht.output.trans h.output,Nat.le_trans h.size ht.size,fun k hk=>(ht.block k (Nat.lt_of_lt_of_le hk h.size) (fun e=>by have :=hS k e;omega)).trans (h.block k hk)⟩
theorem Om {P':Nat->Prop} {rs':RS} {Ri:Sx} {j':Nat} (a1:PE st be S W) (a4:∀k,S k->¬P k∧¬K k∧w1.heap.size<=k) (a5:∀k,P k->¬K k∧w1.heap.size<=k) (a6:∀k,K k->k < W.heap.size) (a7:Below w1.heap.size w1 W)
  (h1:RE br rs' P' w') (h2:dN j' Ri rs') (h3:Turned P W w') (h4:∀k,P' k->P k∨W.heap.size<=k):EQ w1 be br st Ri j' K w'∧kH K W w':=by
 have z:=a7.size;refine⟨⟨S,P',rs',cz st be S W w' a1 h3.size (fun k hk=>h3.block k (dQ a1 k hk) (a4 k hk).1),h1,h2,fun k hk=>⟨fun e=> ?_,(a4 k hk).2⟩,fun k hk=> ?_,fun k hk=>Nat.lt_of_lt_of_le (a6 k hk) h3.size,rO a7 h3 (fun k e=>(a5 k e).2)⟩,fun k hk=>h3.block k (a6 k hk) (fun e=>(a5 k e).1 hk)⟩
 ·rcases h4 k e with e | e
  ·exact(a4 k hk).1 e
  ·have :=dQ a1 k hk;omega
 ·rcases h4 k hk with e | e
  ·exact a5 k e
  ·exact⟨fun e2=>by have :=a6 k e2;omega,by omega⟩
theorem Oo {S':Nat->Prop} {st':Sx} (a2:RE br rs P W) (a3:dN j sr rs) (a4:∀k,S k->¬P k∧¬K k∧w1.heap.size<=k) (a5:∀k,P k->¬K k∧w1.heap.size<=k) (a6:∀k,K k->k < W.heap.size) (a7:Below w1.heap.size w1 W)
  (h1:PE st' be S' w') (h2:eO S S' W w'):EQ w1 be br st' sr j K w'∧kH K W w':=by
 have z:=a7.size;obtain⟨h2,h3⟩:=h2;refine⟨⟨S',P,rs,h1,a2.still (fun k hk=>h3.block k (a2.plt k hk) (fun e=>(a4 k e).1 hk)),a3,fun k hk=> ?_,a5,fun k hk=>Nat.lt_of_lt_of_le (a6 k hk) h3.size,rO a7 h3 (fun k e=>(a4 k e).2.2)⟩,fun k hk=>h3.block k (a6 k hk) (fun e=>(a4 k e).2.1 hk)⟩
 rcases(h2 k hk).1 with e | e
 ·exact a4 k e
 ·exact⟨fun e2=>by have :=a2.plt k e2;omega,fun e2=>by have :=a6 k e2;omega,by omega⟩
theorem EQ.feeds (h:EQ w1 be br st st n K W) (hO:dH n st) (hn:n<=1600) (hg0:w1.cell? ⟨2,0,none⟩=some iD) (s k t v:Int):
  Calls prog 10 #[.pointer (some ⟨br,0,none⟩),.int .i64 s,.agg #[.int .i64 k,.int .i64 t,.int .i64 v]] W fun e w'=>∃vx,e= .returned (.tuple #[vx,.int .i64 (fedC st s k t v).1])∧kH K W w'∧
   Calls prog 11 #[.pointer (some ⟨be,0,none⟩),.int .i64 s,.agg #[.int .i64 k,.int .i64 t,.int .i64 v]] w' fun e w2=>∃v9,e= .returned (.tuple #[v9,jI (fedC st s k t v).1])∧w2.ownsRow 0 95 10 v9 (fedL st s k t v).length ((fedL st s k t v).flatMap aQ)∧w2.ownsRow 0 95 10 vx (fedL st s k t v).length ((fedL st s k t v).flatMap aQ)∧EQ w1 be br (fedC st s k t v).2 (fedC st s k t v).2 (n+1) K w2:=by
 obtain⟨S,P,rs,a1,a2,a3,a4,a5,a6,a7⟩:=h;refine(Su a2 a3 hO hn s k t v).mono ?_;rintro e w' ⟨vx,rfl,h1,rs',P',b1,b2,b3,b4⟩;obtain⟨hq,hk⟩:=Om a1 a4 a5 a6 a7 b1 b2 b3 b4;refine⟨vx,rfl,hk,?_⟩;have a1':=cz st be S W w' a1 b3.size (fun k hk=>b3.block k (dQ a1 k hk) (a4 k hk).1);have sZ:=hq.base;refine(Sv a1' hO hn ((sZ.cell (p:=⟨2,0,none⟩) (World.block_lt_of_cell? _ _ hg0)).trans hg0) s k t v).mono ?_;rintro e w2 ⟨v9,S',rfl,c1,c2,c3⟩;refine⟨v9,rfl,ownsRow_le c1 (Nat.zero_le _),ag (ownsRow_le h1 (Nat.zero_le _)) (fun g e=>c3.2.block g (h1.lt g e).2 (fun hS=>by have :=dQ a1 g hS;have :=(h1.lt g e).1;omega)),?_⟩;refine(Oo (S:=S) (P:=P') (rs:=rs') b1 b2 (fun k hk=>⟨fun e=> ?_,(a4 k hk).2⟩) (fun k hk=> ?_) (fun k hk=>Nat.lt_of_lt_of_le (a6 k hk) b3.size) sZ c2 c3).1
 ·rcases b4 k e with e | e
  ·exact(a4 k hk).1 e
  ·have :=dQ a1 k hk;omega
 ·rcases b4 k hk with e | e
  ·exact a5 k e
  ·have :=a7.size;exact⟨fun e2=>by have :=a6 k e2;omega,by omega⟩
theorem EQ.more (h:EQ w1 be br st sr j K W) {m:Nat} (hm:j<=m):EQ w1 be br st sr m K W:=by
 obtain⟨S,P,rs,a1,a2,a3,a4⟩:=h;exact⟨S,P,rs,a1,a2,a3.more hm,a4⟩
theorem EQ.moveE (h:EQ w1 be br st sr j K W) (hO:dH n st) (hn:n<=1600) (s t:Int):
  Calls prog 15 #[.pointer (some ⟨be,0,none⟩),.int .i64 s,.int .i64 t] W fun e w'=>e= .returned (jI (st.move s t).1)∧w'.cell? ⟨br,0,none⟩=W.cell? ⟨br,0,none⟩∧EQ w1 be br (st.move s t).2 sr j K w'∧kH K W w':=by
 obtain⟨S,P,rs,a1,a2,a3,a4,a5,a6,a7⟩:=h;refine(NJ a1 hO hn s t).mono ?_;rintro e w' ⟨S',rfl,h2,h3⟩;refine⟨rfl,K7 (h3.2.block br (a2.plt br a2.pbe) (fun e=>(a4 br e).1 a2.pbe)) 0,?_⟩;exact Oo a2 a3 a4 a5 a6 a7 h2 h3
theorem EQ.moveR (h:EQ w1 be br st sr n K W) (hO:dH n sr) (hn:n<=1600):∃bj:Nat,W.cell? ⟨br,0,none⟩=some (.pointer (some ⟨bj,0,none⟩))∧∀s t:Int,
  Calls prog 16 #[.pointer (some ⟨bj,0,none⟩),.int .i64 s,.int .i64 t] W fun e w'=>e= .returned (.int .i64 (sr.move s t).1)∧w'.cell? ⟨br,0,none⟩=some (.pointer (some ⟨bj,0,none⟩))∧EQ w1 be br st (sr.move s t).2 n K w'∧kH K W w':=by
 obtain⟨S,P,rs,a1,⟨bj,v,v0,v1,hA,hP⟩,a3,a4,a5,a6,a7⟩:=h;refine⟨bj,by rw[cell_of_block hA.bag.blk];rfl,fun s t=>(JQ hA hP a3 hO hn s t).mono ?_⟩;rintro e w' ⟨rfl,hc,rs',P',b1,b2,b3,b4⟩;exact⟨rfl,hc,Om a1 a4 a5 a6 a7 b1 b2 b3 b4⟩
theorem EQ.moves (h:EQ w1 be br st st n K W) (hO:dH n st) (hn:n<=1600) (s t:Int):∃bj:Nat,W.cell? ⟨br,0,none⟩=some (.pointer (some ⟨bj,0,none⟩))∧
  (∀V,Below W.heap.size W V->Calls prog 15 #[.pointer (some ⟨be,0,none⟩),.int .i64 s,.int .i64 t] V fun e w'=>e= .returned (jI (st.move s t).1)∧(kH K W w'∧w'.cell? ⟨br,0,none⟩=some (.pointer (some ⟨bj,0,none⟩)))∧∀V',Below w'.heap.size w' V'->Calls prog 16 #[.pointer (some ⟨bj,0,none⟩),.int .i64 s,.int .i64 t] V' fun e w2=>e= .returned (.int .i64 (st.move s t).1)∧(kH K W w2∧w2.cell? ⟨br,0,none⟩=some (.pointer (some ⟨bj,0,none⟩)))∧EQ w1 be br (st.move s t).2 (st.move s t).2 n K w2)∧
  (∀V,Below W.heap.size W V->Calls prog 16 #[.pointer (some ⟨bj,0,none⟩),.int .i64 s,.int .i64 t] V fun e w'=>e= .returned (.int .i64 (st.move s t).1)∧(kH K W w'∧w'.cell? ⟨br,0,none⟩=some (.pointer (some ⟨bj,0,none⟩)))∧∀V',Below w'.heap.size w' V'->Calls prog 15 #[.pointer (some ⟨be,0,none⟩),.int .i64 s,.int .i64 t] V' fun e w2=>e= .returned (jI (st.move s t).1)∧(kH K W w2∧w2.cell? ⟨br,0,none⟩=some (.pointer (some ⟨bj,0,none⟩)))∧EQ w1 be br (st.move s t).2 (st.move s t).2 n K w2):=by
 have hK:∀k,K k->k < W.heap.size:=by
  obtain⟨S,P,rs,a1,a2,a3,a4,a5,a6,a7⟩:=h;exact a6
 obtain⟨bj,hc,_⟩:=h.moveR hO hn;have hbr:br < W.heap.size:=World.block_lt_of_cell? _ _ hc
 have ej:∀{V:World} {b:Nat},V.cell? ⟨br,0,none⟩=some (.pointer (some ⟨bj,0,none⟩))->V.cell? ⟨br,0,none⟩=some (.pointer (some ⟨b,0,none⟩))->b=bj:=fun e1 e2=>by
  rw[e1] at e2;simpa using e2.symm
 refine⟨bj,hc,fun V hV=> ?_,fun V hV=> ?_⟩
 ·refine((h.below hV).moveE hO hn s t).mono ?_;rintro e w' ⟨rfl,h1,h2,h3⟩;have hc':w'.cell? ⟨br,0,none⟩=some (.pointer (some ⟨bj,0,none⟩)):=h1.trans ((hV.cell (p:=⟨br,0,none⟩) hbr).trans hc)
  have hk':kH K W w':=fun k e=>(h3 k e).trans (hV.block k (hK k e))
  refine⟨rfl,⟨hk',hc'⟩,fun V' hV'=> ?_⟩;obtain⟨b,e1,e2⟩:=(h2.below hV').moveR hO hn;obtain rfl:=ej ((hV'.cell (p:=⟨br,0,none⟩) (World.block_lt_of_cell? _ _ hc')).trans hc') e1;refine(e2 s t).mono ?_;rintro e w2 ⟨rfl,g1,g2,g3⟩;exact⟨rfl,⟨fun k e=>(g3 k e).trans ((hV'.block k (by obtain⟨S,P,rs,a1,a2,a3,a4,a5,a6,a7⟩:=h2;exact a6 k e)).trans (hk' k e)),g1⟩,g2⟩
 ·obtain⟨b,e1,e2⟩:=(h.below hV).moveR hO hn;obtain rfl:=ej ((hV.cell (p:=⟨br,0,none⟩) hbr).trans hc) e1;refine(e2 s t).mono ?_;rintro e w' ⟨rfl,h1,h2,h3⟩
  have hk':kH K W w':=fun k e=>(h3 k e).trans (hV.block k (hK k e))
  refine⟨rfl,⟨hk',h1⟩,fun V' hV'=> ?_⟩;refine((h2.below hV').moveE hO hn s t).mono ?_;rintro e w2 ⟨rfl,g1,g2,g3⟩;exact⟨rfl,⟨fun k e=>(g3 k e).trans ((hV'.block k (by obtain⟨S,P,rs,a1,a2,a3,a4,a5,a6,a7⟩:=h2;exact a6 k e)).trans (hk' k e)),g1.trans ((hV'.cell (p:=⟨br,0,none⟩) (World.block_lt_of_cell? _ _ h1)).trans h1)⟩,g2⟩
end
end
section
open Go.Sort
variable {be n br:Nat} {W w1:World} {K:Nat->Prop} {st:Sx}
theorem Xv {w:World} {bj bm:Nat} {v0 v1:Value} {f0 f1:Int} {om:Option Nat} {Sg:Nat->Prop} {x:J} {L Lg:List O} (h:az w be bj bm v0 v1 f0 f1 om Sg x L Lg):Calls prog 21 #[.pointer (some ⟨be,0,none⟩),.int .i64 5] w fun e w'=>e= .returned (.int .i64 0)∧w'=w:=by
 have hlt:=h.blt;clear h;go_enter func21,ntmps21;go_wp2;go_ret;exact⟨rfl,rfl⟩
structure Shown (be br bj:Nat) (q0 q1:Option Addr) (d0 d1:Nat) (vv:Value) (st:Sx) (E0 E1:List Hl) (W V:World):Prop where
 cr:V.cell? ⟨br,0,none⟩=some (.pointer (some ⟨bj,0,none⟩))∧V.cell? ⟨br,1,none⟩=some vv∧V.cell? ⟨br,2,none⟩=some (.int .i64 st.f0)∧V.cell? ⟨br,3,none⟩=some (.int .i64 st.f1)
 cj:V.cell? ⟨bj,3,none⟩=some (.slice q0 st.x.R0.length d0)∧V.cell? ⟨bj,4,none⟩=some (.slice q1 st.x.R1.length d1)∧V.cell? ⟨bj,5,none⟩=some (.int .i64 st.x.m0)∧V.cell? ⟨bj,6,none⟩=some (.int .i64 st.x.m1)∧V.cell? ⟨bj,7,none⟩=some (.int .i64 st.x.late)
 lt:br < V.heap.size∧bj < V.heap.size
 h0:Calls prog 19 #[.pointer (some ⟨be,0,none⟩),.int .i64 0] V fun e w'=>e= .returned (.int .i64 st.x.R0.length)∧w'=V
 h1:Calls prog 19 #[.pointer (some ⟨be,0,none⟩),.int .i64 1] V fun e w'=>e= .returned (.int .i64 st.x.R1.length)∧w'=V
 hN:Calls prog 19 #[.pointer (some ⟨be,0,none⟩),.int .i64 (-1)] V fun e w'=>e= .returned (.int .i64 0)∧w'=V
 m0:Calls prog 20 #[.pointer (some ⟨be,0,none⟩),.int .i64 0] V fun e w'=>e= .returned (.int .i64 st.x.m0)∧w'=V
 m1:Calls prog 20 #[.pointer (some ⟨be,0,none⟩),.int .i64 1] V fun e w'=>e= .returned (.int .i64 st.x.m1)∧w'=V
 f0:Calls prog 21 #[.pointer (some ⟨be,0,none⟩),.int .i64 0] V fun e w'=>e= .returned (.int .i64 st.f0)∧w'=V
 f1:Calls prog 21 #[.pointer (some ⟨be,0,none⟩),.int .i64 1] V fun e w'=>e= .returned (.int .i64 st.f1)∧w'=V
 f5:Calls prog 21 #[.pointer (some ⟨be,0,none⟩),.int .i64 5] V fun e w'=>e= .returned (.int .i64 0)∧w'=V
 late:Calls prog 25 #[.pointer (some ⟨be,0,none⟩)] V fun e w'=>e= .returned (.int .i64 st.x.late)∧w'=V
 r0:Calls prog 23 #[.pointer (some ⟨be,0,none⟩),.int .i64 0] V fun e w'=>∃v,e= .returned v∧w'.ownsRow 0 130 4 v E0.length ((E0.map fE).flatMap ak)∧Below V.heap.size V w'∧Below W.heap.size W w'
 r1:Calls prog 23 #[.pointer (some ⟨be,0,none⟩),.int .i64 1] V fun e w'=>∃v,e= .returned v∧w'.ownsRow 0 130 4 v E1.length ((E1.map fE).flatMap ak)∧Below V.heap.size V w'∧Below W.heap.size W w'
 a0:Calls prog 24 #[.pointer (some ⟨bj,0,none⟩),.int .i64 0] V fun e w'=>∃v,e= .returned v∧w'.ownsRow 0 117 5 v E0.length (E0.flatMap bz)∧Below V.heap.size V w'∧Below W.heap.size W w'
 a1:Calls prog 24 #[.pointer (some ⟨bj,0,none⟩),.int .i64 1] V fun e w'=>∃v,e= .returned v∧w'.ownsRow 0 117 5 v E1.length (E1.flatMap bz)∧Below V.heap.size V w'∧Below W.heap.size W w'
 vw:Calls prog 27 #[.pointer (some ⟨be,0,none⟩)] V fun e w'=>∃v,e= .returned v∧w'.ownsRow 0 89 9 v (sortO st.L).length ((sortO st.L).flatMap ah)∧Below V.heap.size V w'∧Below W.heap.size W w'
 so:Calls prog 28 #[.pointer (some ⟨br,1,none⟩)] V fun e w'=>∃v,e= .returned v∧w'.ownsRow 0 89 9 v (sortO st.L).length ((sortO st.L).flatMap ah)∧Below V.heap.size V w'∧Below W.heap.size W w'
 gr:Calls prog 30 #[.pointer (some ⟨be,0,none⟩)] V fun e w'=>∃v,e= .returned v∧w'.ownsRow 0 140 6 v ((bP st.L).map (jR st.L)).length (((bP st.L).map (jR st.L)).flatMap jG)∧Below V.heap.size V w'∧Below W.heap.size W w'
 rg:Calls prog 31 #[vv] V fun e w'=>∃v,e= .returned v∧w'.ownsRow 0 140 6 v ((bP st.L).map (jR st.L)).length (((bP st.L).map (jR st.L)).flatMap jG)∧Below V.heap.size V w'∧Below W.heap.size W w'
 le:E0.length<=300∧E1.length<=300∧(sortO st.L).length<=700000∧((bP st.L).map (jR st.L)).length<=700000
theorem JR {B T K m:Nat} {v:Value} {xs:List Value} (h:W.ownsRow B T K v n xs) (e:n=m):W.ownsRow B T K v m xs:=e ▸ h
theorem EQ.shown (h:EQ w1 be br st st n K W) (hO:dH n st) (hn:n<=1600):
  ∃bj q0 q1 d0 d1 vv E0 E1,∀V,Below W.heap.size W V->Shown be br bj q0 q1 d0 d1 vv st E0 E1 W V:=by
 obtain⟨S,P,rs,⟨ej,em,u0,u1,om,Sg,hE,hS⟩,⟨bj,vv,v0,v1,hA,hP⟩,hL,a4,a5,a6,a7⟩:=h;have hll:=hO.len hn;obtain⟨E0,p0,o0,t0⟩:=hL.r0;obtain⟨E1,p1,o1,t1⟩:=hL.r1;have l0:=p0.length_eq;have l1:=p1.length_eq;have z0:rs.x.R0.length=st.x.R0.length:=hL.r0.len;have z1:rs.x.R1.length=st.x.R1.length:=hL.r1.len;have y0:=hO.l0;have y1:=hO.l1;obtain⟨q0,d0,rfl⟩:=aj hA.join.r0;obtain⟨q1,d1,rfl⟩:=aj hA.join.r1;refine⟨bj,q0,q1,d0,d1,vv,E0,E1,fun V hV=> ?_⟩;have K8:=hE.still hV.size (fun k e=>hV.block k (hE.lt e));have Oq:=hA.below hV;obtain⟨c0,c1,c2,c3,c4,c5,c6,c7,c8,cf⟩:=Oq.join.cells;refine⟨⟨oC Oq,Oq.bag.cell.1,?_,?_⟩,⟨by rw[<-z0];exact c3,by rw[<-z1];exact c4,by rw[<-hL.m0];exact c5,by rw[<-hL.m1];exact c6,by rw[<-hL.late];exact c7⟩,⟨Oq.bag.lt,Oq.join.lt⟩,NM K8,NN K8,Hg (-1) rfl K8,jd be ej em u0 u1 st.f0 st.f1 om Sg st.x st.L st.L V 0 K8,jd be ej em u0 u1 st.f0 st.f1 om Sg st.x st.L st.L V 1 K8,Ub K8,Uc K8,Xv K8,DR ⟨ej,em,u0,u1,om,Sg,K8,hS⟩,?_,?_,?_,?_,?_,?_,?_,?_,?_⟩
 ·rw[cell_of_block Oq.bag.blk,<-hL.f0];rfl
 ·rw[cell_of_block Oq.bag.blk,<-hL.f1];rfl
 ·refine(Ot be ej em u0 u1 st.f0 st.f1 om Sg st.x st.L st.L V K8 (by omega)).mono ?_;rintro e w' ⟨v,rfl,b1,b2⟩;rw[t0] at b1;exact⟨v,rfl,ownsRow_le (JR b1 (by simp)) (Nat.zero_le _),b2,hV.trans (b2.mono hV.size)⟩
 ·refine(Ou be ej em u0 u1 st.f0 st.f1 om Sg st.x st.L st.L V K8 (by omega)).mono ?_;rintro e w' ⟨v,rfl,b1,b2⟩;rw[t1] at b1;exact⟨v,rfl,ownsRow_le (JR b1 (by simp)) (Nat.zero_le _),b2,hV.trans (b2.mono hV.size)⟩
 ·refine(Ug V Oq.join (by omega)).mono ?_;rintro e w' ⟨v,E,rfl,b1,b2,b3,b4⟩;obtain rfl:=qD hL.c0.inc b1 p0 b2 o0;exact⟨v,rfl,ownsRow_le b3 (Nat.zero_le _),b4,hV.trans (b4.mono hV.size)⟩
 ·refine(Uh V Oq.join (by omega)).mono ?_;rintro e w' ⟨v,E,rfl,b1,b2,b3,b4⟩;obtain rfl:=qD hL.c1.inc b1 p1 b2 o1;exact⟨v,rfl,ownsRow_le b3 (Nat.zero_le _),b4,hV.trans (b4.mono hV.size)⟩
 ·refine(tJ (nP xS) be ej em u0 u1 st.f0 st.f1 om Sg st.x st.L st.L V K8 (by omega)).mono ?_;rintro e w' ⟨v,Z,rfl,b1,b2,b3,b4⟩;obtain rfl:Z=sortO st.L:=lY (b1.trans (aR st.L).symm) b2 (eX st.L);exact⟨v,rfl,ownsRow_le b3 (Nat.zero_le _),b4,hV.trans (b4.mono hV.size)⟩
 ·refine(oD _ _ _ 0 br vv rs.M V Oq.bag (by rw[hL.v.length_eq];omega)).mono ?_;rintro e w' ⟨v,Z,rfl,b1,b2,b3,b4⟩;obtain rfl:Z=sortO st.L:=lY ((b1.trans hL.v).trans (aR st.L).symm) b2 (eX st.L);exact⟨v,rfl,ownsRow_le b3 (Nat.zero_le _),b4,hV.trans (b4.mono hV.size)⟩
 ·refine(uZ be ej em u0 u1 st.f0 st.f1 om Sg st.x st.L st.L V K8 (by omega)).mono ?_;rintro e w' ⟨v,ks,rfl,b1,b2,_,b3,b4⟩;obtain rfl:ks=bP st.L:=keys_eq (JH.refl _) b1 (nX st.L) b2 (mH st.L)
  have e3:((bP st.L).map (jR st.L)).flatMap jG=(bP st.L).flatMap (gE (bK st.L)):=by rw[List.flatMap_map];rfl
  rw[e3,List.length_map];exact⟨v,rfl,ownsRow_le b3 (Nat.zero_le _),b4,hV.trans (b4.mono hV.size)⟩
 ·refine(vB 0 vv rs.M V Oq.bag.row (by rw[hL.v.length_eq];omega)).mono ?_;rintro e w' ⟨v,ks,rfl,b1,b2,_,b3,b4⟩;have hq:=Eo hL.v;obtain rfl:ks=bP st.L:=keys_eq hq b1 (nX st.L) b2 (mH st.L)
  have e3:((bP st.L).map (jR st.L)).flatMap jG=(bP st.L).flatMap (gE (bK rs.M)):=by
   rw[List.flatMap_map];congr 1
   funext k
   rw[JS hq k];rfl
  rw[e3,List.length_map];exact⟨v,rfl,ownsRow_le b3 (Nat.zero_le _),b4,hV.trans (b4.mono hV.size)⟩
 ·exact⟨by omega,by omega,by rw[(aR st.L).length_eq];omega,by rw[List.length_map];have :=pE st.L;omega⟩
theorem EQ.savedR (h:EQ w1 be br st st n K W) (hO:dH n st) (hn:n<=1600) (hG:aU w1):
  Calls prog 17 #[.pointer (some ⟨br,0,none⟩)] W fun e w'=>e= .returned (match st.text with | none=> .tuple #[.string ⟨#[]⟩,.int .i64 4] | some t=> .tuple #[sV t,.int .i64 0])∧Below W.heap.size W w':=by
 obtain⟨S,P,rs,a1,a2,a3,a4,a5,a6,a7⟩:=h;exact yf a2 a3 hO hn (hG.below a7).g.tab
theorem EQ.savedE (h:EQ w1 be br st st n K W) (hO:dH n st) (hn:n<=1600) (hG:aU w1):
  Calls prog 18 #[.pointer (some ⟨be,0,none⟩)] W fun e w'=>e= .returned (match st.text with | none=> .tuple #[.string ⟨#[]⟩,.iface 24 (.int .i64 4)] | some t=> .tuple #[.string ⟨t.toArray⟩,.nilIface])∧Below W.heap.size W w':=by
 obtain⟨S,P,rs,a1,a2,a3,a4,a5,a6,a7⟩:=h;exact BZ a1 hO hn (hG.below a7).g
theorem EQ.loadE (h:EQ w1 be br st st n K W) (hO:dH n st) (hn:n<=1600) (hG:aU w1) {t:List UInt8} (ht:st.text=some t):
  Calls prog 8 #[.string ⟨t.toArray⟩] W fun e w'=>∃iF,e= .returned (.tuple #[.pointer (some ⟨iF,0,none⟩),.nilIface])∧EQ w1 iF br st.again st.again n K w'∧kH K W w':=by
 obtain⟨S,P,rs,a1,a2,a3,a4,a5,a6,a7⟩:=h;have htl:=nW ht
 have RQ:st.L.length<=5000:=by
  unfold Sx.text at ht
  split at ht
  ·cases ht
  ·omega
 have hte:t=bN st.x st.f0 st.f1 (sortO st.L):=by
  unfold Sx.text at ht
  split at ht
  ·cases ht
  ·injection ht with ht;exact ht.symm
 rw[hte];refine(xP st.x st.f0 st.f1 (sortO st.L) (hO.sv hn) (fun o ho=>hO.tell o ((aR _).subset ho)) (by rw[(aR st.L).length_eq];exact RQ) (eX _) (by rw[<-hte];exact htl) W (hG.below a7).g).mono ?_;rintro e w' ⟨iF,S',rfl,h1,h2,h3⟩;have z:=a7.size;refine⟨iF,rfl,⟨S',P,rs,h1,a2.below h3,a3.again,fun k hk=> ?_,a5,fun k hk=>Nat.lt_of_lt_of_le (a6 k hk) h3.size,a7.trans (h3.mono z)⟩,fun k hk=>h3.block k (a6 k hk)⟩;have h4:=(h2 k hk).1;exact⟨fun e=>by have :=a2.plt k e;omega,fun e=>by have :=a6 k e;omega,by omega⟩
end
end Go.Proofs.YthfpipieboophaaGreatDoor
