import Derived.Test.YthfpipieboophaaGreatDoorZbr
namespace Go.Proofs.YthfpipieboophaaGreatDoor
set_option maxRecDepth 100000
set_option maxHeartbeats 40000000
open Go.Proofs.Tryz Go.Joins Go.RowKit Go.Sort Go.Shelf
theorem IQ {be bj:Nat} {v v0 v1:Value} {x:RJ} {M:List O} {f0 f1:Int} (w:World) (h:nM w be bj v v0 v1 x M f0 f1) (ht:jP w) (hf:Ym x M f0 f1):
  Calls prog 17 #[.pointer (some ⟨be,0,none⟩)] w (Qu w x M f0 f1):=by
 obtain⟨i0,hi,hz0,hz1,hz2⟩:=info_parts IE
 have HC:Hid (∀W,Below w.heap.size w W->xh be bj x f0 f1 W):=fun W hW=>Tq (h.below hW)
 have H3:Hid (∀a b c g W,Below w.heap.size w W->W.heap[g]? =some (.cells #[.int .i64 a,.int .i64 b,.int .i64 c] 3)->af a∧af b∧af c->Calls prog 54 #[.slice (some ⟨g,0,none⟩) 3 3] W fun e w'=>e= .returned (.string ⟨(aa [a,b,c]).toArray⟩)∧Below W.heap.size W w'∧Below w.heap.size w w'):=fun a b c g W hW hg hv=>
  (fB [a,b,c] (yY hv.1 hv.2.1 hv.2.2) (by simp) w ht g W hW hg).mono fun e w' h=>⟨h.1,h.2,hW.trans (h.2.mono hW.size)⟩
 have H2:Hid (∀a b g W,Below w.heap.size w W->W.heap[g]? =some (.cells #[.int .i64 a,.int .i64 b] 3)->af a∧af b->Calls prog 54 #[.slice (some ⟨g,0,none⟩) 2 2] W fun e w'=>e= .returned (.string ⟨(aa [a,b]).toArray⟩)∧Below W.heap.size W w'∧Below w.heap.size w w'):=fun a b g W hW hg hv=>
  (fB [a,b] (ku hv.1 hv.2) (by simp) w ht g W hW hg).mono fun e w' h=>⟨h.1,h.2,hW.trans (h.2.mono hW.size)⟩
 have HA0:Hid (∀W,Below w.heap.size w W->Calls prog 24 #[.pointer (some ⟨bj,0,none⟩),.int .i64 0] W fun e w'=>∃(vl:Value) (E:List Hl),e= .returned vl∧E.Perm x.R0∧E.Pairwise (fun x y=>rY y x=false)∧w'.ownsRow W.heap.size 117 5 vl E.length (E.flatMap bz)∧Below W.heap.size W w'):=fun W hW=>Ug W (h.below hW).join (by have :=hf.l0;omega)
 have HA1:Hid (∀W,Below w.heap.size w W->Calls prog 24 #[.pointer (some ⟨bj,0,none⟩),.int .i64 1] W fun e w'=>∃(vl:Value) (E:List Hl),e= .returned vl∧E.Perm x.R1∧E.Pairwise (fun x y=>rY y x=false)∧w'.ownsRow W.heap.size 117 5 vl E.length (E.flatMap bz)∧Below W.heap.size W w'):=fun W hW=>Uh W (h.below hW).join (by have :=hf.l1;omega)
 have HV:Hid (∀W,Below w.heap.size w W->Calls prog 28 #[.pointer (some ⟨be,1,none⟩)] W fun e w'=>∃v' Z,e= .returned v'∧Z.Perm M∧bJ Z∧w'.ownsRow W.heap.size 89 9 v' Z.length (Z.flatMap ah)∧Below W.heap.size W w'):=fun W hW=>oD _ _ _ 0 be v M W (h.below hW).bag hf.lm
 have HT:=hid ht;have F1:Hid (af x.lo∧af x.hi∧af x.mode):=⟨hf.lo,hf.hi,hf.mode⟩;have F2:Hid (af f0∧af f1∧af x.late):=⟨hf.f0,hf.f1,hf.late⟩;have F3:Hid (af x.m0∧af x.m1):=⟨hf.m0,hf.m1⟩;have HD:=hid hf;have hbe:=h.bag.lt;have hbj:=h.join.lt;obtain⟨L1,L2,L3,L4⟩:=Mg hf.lo hf.hi hf.mode hf.f0 hf.f1 hf.late hf.m0 hf.m1
 have s1:¬9223372036854775807 < 5+(aa [x.lo,x.hi,x.mode]).length:=by omega
 have s2:¬9223372036854775807 < 5+(aa [x.lo,x.hi,x.mode]).length+5:=by omega
 have s3:¬9223372036854775807 < 5+(aa [x.lo,x.hi,x.mode]).length+5+(aa [f0,f1,x.late]).length:=by omega
 have s4:¬9223372036854775807 < 5+(aa [x.lo,x.hi,x.mode]).length+5+(aa [f0,f1,x.late]).length+7:=by omega
 have s5:¬9223372036854775807 < 5+(aa [x.lo,x.hi,x.mode]).length+5+(aa [f0,f1,x.late]).length+7+(aa [x.m0,x.m1]).length:=by omega
 have s6:¬9223372036854775807 < 5+(aa [x.lo,x.hi,x.mode]).length+5+(aa [f0,f1,x.late]).length+7+(aa [x.m0,x.m1]).length+1:=by omega
 clear L1 L2 L3 hf h ht;have HL4:=hid L4;clear L4;have c0:xh be bj x f0 f1 w:=HC.out _ (Below.refl _ _);go_enter func17,ntmps17
 go_upto_region 2 with fail
 go_cut [5] from 12 (fun s5 V=>s5= .string ⟨(nK x.lo x.hi x.mode f0 f1 x.late x.m0 x.m1).toArray⟩∧Hid (Below w.heap.size w V))
 case first=>
  refine Tp (fun Q2 hQ2=> ?_)
  go_region_held3 (fun W=>xh be bj x f0 f1 W) (first | with_reducible exact c0 | (refine HC.out _ ?_;as_aux_lemma=>(repeat' (first | with_reducible exact Below.refl _ _ | with_reducible exact B4.out | with_reducible exact B3.out | with_reducible exact B2.out | (with_reducible refine Below.drew ?_) | (with_reducible refine Below.alloc ?_ ?_ _) | omega | (simp;try omega)))) | fail) (first
   | (go_at_call 54;first
    | (have q:=B3;refine(H2.out x.m0 x.m1 _ _ ?_ ?_ F3.out).mono ?_;(focus (as_aux_lemma=>(repeat' (first | with_reducible exact Below.refl _ _ | with_reducible exact B4.out | with_reducible exact B3.out | with_reducible exact B2.out | (with_reducible refine Below.drew ?_) | (with_reducible refine Below.alloc ?_ ?_ _) | omega | (simp;try omega)))));(focus (as_aux_lemma=>(repeat' (first | (with_reducible refine(heap_drew _ _).trans ?_) | exact aM (by first | omega | (simp;try omega)) | (refine(Below.heap_alloc _ _ _ (by first | omega | (simp;try omega))).trans ?_) | (refine(k3.block _ (by first | omega | (simp;try omega))).trans ?_) | (refine(k2.block _ (by first | omega | (simp;try omega))).trans ?_)))));rintro e w4 ⟨rfl,k4,b4⟩;have B4:=hid b4;have z4:=b4.size;clear b4)
    | (have q:=B2;refine(H3.out f0 f1 x.late _ _ ?_ ?_ F2.out).mono ?_;(focus (as_aux_lemma=>(repeat' (first | with_reducible exact Below.refl _ _ | with_reducible exact B4.out | with_reducible exact B3.out | with_reducible exact B2.out | (with_reducible refine Below.drew ?_) | (with_reducible refine Below.alloc ?_ ?_ _) | omega | (simp;try omega)))));(focus (as_aux_lemma=>(repeat' (first | (with_reducible refine(heap_drew _ _).trans ?_) | exact aM (by first | omega | (simp;try omega)) | (refine(Below.heap_alloc _ _ _ (by first | omega | (simp;try omega))).trans ?_) | (refine(k3.block _ (by first | omega | (simp;try omega))).trans ?_) | (refine(k2.block _ (by first | omega | (simp;try omega))).trans ?_)))));rintro e w3 ⟨rfl,k3,b3⟩;have B3:=hid b3;have z3:=b3.size;have y3:=k3.size;(try simp at y3);clear b3)
    | (refine(H3.out x.lo x.hi x.mode _ _ ?_ ?_ F1.out).mono ?_;(focus (as_aux_lemma=>(repeat' (first | with_reducible exact Below.refl _ _ | with_reducible exact B4.out | with_reducible exact B3.out | with_reducible exact B2.out | (with_reducible refine Below.drew ?_) | (with_reducible refine Below.alloc ?_ ?_ _) | omega | (simp;try omega)))));(focus (as_aux_lemma=>(repeat' (first | (with_reducible refine(heap_drew _ _).trans ?_) | exact aM (by first | omega | (simp;try omega)) | (refine(Below.heap_alloc _ _ _ (by first | omega | (simp;try omega))).trans ?_) | (refine(k3.block _ (by first | omega | (simp;try omega))).trans ?_) | (refine(k2.block _ (by first | omega | (simp;try omega))).trans ?_)))));rintro e w2 ⟨rfl,k2,b2⟩;have B2:=hid b2;have z2:=b2.size;have y2:=k2.size;(try simp at y2);clear b2))
   | fail)
  all_goals as_aux_lemma=>
   refine hQ2.out _ _ _ ?_
   (try go_wp2_with fail)
   go_meet
   case rel=>
    refine⟨?_,B4.out⟩;congr 2
 case rest=>
  obtain⟨rfl,hB⟩:=hcut;have T0:Hid (Tj x f0 f1 0 (nK x.lo x.hi x.mode f0 f1 x.late x.m0 x.m1)):= .inl ⟨rfl,rfl⟩;clear s1 s2 s3 s4 s5 s6 c0;go_wp2_with fail
  go_loopg [5,67] 2 (fun gg v5 v67 wr=>∃(n:Int) (i:Nat) (t:List UInt8),(n=0∧i=0∨n=1∧i=1∨n=2∧i=2)∧gg=2 -i∧v67= .int .i64 n∧v5= .string ⟨t.toArray⟩∧t.length<=1000+i * 100000∧Hid (Tj x f0 f1 i t)∧Hid (Below w.heap.size w wr))
  case atStart=>exact⟨0,0,_,.inl ⟨rfl,rfl⟩,rfl,rfl,rfl,by have :=HL4.out;omega,T0,hB⟩
  case round=>
   obtain⟨n,i,t,hni,hgg,rfl,rfl,htl,HT1,HB1⟩:=hrel;have HG:=hid hgg;clear hgg T0 hB
   rcases hni with⟨rfl,rfl⟩ | ⟨rfl,rfl⟩ | ⟨rfl,rfl⟩
   ·go_wp2_with (first
     | (go_at_call 24;refine(HA0.out _ HB1.out).mono ?_;rintro e w2 ⟨vl,E,rfl,hE,oE,hown,hb2⟩;obtain⟨pl,dl,rfl⟩:=aj hown;have R2:Hid (Tk w E (.slice pl E.length dl) w2):=⟨HB1.out.trans (hb2.mono HB1.out.size),World.ownsRow.mono hown HB1.out.size⟩;have HE:Hid (E.Perm x.R0∧E.Pairwise (fun a b=>rY b a=false)):=⟨hE,oE⟩;have hEl:E.length<=300:=(by rw[hE.length_eq];exact HD.out.l0);clear hE oE hown hb2)
     | fail)
    go_loopg [5,74] E.length (fun gg v5 v74 wr2=>∃q:Nat,q<=E.length∧gg=E.length -q∧v74= .int .i64 q∧v5= .string ⟨(t++(E.take q).flatMap (ed 0)).toArray⟩∧Hid (Tk w E (.slice pl E.length dl) wr2))
    case atStart=>exact⟨0,Nat.zero_le _,rfl,rfl,by simp,R2⟩
    case round=>
     obtain⟨q,hq,sK,rfl,rfl,I⟩:=hrel;have HG2:=hid sK;clear sK R2
     have hin:∀y∈E,af y.k∧af y.t∧af y.v∧af y.met:=fun y hy=>HD.out.r0 y (HE.out.1.subset hy)
     have V8:af 0:=⟨by decide,by decide⟩
     have hpre:((E.take q).flatMap (ed 0)).length<=60000:=by
      have h1:=xe (ed 0) 200 (E.take q) (fun y hy=>FJ 0 V8 y (hin y (List.mem_of_mem_take hy)));have h2:=List.length_take_le q E;omega
     by_cases uD:q < E.length
     ·obtain⟨g,e1⟩:∃g,pl=some ⟨g,0,none⟩:=by
       obtain⟨g,cg,e⟩:=ownsRow_form I.out.row (by omega)
       injection e with e1
       exact⟨g,e1⟩
      subst e1;obtain⟨y,hy⟩:∃y,E[q]? =some y:=⟨_,List.getElem?_eq_getElem uD⟩;have ch:=FK I.out.row rfl hy
      have HK:Hid (t++(E.take (q+1)).flatMap (ed 0)=t++(E.take q).flatMap (ed 0)++ed 0 y):=by
       show t++(E.take (q+1)).flatMap (ed 0)=t++(E.take q).flatMap (ed 0)++ed 0 y;rw[uJ _ _ _ _ hy,List.append_assoc]
      have hyi:=hin y (List.mem_of_getElem? hy);have hW:=bL _ (sI 0 V8 y hyi)
      have Z5:Hid (Calls prog 54 #[.slice (some ⟨wr.heap.size+1,0,none⟩) 5 5] ((wr.alloc (sW y)).alloc (.cells #[.int .i64 0,.int .i64 y.k,.int .i64 y.t,.int .i64 y.v,.int .i64 y.met] 3)) fun e w'=>e= .returned (.string ⟨(aa [0,y.k,y.t,y.v,y.met]).toArray⟩)∧Hid (Tk w E (.slice (some ⟨g,0,none⟩) E.length dl) w')):=by
       have b1:Below wr.heap.size wr ((wr.alloc (sW y)).alloc (.cells #[.int .i64 0,.int .i64 y.k,.int .i64 y.t,.int .i64 y.v,.int .i64 y.met] 3)):=(below_alloc1 _ _).alloc (by simp) _;have I1:=I.out.go b1
       refine(fB [0,y.k,y.t,y.v,y.met] (sI 0 V8 y hyi) (by simp) w HT.out (wr.heap.size+1) _ I1.low ?_).mono fun e w' hh=>⟨hh.1,I1.go hh.2⟩
       exact aM (by simp)
      have wL:(t++(E.take q).flatMap (ed 0)).length<=1000000:=by rw[List.length_append];omega
      simp only[List.length_cons,List.length_nil] at hW
      have a1:¬9223372036854775807 < 4+(aa [0,y.k,y.t,y.v,y.met]).length:=by omega
      have a2:¬9223372036854775807 < 4+(aa [0,y.k,y.t,y.v,y.met]).length+1:=by omega
      have a3:¬9223372036854775807 < (t++(E.take q).flatMap (ed 0)).length+(4+(aa [0,y.k,y.t,y.v,y.met]).length+1):=by omega
      have j1:(0:Int)<=(q:Int):=by omega
      have j2:(q:Int) < (E.length:Int):=by omega
      revert a3 HK;generalize t++(E.take q).flatMap (ed 0)=X;intro HK a3;clear hyi hW wL hpre hin hy
      go_wp2_with (first
       | (go_at_call 54;refine Z5.out.mono ?_;rintro e w6 ⟨rfl,I6⟩)
       | fail)
      go_roundg (E.length -(q+1))
      case measure=>have :=HG2.out;omega
      case rel=>
       refine⟨q+1,by omega,rfl,by go_num,?_,I6⟩;rw[HK.out];congr 2
     ·have e1:q=E.length:=by omega
      subst e1
      have i1:¬((E.length:Nat):Int) < (E.length:Int):=by omega
      rw[List.take_length] at hpre
      have T1:Hid (Tj x f0 f1 1 (t++E.flatMap (ed 0))):=by
        rcases HT1.out with⟨_,e⟩ | ⟨e,_⟩ | ⟨e,_⟩
        ·rw[e];exact .inr (.inl ⟨rfl,E,HE.out.1,HE.out.2,rfl⟩)
        ·cases e
        ·cases e
      have IU:(t++E.flatMap (ed 0)).length<=1000+1 * 100000:=by rw[List.length_append];omega
      rw[List.take_length];have HB2:=hid I.out.low;revert T1 IU;generalize t++E.flatMap (ed 0)=X;intro T1 IU;clear hpre hin I HE HG2;go_wp2
      go_roundg (2 -1)
      case measure=>have :=HG.out;omega
      case rel=>exact⟨1,1,X,.inr (.inl ⟨rfl,rfl⟩),rfl,rfl,rfl,IU,T1,HB2⟩
   ·go_wp2_with (first
     | (go_at_call 24;refine(HA1.out _ HB1.out).mono ?_;rintro e w2 ⟨vl,E,rfl,hE,oE,hown,hb2⟩;obtain⟨pl,dl,rfl⟩:=aj hown;have R2:Hid (Tk w E (.slice pl E.length dl) w2):=⟨HB1.out.trans (hb2.mono HB1.out.size),World.ownsRow.mono hown HB1.out.size⟩;have HE:Hid (E.Perm x.R1∧E.Pairwise (fun a b=>rY b a=false)):=⟨hE,oE⟩;have hEl:E.length<=300:=(by rw[hE.length_eq];exact HD.out.l1);clear hE oE hown hb2)
     | fail)
    go_loopg [5,74] E.length (fun gg v5 v74 wr2=>∃q:Nat,q<=E.length∧gg=E.length -q∧v74= .int .i64 q∧v5= .string ⟨(t++(E.take q).flatMap (ed 1)).toArray⟩∧Hid (Tk w E (.slice pl E.length dl) wr2))
    case atStart=>exact⟨0,Nat.zero_le _,rfl,rfl,by simp,R2⟩
    case round=>
     obtain⟨q,hq,sK,rfl,rfl,I⟩:=hrel;have HG2:=hid sK;clear sK R2
     have hin:∀y∈E,af y.k∧af y.t∧af y.v∧af y.met:=fun y hy=>HD.out.r1 y (HE.out.1.subset hy)
     have V8:af 1:=⟨by decide,by decide⟩
     have hpre:((E.take q).flatMap (ed 1)).length<=60000:=by
      have h1:=xe (ed 1) 200 (E.take q) (fun y hy=>FJ 1 V8 y (hin y (List.mem_of_mem_take hy)));have h2:=List.length_take_le q E;omega
     by_cases uD:q < E.length
     ·obtain⟨g,e1⟩:∃g,pl=some ⟨g,0,none⟩:=by
       obtain⟨g,cg,e⟩:=ownsRow_form I.out.row (by omega)
       injection e with e1
       exact⟨g,e1⟩
      subst e1;obtain⟨y,hy⟩:∃y,E[q]? =some y:=⟨_,List.getElem?_eq_getElem uD⟩;have ch:=FK I.out.row rfl hy
      have HK:Hid (t++(E.take (q+1)).flatMap (ed 1)=t++(E.take q).flatMap (ed 1)++ed 1 y):=by
       show t++(E.take (q+1)).flatMap (ed 1)=t++(E.take q).flatMap (ed 1)++ed 1 y;rw[uJ _ _ _ _ hy,List.append_assoc]
      have hyi:=hin y (List.mem_of_getElem? hy);have hW:=bL _ (sI 1 V8 y hyi)
      have Z5:Hid (Calls prog 54 #[.slice (some ⟨wr.heap.size+1,0,none⟩) 5 5] ((wr.alloc (sW y)).alloc (.cells #[.int .i64 1,.int .i64 y.k,.int .i64 y.t,.int .i64 y.v,.int .i64 y.met] 3)) fun e w'=>e= .returned (.string ⟨(aa [1,y.k,y.t,y.v,y.met]).toArray⟩)∧Hid (Tk w E (.slice (some ⟨g,0,none⟩) E.length dl) w')):=by
       have b1:Below wr.heap.size wr ((wr.alloc (sW y)).alloc (.cells #[.int .i64 1,.int .i64 y.k,.int .i64 y.t,.int .i64 y.v,.int .i64 y.met] 3)):=(below_alloc1 _ _).alloc (by simp) _;have I1:=I.out.go b1
       refine(fB [1,y.k,y.t,y.v,y.met] (sI 1 V8 y hyi) (by simp) w HT.out (wr.heap.size+1) _ I1.low ?_).mono fun e w' hh=>⟨hh.1,I1.go hh.2⟩
       exact aM (by simp)
      have wL:(t++(E.take q).flatMap (ed 1)).length<=1000000:=by rw[List.length_append];omega
      simp only[List.length_cons,List.length_nil] at hW
      have a1:¬9223372036854775807 < 4+(aa [1,y.k,y.t,y.v,y.met]).length:=by omega
      have a2:¬9223372036854775807 < 4+(aa [1,y.k,y.t,y.v,y.met]).length+1:=by omega
      have a3:¬9223372036854775807 < (t++(E.take q).flatMap (ed 1)).length+(4+(aa [1,y.k,y.t,y.v,y.met]).length+1):=by omega
      have j1:(0:Int)<=(q:Int):=by omega
      have j2:(q:Int) < (E.length:Int):=by omega
      revert a3 HK;generalize t++(E.take q).flatMap (ed 1)=X;intro HK a3;clear hyi hW wL hpre hin hy
      go_wp2_with (first
       | (go_at_call 54;refine Z5.out.mono ?_;rintro e w6 ⟨rfl,I6⟩)
       | fail)
      go_roundg (E.length -(q+1))
      case measure=>have :=HG2.out;omega
      case rel=>
       refine⟨q+1,by omega,rfl,by go_num,?_,I6⟩;rw[HK.out];congr 2
     ·have e1:q=E.length:=by omega
      subst e1
      have i1:¬((E.length:Nat):Int) < (E.length:Int):=by omega
      rw[List.take_length] at hpre
      have T1:Hid (Tj x f0 f1 2 (t++E.flatMap (ed 1))):=by
        rcases HT1.out with⟨e,_⟩ | ⟨_,E0,p0,o0,e⟩ | ⟨e,_⟩
        ·cases e
        ·rw[e];exact .inr (.inr ⟨rfl,E0,E,p0,o0,HE.out.1,HE.out.2,rfl⟩)
        ·cases e
      have IU:(t++E.flatMap (ed 1)).length<=1000+2 * 100000:=by rw[List.length_append];omega
      rw[List.take_length];have HB2:=hid I.out.low;revert T1 IU;generalize t++E.flatMap (ed 1)=X;intro T1 IU;clear hpre hin I HE HG2;go_wp2
      go_roundg (2 -2)
      case measure=>have :=HG.out;omega
      case rel=>exact⟨2,2,X,.inr (.inr ⟨rfl,rfl⟩),rfl,rfl,rfl,IU,T1,HB2⟩
   ·obtain⟨E0,E1,p0,o0,p1,o1,htx⟩:∃E0 E1:List Hl,E0.Perm x.R0∧E0.Pairwise (fun a b=>rY b a=false)∧E1.Perm x.R1∧E1.Pairwise (fun a b=>rY b a=false)∧t=nK x.lo x.hi x.mode f0 f1 x.late x.m0 x.m1++E0.flatMap (ed 0)++E1.flatMap (ed 1):=by
     rcases HT1.out with⟨e,_⟩ | ⟨e,_⟩ | ⟨_,E0,E1,p0,o0,p1,o1,e⟩
     ·cases e
     ·cases e
     ·exact⟨E0,E1,p0,o0,p1,o1,e⟩
    have Xa:Hid (E0.Perm x.R0∧E0.Pairwise (fun a b=>rY b a=false)∧E1.Perm x.R1∧E1.Pairwise (fun a b=>rY b a=false)∧t=nK x.lo x.hi x.mode f0 f1 x.late x.m0 x.m1++E0.flatMap (ed 0)++E1.flatMap (ed 1)):=⟨p0,o0,p1,o1,htx⟩;clear p0 o0 p1 o1 htx HT1 HG
    go_wp2_with (first
     | (go_at_call 28;refine(HV.out _ HB1.out).mono ?_;rintro e w2 ⟨vz,Z,rfl,hZ,oZ,hown,hb2⟩;obtain⟨pz,dz,rfl⟩:=aj hown;have R2:Hid (Tm w Z (.slice pz Z.length dz) w2):=⟨HB1.out.trans (hb2.mono HB1.out.size),World.ownsRow.mono hown HB1.out.size⟩;have HZ:Hid (Z.Perm M∧bJ Z):=⟨hZ,oZ⟩;have YT:Z.length<=1000000:=(by rw[hZ.length_eq];exact HD.out.lm);clear hZ oZ hown hb2)
     | fail)
    go_loopg [5,103] Z.length (fun gg v5 Z6 wr2=>∃q:Nat,q<=Z.length∧gg=Z.length -q∧Z6= .int .i64 q∧v5= .string ⟨(t++(Z.take q).flatMap kX).toArray⟩∧Hid (Tm w Z (.slice pz Z.length dz) wr2))
    case atStart=>exact⟨0,Nat.zero_le _,rfl,rfl,by simp,R2⟩
    case round=>
     as_aux_lemma=>
     obtain⟨q,hq,sK,rfl,rfl,I⟩:=hrel;have HG2:=hid sK;clear sK R2
     have hin:∀o∈Z,(o.hl=true∨o.hr=true)∧(af o.lk∧af o.lt∧af o.lv)∧(af o.rk∧af o.rt∧af o.rv):=fun o ho=>HD.out.o o (HZ.out.1.subset ho)
     have hpre:((Z.take q).flatMap kX).length<=200000000:=by
      have h1:=xe kX 200 (Z.take q) (fun y hy=>Qt y (hin y (List.mem_of_mem_take hy)).2);have h2:=List.length_take_le q Z;omega
     by_cases uD:q < Z.length
     ·obtain⟨gz,e1⟩:∃g,pz=some ⟨g,0,none⟩:=by
       obtain⟨g,cg,e⟩:=ownsRow_form I.out.row (by omega)
       injection e with e1
       exact⟨g,e1⟩
      subst e1;obtain⟨y,hy⟩:∃y,Z[q]? =some y:=⟨_,List.getElem?_eq_getElem uD⟩;have ch:=nQ I.out.row q y hy;have hyi:=hin y (List.mem_of_getElem? hy)
      have HK:Hid (t++(Z.take (q+1)).flatMap kX=t++(Z.take q).flatMap kX++kX y):=by
       show t++(Z.take (q+1)).flatMap kX=t++(Z.take q).flatMap kX++kX y;rw[uJ _ _ _ _ hy,List.append_assoc]
      have wL:(t++(Z.take q).flatMap kX).length<=300000000:=by rw[List.length_append];omega
      have j1:(0:Int)<=(q:Int):=by omega
      have j2:(q:Int) < (Z.length:Int):=by omega
      revert wL HK;generalize t++(Z.take q).flatMap kX=X;intro HK wL;have hb1:Below wr.heap.size wr (wr.alloc (tq y)):=below_alloc1 _ _;have hbx:=heap_alloc_new wr (tq y)
      have hz:wr.heap.size < (wr.alloc (tq y)).heap.size:=by simp
      obtain⟨w1,hw1⟩:∃w1,w1=wr.alloc (tq y):=⟨_,rfl⟩;rw[<-hw1] at hb1 hbx hz;have I1:Hid (Tm w Z (.slice (some ⟨gz,0,none⟩) Z.length dz) w1):=I.out.go hb1
      have HC:Hid (∀V,Below w1.heap.size w1 V->iH wr.heap.size y V):=fun V hV=>Gw ((hV.block _ hz).trans hbx)
      have c1:iH wr.heap.size y w1:=HC.out _ (Below.refl _ _);have F1:=hid hyi.2.1;have F2:=hid hyi.2.2;have hor:=hyi.1;obtain⟨k,lk,lt,lv,rk,rt,rv,hl,hr⟩:=y;simp only at ch HC c1 F1 F2 hor hw1;clear hyi hy hin hpre hb1 hbx hz I;simp only[iH] at HC c1
      go_upto_region 15 with fail
      rw[<-hw1];clear hw1 ch;cases hl
      ·cases hr
       ·rcases hor with e | e <;>cases e
       · --false true
        have Rt:=bL [2,rk,rt,rv] (aB ⟨by decide,by decide⟩ (aB F2.out.1 (aB F2.out.2.1 (aB F2.out.2.2 kS))));simp only[List.length_cons,List.length_nil] at Rt;have Td:=hid HK
        have Yn:Hid (∀g cap V,V.ownsRow 0 3 1 (.slice (some ⟨g,0,none⟩) 4 cap) 4 [.int .i64 2,.int .i64 rk,.int .i64 rt,.int .i64 rv]->Below w1.heap.size w1 V->Calls prog 54 #[.slice (some ⟨g,0,none⟩) 4 cap] V fun e w'=>e= .returned (.string ⟨(aa [2,rk,rt,rv]).toArray⟩)∧Hid (Tm w Z (.slice (some ⟨gz,0,none⟩) Z.length dz) w')∧Hid (Below w1.heap.size w1 w')):=by
         intro g cap V hV hb
         refine(jW [2,rk,rt,rv] g 0 cap V (aG HT.out (I1.out.go hb).low) (aB ⟨by decide,by decide⟩ (aB F2.out.1 (aB F2.out.2.1 (aB F2.out.2.2 kS)))) (hV.lt g rfl).2 (fun k n hk=> ?_) (by simp)).mono fun e w' hh=>⟨hh.1,(I1.out.go hb).go hh.2,hb.trans (hh.2.mono hb.size)⟩
         have :=hV.cells (g:=g) rfl k (.int .i64 n) (by
          have e1:([.int .i64 2,.int .i64 rk,.int .i64 rt,.int .i64 rv]:List Value)=([2,rk,rt,rv]:List Int).map (Value.int .i64):=rfl
          rw[e1,List.getElem?_map,hk];rfl)
         rw[bZ] at this;rw[Nat.zero_add];exact this
        have b1:¬9223372036854775807 < 4+(aa [2,rk,rt,rv]).length:=by omega
        have b2:¬9223372036854775807 < 4+(aa [2,rk,rt,rv]).length+1:=by omega
        have b3:¬9223372036854775807 < X.length+(4+(aa [2,rk,rt,rv]).length+1):=by omega
        clear Rt HK
        go_wp2_with (first
         | (go_at_call 55;refine(oK _ _ _ _).mono ?_;rintro e w5 ⟨rfl,Yo⟩;subst Yo)
         | (at_builtin;refine wpList_append_lies _ rfl _ _ _ rfl w1.heap.size 3 i0 (.int .i64 0) 1 8 underlying84 hi hz0 hz1 hz2 rfl (by omega) (.slice none 0 0) 0 [] rfl (World.ownsRow_nil _ _ _ _) ⟨w1.heap.size+1,0,none⟩ 3 3 [.int .i64 rk,.int .i64 rt,.int .i64 rv] rfl rfl (Kc w1 _ _) sJ (by omega) (by unfold maxLen;omega) (by omega) (by simp;omega) _ rfl ?_;intro g5 cap5 w5 hown5 aK gI gJ;have L5:=yZ hown5 aK;have Tt:Hid _:=L5;have c5:=HC.out _ L5.low;clear hown5 aK gI gJ L5)
         | fail)
        have R9:Hid (∀o,Lr w1 [rk,rt,rv] (.slice (some ⟨g5,0,none⟩) 3 cap5) (w5.alloc o).drew):=fun o=>Tt.out.go ((below_alloc1 _ _).drew)
        have zq:=Tt.out.low.size;have O1:Hid (∀W,Calls prog 56 #[.bool true] W fun e w'=>e= .returned (.int .i64 1)∧w'=W):=jF true;have O0:Hid (∀W,Calls prog 56 #[.bool false] W fun e w'=>e= .returned (.int .i64 0)∧w'=W):=jF false
        have n0:IntKind.i64.wrap 0=0:=by kernel_rfl
        have n1:IntKind.i64.wrap 1=1:=by kernel_rfl
        have n2:IntKind.i64.wrap 2=2:=by kernel_rfl
        have n3:IntKind.i64.wrap 3=3:=by kernel_rfl
        go_region_held3 (fun V=>iH wr.heap.size ⟨k,lk,lt,lv,rk,rt,rv,false,true⟩ V) (first | exact c5 | exact HC.out _ (R9.out _).low | exact HC.out _ Us.out | exact HC.out _ MZ.out | fail) (first
         | (go_at_call 56;first
          | (refine(O1.out _).mono ?_;rintro e w9 ⟨rfl,hw⟩;have hw:=hw.symm;subst hw)
          | (refine(O0.out _).mono ?_;rintro e w9 ⟨rfl,hw⟩;have hw:=hw.symm;subst hw))
         | (refine eU _ (by rfl) _ _ _ (by rfl) 0 3 i0 (.int .i64 0) 1 8 underlying84 hi hz0 hz1 hz2 rfl (by omega) w5.heap.size 1 1 [.int .i64 2] (by first | rfl | simp[Act.eval,Act.put]) (su ((heap_drew _ _).trans (heap_alloc_new _ _)) rfl) ⟨g5,0,none⟩ 3 cap5 [.int .i64 rk,.int .i64 rt,.int .i64 rv] (by first | rfl | simp[Act.eval,Act.put]) rfl (CV (R9.out _)) (oU (ns:=[rk,rt,rv])) (by unfold maxLen;omega) (by omega) (Nat.zero_le _) ?_;intro g8 Yp w8 vT oV Qv;have Us:Hid (Below w1.heap.size w1 w8):=(R9.out _).low.grown oV (by simp;omega) (fun k e=>by cases e;exact zq);have Yq:=hid vT;clear vT oV Qv)
         | (go_at_call 54;refine(Yn.out _ _ _ Yq.out Us.out).mono ?_;rintro e w9 ⟨rfl,I9,MZ⟩)
         | fail)
        go_wp2_with fail
        go_roundg (Z.length -(q+1))
        case measure=>have :=HG2.out;omega
        case rel=>
         refine⟨q+1,by omega,rfl,by go_num,?_,I9⟩;rw[Td.out];congr 2
      ·cases hr
       · --true false
        have Rt:=bL [1,lk,lt,lv] (aB ⟨by decide,by decide⟩ (aB F1.out.1 (aB F1.out.2.1 (aB F1.out.2.2 kS))));simp only[List.length_cons,List.length_nil] at Rt;have Td:=hid HK
        have Yn:Hid (∀g cap V,V.ownsRow 0 3 1 (.slice (some ⟨g,0,none⟩) 4 cap) 4 [.int .i64 1,.int .i64 lk,.int .i64 lt,.int .i64 lv]->Below w1.heap.size w1 V->Calls prog 54 #[.slice (some ⟨g,0,none⟩) 4 cap] V fun e w'=>e= .returned (.string ⟨(aa [1,lk,lt,lv]).toArray⟩)∧Hid (Tm w Z (.slice (some ⟨gz,0,none⟩) Z.length dz) w')∧Hid (Below w1.heap.size w1 w')):=by
         intro g cap V hV hb
         refine(jW [1,lk,lt,lv] g 0 cap V (aG HT.out (I1.out.go hb).low) (aB ⟨by decide,by decide⟩ (aB F1.out.1 (aB F1.out.2.1 (aB F1.out.2.2 kS)))) (hV.lt g rfl).2 (fun k n hk=> ?_) (by simp)).mono fun e w' hh=>⟨hh.1,(I1.out.go hb).go hh.2,hb.trans (hh.2.mono hb.size)⟩
         have :=hV.cells (g:=g) rfl k (.int .i64 n) (by
          have e1:([.int .i64 1,.int .i64 lk,.int .i64 lt,.int .i64 lv]:List Value)=([1,lk,lt,lv]:List Int).map (Value.int .i64):=rfl
          rw[e1,List.getElem?_map,hk];rfl)
         rw[bZ] at this;rw[Nat.zero_add];exact this
        have b1:¬9223372036854775807 < 4+(aa [1,lk,lt,lv]).length:=by omega
        have b2:¬9223372036854775807 < 4+(aa [1,lk,lt,lv]).length+1:=by omega
        have b3:¬9223372036854775807 < X.length+(4+(aa [1,lk,lt,lv]).length+1):=by omega
        clear Rt HK
        go_wp2_with (first
         | (go_at_call 55;refine(oK _ _ _ _).mono ?_;rintro e w5 ⟨rfl,Yo⟩;subst Yo)
         | (at_builtin;refine wpList_append_lies _ rfl _ _ _ rfl w1.heap.size 3 i0 (.int .i64 0) 1 8 underlying84 hi hz0 hz1 hz2 rfl (by omega) (.slice none 0 0) 0 [] rfl (World.ownsRow_nil _ _ _ _) ⟨w1.heap.size+1,0,none⟩ 3 3 [.int .i64 lk,.int .i64 lt,.int .i64 lv] rfl rfl (Kc w1 _ _) sJ (by omega) (by unfold maxLen;omega) (by omega) (by simp;omega) _ rfl ?_;intro g5 cap5 w5 hown5 aK gI gJ;have L5:=yZ hown5 aK;have Tt:Hid _:=L5;have c5:=HC.out _ L5.low;clear hown5 aK gI gJ L5)
         | fail)
        have R9:Hid (∀o,Lr w1 [lk,lt,lv] (.slice (some ⟨g5,0,none⟩) 3 cap5) (w5.alloc o).drew):=fun o=>Tt.out.go ((below_alloc1 _ _).drew)
        have zq:=Tt.out.low.size;have O1:Hid (∀W,Calls prog 56 #[.bool true] W fun e w'=>e= .returned (.int .i64 1)∧w'=W):=jF true;have O0:Hid (∀W,Calls prog 56 #[.bool false] W fun e w'=>e= .returned (.int .i64 0)∧w'=W):=jF false
        have n0:IntKind.i64.wrap 0=0:=by kernel_rfl
        have n1:IntKind.i64.wrap 1=1:=by kernel_rfl
        have n2:IntKind.i64.wrap 2=2:=by kernel_rfl
        have n3:IntKind.i64.wrap 3=3:=by kernel_rfl
        go_region_held3 (fun V=>iH wr.heap.size ⟨k,lk,lt,lv,rk,rt,rv,true,false⟩ V) (first | exact c5 | exact HC.out _ (R9.out _).low | exact HC.out _ Us.out | exact HC.out _ MZ.out | fail) (first
         | (go_at_call 56;first
          | (refine(O1.out _).mono ?_;rintro e w9 ⟨rfl,hw⟩;have hw:=hw.symm;subst hw)
          | (refine(O0.out _).mono ?_;rintro e w9 ⟨rfl,hw⟩;have hw:=hw.symm;subst hw))
         | (refine eU _ (by rfl) _ _ _ (by rfl) 0 3 i0 (.int .i64 0) 1 8 underlying84 hi hz0 hz1 hz2 rfl (by omega) w5.heap.size 1 1 [.int .i64 1] (by first | rfl | simp[Act.eval,Act.put]) (su ((heap_drew _ _).trans (heap_alloc_new _ _)) rfl) ⟨g5,0,none⟩ 3 cap5 [.int .i64 lk,.int .i64 lt,.int .i64 lv] (by first | rfl | simp[Act.eval,Act.put]) rfl (CV (R9.out _)) (oU (ns:=[lk,lt,lv])) (by unfold maxLen;omega) (by omega) (Nat.zero_le _) ?_;intro g8 Yp w8 vT oV Qv;have Us:Hid (Below w1.heap.size w1 w8):=(R9.out _).low.grown oV (by simp;omega) (fun k e=>by cases e;exact zq);have Yq:=hid vT;clear vT oV Qv)
         | (go_at_call 54;refine(Yn.out _ _ _ Yq.out Us.out).mono ?_;rintro e w9 ⟨rfl,I9,MZ⟩)
         | fail)
        go_wp2_with fail
        go_roundg (Z.length -(q+1))
        case measure=>have :=HG2.out;omega
        case rel=>
         refine⟨q+1,by omega,rfl,by go_num,?_,I9⟩;rw[Td.out];congr 2
       · --true true
        have Rt:=bL [3,lk,lt,lv,rk,rt,rv] (aB ⟨by decide,by decide⟩ (aB F1.out.1 (aB F1.out.2.1 (aB F1.out.2.2 (aB F2.out.1 (aB F2.out.2.1 (aB F2.out.2.2 kS)))))));simp only[List.length_cons,List.length_nil] at Rt;have Td:=hid HK
        have Yn:Hid (∀g cap V,V.ownsRow 0 3 1 (.slice (some ⟨g,0,none⟩) 7 cap) 7 [.int .i64 3,.int .i64 lk,.int .i64 lt,.int .i64 lv,.int .i64 rk,.int .i64 rt,.int .i64 rv]->Below w1.heap.size w1 V->Calls prog 54 #[.slice (some ⟨g,0,none⟩) 7 cap] V fun e w'=>e= .returned (.string ⟨(aa [3,lk,lt,lv,rk,rt,rv]).toArray⟩)∧Hid (Tm w Z (.slice (some ⟨gz,0,none⟩) Z.length dz) w')∧Hid (Below w1.heap.size w1 w')):=by
         intro g cap V hV hb
         refine(jW [3,lk,lt,lv,rk,rt,rv] g 0 cap V (aG HT.out (I1.out.go hb).low) (aB ⟨by decide,by decide⟩ (aB F1.out.1 (aB F1.out.2.1 (aB F1.out.2.2 (aB F2.out.1 (aB F2.out.2.1 (aB F2.out.2.2 kS))))))) (hV.lt g rfl).2 (fun k n hk=> ?_) (by simp)).mono fun e w' hh=>⟨hh.1,(I1.out.go hb).go hh.2,hb.trans (hh.2.mono hb.size)⟩
         have :=hV.cells (g:=g) rfl k (.int .i64 n) (by
          have e1:([.int .i64 3,.int .i64 lk,.int .i64 lt,.int .i64 lv,.int .i64 rk,.int .i64 rt,.int .i64 rv]:List Value)=([3,lk,lt,lv,rk,rt,rv]:List Int).map (Value.int .i64):=rfl
          rw[e1,List.getElem?_map,hk];rfl)
         rw[bZ] at this;rw[Nat.zero_add];exact this
        have b1:¬9223372036854775807 < 4+(aa [3,lk,lt,lv,rk,rt,rv]).length:=by omega
        have b2:¬9223372036854775807 < 4+(aa [3,lk,lt,lv,rk,rt,rv]).length+1:=by omega
        have b3:¬9223372036854775807 < X.length+(4+(aa [3,lk,lt,lv,rk,rt,rv]).length+1):=by omega
        clear Rt HK
        go_wp2_with (first
         | (go_at_call 55;refine(oK _ _ _ _).mono ?_;rintro e w5 ⟨rfl,Yo⟩;subst Yo)
         | (at_builtin;refine wpList_append_lies _ rfl _ _ _ rfl w1.heap.size 3 i0 (.int .i64 0) 1 8 underlying84 hi hz0 hz1 hz2 rfl (by omega) (.slice none 0 0) 0 [] rfl (World.ownsRow_nil _ _ _ _) ⟨w1.heap.size+1,0,none⟩ 3 3 [.int .i64 lk,.int .i64 lt,.int .i64 lv] rfl rfl (Kc w1 _ _) sJ (by omega) (by unfold maxLen;omega) (by omega) (by simp;omega) _ rfl ?_;intro g5 cap5 w5 hown5 aK gI gJ;have L5:=yZ hown5 aK;have Tt:Hid _:=L5;have c5:=HC.out _ L5.low;clear hown5 aK gI gJ L5)
         | (at_builtin;refine wpList_append_lies _ rfl _ _ _ rfl w1.heap.size 3 i0 (.int .i64 0) 1 8 underlying84 hi hz0 hz1 hz2 rfl (by omega) (.slice (some ⟨g5,0,none⟩) 3 cap5) 3 [.int .i64 lk,.int .i64 lt,.int .i64 lv] rfl (Tt.out.go ((below_alloc1 _ _).alloc (by simp) _)).row ⟨w5.heap.size+1,0,none⟩ 3 3 [.int .i64 rk,.int .i64 rt,.int .i64 rv] rfl rfl (Kc w5 _ _) sJ (by omega) (by unfold maxLen;omega) (by omega) (by have :=Tt.out.low.size;simp;omega) _ rfl ?_;intro g7 Yr w7 Ut Qw Z7 Z8;have L7:=Tn (Tt.out.go ((below_alloc1 _ _).alloc (by simp) _)) Ut Qw;have HL7:Hid _:=L7;have c7:=HC.out _ L7.low;clear Ut Qw Z7 Z8 L7)
         | fail)
        have R9:Hid (∀o,Lr w1 [lk,lt,lv,rk,rt,rv] (.slice (some ⟨g7,0,none⟩) 6 Yr) (w7.alloc o).drew):=fun o=>HL7.out.go ((below_alloc1 _ _).drew)
        have zq:=HL7.out.low.size;have O1:Hid (∀W,Calls prog 56 #[.bool true] W fun e w'=>e= .returned (.int .i64 1)∧w'=W):=jF true;have O0:Hid (∀W,Calls prog 56 #[.bool false] W fun e w'=>e= .returned (.int .i64 0)∧w'=W):=jF false
        have n0:IntKind.i64.wrap 0=0:=by kernel_rfl
        have n1:IntKind.i64.wrap 1=1:=by kernel_rfl
        have n2:IntKind.i64.wrap 2=2:=by kernel_rfl
        have n3:IntKind.i64.wrap 3=3:=by kernel_rfl
        go_region_held3 (fun V=>iH wr.heap.size ⟨k,lk,lt,lv,rk,rt,rv,true,true⟩ V) (first | exact c7 | exact HC.out _ (R9.out _).low | exact HC.out _ Us.out | exact HC.out _ MZ.out | fail) (first
         | (go_at_call 56;first
          | (refine(O1.out _).mono ?_;rintro e w9 ⟨rfl,hw⟩;have hw:=hw.symm;subst hw)
          | (refine(O0.out _).mono ?_;rintro e w9 ⟨rfl,hw⟩;have hw:=hw.symm;subst hw))
         | (refine eU _ (by rfl) _ _ _ (by rfl) 0 3 i0 (.int .i64 0) 1 8 underlying84 hi hz0 hz1 hz2 rfl (by omega) w7.heap.size 1 1 [.int .i64 3] (by first | rfl | simp[Act.eval,Act.put]) (su ((heap_drew _ _).trans (heap_alloc_new _ _)) rfl) ⟨g7,0,none⟩ 6 Yr [.int .i64 lk,.int .i64 lt,.int .i64 lv,.int .i64 rk,.int .i64 rt,.int .i64 rv] (by first | rfl | simp[Act.eval,Act.put]) rfl (CV (R9.out _)) (oU (ns:=[lk,lt,lv,rk,rt,rv])) (by unfold maxLen;omega) (by omega) (Nat.zero_le _) ?_;intro g8 Yp w8 vT oV Qv;have Us:Hid (Below w1.heap.size w1 w8):=(R9.out _).low.grown oV (by simp;omega) (fun k e=>by cases e;exact zq);have Yq:=hid vT;clear vT oV Qv)
         | (go_at_call 54;refine(Yn.out _ _ _ Yq.out Us.out).mono ?_;rintro e w9 ⟨rfl,I9,MZ⟩)
         | fail)
        go_wp2_with fail
        go_roundg (Z.length -(q+1))
        case measure=>have :=HG2.out;omega
        case rel=>
         refine⟨q+1,by omega,rfl,by go_num,?_,I9⟩;rw[Td.out];congr 2
     ·have e1:q=Z.length:=by omega
      subst e1
      have i1:¬((Z.length:Nat):Int) < (Z.length:Int):=by omega
      rw[List.take_length] at hpre⊢
      have HX:Hid (t++Z.flatMap kX++[101,110,100,10]=FI x f0 f1 E0 E1 Z):=by
       show t++Z.flatMap kX++[101,110,100,10]=FI x f0 f1 E0 E1 Z;rw[Xa.out.2.2.2.2];rfl
      have a1:¬9223372036854775807 < (t++Z.flatMap kX).length+4:=by rw[List.length_append];omega
      have HB2:=hid I.out.low
      have Yt:Hid (∀X:List UInt8,t++Z.flatMap kX=X->∀u,u=Bv (X++[101,110,100,10])->Qu w x M f0 f1 (.returned u) wr):=by
       intro X hX u hu;refine⟨E0,E1,Z,Xa.out.1,Xa.out.2.1,Xa.out.2.2.1,Xa.out.2.2.2.1,HZ.out.1,HZ.out.2,?_,HB2.out⟩;rw[hu,<-hX,HX.out]
      have Uu:=Yt.out _ rfl;have Ke:Hid _:=Uu;revert a1 Ke;generalize t++Z.flatMap kX=X;intro a1 Ke;clear Yt Uu HX Xa HZ I hin hpre
      by_cases hbig:60000 < X.length+4
      ·have b1:(60000:Int) < (X.length:Int)+4:=by omega
       go_wp2;go_ret2;refine Ke.out _ ?_;unfold Bv;rw[if_pos (by simpa using hbig)];rfl
      ·have b1:¬(60000:Int) < (X.length:Int)+4:=by omega
       go_wp2;go_ret2;refine Ke.out _ ?_;unfold Bv;rw[if_neg (by simpa using hbig)];rfl
end Go.Proofs.YthfpipieboophaaGreatDoor
