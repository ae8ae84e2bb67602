import Derived.Test.YthfpipieboophaaGreatDoorZRla
namespace Go.Proofs.YthfpipieboophaaGreatDoor
set_option maxRecDepth 100000
set_option maxHeartbeats 40000000
open Go.Proofs.Tryz Go.Joins Go.RowKit Go.Sort Go.Shelf
theorem IQ{be bj:Nat}{v v0 v1:Value}{x:RJ}{M:List O}{f0 f1:Int}(w:World)(h:nM w be bj v v0 v1 x M f0 f1)(ht:jP w)(G:Ym x M f0 f1):
  Calls prog 17 #[.pointer (some ⟨be,0,none⟩)] w (Qu w x M f0 f1):=by
 obtain⟨i0,hi,T,U,S⟩:=je IE
 have K:Hid (∀W,Below w.heap.size w W->xh be bj x f0 f1 W):=λW F=>Tq (h.below F)
 have H3:Hid (∀a b c g W,Below w.heap.size w W->W.heap[g]?=some (.cells #[.int .i64 a,.int .i64 b,.int .i64 c] 3)->af a/\af b/\af c->Calls prog 54 #[.slice (some ⟨g,0,none⟩) 3 3] W λe d=>e=.returned (.string ⟨(aa [a,b,c]).toArray⟩)/\Below W.heap.size W d/\Below w.heap.size w d):=λa b c g W F hg hv=>
  (fB [a,b,c] (yY hv.1 hv.2.1 hv.2.2) (by simp) w ht g W F hg).mono λe d h=>⟨h.1,h.2,F.trans (h.2.mono F.size)⟩
 have H2:Hid (∀a b g W,Below w.heap.size w W->W.heap[g]?=some (.cells #[.int .i64 a,.int .i64 b] 3)->af a/\af b->Calls prog 54 #[.slice (some ⟨g,0,none⟩) 2 2] W λe d=>e=.returned (.string ⟨(aa [a,b]).toArray⟩)/\Below W.heap.size W d/\Below w.heap.size w d):=λa b g W F hg hv=>
  (fB [a,b] (ku hv.1 hv.2) (by simp) w ht g W F hg).mono λe d h=>⟨h.1,h.2,F.trans (h.2.mono F.size)⟩
 have HA0:Hid (∀W,Below w.heap.size w W->Calls prog 24 #[.pointer (some ⟨bj,0,none⟩),.int .i64 0] W λe d=>∃(vl:Value) (E:List Hl),e=.returned vl/\E.Perm x.R0/\E.Pairwise (λx y=>rY y x=false)/\d.ownsRow W.heap.size 117 5 vl E.length (E.flatMap bz)/\Below W.heap.size W d):=λW F=>aaK 0 _ (.inl ⟨rfl,rfl⟩) W (h.below F).join (by have:=G.l0;omega)
 have HA1:Hid (∀W,Below w.heap.size w W->Calls prog 24 #[.pointer (some ⟨bj,0,none⟩),.int .i64 1] W λe d=>∃(vl:Value) (E:List Hl),e=.returned vl/\E.Perm x.R1/\E.Pairwise (λx y=>rY y x=false)/\d.ownsRow W.heap.size 117 5 vl E.length (E.flatMap bz)/\Below W.heap.size W d):=λW F=>aaK 1 _ (.inr ⟨rfl,rfl⟩) W (h.below F).join (by have:=G.l1;omega)
 have HV:Hid (∀W,Below w.heap.size w W->Calls prog 28 #[.pointer (some ⟨be,1,none⟩)] W λe d=>∃v' Z,e=.returned v'/\Z.Perm M/\bJ Z/\d.ownsRow W.heap.size 89 9 v' Z.length (Z.flatMap ah)/\Below W.heap.size W d):=λW F=>oD _ _ _ 0 be v M W (h.below F).bag G.lm
 have HT:=hid ht;have Q:Hid (af x.lo/\af x.hi/\af x.mode):=⟨G.lo,G.hi,G.mode⟩;have R:Hid (af f0/\af f1/\af x.late):=⟨G.f0,G.f1,G.late⟩;have F3:Hid (af x.m0/\af x.m1):=⟨G.m0,G.m1⟩;have HD:=hid G;have hbe:=h.bag.lt;have hbj:=h.join.lt;obtain⟨L1,L2,L3,L4⟩:=Mg G.lo G.hi G.mode G.f0 G.f1 G.late G.m0 G.m1
 have s1:¬9223372036854775807<5+(aa [x.lo,x.hi,x.mode]).length:=by omega
 have s2:¬9223372036854775807<5+(aa [x.lo,x.hi,x.mode]).length+5:=by omega
 have s3:¬9223372036854775807<5+(aa [x.lo,x.hi,x.mode]).length+5+(aa [f0,f1,x.late]).length:=by omega
 have s4:¬9223372036854775807<5+(aa [x.lo,x.hi,x.mode]).length+5+(aa [f0,f1,x.late]).length+7:=by omega
 have s5:¬9223372036854775807<5+(aa [x.lo,x.hi,x.mode]).length+5+(aa [f0,f1,x.late]).length+7+(aa [x.m0,x.m1]).length:=by omega
 have s6:¬9223372036854775807<5+(aa [x.lo,x.hi,x.mode]).length+5+(aa [f0,f1,x.late]).length+7+(aa [x.m0,x.m1]).length+1:=by omega
 clear L1 L2 L3 G h ht;have HL4:=hid L4;clear L4;have c0:xh be bj x f0 f1 w:=K.out _ (iL _ _);go_enter func17,ntmps17
 go_upto_region 2 with fail
 go_cut [5]from 12 (λs5 V=>s5=.string ⟨(nK x.lo x.hi x.mode f0 f1 x.late x.m0 x.m1).toArray⟩/\Hid (Below w.heap.size w V))
 case first=>
  refine Tp (λQ2 hQ2=>?_)
  go_region_held3 (λW=>xh be bj x f0 f1 W) (first|with_reducible exact c0|(refine K.out _ ?_;as_aux_lemma=>(repeat' (first|with_reducible exact iL _ _|with_reducible exact B4.out|with_reducible exact B3.out|with_reducible exact B2.out|(with_reducible refine Below.drew ?_)|(with_reducible refine Below.alloc ?_ ?_ _)|omega|(simp;try omega))))|fail) (first
   |(go_at_call 54;first
    |(have q:=B3;refine(H2.out x.m0 x.m1 _ _ ?_ ?_ F3.out).mono ?_;(focus (as_aux_lemma=>(repeat' (first|with_reducible exact iL _ _|with_reducible exact B4.out|with_reducible exact B3.out|with_reducible exact B2.out|(with_reducible refine Below.drew ?_)|(with_reducible refine Below.alloc ?_ ?_ _)|omega|(simp;try omega)))));(focus (as_aux_lemma=>(repeat' (first|(with_reducible refine(heap_drew _ _).trans ?_)|exact aM (by first|omega|(simp;try omega))|(refine(gL _ _ _ (by first|omega|(simp;try omega))).trans ?_)|(refine(k3.block _ (by first|omega|(simp;try omega))).trans ?_)|(refine(k2.block _ (by first|omega|(simp;try omega))).trans ?_)))));rintro e w4 ⟨rfl,k4,b4⟩;have B4:=hid b4;have z4:=b4.size;clear b4)
    |(have q:=B2;refine(H3.out f0 f1 x.late _ _ ?_ ?_ R.out).mono ?_;(focus (as_aux_lemma=>(repeat' (first|with_reducible exact iL _ _|with_reducible exact B4.out|with_reducible exact B3.out|with_reducible exact B2.out|(with_reducible refine Below.drew ?_)|(with_reducible refine Below.alloc ?_ ?_ _)|omega|(simp;try omega)))));(focus (as_aux_lemma=>(repeat' (first|(with_reducible refine(heap_drew _ _).trans ?_)|exact aM (by first|omega|(simp;try omega))|(refine(gL _ _ _ (by first|omega|(simp;try omega))).trans ?_)|(refine(k3.block _ (by first|omega|(simp;try omega))).trans ?_)|(refine(k2.block _ (by first|omega|(simp;try omega))).trans ?_)))));rintro e w3 ⟨rfl,k3,b3⟩;have B3:=hid b3;have z3:=b3.size;have y3:=k3.size;(try simp at y3);clear b3)
    |(refine(H3.out x.lo x.hi x.mode _ _ ?_ ?_ Q.out).mono ?_;(focus (as_aux_lemma=>(repeat' (first|with_reducible exact iL _ _|with_reducible exact B4.out|with_reducible exact B3.out|with_reducible exact B2.out|(with_reducible refine Below.drew ?_)|(with_reducible refine Below.alloc ?_ ?_ _)|omega|(simp;try omega)))));(focus (as_aux_lemma=>(repeat' (first|(with_reducible refine(heap_drew _ _).trans ?_)|exact aM (by first|omega|(simp;try omega))|(refine(gL _ _ _ (by first|omega|(simp;try omega))).trans ?_)|(refine(k3.block _ (by first|omega|(simp;try omega))).trans ?_)|(refine(k2.block _ (by first|omega|(simp;try omega))).trans ?_)))));rintro e w2 ⟨rfl,k2,b2⟩;have B2:=hid b2;have z2:=b2.size;have y2:=k2.size;(try simp at y2);clear b2))
   |fail)
  all_goals as_aux_lemma=>
   refine hQ2.out _ _ _ ?_
   (try go_wp2_with fail)
   go_meet
   case rel=>
    refine⟨?_,B4.out⟩;congr 2
 case rest=>
  obtain⟨rfl,hB⟩:=hcut;have T0:Hid (Tj x f0 f1 0 (nK x.lo x.hi x.mode f0 f1 x.late x.m0 x.m1)):= .inl ⟨rfl,rfl⟩;clear s1 s2 s3 s4 s5 s6 c0;go_wp2_with fail
  go_loopg [5,67] 2 (λgg v5 v67 wr=>∃(n:Int) (i:Nat) (t:List UInt8),(n=0/\i=0∨n=1/\i=1∨n=2/\i=2)/\gg=2 -i/\v67=.int .i64 n/\v5=.string ⟨t.toArray⟩/\t.length<=1000+i*100000/\Hid (Tj x f0 f1 i t)/\Hid (Below w.heap.size w wr))
  case atStart=>exact⟨0,0,_,.inl ⟨rfl,rfl⟩,rfl,rfl,rfl,by have:=HL4.out;omega,T0,hB⟩
  case round=>
   obtain⟨n,i,t,hni,hgg,rfl,rfl,htl,HT1,s⟩:=hrel;have HG:=hid hgg;clear hgg T0 hB
   rcases hni with⟨rfl,rfl⟩|⟨rfl,rfl⟩|⟨rfl,rfl⟩
   .go_wp2_with (first
     |(go_at_call 24;refine(HA0.out _ s.out).mono ?_;rintro e w2 ⟨vl,E,rfl,hE,oE,l,L⟩;obtain⟨pl,dl,rfl⟩:=aj l;have R2:Hid (Tk w E (.slice pl E.length dl) w2):=⟨s.out.trans (L.mono s.out.size),World.ownsRow.mono l s.out.size⟩;have HE:Hid (E.Perm x.R0/\E.Pairwise (λa b=>rY b a=false)):=⟨hE,oE⟩;have hEl:E.length<=300:=(by rw[hE.length_eq];exact HD.out.l0);clear hE oE l L)
     |fail)
    go_loopg [5,74] E.length (λgg v5 v74 wr2=>∃q:Nat,q<=E.length/\gg=E.length -q/\v74=.int .i64 q/\v5=.string ⟨(t++(E.take q).flatMap (ed 0)).toArray⟩/\Hid (Tk w E (.slice pl E.length dl) wr2))
    case atStart=>exact⟨0,aW _,rfl,rfl,by simp,R2⟩
    case round=>
     obtain⟨q,hq,sK,rfl,rfl,I⟩:=hrel;have H:=hid sK;clear sK R2
     have p:∀y∈E,af y.k/\af y.t/\af y.v/\af y.met:=λy z=>HD.out.r0 y (HE.out.1.subset z)
     have V8:af 0:=⟨by decide,by decide⟩
     have m:((E.take q).flatMap (ed 0)).length<=60000:=by
      have h1:=xe (ed 0) 200 (E.take q) (λy z=>FJ 0 V8 y (p y (List.mem_of_mem_take z)));have h2:=eG q E;omega
     by_cases uD:q<E.length
     .obtain⟨g,A⟩:∃g,pl=some ⟨g,0,none⟩:=by
       obtain⟨g,cg,e⟩:=gy I.out.row (by omega)
       injection e with A
       exact⟨g,A⟩
      subst A;obtain⟨y,z⟩:∃y,E[q]?=some y:=⟨_,aO uD⟩;have ch:=FK I.out.row rfl z
      have P:Hid (t++(E.take (q+1)).flatMap (ed 0)=t++(E.take q).flatMap (ed 0)++ed 0 y):=by
       show t++(E.take (q+1)).flatMap (ed 0)=t++(E.take q).flatMap (ed 0)++ed 0 y;rw[uJ _ _ _ _ z,List.append_assoc]
      have r:=p y (cZ z);have F:=bL _ (sI 0 V8 y r)
      have Z5:Hid (Calls prog 54 #[.slice (some ⟨wr.heap.size+1,0,none⟩) 5 5] ((wr.alloc (sW y)).alloc (.cells #[.int .i64 0,.int .i64 y.k,.int .i64 y.t,.int .i64 y.v,.int .i64 y.met] 3)) λe d=>e=.returned (.string ⟨(aa [0,y.k,y.t,y.v,y.met]).toArray⟩)/\Hid (Tk w E (.slice (some ⟨g,0,none⟩) E.length dl) d)):=by
       have b1:Below wr.heap.size wr ((wr.alloc (sW y)).alloc (.cells #[.int .i64 0,.int .i64 y.k,.int .i64 y.t,.int .i64 y.v,.int .i64 y.met] 3)):=(fC _ _).alloc (by simp) _;have I1:=I.out.go b1
       refine(fB [0,y.k,y.t,y.v,y.met] (sI 0 V8 y r) (by simp) w HT.out (wr.heap.size+1) _ I1.low ?_).mono λe d N=>⟨N.1,I1.go N.2⟩
       exact aM (by simp)
      have wL:(t++(E.take q).flatMap (ed 0)).length<=1000000:=by rw[List.length_append];omega
      simp only[List.length_cons,List.length_nil]at F
      have a1:¬9223372036854775807<4+(aa [0,y.k,y.t,y.v,y.met]).length:=by omega
      have a2:¬9223372036854775807<4+(aa [0,y.k,y.t,y.v,y.met]).length+1:=by omega
      have a3:¬9223372036854775807<(t++(E.take q).flatMap (ed 0)).length+(4+(aa [0,y.k,y.t,y.v,y.met]).length+1):=by omega
      have j1:(0:Int)<=(q:Int):=by omega
      have j2:(q:Int)<(E.length:Int):=by omega
      revert a3 P;generalize t++(E.take q).flatMap (ed 0)=X;intro P a3;clear r F wL m p z
      go_wp2_with (first
       |(go_at_call 54;refine Z5.out.mono ?_;rintro e w6 ⟨rfl,I6⟩)
       |fail)
      go_roundg (E.length -(q+1))
      case measure=>have:=H.out;omega
      case rel=>
       refine⟨q+1,by omega,rfl,by go_num,?_,I6⟩;rw[P.out];congr 2
     .have A:q=E.length:=by omega
      subst A
      have i1:¬((E.length:Nat):Int)<(E.length:Int):=by omega
      rw[List.take_length]at m
      have T1:Hid (Tj x f0 f1 1 (t++E.flatMap (ed 0))):=by
        rcases HT1.out with⟨_,e⟩|⟨e,_⟩|⟨e,_⟩
        .rw[e];exact .inr (.inl ⟨rfl,E,HE.out.1,HE.out.2,rfl⟩)
        .cases e
        .cases e
      have IU:(t++E.flatMap (ed 0)).length<=1000+1*100000:=by rw[List.length_append];omega
      rw[List.take_length];have HB2:=hid I.out.low;revert T1 IU;generalize t++E.flatMap (ed 0)=X;intro T1 IU;clear m p I HE H;go_wp2
      go_roundg (2 -1)
      case measure=>have:=HG.out;omega
      case rel=>exact⟨1,1,X,.inr (.inl ⟨rfl,rfl⟩),rfl,rfl,rfl,IU,T1,HB2⟩
   .go_wp2_with (first
     |(go_at_call 24;refine(HA1.out _ s.out).mono ?_;rintro e w2 ⟨vl,E,rfl,hE,oE,l,L⟩;obtain⟨pl,dl,rfl⟩:=aj l;have R2:Hid (Tk w E (.slice pl E.length dl) w2):=⟨s.out.trans (L.mono s.out.size),World.ownsRow.mono l s.out.size⟩;have HE:Hid (E.Perm x.R1/\E.Pairwise (λa b=>rY b a=false)):=⟨hE,oE⟩;have hEl:E.length<=300:=(by rw[hE.length_eq];exact HD.out.l1);clear hE oE l L)
     |fail)
    go_loopg [5,74] E.length (λgg v5 v74 wr2=>∃q:Nat,q<=E.length/\gg=E.length -q/\v74=.int .i64 q/\v5=.string ⟨(t++(E.take q).flatMap (ed 1)).toArray⟩/\Hid (Tk w E (.slice pl E.length dl) wr2))
    case atStart=>exact⟨0,aW _,rfl,rfl,by simp,R2⟩
    case round=>
     obtain⟨q,hq,sK,rfl,rfl,I⟩:=hrel;have H:=hid sK;clear sK R2
     have p:∀y∈E,af y.k/\af y.t/\af y.v/\af y.met:=λy z=>HD.out.r1 y (HE.out.1.subset z)
     have V8:af 1:=⟨by decide,by decide⟩
     have m:((E.take q).flatMap (ed 1)).length<=60000:=by
      have h1:=xe (ed 1) 200 (E.take q) (λy z=>FJ 1 V8 y (p y (List.mem_of_mem_take z)));have h2:=eG q E;omega
     by_cases uD:q<E.length
     .obtain⟨g,A⟩:∃g,pl=some ⟨g,0,none⟩:=by
       obtain⟨g,cg,e⟩:=gy I.out.row (by omega)
       injection e with A
       exact⟨g,A⟩
      subst A;obtain⟨y,z⟩:∃y,E[q]?=some y:=⟨_,aO uD⟩;have ch:=FK I.out.row rfl z
      have P:Hid (t++(E.take (q+1)).flatMap (ed 1)=t++(E.take q).flatMap (ed 1)++ed 1 y):=by
       show t++(E.take (q+1)).flatMap (ed 1)=t++(E.take q).flatMap (ed 1)++ed 1 y;rw[uJ _ _ _ _ z,List.append_assoc]
      have r:=p y (cZ z);have F:=bL _ (sI 1 V8 y r)
      have Z5:Hid (Calls prog 54 #[.slice (some ⟨wr.heap.size+1,0,none⟩) 5 5] ((wr.alloc (sW y)).alloc (.cells #[.int .i64 1,.int .i64 y.k,.int .i64 y.t,.int .i64 y.v,.int .i64 y.met] 3)) λe d=>e=.returned (.string ⟨(aa [1,y.k,y.t,y.v,y.met]).toArray⟩)/\Hid (Tk w E (.slice (some ⟨g,0,none⟩) E.length dl) d)):=by
       have b1:Below wr.heap.size wr ((wr.alloc (sW y)).alloc (.cells #[.int .i64 1,.int .i64 y.k,.int .i64 y.t,.int .i64 y.v,.int .i64 y.met] 3)):=(fC _ _).alloc (by simp) _;have I1:=I.out.go b1
       refine(fB [1,y.k,y.t,y.v,y.met] (sI 1 V8 y r) (by simp) w HT.out (wr.heap.size+1) _ I1.low ?_).mono λe d N=>⟨N.1,I1.go N.2⟩
       exact aM (by simp)
      have wL:(t++(E.take q).flatMap (ed 1)).length<=1000000:=by rw[List.length_append];omega
      simp only[List.length_cons,List.length_nil]at F
      have a1:¬9223372036854775807<4+(aa [1,y.k,y.t,y.v,y.met]).length:=by omega
      have a2:¬9223372036854775807<4+(aa [1,y.k,y.t,y.v,y.met]).length+1:=by omega
      have a3:¬9223372036854775807<(t++(E.take q).flatMap (ed 1)).length+(4+(aa [1,y.k,y.t,y.v,y.met]).length+1):=by omega
      have j1:(0:Int)<=(q:Int):=by omega
      have j2:(q:Int)<(E.length:Int):=by omega
      revert a3 P;generalize t++(E.take q).flatMap (ed 1)=X;intro P a3;clear r F wL m p z
      go_wp2_with (first
       |(go_at_call 54;refine Z5.out.mono ?_;rintro e w6 ⟨rfl,I6⟩)
       |fail)
      go_roundg (E.length -(q+1))
      case measure=>have:=H.out;omega
      case rel=>
       refine⟨q+1,by omega,rfl,by go_num,?_,I6⟩;rw[P.out];congr 2
     .have A:q=E.length:=by omega
      subst A
      have i1:¬((E.length:Nat):Int)<(E.length:Int):=by omega
      rw[List.take_length]at m
      have T1:Hid (Tj x f0 f1 2 (t++E.flatMap (ed 1))):=by
        rcases HT1.out with⟨e,_⟩|⟨_,E0,p0,o0,e⟩|⟨e,_⟩
        .cases e
        .rw[e];exact .inr (.inr ⟨rfl,E0,E,p0,o0,HE.out.1,HE.out.2,rfl⟩)
        .cases e
      have IU:(t++E.flatMap (ed 1)).length<=1000+2*100000:=by rw[List.length_append];omega
      rw[List.take_length];have HB2:=hid I.out.low;revert T1 IU;generalize t++E.flatMap (ed 1)=X;intro T1 IU;clear m p I HE H;go_wp2
      go_roundg (2 -2)
      case measure=>have:=HG.out;omega
      case rel=>exact⟨2,2,X,.inr (.inr ⟨rfl,rfl⟩),rfl,rfl,rfl,IU,T1,HB2⟩
   .obtain⟨E0,E1,p0,o0,p1,o1,htx⟩:∃E0 E1:List Hl,E0.Perm x.R0/\E0.Pairwise (λa b=>rY b a=false)/\E1.Perm x.R1/\E1.Pairwise (λa b=>rY b a=false)/\t=nK x.lo x.hi x.mode f0 f1 x.late x.m0 x.m1++E0.flatMap (ed 0)++E1.flatMap (ed 1):=by
     rcases HT1.out with⟨e,_⟩|⟨e,_⟩|⟨_,E0,E1,p0,o0,p1,o1,e⟩
     .cases e
     .cases e
     .exact⟨E0,E1,p0,o0,p1,o1,e⟩
    have Xa:Hid (E0.Perm x.R0/\E0.Pairwise (λa b=>rY b a=false)/\E1.Perm x.R1/\E1.Pairwise (λa b=>rY b a=false)/\t=nK x.lo x.hi x.mode f0 f1 x.late x.m0 x.m1++E0.flatMap (ed 0)++E1.flatMap (ed 1)):=⟨p0,o0,p1,o1,htx⟩;clear p0 o0 p1 o1 htx HT1 HG
    go_wp2_with (first
     |(go_at_call 28;refine(HV.out _ s.out).mono ?_;rintro e w2 ⟨vz,Z,rfl,hZ,oZ,l,L⟩;obtain⟨pz,dz,rfl⟩:=aj l;have R2:Hid (Tm w Z (.slice pz Z.length dz) w2):=⟨s.out.trans (L.mono s.out.size),World.ownsRow.mono l s.out.size⟩;have HZ:Hid (Z.Perm M/\bJ Z):=⟨hZ,oZ⟩;have YT:Z.length<=1000000:=(by rw[hZ.length_eq];exact HD.out.lm);clear hZ oZ l L)
     |fail)
    go_loopg [5,103] Z.length (λgg v5 Z6 wr2=>∃q:Nat,q<=Z.length/\gg=Z.length -q/\Z6=.int .i64 q/\v5=.string ⟨(t++(Z.take q).flatMap kX).toArray⟩/\Hid (Tm w Z (.slice pz Z.length dz) wr2))
    case atStart=>exact⟨0,aW _,rfl,rfl,by simp,R2⟩
    case round=>
     as_aux_lemma=>
     obtain⟨q,hq,sK,rfl,rfl,I⟩:=hrel;have H:=hid sK;clear sK R2
     have p:∀o∈Z,(o.hl=true∨o.hr=true)/\(af o.lk/\af o.lt/\af o.lv)/\(af o.rk/\af o.rt/\af o.rv):=λo ho=>HD.out.o o (HZ.out.1.subset ho)
     have m:((Z.take q).flatMap kX).length<=200000000:=by
      have h1:=xe kX 200 (Z.take q) (λy z=>Qt y (p y (List.mem_of_mem_take z)).2);have h2:=eG q Z;omega
     by_cases uD:q<Z.length
     .obtain⟨gz,A⟩:∃g,pz=some ⟨g,0,none⟩:=by
       obtain⟨g,cg,e⟩:=gy I.out.row (by omega)
       injection e with A
       exact⟨g,A⟩
      subst A;obtain⟨y,z⟩:∃y,Z[q]?=some y:=⟨_,aO uD⟩;have ch:=nQ I.out.row q y z;have r:=p y (cZ z)
      have P:Hid (t++(Z.take (q+1)).flatMap kX=t++(Z.take q).flatMap kX++kX y):=by
       show t++(Z.take (q+1)).flatMap kX=t++(Z.take q).flatMap kX++kX y;rw[uJ _ _ _ _ z,List.append_assoc]
      have wL:(t++(Z.take q).flatMap kX).length<=300000000:=by rw[List.length_append];omega
      have j1:(0:Int)<=(q:Int):=by omega
      have j2:(q:Int)<(Z.length:Int):=by omega
      revert wL P;generalize t++(Z.take q).flatMap kX=X;intro P wL;have hb1:Below wr.heap.size wr (wr.alloc (tq y)):=fC _ _;have hbx:=eZ wr (tq y)
      have hz:wr.heap.size<(wr.alloc (tq y)).heap.size:=by simp
      obtain⟨f,hw1⟩:∃f,f=wr.alloc (tq y):=⟨_,rfl⟩;rw[<-hw1]at hb1 hbx hz;have I1:Hid (Tm w Z (.slice (some ⟨gz,0,none⟩) Z.length dz) f):=I.out.go hb1
      have K:Hid (∀V,Below f.heap.size f V->iH wr.heap.size y V):=λV hV=>Gw ((hV.block _ hz).trans hbx)
      have c1:iH wr.heap.size y f:=K.out _ (iL _ _);have Q:=hid r.2.1;have R:=hid r.2.2;have hor:=r.1;obtain⟨k,lk,lt,lv,rk,rt,rv,hl,hr⟩:=y;simp only at ch K c1 Q R hor hw1;clear r z p m hb1 hbx hz I;simp only[iH]at K c1
      go_upto_region 15 with fail
      rw[<-hw1];clear hw1 ch;cases hl
      .cases hr
       .rcases hor with e|e <;>cases e
       .
        have Rt:=bL [2,rk,rt,rv] (aB ⟨by decide,by decide⟩ (aB R.out.1 (aB R.out.2.1 (aB R.out.2.2 kS))));simp only[List.length_cons,List.length_nil]at Rt;have Td:=hid P
        have Yn:Hid (∀g cap V,V.ownsRow 0 3 1 (.slice (some ⟨g,0,none⟩) 4 cap) 4 [.int .i64 2,.int .i64 rk,.int .i64 rt,.int .i64 rv]->Below f.heap.size f V->Calls prog 54 #[.slice (some ⟨g,0,none⟩) 4 cap] V λe d=>e=.returned (.string ⟨(aa [2,rk,rt,rv]).toArray⟩)/\Hid (Tm w Z (.slice (some ⟨gz,0,none⟩) Z.length dz) d)/\Hid (Below f.heap.size f d)):=by
         intro g cap V hV Y
         refine(jW [2,rk,rt,rv] g 0 cap V (aG HT.out (I1.out.go Y).low) (aB ⟨by decide,by decide⟩ (aB R.out.1 (aB R.out.2.1 (aB R.out.2.2 kS)))) (hV.lt g rfl).2 (λk n hk=>?_) (by simp)).mono λe d N=>⟨N.1,(I1.out.go Y).go N.2,Y.trans (N.2.mono Y.size)⟩
         have:=hV.cells (g:=g) rfl k (.int .i64 n) (by
          have A:([.int .i64 2,.int .i64 rk,.int .i64 rt,.int .i64 rv]:List Value)=([2,rk,rt,rv]:List Int).map (Value.int .i64):=rfl
          rw[A,List.getElem?_map,hk];rfl)
         rw[bZ]at this;rw[Nat.zero_add];exact this
        have b1:¬9223372036854775807<4+(aa [2,rk,rt,rv]).length:=by omega
        have b2:¬9223372036854775807<4+(aa [2,rk,rt,rv]).length+1:=by omega
        have b3:¬9223372036854775807<X.length+(4+(aa [2,rk,rt,rv]).length+1):=by omega
        clear Rt P
        go_wp2_with (first
         |(go_at_call 55;refine(oK _ _ _ _).mono ?_;rintro e w5 ⟨rfl,Yo⟩;subst Yo)
         |(at_builtin;refine wpList_append_lies _ rfl _ _ _ rfl f.heap.size 3 i0 (.int .i64 0) 1 8 underlying84 hi T U S rfl (by omega) (.slice none 0 0) 0 [] rfl (iR _ _ _ _) ⟨f.heap.size+1,0,none⟩ 3 3 [.int .i64 rk,.int .i64 rt,.int .i64 rv] rfl rfl (Kc f _ _) sJ (by omega) (by unfold maxLen;omega) (by omega) (by simp;omega) _ rfl ?_;intro g5 C w5 j aK gI gJ;have L5:=yZ j aK;have Tt:Hid _:=L5;have c5:=K.out _ L5.low;clear j aK gI gJ L5)
         |fail)
        have R9:Hid (∀o,Lr f [rk,rt,rv] (.slice (some ⟨g5,0,none⟩) 3 C) (w5.alloc o).drew):=λo=>Tt.out.go ((fC _ _).drew)
        have zq:=Tt.out.low.size;have O1:Hid (∀W,Calls prog 56 #[.bool true] W λe d=>e=.returned (.int .i64 1)/\d=W):=jF true;have O0:Hid (∀W,Calls prog 56 #[.bool false] W λe d=>e=.returned (.int .i64 0)/\d=W):=jF false
        have n0:IntKind.i64.wrap 0=0:=by kernel_rfl
        have n1:IntKind.i64.wrap 1=1:=by kernel_rfl
        have n2:IntKind.i64.wrap 2=2:=by kernel_rfl
        have n3:IntKind.i64.wrap 3=3:=by kernel_rfl
        go_region_held3 (λV=>iH wr.heap.size ⟨k,lk,lt,lv,rk,rt,rv,false,true⟩ V) (first|exact c5|exact K.out _ (R9.out _).low|exact K.out _ Us.out|exact K.out _ MZ.out|fail) (first
         |(go_at_call 56;first
          |(refine(O1.out _).mono ?_;rintro e w9 ⟨rfl,B⟩;have B:=B.symm;subst B)
          |(refine(O0.out _).mono ?_;rintro e w9 ⟨rfl,B⟩;have B:=B.symm;subst B))
         |(refine eU _ (by rfl) _ _ _ (by rfl) 0 3 i0 (.int .i64 0) 1 8 underlying84 hi T U S rfl (by omega) w5.heap.size 1 1 [.int .i64 2] (by first|rfl|simp[Act.eval,Act.put]) (su ((heap_drew _ _).trans (eZ _ _)) rfl) ⟨g5,0,none⟩ 3 C [.int .i64 rk,.int .i64 rt,.int .i64 rv] (by first|rfl|simp[Act.eval,Act.put]) rfl (CV (R9.out _)) (oU (ns:=[rk,rt,rv])) (by unfold maxLen;omega) (by omega) (aW _) ?_;intro g8 Yp w8 vT oV Qv;have Us:Hid (Below f.heap.size f w8):=(R9.out _).low.grown oV (by simp;omega) (λk e=>by cases e;exact zq);have Yq:=hid vT;clear vT oV Qv)
         |(go_at_call 54;refine(Yn.out _ _ _ Yq.out Us.out).mono ?_;rintro e w9 ⟨rfl,I9,MZ⟩)
         |fail)
        go_wp2_with fail
        go_roundg (Z.length -(q+1))
        case measure=>have:=H.out;omega
        case rel=>
         refine⟨q+1,by omega,rfl,by go_num,?_,I9⟩;rw[Td.out];congr 2
      .cases hr
       .
        have Rt:=bL [1,lk,lt,lv] (aB ⟨by decide,by decide⟩ (aB Q.out.1 (aB Q.out.2.1 (aB Q.out.2.2 kS))));simp only[List.length_cons,List.length_nil]at Rt;have Td:=hid P
        have Yn:Hid (∀g cap V,V.ownsRow 0 3 1 (.slice (some ⟨g,0,none⟩) 4 cap) 4 [.int .i64 1,.int .i64 lk,.int .i64 lt,.int .i64 lv]->Below f.heap.size f V->Calls prog 54 #[.slice (some ⟨g,0,none⟩) 4 cap] V λe d=>e=.returned (.string ⟨(aa [1,lk,lt,lv]).toArray⟩)/\Hid (Tm w Z (.slice (some ⟨gz,0,none⟩) Z.length dz) d)/\Hid (Below f.heap.size f d)):=by
         intro g cap V hV Y
         refine(jW [1,lk,lt,lv] g 0 cap V (aG HT.out (I1.out.go Y).low) (aB ⟨by decide,by decide⟩ (aB Q.out.1 (aB Q.out.2.1 (aB Q.out.2.2 kS)))) (hV.lt g rfl).2 (λk n hk=>?_) (by simp)).mono λe d N=>⟨N.1,(I1.out.go Y).go N.2,Y.trans (N.2.mono Y.size)⟩
         have:=hV.cells (g:=g) rfl k (.int .i64 n) (by
          have A:([.int .i64 1,.int .i64 lk,.int .i64 lt,.int .i64 lv]:List Value)=([1,lk,lt,lv]:List Int).map (Value.int .i64):=rfl
          rw[A,List.getElem?_map,hk];rfl)
         rw[bZ]at this;rw[Nat.zero_add];exact this
        have b1:¬9223372036854775807<4+(aa [1,lk,lt,lv]).length:=by omega
        have b2:¬9223372036854775807<4+(aa [1,lk,lt,lv]).length+1:=by omega
        have b3:¬9223372036854775807<X.length+(4+(aa [1,lk,lt,lv]).length+1):=by omega
        clear Rt P
        go_wp2_with (first
         |(go_at_call 55;refine(oK _ _ _ _).mono ?_;rintro e w5 ⟨rfl,Yo⟩;subst Yo)
         |(at_builtin;refine wpList_append_lies _ rfl _ _ _ rfl f.heap.size 3 i0 (.int .i64 0) 1 8 underlying84 hi T U S rfl (by omega) (.slice none 0 0) 0 [] rfl (iR _ _ _ _) ⟨f.heap.size+1,0,none⟩ 3 3 [.int .i64 lk,.int .i64 lt,.int .i64 lv] rfl rfl (Kc f _ _) sJ (by omega) (by unfold maxLen;omega) (by omega) (by simp;omega) _ rfl ?_;intro g5 C w5 j aK gI gJ;have L5:=yZ j aK;have Tt:Hid _:=L5;have c5:=K.out _ L5.low;clear j aK gI gJ L5)
         |fail)
        have R9:Hid (∀o,Lr f [lk,lt,lv] (.slice (some ⟨g5,0,none⟩) 3 C) (w5.alloc o).drew):=λo=>Tt.out.go ((fC _ _).drew)
        have zq:=Tt.out.low.size;have O1:Hid (∀W,Calls prog 56 #[.bool true] W λe d=>e=.returned (.int .i64 1)/\d=W):=jF true;have O0:Hid (∀W,Calls prog 56 #[.bool false] W λe d=>e=.returned (.int .i64 0)/\d=W):=jF false
        have n0:IntKind.i64.wrap 0=0:=by kernel_rfl
        have n1:IntKind.i64.wrap 1=1:=by kernel_rfl
        have n2:IntKind.i64.wrap 2=2:=by kernel_rfl
        have n3:IntKind.i64.wrap 3=3:=by kernel_rfl
        go_region_held3 (λV=>iH wr.heap.size ⟨k,lk,lt,lv,rk,rt,rv,true,false⟩ V) (first|exact c5|exact K.out _ (R9.out _).low|exact K.out _ Us.out|exact K.out _ MZ.out|fail) (first
         |(go_at_call 56;first
          |(refine(O1.out _).mono ?_;rintro e w9 ⟨rfl,B⟩;have B:=B.symm;subst B)
          |(refine(O0.out _).mono ?_;rintro e w9 ⟨rfl,B⟩;have B:=B.symm;subst B))
         |(refine eU _ (by rfl) _ _ _ (by rfl) 0 3 i0 (.int .i64 0) 1 8 underlying84 hi T U S rfl (by omega) w5.heap.size 1 1 [.int .i64 1] (by first|rfl|simp[Act.eval,Act.put]) (su ((heap_drew _ _).trans (eZ _ _)) rfl) ⟨g5,0,none⟩ 3 C [.int .i64 lk,.int .i64 lt,.int .i64 lv] (by first|rfl|simp[Act.eval,Act.put]) rfl (CV (R9.out _)) (oU (ns:=[lk,lt,lv])) (by unfold maxLen;omega) (by omega) (aW _) ?_;intro g8 Yp w8 vT oV Qv;have Us:Hid (Below f.heap.size f w8):=(R9.out _).low.grown oV (by simp;omega) (λk e=>by cases e;exact zq);have Yq:=hid vT;clear vT oV Qv)
         |(go_at_call 54;refine(Yn.out _ _ _ Yq.out Us.out).mono ?_;rintro e w9 ⟨rfl,I9,MZ⟩)
         |fail)
        go_wp2_with fail
        go_roundg (Z.length -(q+1))
        case measure=>have:=H.out;omega
        case rel=>
         refine⟨q+1,by omega,rfl,by go_num,?_,I9⟩;rw[Td.out];congr 2
       .
        have Rt:=bL [3,lk,lt,lv,rk,rt,rv] (aB ⟨by decide,by decide⟩ (aB Q.out.1 (aB Q.out.2.1 (aB Q.out.2.2 (aB R.out.1 (aB R.out.2.1 (aB R.out.2.2 kS)))))));simp only[List.length_cons,List.length_nil]at Rt;have Td:=hid P
        have Yn:Hid (∀g cap V,V.ownsRow 0 3 1 (.slice (some ⟨g,0,none⟩) 7 cap) 7 [.int .i64 3,.int .i64 lk,.int .i64 lt,.int .i64 lv,.int .i64 rk,.int .i64 rt,.int .i64 rv]->Below f.heap.size f V->Calls prog 54 #[.slice (some ⟨g,0,none⟩) 7 cap] V λe d=>e=.returned (.string ⟨(aa [3,lk,lt,lv,rk,rt,rv]).toArray⟩)/\Hid (Tm w Z (.slice (some ⟨gz,0,none⟩) Z.length dz) d)/\Hid (Below f.heap.size f d)):=by
         intro g cap V hV Y
         refine(jW [3,lk,lt,lv,rk,rt,rv] g 0 cap V (aG HT.out (I1.out.go Y).low) (aB ⟨by decide,by decide⟩ (aB Q.out.1 (aB Q.out.2.1 (aB Q.out.2.2 (aB R.out.1 (aB R.out.2.1 (aB R.out.2.2 kS))))))) (hV.lt g rfl).2 (λk n hk=>?_) (by simp)).mono λe d N=>⟨N.1,(I1.out.go Y).go N.2,Y.trans (N.2.mono Y.size)⟩
         have:=hV.cells (g:=g) rfl k (.int .i64 n) (by
          have A:([.int .i64 3,.int .i64 lk,.int .i64 lt,.int .i64 lv,.int .i64 rk,.int .i64 rt,.int .i64 rv]:List Value)=([3,lk,lt,lv,rk,rt,rv]:List Int).map (Value.int .i64):=rfl
          rw[A,List.getElem?_map,hk];rfl)
         rw[bZ]at this;rw[Nat.zero_add];exact this
        have b1:¬9223372036854775807<4+(aa [3,lk,lt,lv,rk,rt,rv]).length:=by omega
        have b2:¬9223372036854775807<4+(aa [3,lk,lt,lv,rk,rt,rv]).length+1:=by omega
        have b3:¬9223372036854775807<X.length+(4+(aa [3,lk,lt,lv,rk,rt,rv]).length+1):=by omega
        clear Rt P
        go_wp2_with (first
         |(go_at_call 55;refine(oK _ _ _ _).mono ?_;rintro e w5 ⟨rfl,Yo⟩;subst Yo)
         |(at_builtin;refine wpList_append_lies _ rfl _ _ _ rfl f.heap.size 3 i0 (.int .i64 0) 1 8 underlying84 hi T U S rfl (by omega) (.slice none 0 0) 0 [] rfl (iR _ _ _ _) ⟨f.heap.size+1,0,none⟩ 3 3 [.int .i64 lk,.int .i64 lt,.int .i64 lv] rfl rfl (Kc f _ _) sJ (by omega) (by unfold maxLen;omega) (by omega) (by simp;omega) _ rfl ?_;intro g5 C w5 j aK gI gJ;have L5:=yZ j aK;have Tt:Hid _:=L5;have c5:=K.out _ L5.low;clear j aK gI gJ L5)
         |(at_builtin;refine wpList_append_lies _ rfl _ _ _ rfl f.heap.size 3 i0 (.int .i64 0) 1 8 underlying84 hi T U S rfl (by omega) (.slice (some ⟨g5,0,none⟩) 3 C) 3 [.int .i64 lk,.int .i64 lt,.int .i64 lv] rfl (Tt.out.go ((fC _ _).alloc (by simp) _)).row ⟨w5.heap.size+1,0,none⟩ 3 3 [.int .i64 rk,.int .i64 rt,.int .i64 rv] rfl rfl (Kc w5 _ _) sJ (by omega) (by unfold maxLen;omega) (by omega) (by have:=Tt.out.low.size;simp;omega) _ rfl ?_;intro g7 Yr w7 Ut Qw Z7 Z8;have L7:=Tn (Tt.out.go ((fC _ _).alloc (by simp) _)) Ut Qw;have HL7:Hid _:=L7;have c7:=K.out _ L7.low;clear Ut Qw Z7 Z8 L7)
         |fail)
        have R9:Hid (∀o,Lr f [lk,lt,lv,rk,rt,rv] (.slice (some ⟨g7,0,none⟩) 6 Yr) (w7.alloc o).drew):=λo=>HL7.out.go ((fC _ _).drew)
        have zq:=HL7.out.low.size;have O1:Hid (∀W,Calls prog 56 #[.bool true] W λe d=>e=.returned (.int .i64 1)/\d=W):=jF true;have O0:Hid (∀W,Calls prog 56 #[.bool false] W λe d=>e=.returned (.int .i64 0)/\d=W):=jF false
        have n0:IntKind.i64.wrap 0=0:=by kernel_rfl
        have n1:IntKind.i64.wrap 1=1:=by kernel_rfl
        have n2:IntKind.i64.wrap 2=2:=by kernel_rfl
        have n3:IntKind.i64.wrap 3=3:=by kernel_rfl
        go_region_held3 (λV=>iH wr.heap.size ⟨k,lk,lt,lv,rk,rt,rv,true,true⟩ V) (first|exact c7|exact K.out _ (R9.out _).low|exact K.out _ Us.out|exact K.out _ MZ.out|fail) (first
         |(go_at_call 56;first
          |(refine(O1.out _).mono ?_;rintro e w9 ⟨rfl,B⟩;have B:=B.symm;subst B)
          |(refine(O0.out _).mono ?_;rintro e w9 ⟨rfl,B⟩;have B:=B.symm;subst B))
         |(refine eU _ (by rfl) _ _ _ (by rfl) 0 3 i0 (.int .i64 0) 1 8 underlying84 hi T U S rfl (by omega) w7.heap.size 1 1 [.int .i64 3] (by first|rfl|simp[Act.eval,Act.put]) (su ((heap_drew _ _).trans (eZ _ _)) rfl) ⟨g7,0,none⟩ 6 Yr [.int .i64 lk,.int .i64 lt,.int .i64 lv,.int .i64 rk,.int .i64 rt,.int .i64 rv] (by first|rfl|simp[Act.eval,Act.put]) rfl (CV (R9.out _)) (oU (ns:=[lk,lt,lv,rk,rt,rv])) (by unfold maxLen;omega) (by omega) (aW _) ?_;intro g8 Yp w8 vT oV Qv;have Us:Hid (Below f.heap.size f w8):=(R9.out _).low.grown oV (by simp;omega) (λk e=>by cases e;exact zq);have Yq:=hid vT;clear vT oV Qv)
         |(go_at_call 54;refine(Yn.out _ _ _ Yq.out Us.out).mono ?_;rintro e w9 ⟨rfl,I9,MZ⟩)
         |fail)
        go_wp2_with fail
        go_roundg (Z.length -(q+1))
        case measure=>have:=H.out;omega
        case rel=>
         refine⟨q+1,by omega,rfl,by go_num,?_,I9⟩;rw[Td.out];congr 2
     .have A:q=Z.length:=by omega
      subst A
      have i1:¬((Z.length:Nat):Int)<(Z.length:Int):=by omega
      rw[List.take_length]at m⊢
      have HX:Hid (t++Z.flatMap kX++[101,110,100,10]=FI x f0 f1 E0 E1 Z):=by
       show t++Z.flatMap kX++[101,110,100,10]=FI x f0 f1 E0 E1 Z;rw[Xa.out.2.2.2.2];rfl
      have a1:¬9223372036854775807<(t++Z.flatMap kX).length+4:=by rw[List.length_append];omega
      have HB2:=hid I.out.low
      have Yt:Hid (∀X:List UInt8,t++Z.flatMap kX=X->∀u,u=Bv (X++[101,110,100,10])->Qu w x M f0 f1 (.returned u) wr):=by
       intro X hX u hu;refine⟨E0,E1,Z,Xa.out.1,Xa.out.2.1,Xa.out.2.2.1,Xa.out.2.2.2.1,HZ.out.1,HZ.out.2,?_,HB2.out⟩;rw[hu,<-hX,HX.out]
      have Uu:=Yt.out _ rfl;have Ke:Hid _:=Uu;revert a1 Ke;generalize t++Z.flatMap kX=X;intro a1 Ke;clear Yt Uu HX Xa HZ I p m
      by_cases hbig:60000<X.length+4
      .have b1:(60000:Int)<(X.length:Int)+4:=by omega
       go_wp2;go_ret2;refine Ke.out _ ?_;unfold Bv;rw[if_pos (by simpa using hbig)];rfl
      .have b1:¬(60000:Int)<(X.length:Int)+4:=by omega
       go_wp2;go_ret2;refine Ke.out _ ?_;unfold Bv;rw[if_neg (by simpa using hbig)];rfl
end Go.Proofs.YthfpipieboophaaGreatDoor
