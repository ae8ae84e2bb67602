import Derived.Test.YthfpipieboophaaGreatDoorZRlf
import Derived.Test.YthfpipieboophaaGreatDoorZGpa
import Derived.Test.YthfpipieboophaaGreatDoorRle
namespace Go.Proofs.YthfpipieboophaaGreatDoor
set_option maxRecDepth 100000
set_option maxHeartbeats 40000000
open Go.RowKit Go.Sort Go.Shelf
section
open Go.Proofs.Tryz Go.Joins
variable{w0 W:World}{d f n:Nat}{rs:RS}{st:Sx}{p P:Nat->Prop}
theorem Wq(h:DH w0 d f rs p P n st W)(hO:dH n st)(hn:n<=1600)(hG:aU w0)(vn:Value):
  Calls prog 81 #[.pointer (some ⟨d,0,none⟩),.string ⟨#[118,105,101,119]⟩,vn] W (eB w0 d (n+1) st P W 0 (qB st.L)):=by
 have R:=hO.len hn;obtain⟨bj,v,v0,v1,hA,hP⟩:=h.eng;have Y:=hA.bag.lt
 have HV:Hid (Calls prog 28 #[.pointer (some ⟨f,1,none⟩)] W λe z=>∃v,e=.returned v/\Hid (z.ownsRow 0 89 9 v (sortO st.L).length ((sortO st.L).flatMap ah)/\Below W.heap.size W z)):=by
  refine(oD _ _ _ 0 f v rs.M W hA.bag (by rw[h.like.v.length_eq];omega)).mono ?_;rintro e z ⟨v,Z,rfl,h1,w,h3,h4⟩;have T:Z=sortO st.L:=lY ((h1.trans h.like.v).trans (aR st.L).symm) w (eX st.L);subst T;exact⟨v,rfl,ownsRow_le h3 (gy _),h4⟩
 have hZ:(sortO st.L).length<=700000/\∀x∈sortO st.L,Fits x:=⟨by rw[(aR st.L).length_eq];exact R,λx H=>mG (jB (hO.tell x ((aR st.L).subset H)))⟩;have HT:Hid (qB st.L=Lib.join ((sortO st.L).map aW) [44,32]):=rfl
 have N:Hid (∀r,Below W.heap.size W r->eu w0 d (n+1) st P W r):=λr E=>h.same E
 have Q:=hG.below h.low;have cb:=h.cell.1;have B:=h.lt;clear h hO hn hG R hA hP;generalize qB st.L=txt at *;generalize sortO st.L=C at *;obtain⟨Ud,NU⟩:=hZ;have A:=hid NU;clear NU;obtain⟨i0,hi,hz0,hz1,hz2⟩:=Dw rz;go_enter func81,ntmps81;go_wp2_with fail;refine HV.out.mono ?_;rintro e a ⟨v,rfl,w⟩;obtain⟨oa,ck,rfl,s⟩:=Ca ah 9 (λ_=>rfl) w.out.1;have HR:=hid s
 have HD:Hid (∀r,Below a.heap.size a r->eu w0 d (n+1) st P W r):=λr E=>N.out r (w.out.2.trans (E.mono w.out.2.size))
 have Ao:Hid (aU a):=Q.below w.out.2
 have i1:(C.length:Int)<=700000:=by omega
 clear w s B Q N HV cb Y;go_wp2;have C0:Hid (Tw a ((C.take 0).map aW) (.slice none 0 0) a):=Tw.start a
 go_loopg [17,172] C.length (λgg v5 v14 wr=>∃(i:Nat),i<=C.length/\gg=C.length -i/\v14=.int .i64 i/\Hid (Tw a ((C.take i).map aW) v5 wr))
 case atStart=>exact⟨0,gy _,rfl,rfl,C0⟩
 case round=>
  obtain⟨i,hi2,iU,rfl,I⟩:=hrel;have HG:=hid iU;clear iU C0
  by_cases B:i<C.length
  .obtain⟨x,H⟩:∃x,C[i]?=some x:=⟨_,dK B⟩;obtain⟨gc,rfl,hgc,t⟩:=HR.out.below I.out.low i x H;have t:=Au t
   have U:Hid ((C.take (i+1)).map aW=(C.take i).map aW++[aW x]):=by
    show(C.take (i+1)).map aW=(C.take i).map aW++[aW x];rw[List.take_add_one,H];simp
   have wL:((C.take i).map aW).length<=700000:=by rw[List.length_map,List.length_take];omega
   have HN:Hid (∀V,Below wr.heap.size wr V->Calls prog 151 #[vO x] V λe z=>e=.returned (.string ⟨(aW x).toArray⟩)/\Below V.heap.size V z):=λV hV=>oQ x V (aG (aG Ao.out.g.tab I.out.low) hV) (A.out x (mh H))
   generalize(C.take i).map aW=X at *
   have j1:(0:Int)<=(i:Int):=by omega
   have j2:(i:Int)<(C.length:Int):=by omega
   obtain⟨k,lk,lt,lv,rk,rt,rv,F,G⟩:=x;simp only[vO]at HN t
   have HA:Hid (∀o,Below wr.heap.size wr (wr.alloc o)):=λo=>wh _ _
   clear H
   go_wp2_with (first
    |(go_at_call 151;refine(HN.out _ (HA.out _)).mono ?_;rintro e q ⟨rfl,l⟩;have m:=(HA.out _).trans (l.mono (HA.out _).size);have C4:Hid (Tw a X u17 (q.alloc (.cells #[.string ⟨(aW ⟨k,lk,lt,lv,rk,rt,rv,F,G⟩).toArray⟩] 9))):=I.out.go (m.trans ((wh q _).mono m.size));have hl4:a.heap.size<=q.heap.size:=di I.out.low.size m.size;have N4:Hid (∀j u,([(.string ⟨(aW ⟨k,lk,lt,lv,rk,rt,rv,F,G⟩).toArray⟩:Value)])[j]?=some u->(q.alloc (.cells #[.string ⟨(aW ⟨k,lk,lt,lv,rk,rt,rv,F,G⟩).toArray⟩] 9)).cell? ((⟨q.heap.size,0,none⟩:Addr).add j)=some u):=World.news_of_block (vw q (.cells #[.string ⟨(aW ⟨k,lk,lt,lv,rk,rt,rv,F,G⟩).toArray⟩] 9));clear l m)
    |(at_builtin;refine wpList_append_lies _ rfl _ _ _ rfl a.heap.size 9 i0 (.string ⟨#[]⟩) 1 16 underlying81 hi hz0 hz1 hz2 rfl (by omega) u17 X.length (X.map sV) rfl C4.out.row ⟨q.heap.size,0,none⟩ 1 1 [.string ⟨(aW ⟨k,lk,lt,lv,rk,rt,rv,F,G⟩).toArray⟩] rfl rfl N4.out jA (by omega) (by unfold maxLen;omega) (by omega) (by simp;omega) _ rfl ?_;intro g5 K w5 b aK gI gJ;have C5:Hid (Tw a (X++[aW ⟨k,lk,lt,lv,rk,rt,rv,F,G⟩]) (.slice (some ⟨g5,0,none⟩) (X.length+1) K) w5):=C4.out.step b aK;clear b aK gI gJ)
    |fail)
   go_roundg (C.length -(i+1))
   case measure=>have:=HG.out;omega
   case rel=>exact⟨i+1,by omega,rfl,by first|rfl|(congr 1;omega)|go_num,by rw[U.out];exact C5.out⟩
  .have j2:¬((i:Int)<(C.length:Int)):=by omega
   have T:C.take i=C:=nG (by omega);have S:=I.out;rw[T]at S
   have HJ:Hid (Calls prog 114 #[u17,.string ⟨#[44,32]⟩] wr λe z=>e=.returned (.string ⟨txt.toArray⟩)/\Below wr.heap.size wr z):=by
    have:=nS (C.map aW) u17 ⟨#[44,32]⟩ wr S.row (by simp;omega) (di (gL (C.map aW) 112 (λy hy=>by obtain⟨c,hc,rfl⟩:=oz.1 hy;exact iY c (A.out c hc))) (by simp;omega));rw[HT.out];exact this
   have HL:=hid S.low;clear S T I HR A HT
   go_wp2_with (first
    |(go_at_call 114;refine HJ.out.mono ?_;rintro e q ⟨rfl,l⟩;have Df:Hid (Below a.heap.size a q):=HL.out.trans (l.mono HL.out.size);clear l)
    |fail)
   go_ret2;exact⟨_,rfl,λ_=>rfl,HD.out _ Df.out⟩
theorem QC(h:DH w0 d f rs p P n st W)(hO:dH n st)(hn:n<=1600)(hG:aU w0)(vn:Value):
  Calls prog 81 #[.pointer (some ⟨d,0,none⟩),.string ⟨#[103,114,111,117,112,115]⟩,vn] W (eB w0 d (n+1) st P W 0 (kD st.L)):=by
 have Y:=hO.len hn;obtain⟨bj,v,v0,v1,hA,hP⟩:=h.eng;have hbe:=hA.bag.lt;have cv:W.cell? ⟨f,1,none⟩=some v:=hA.bag.cell.1
 have HV:Hid (Calls prog 31 #[v] W λe F=>∃v,e=.returned v/\Hid (F.ownsRow 0 140 6 v ((bP st.L).map (jR st.L)).length (((bP st.L).map (jR st.L)).flatMap jG)/\Below W.heap.size W F)):=by
  refine(vB 0 v rs.M W hA.bag.row (by rw[h.like.v.length_eq];omega)).mono ?_;rintro e F ⟨v,ks,rfl,h1,h2,_,h3,h4⟩;have hq:=Eo h.like.v;have e1:ks=bP st.L:=keys_eq hq h1 (nX st.L) h2 (mH st.L);subst e1
  have e3:((bP st.L).map (jR st.L)).flatMap jG=(bP st.L).flatMap (gE (bK rs.M)):=by
   rw[List.flatMap_map];congr 1
   funext k
   rw[JS hq k];rfl
  refine⟨v,rfl,?_,h4⟩;rw[e3,List.length_map];exact ownsRow_le h3 (gy _)
 have hZ:((bP st.L).map (jR st.L)).length<=700000/\∀x∈(bP st.L).map (jR st.L),DL x:=⟨by rw[List.length_map];exact di (pE st.L) Y,λx hx=>by obtain⟨k,hk,rfl⟩:=oz.1 hx;exact tH st.L k hk (λo ho=>jB (hO.tell o ho)) Y⟩;have HT:Hid (kD st.L=Lib.join (((bP st.L).map (jR st.L)).map dR) [44,32]):=rfl
 have HD2:Hid (∀S,Below W.heap.size W S->eu w0 d (n+1) st P W S):=λS hW'=>h.same hW'
 have hgw:=hG.below h.low;have cb:=h.cell.1;have hlt:=h.lt;clear h hO hn hG Y hA hP;generalize kD st.L=txt at *;generalize(bP st.L).map (jR st.L)=C at *;obtain⟨Ud,NU⟩:=hZ;have HZ3:=hid NU;clear NU;obtain⟨i0,hi,hz0,hz1,hz2⟩:=Dw rz;go_enter func81,ntmps81;go_wp2_with fail;refine HV.out.mono ?_;rintro e z ⟨v2,rfl,h2⟩;obtain⟨oa,ck,rfl,U⟩:=Ca jG 6 (λ_=>rfl) h2.out.1;have HR:=hid U
 have HD:Hid (∀S,Below z.heap.size z S->eu w0 d (n+1) st P W S):=λS hW'=>HD2.out S (h2.out.2.trans (hW'.mono h2.out.2.size))
 have Ao:Hid (aU z):=hgw.below h2.out.2
 have i1:(C.length:Int)<=700000:=by omega
 clear h2 U hlt hgw HD2 HV cb hbe cv;go_wp2;have C0:Hid (Tw z ((C.take 0).map dR) (.slice none 0 0) z):=Tw.start z
 go_loopg [20,193] C.length (λgg v5 v14 wr=>∃(i:Nat),i<=C.length/\gg=C.length -i/\v14=.int .i64 i/\Hid (Tw z ((C.take i).map dR) v5 wr))
 case atStart=>exact⟨0,gy _,rfl,rfl,C0⟩
 case round=>
  obtain⟨i,hi2,iU,rfl,I⟩:=hrel;have HG:=hid iU;clear iU C0
  by_cases hlt:i<C.length
  .obtain⟨x,hx⟩:∃x,C[i]?=some x:=⟨_,dK hlt⟩;obtain⟨gc,rfl,hgc,hcx⟩:=HR.out.below I.out.low i x hx;have hcx:=DT hcx
   have H:Hid ((C.take (i+1)).map dR=(C.take i).map dR++[dR x]):=by
    show(C.take (i+1)).map dR=(C.take i).map dR++[dR x];rw[List.take_add_one,hx];simp
   have wL:((C.take i).map dR).length<=700000:=by rw[List.length_map,List.length_take];omega
   have r:=HZ3.out x (mh hx);generalize(C.take i).map dR=X at *
   have j1:(0:Int)<=(i:Int):=by omega
   have j2:(i:Int)<(C.length:Int):=by omega
   have R:Below wr.heap.size wr (wr.alloc (zx x)):=wh _ _;have Z:=vw wr (zx x)
   have hz:wr.heap.size<(wr.alloc (zx x)).heap.size:=by simp
   have Y6:jP (wr.alloc (zx x)):=aG (aG Ao.out.g.tab I.out.low) R;obtain⟨w,hw1⟩:∃w,w=wr.alloc (zx x):=⟨_,rfl⟩;rw[<-hw1]at R Z hz Y6;have I1:Hid (Tw z X u20 w):=I.out.go R
   have H1:Hid (∀a g V,af a->Below w.heap.size w V->V.heap[g]?=some (.cells #[.int .i64 a] 3)->Calls prog 54 #[.slice (some ⟨g,0,none⟩) 1 1] V λe F=>e=.returned (.string ⟨(Lib.itoa a).toArray⟩)/\Below V.heap.size V F/\Below w.heap.size w F):=λa g V ha Q hg=>by
    have:=fB [a] (yX ha) (by simp) w Y6 g V Q hg;rw[jw]at this
    exact this.mono λe F h=>⟨h.1,h.2,Q.trans (h.2.mono Q.size)⟩
   have H2:Hid (∀a b g V,af a/\af b->Below w.heap.size w V->V.heap[g]?=some (.cells #[.int .i64 a,.int .i64 b] 3)->Calls prog 54 #[.slice (some ⟨g,0,none⟩) 2 2] V λe F=>e=.returned (.string ⟨(aa [a,b]).toArray⟩)/\Below w.heap.size w F):=λa b g V hv Q hg=>
    (fB [a,b] (ku hv.1 hv.2) (by simp) w Y6 g V Q hg).mono λe F h=>⟨h.1,Q.trans (h.2.mono Q.size)⟩
   have N:Hid (∀V,Below w.heap.size w V->lM wr.heap.size x V):=λV Q=>NP ((Q.block _ hz).trans Z)
   have F0:=hid r.key;have F1:Hid (af x.count/\af x.sum):=⟨r.count,r.sum⟩;have F2:Hid (af x.least/\af x.most):=⟨r.least,r.most⟩;have l1:=Lib.itoa_length_le x.key r.key.1 r.key.2;have l2:=cZ x.count x.sum r.count r.sum;have l3:=cZ x.least x.most r.least r.most;obtain⟨k,c,s,l,m,b⟩:=x;simp only at hcx N F0 F1 F2 l1 l2 l3 hw1
   have s1:¬9223372036854775807<(Lib.itoa k).length+2:=by omega
   have s2:¬9223372036854775807<(Lib.itoa k).length+2+(aa [c,s]).length:=by omega
   have s3:¬9223372036854775807<1+(aa [l,m]).length:=by omega
   have s4:¬9223372036854775807<(Lib.itoa k++[58,32]++aa [c,s]).length+(1+(aa [l,m]).length):=by simp only[List.length_append,List.length_cons,List.length_nil];omega
   have B:Hid (Below w.heap.size w w.drew):=(zI _ _).drew;have c1:lM wr.heap.size ⟨k,c,s,l,m,b⟩ w:=N.out _ (zI _ _);clear hx r l1 l2 l3 R Z hz Y6 I;simp only[lM]at N c1
   go_upto_region 44 with fail
   rw[<-hw1];clear hw1
   go_cut [23]from 194 to 224 (λs23 V=>s23=.string ⟨(Lib.itoa k++[58,32]++aa [c,s]).toArray⟩/\Hid (Below w.heap.size w V))
   case first=>
    go_region_held3 (λW=>lM wr.heap.size ⟨k,c,s,l,m,b⟩ W) (first|exact c1|exact N.out _ B3.out|exact N.out _ B2.out|exact N.out _ (B2.out.alloc B2.out.size _)|exact N.out _ (B.out.alloc B.out.size _)|exact N.out _ ((B.out.alloc B.out.size _).alloc (B.out.alloc B.out.size _).size _)|fail) (first
     |(go_at_call 54;first
      |(have q:=B2;refine(H2.out _ _ _ _ F1.out ?_ ?_).mono ?_;(first|exact B2.out|exact B2.out.alloc B2.out.size _);(first|exact vw _ _|exact(hk2.block _ (by(simp;try omega))).trans (aM (by(simp;try omega)))|exact(hk2.block _ (by(simp;try omega))).trans ((zk _ _ _ (by(simp;try omega))).trans (aM (by(simp;try omega)))));rintro e w3 ⟨rfl,hb3⟩;have B3:=hid hb3;clear hb3)
      |(refine(H1.out _ _ _ F0.out ?_ ?_).mono ?_;(first|exact B.out.alloc B.out.size _|exact(B.out.alloc B.out.size _).alloc (B.out.alloc B.out.size _).size _);(first|exact aM (by(simp;try omega))|exact(zk _ _ _ (by(simp;try omega))).trans (aM (by(simp;try omega))));rintro e w3 ⟨rfl,hk2,hb2⟩;have B2:=hid hb2;clear hb2))
     |fail)
    all_goals
     (try go_wp2_with fail)
     go_meet
     case rel=>
      refine⟨?_,B3.out⟩;congr 2
   case rest=>
    obtain⟨rfl,E⟩:=hcut;have c3:=N.out _ E.out;clear c1 B;cases b
    .have e5:dR ⟨k,c,s,l,m,false⟩=Lib.itoa k++[58,32]++aa [c,s]:=by simp[dR]
     have C4:Hid (Tw z X u20 (wc.alloc (.cells #[.string ⟨(Lib.itoa k++[58,32]++aa [c,s]).toArray⟩] 9))):=I1.out.go (E.out.trans ((wh wc _).mono E.out.size));have hl4:z.heap.size<=wc.heap.size:=di I1.out.low.size E.out.size;rw[e5]at H;clear e5 s1 s2 s3 s4;generalize Lib.itoa k++[58,32]++aa [c,s]=T at *;have N4:Hid (∀j u,([(.string ⟨T.toArray⟩:Value)])[j]?=some u->(wc.alloc (.cells #[.string ⟨T.toArray⟩] 9)).cell? ((⟨wc.heap.size,0,none⟩:Addr).add j)=some u):=World.news_of_block (vw wc (.cells #[.string ⟨T.toArray⟩] 9))
     go_wp2_with (first
      |(at_builtin;refine wpList_append_lies _ rfl _ _ _ rfl z.heap.size 9 i0 (.string ⟨#[]⟩) 1 16 underlying81 hi hz0 hz1 hz2 rfl (by omega) u20 X.length (X.map sV) rfl C4.out.row ⟨wc.heap.size,0,none⟩ 1 1 [.string ⟨T.toArray⟩] rfl rfl N4.out jA (by omega) (by unfold maxLen;omega) (by omega) (by simp;omega) _ rfl ?_;intro g5 G w5 t aK gI gJ;have C5:Hid (Tw z (X++[T]) (.slice (some ⟨g5,0,none⟩) (X.length+1) G) w5):=C4.out.step t aK;clear t aK gI gJ)
      |fail)
     go_roundg (C.length -(i+1))
     case measure=>have:=HG.out;omega
     case rel=>exact⟨i+1,by omega,rfl,by first|rfl|(congr 1;omega)|go_num,by rw[H.out];exact C5.out⟩
    .have e5:dR ⟨k,c,s,l,m,true⟩=Lib.itoa k++[58,32]++aa [c,s]++([32]++aa [l,m]):=by simp[dR]
     rw[e5]at H;clear e5 s1 s2;generalize Lib.itoa k++[58,32]++aa [c,s]=T at *
     go_wp2_with (first
      |(go_at_call 54;refine(H2.out _ _ _ _ F2.out (E.out.alloc E.out.size _) (vw _ _)).mono ?_;rintro e K ⟨rfl,A⟩;have C4:Hid (Tw z X u20 (K.alloc (.cells #[.string ⟨(T++([32]++aa [l,m])).toArray⟩] 9))):=I1.out.go (A.trans ((wh K _).mono A.size));have hl4:z.heap.size<=K.heap.size:=di I1.out.low.size A.size;have N4:Hid (∀j u,([(.string ⟨(T++([32]++aa [l,m])).toArray⟩:Value)])[j]?=some u->(K.alloc (.cells #[.string ⟨(T++([32]++aa [l,m])).toArray⟩] 9)).cell? ((⟨K.heap.size,0,none⟩:Addr).add j)=some u):=World.news_of_block (vw K (.cells #[.string ⟨(T++([32]++aa [l,m])).toArray⟩] 9));clear A)
      |(at_builtin;refine wpList_append_lies _ rfl _ _ _ rfl z.heap.size 9 i0 (.string ⟨#[]⟩) 1 16 underlying81 hi hz0 hz1 hz2 rfl (by omega) u20 X.length (X.map sV) rfl C4.out.row ⟨K.heap.size,0,none⟩ 1 1 [.string ⟨(T++([32]++aa [l,m])).toArray⟩] rfl rfl N4.out jA (by omega) (by unfold maxLen;omega) (by omega) (by simp;omega) _ rfl ?_;intro g5 G w5 t aK gI gJ;have C5:Hid (Tw z (X++[T++([32]++aa [l,m])]) (.slice (some ⟨g5,0,none⟩) (X.length+1) G) w5):=C4.out.step t aK;clear t aK gI gJ)
      |fail)
     go_roundg (C.length -(i+1))
     case measure=>have:=HG.out;omega
     case rel=>exact⟨i+1,by omega,rfl,by first|rfl|(congr 1;omega)|go_num,by rw[H.out];exact C5.out⟩
  .have j2:¬((i:Int)<(C.length:Int)):=by omega
   have e1:C.take i=C:=nG (by omega);have hI:=I.out;rw[e1]at hI
   have HJ:Hid (Calls prog 114 #[u20,.string ⟨#[44,32]⟩] wr λe F=>e=.returned (.string ⟨txt.toArray⟩)/\Below wr.heap.size wr F):=by
    have:=nS (C.map dR) u20 ⟨#[44,32]⟩ wr hI.row (by simp;omega) (di (gL (C.map dR) 112 (λy hy=>by obtain⟨c,hc,rfl⟩:=oz.1 hy;exact xM c (HZ3.out c hc))) (by simp;omega));rw[HT.out];exact this
   have HL:=hid hI.low;clear hI e1 I HR HZ3 HT
   go_wp2_with (first
    |(go_at_call 114;refine HJ.out.mono ?_;rintro e K ⟨rfl,A⟩;have Df:Hid (Below z.heap.size z K):=HL.out.trans (A.mono HL.out.size);clear A)
    |fail)
   go_ret2;exact⟨_,rfl,λ_=>rfl,HD.out _ Df.out⟩
end
section
open Go.Proofs.Tryz
variable{n d c:Nat}{st:Sx}{rs:RS}{P i:Nat->Prop}{W w0:World}
theorem lI(a b:Int)(r:List Int):aa (a::b::r)=Lib.itoa a++32::aa (b::r):=by
 unfold aa;rw[List.map_cons,Lib.join_cons,List.map_cons,Lib.join_cons];simp[Lib.joinTail]
theorem vV:∀(r:List Int) (a:Int),cK (a::r)=32::aa (a::r)
 |[],a=>by rw[jw];simp[cK]
 |b::r,a=>by
  have:=vV r b;rw[lI];unfold cK at this⊢;rw[List.flatMap_cons,this];rfl
theorem fT(hd:List UInt8)(a:Int)(r:List Int):dB hd (a::r)=hd++32::aa (a::r)++[10]:=by
 unfold dB;rw[vV];simp
theorem QD(x:J)(f0 f1:Int):nK x.lo x.hi x.mode f0 f1 x.late x.m0 x.m1=EM x f0 f1:=by
 unfold EM;rw[fT,fT,fT];unfold nK;simp
theorem Tz(s:Int)(y:Hl):ed s y=dB pX.data.toList [s,(fE y).k,(fE y).t,(fE y).v,(fE y).n]:=by
 rw[fT];unfold ed;simp[fE]
theorem Ws:Lib.itoa 1=[49]:=by kernel_rfl
theorem Wt:Lib.itoa 2=[50]:=by kernel_rfl
theorem Wu:Lib.itoa 3=[51]:=by kernel_rfl
theorem TA(o:O)(h:o.hl=true∨o.hr=true):kX o=dB (fu o).data.toList (dV o):=by
 obtain⟨k,lk,lt,lv,rk,rt,rv,b,a⟩:=o;unfold kX dV fu Tg gY;cases b
 .cases a
  .rcases h with e|e <;>cases e
  .simp only[Bool.false_eq_true,↓reduceIte,List.nil_append];rw[fT,lI];simp[Wt]
 .cases a
  .simp only[Bool.false_eq_true,↓reduceIte,List.append_nil];rw[fT,lI];simp[Ws]
  .simp only[↓reduceIte,List.cons_append,List.nil_append];rw[fT,lI];simp[Wu]
theorem Kk(s:Int)(E:List Hl):E.flatMap (ed s)=iw s (E.map fE):=by
 unfold iw;rw[List.flatMap_map];exact congrArg (λf=>E.flatMap f) (funext λy=>Tz s y)
theorem Kl:∀(Z:List O),(∀o∈Z,o.hl=true∨o.hr=true)->Z.flatMap kX=iy Z
 |[],_=>rfl
 |o::Z,h=>by
  have:=Kl Z (λp a=>h p (by simp[a]));unfold iy at this⊢;rw[List.flatMap_cons,List.flatMap_cons,this,TA o (h o (by simp))]
theorem Xb:af 0:=⟨by decide,by decide⟩
theorem y7{o:O}(h:iK o):(o.hl=true∨o.hr=true)/\(af o.lk/\af o.lt/\af o.lv)/\(af o.rk/\af o.rt/\af o.rv):=by
 cases h with
 |left k t v hg=>
  obtain⟨⟨e,g⟩,⟨a,f⟩,c1,b⟩:=dI (r:=⟨k,t,v⟩) hg;simp only at e g a f c1 b;exact⟨.inl rfl,⟨⟨by show _<=k;omega,by show k<=_;omega⟩,⟨by show _<=t;omega,by show t<=_;omega⟩,⟨by show _<=v;omega,by show v<=_;omega⟩⟩,Xb,Xb,Xb⟩
 |right k t v hg=>
  obtain⟨⟨e,g⟩,⟨a,f⟩,c1,b⟩:=dI (r:=⟨k,t,v⟩) hg;simp only at e g a f c1 b;exact⟨.inr rfl,⟨Xb,Xb,Xb⟩,⟨by show _<=k;omega,by show k<=_;omega⟩,⟨by show _<=t;omega,by show t<=_;omega⟩,⟨by show _<=v;omega,by show v<=_;omega⟩⟩
 |pair k t v t2 v2 hg hg2=>
  obtain⟨⟨e,g⟩,⟨a,f⟩,c1,b⟩:=dI (r:=⟨k,t,v⟩) hg;obtain⟨⟨_,_⟩,⟨l,m⟩,p,j⟩:=dI (r:=⟨k,t2,v2⟩) hg2;simp only at e g a f c1 b l m p j;exact⟨.inl rfl,⟨⟨by show _<=k;omega,by show k<=_;omega⟩,⟨by show _<=t;omega,by show t<=_;omega⟩,⟨by show _<=v;omega,by show v<=_;omega⟩⟩,⟨by show _<=k;omega,by show k<=_;omega⟩,⟨by show _<=t2;omega,by show t2<=_;omega⟩,⟨by show _<=v2;omega,by show v2<=_;omega⟩⟩
theorem FQ{R:List Hl}{T:List D}(f:eY R T)(h:∀y∈T,au y.k y.t y.v=true/\0<=y.n/\y.n<=9223372036854775807):∀y∈R,af y.k/\af y.t/\af y.v/\af y.met:=by
 obtain⟨E,p,_,rfl⟩:=f;intro y j;obtain⟨o,b,a⟩:=h (fE y) (oz.2 ⟨y,p.symm.subset j,rfl⟩);obtain⟨⟨l,q⟩,⟨e,m⟩,c1,g⟩:=dI (r:=⟨y.k,y.t,y.v⟩) o;simp only at l q e m c1 g;have b:0<=y.met:=b;have a:y.met<=9223372036854775807:=a;exact⟨⟨by omega,by omega⟩,⟨by omega,by omega⟩,⟨by omega,by omega⟩,by omega,a⟩
theorem dN.fit(h:dN n st rs)(a:dH n st)(e:n<=1600):Ym rs.x rs.M rs.f0 rs.f1:=by
 have b:=a.sv e;obtain⟨⟨a1,a2⟩,⟨a3,a4⟩,_,a5,a6⟩:=a.plan;have b0:=a.m0;have b1:=a.m1;have c0:=a.late;have d0:=a.f0;have d1:=a.f1;have l0:=h.r0.len;have l1:=h.r1.len;have q0:=a.l0;have q1:=a.l1;refine⟨by rw[h.lo];exact⟨by omega,by omega⟩,by rw[h.hi];exact⟨by omega,by omega⟩,by rw[h.mode];exact⟨by omega,by omega⟩,by rw[h.f0];exact⟨by omega,by omega⟩,by rw[h.f1];exact⟨by omega,by omega⟩,by rw[h.late];exact⟨by omega,by omega⟩,by rw[h.m0];exact⟨by omega,by omega⟩,by rw[h.m1];exact⟨by omega,by omega⟩,FQ h.r0 b.g0,FQ h.r1 b.g1,by omega,by omega,λo f=>y7 (a.tell o (h.v.subset f)),?_⟩;rw[h.v.length_eq];have:=a.len e;omega
theorem QE(h:dN n st rs)(l:dH n st){b e:List Hl}{Z:List O}(k:b.Perm rs.x.R0)(p:nN b)(s:e.Perm rs.x.R1)(o1:nN e)(f:Z.Perm rs.M)(g:bJ Z):
  FI rs.x rs.f0 rs.f1 b e Z=bN st.x st.f0 st.f1 (sortO st.L):=by
 have m:=h.r0.at h.c0.inc k p;have r:=h.r1.at h.c1.inc s o1;have j:Z=sortO st.L:=lY ((f.trans h.v).trans (aR st.L).symm) g (eX st.L)
 have a:∀o∈Z,o.hl=true∨o.hr=true:=λo q=>(y7 (l.tell o (h.v.subset (f.subset q)))).1
 unfold FI bN;rw[h.lo,h.hi,h.mode,h.f0,h.f1,h.late,h.m0,h.m1,QD,Kk,Kk,Kl Z a,<-m,<-r,j];rfl
theorem QF(n:Int):1<=(Lib.itoa n).length:=by
 have hd:∀u:Nat,1<=Lib.nDigits u:=λu=>by
  unfold Lib.nDigits
  split <;>omega
 unfold Lib.itoa
 split
 .simp
 .rw[Lib.decDigits_length];exact hd _
theorem BD:∀ns:List Int,ns.length*2<=(cK ns).length
 |[]=>by simp[cK]
 |a::r=>by
  have b:=BD r;have h2:=QF a;unfold cK at b⊢;rw[List.flatMap_cons,List.length_append,List.length_cons,List.length_cons];omega
theorem QG(o:O)(h:o.hl=true∨o.hr=true):12<=(dB (fu o).data.toList (dV o)).length:=by
 have h1:=BD (dV o)
 have h2:3<=(dV o).length:=by
  unfold dV
  rcases h with e|e
  .rw[e];simp
  .rw[e];cases o.hl <;>simp
 have a:(fu o).data.toList.length=5:=by
  unfold fu
  cases o.hl <;>cases o.hr <;>rfl
 unfold dB;rw[List.length_append,List.length_append,a];simp only[List.length_cons,List.length_nil];omega
theorem BF:∀(Z:List O),(∀o∈Z,o.hl=true∨o.hr=true)->Z.length*12<=(iy Z).length
 |[],_=>by simp
 |o::Z,h=>by
  have b:=BF Z (λp a=>h p (by simp[a]));have h2:=QG o (h o (by simp));unfold iy at b⊢;rw[List.flatMap_cons,List.length_append,List.length_cons];omega
theorem QH(a:dH n st):Bv (bN st.x st.f0 st.f1 (sortO st.L))=(match st.text with|none=>.tuple #[.string ⟨#[]⟩,.int .i64 4]|some t=>.tuple #[sV t,.int .i64 0]):=by
 unfold Bv Sx.text
 have e:(sortO st.L).length*12<=(bN st.x st.f0 st.f1 (sortO st.L)).length:=by
  have:=BF (sortO st.L) (λo b=>(y7 (a.tell o ((aR st.L).subset b))).1);unfold bN;simp only[List.length_append];omega
 rw[(aR st.L).length_eq]at e
 by_cases h1:60000<(bN st.x st.f0 st.f1 (sortO st.L)).length
 .rw[if_pos h1,if_pos (.inr h1)]
 .rw[if_neg h1,if_neg (by omega)]
theorem yf(h:RE d rs P W)(f:dN n st rs)(a:dH n st)(m:n<=1600)(k:jP W):
  Calls prog 17 #[.pointer (some ⟨d,0,none⟩)] W λe b=>e=.returned (match st.text with|none=>.tuple #[.string ⟨#[]⟩,.int .i64 4]|some t=>.tuple #[sV t,.int .i64 0])/\Below W.heap.size W b:=by
 obtain⟨bj,v,v0,v1,p,hP⟩:=h;refine(IQ W p k (f.fit a m)).mono ?_;rintro e b ⟨E0,E1,Z,g,o,q,o1,r,j,rfl,l⟩;refine⟨?_,l⟩;rw[QE f a g o q o1 r j,QH a]
theorem TB(h:DH w0 c d rs i P n st W)(o:dH n st)(w:n<=1600)(j:aU w0)(x:Value):
  Calls prog 81 #[.pointer (some ⟨c,0,none⟩),.string ⟨#[115,97,118,101,100]⟩,x] W (eB w0 c (n+1) st P W (iL st).1 (iL st).2):=by
 have b:=yf h.eng h.like o w (j.below h.low).g.tab;have cb:=h.cell.1;have hlt:=h.lt
 have r:Hid (∀(a:Int) V,af a->Hid (Below W.heap.size W V)->Calls prog 54 #[.slice (some ⟨V.heap.size,0,none⟩) 1 1] (V.alloc (.cells #[.int .i64 a] 3)) λe f=>e=.returned (.string ⟨(Lib.itoa a).toArray⟩)/\Hid (eu w0 c (n+1) st P W f)):=λa V v q=>by
  have k:Below W.heap.size W (V.alloc (.cells #[.int .i64 a] 3)):=q.out.alloc q.out.size _;have:=fB [a] (yX v) (by simp) w0 j.g.tab V.heap.size _ (h.below k).low (vw V _);rw[jw]at this
  exact this.mono λe f p=>⟨p.1,h.same (k.trans (p.2.mono k.size))⟩
 unfold iL
 cases ht:st.text with
 |none=>
  simp only[ht]at b;have b:Hid (Calls prog 17 #[.pointer (some ⟨d,0,none⟩)] W λe f=>e=.returned (.tuple #[.string ⟨#[]⟩,.int .i64 4])/\Hid (Below W.heap.size W f)):=b;have F:Hid (af 0):=⟨by decide,by decide⟩;clear h o j ht;go_enter func81,ntmps81
  go_wp2_with (first
   |(go_at_call 17;refine b.out.mono ?_;rintro e s ⟨rfl,l⟩)
   |(go_at_call 54;refine(r.out 0 _ F.out l).mono ?_;rintro e u ⟨rfl,m⟩)
   |fail)
  go_ret2;exact⟨_,rfl,λe=>absurd e (by decide),m.out⟩
 |some t=>
  simp only[ht]at b;have htl:=nW ht;have b:Hid (Calls prog 17 #[.pointer (some ⟨d,0,none⟩)] W λe f=>e=.returned (.tuple #[.string ⟨t.toArray⟩,.int .i64 0])/\Hid (Below W.heap.size W f)):=b;have F:Hid (af (t.length:Int)):=⟨by omega,by omega⟩;clear h o j ht;go_enter func81,ntmps81
  go_wp2_with (first
   |(go_at_call 17;refine b.out.mono ?_;rintro e s ⟨rfl,l⟩)
   |(go_at_call 54;refine(r.out (t.length:Int) _ F.out l).mono ?_;rintro e u ⟨rfl,m⟩)
   |fail)
  go_ret2;exact⟨_,rfl,λ_=>rfl,m.out⟩
theorem DH.again(h:DH w0 c d rs i P n st W):DH w0 c d rs i P n st.again W:=⟨h.blk,h.eng,h.like.again,h.np,h.all,h.low,h.ge⟩
theorem QI(h:DH w0 c d rs i P n st W)(l:dH n st)(o:n<=1600)(k:aU w0)(p:Value):
  Calls prog 81 #[.pointer (some ⟨c,0,none⟩),.string ⟨#[114,101,108,111,97,100]⟩,p] W (eB w0 c (n+1) (dJ st).2 P W (dJ st).1.1 (dJ st).1.2):=by
 have a:=yf h.eng h.like l o (k.below h.low).g.tab;have cb:=h.cell.1;have hlt:=h.lt;unfold dJ
 cases ht:st.text with
 |none=>
  simp only[ht]at a
  have a:Hid (Calls prog 17 #[.pointer (some ⟨d,0,none⟩)] W λe f=>e=.returned (.tuple #[.string ⟨#[]⟩,.int .i64 4])/\Hid (eu w0 c (n+1) st P W f)):=a.mono λe f b=>⟨b.1,h.same b.2⟩
  clear h l k ht;go_enter func81,ntmps81
  go_wp2_with (first
   |(go_at_call 17;refine a.out.mono ?_;rintro e m ⟨rfl,j⟩)
   |fail)
  go_ret2;exact⟨[],rfl,λe=>absurd e (by decide),j.out⟩
 |some t=>
  simp only[ht]at a
  have a:Hid (Calls prog 17 #[.pointer (some ⟨d,0,none⟩)] W λe f=>e=.returned (.tuple #[.string ⟨t.toArray⟩,.int .i64 0])/\Hid (eu w0 c (n+1) st.again P W f)):=a.mono λe f b=>⟨b.1,h.again.same b.2⟩
  clear h l k ht;go_enter func81,ntmps81
  go_wp2_with (first
   |(go_at_call 17;refine a.out.mono ?_;rintro e m ⟨rfl,j⟩)
   |fail)
  go_ret2;exact⟨_,rfl,λ_=>rfl,j.out⟩
end
section
open Go.Proofs.Tryz Go.Joins
variable{W:World}{base:Nat}{d:Value}{a b:Int}
theorem qQ{c:Int}(h:W.ownsRow base 3 1 d 3 ([a,b,c].map (Value.int .i64))):∃g cap,d=.slice (some ⟨g,0,none⟩) 3 cap/\g<W.heap.size/\Three g a b c W:=by
 obtain⟨g,cap,rfl⟩:=yg h (by omega)
 have e:=λj u f=>h.cells (g:=g) rfl j u f
 refine⟨g,cap,rfl,(h.lt g rfl).2,?_,?_,?_⟩
 .have:=e 0 (.int .i64 a) rfl;rwa [bZ]at this
 .have:=e 1 (.int .i64 b) rfl;rwa [bZ]at this
 .have:=e 2 (.int .i64 c) rfl;rwa [bZ]at this
theorem QL(h:W.ownsRow base 3 1 d 2 ([a,b].map (Value.int .i64))):∃g cap,d=.slice (some ⟨g,0,none⟩) 2 cap/\g<W.heap.size/\W.cell? ⟨g,0,none⟩=some (.int .i64 a)/\W.cell? ⟨g,1,none⟩=some (.int .i64 b):=by
 obtain⟨g,cap,rfl⟩:=yg h (by omega)
 have c:=λj u e=>h.cells (g:=g) rfl j u e
 refine⟨g,cap,rfl,(h.lt g rfl).2,?_,?_⟩
 .have:=c 0 (.int .i64 a) rfl;rwa [bZ]at this
 .have:=c 1 (.int .i64 b) rfl;rwa [bZ]at this
theorem Mo(v:Vb){w0:World}{p be n:Nat}{rs:RS}{st:Sx}{q P:Nat->Prop}(h:DH w0 p be rs q P n st W)(e:dH n st)(f:n<=1600)(i:aU w0)(ns:List Int)(o:ns.length=v.ar)(base:Nat)(d:Value)(m:W.ownsRow base 3 1 d ns.length (ns.map (Value.int .i64)))(j:∀g,d.ownBlock=some g->¬P g):
  Calls prog 81 #[.pointer (some ⟨p,0,none⟩),sV v.word,d] W (eB w0 p (n+1) (v.does st ns).2 P W (v.does st ns).1.1 (v.does st ns).1.2):=by
 cases v with
 |vplan=>
  obtain⟨a,b,c,rfl⟩:=Av o;obtain⟨g,cap,rfl,k,l⟩:=qQ m;exact Wh h a b c g cap k l
 |vleft=>
  obtain⟨a,b,c,rfl⟩:=Av o;obtain⟨g,cap,rfl,k,l⟩:=qQ m;exact Wm h e f i a b c g cap k (j g rfl) l
 |vright=>
  obtain⟨a,b,c,rfl⟩:=Av o;obtain⟨g,cap,rfl,k,l⟩:=qQ m;exact Ty h e f i a b c g cap k (j g rfl) l
 |vmark=>
  obtain⟨a,b,rfl⟩:=Uf o;obtain⟨g,cap,rfl,k,l⟩:=QL m;exact Wi h e f a b g cap k (j g rfl) l
 |vmarks=>exact Tx h e f i d
 |vheld=>exact Wl h e f i d
 |vfed=>exact Yu h e f i d
 |vlate=>exact Wj h e f i d
 |vview=>exact Wq h e f i d
 |vgroups=>exact QC h e f i d
 |vsaved=>exact TB h e f i d
 |vreload=>exact QI h e f i d
 |vhelp=>exact V9 h d
theorem TD(V:World):∃q u p r w v s t x h g i f,
  ((Instr.mapUpdate 152 (.map (some V.heap.size)) (.string ⟨#[102,101,100]⟩) (.int .i64 0)).run prog (V.alloc (.map #[] 0))=.ok () q/\
  (Instr.mapUpdate 152 (.map (some V.heap.size)) (.string ⟨#[103,114,111,117,112,115]⟩) (.int .i64 0)).run prog q=.ok () u/\
  (Instr.mapUpdate 152 (.map (some V.heap.size)) (.string ⟨#[104,101,108,100]⟩) (.int .i64 0)).run prog u=.ok () p/\
  (Instr.mapUpdate 152 (.map (some V.heap.size)) (.string ⟨#[104,101,108,112]⟩) (.int .i64 0)).run prog p=.ok () r/\
  (Instr.mapUpdate 152 (.map (some V.heap.size)) (.string ⟨#[108,97,116,101]⟩) (.int .i64 0)).run prog r=.ok () w/\
  (Instr.mapUpdate 152 (.map (some V.heap.size)) (.string ⟨#[108,101,102,116]⟩) (.int .i64 3)).run prog w=.ok () v/\
  (Instr.mapUpdate 152 (.map (some V.heap.size)) (.string ⟨#[109,97,114,107]⟩) (.int .i64 2)).run prog v=.ok () s/\
  (Instr.mapUpdate 152 (.map (some V.heap.size)) (.string ⟨#[109,97,114,107,115]⟩) (.int .i64 0)).run prog s=.ok () t/\
  (Instr.mapUpdate 152 (.map (some V.heap.size)) (.string ⟨#[112,108,97,110]⟩) (.int .i64 3)).run prog t=.ok () x/\
  (Instr.mapUpdate 152 (.map (some V.heap.size)) (.string ⟨#[114,101,108,111,97,100]⟩) (.int .i64 0)).run prog x=.ok () h/\
  (Instr.mapUpdate 152 (.map (some V.heap.size)) (.string ⟨#[114,105,103,104,116]⟩) (.int .i64 3)).run prog h=.ok () g/\
  (Instr.mapUpdate 152 (.map (some V.heap.size)) (.string ⟨#[115,97,118,101,100]⟩) (.int .i64 0)).run prog g=.ok () i/\
  (Instr.mapUpdate 152 (.map (some V.heap.size)) (.string ⟨#[118,105,101,119]⟩) (.int .i64 0)).run prog i=.ok () f)/\
  CX f V.heap.size/\Below V.heap.size V f:=by
 have h0:=World.ownsMap_made V prog 9 zA;obtain⟨q,r1,h1,g1⟩:=uL h0 (by omega) [102,101,100] (by decide) 0;obtain⟨u,r2,h2,H⟩:=uL h1 (by omega) [103,114,111,117,112,115] (by decide) 0;obtain⟨p,r3,h3,G⟩:=uL h2 (by omega) [104,101,108,100] (by decide) 0;obtain⟨r,r4,h4,N⟩:=uL h3 (by omega) [104,101,108,112] (by decide) 0;obtain⟨w,r5,h5,L⟩:=uL h4 (by omega) [108,97,116,101] (by decide) 0;obtain⟨v,r6,h6,M⟩:=uL h5 (by omega) [108,101,102,116] (by decide) 3;obtain⟨s,r7,h7,g7⟩:=uL h6 (by omega) [109,97,114,107] (by decide) 2;obtain⟨t,r8,h8,Y⟩:=uL h7 (by omega) [109,97,114,107,115] (by decide) 0;obtain⟨x,r9,h9,Z⟩:=uL h8 (by omega) [112,108,97,110] (by decide) 3;obtain⟨h,WM,z,n⟩:=uL h9 (by omega) [114,101,108,111,97,100] (by decide) 0;obtain⟨g,WN,y,m⟩:=uL z (by omega) [114,105,103,104,116] (by decide) 3;obtain⟨i,WO,F,l⟩:=uL y (by omega) [115,97,118,101,100] (by decide) 0;obtain⟨f,WQ,Zm,C⟩:=uL F (by omega) [118,105,101,119] (by decide) 0;refine⟨q,u,p,r,w,v,s,t,x,h,g,i,f,⟨r1,r2,r3,r4,r5,r6,r7,r8,r9,WM,WN,WO,WQ⟩,Zm,?_⟩
 have c:∀{A B:World},V.heap.size<=A.heap.size->A.grownBy B (some V.heap.size)->Below V.heap.size A B:=λhA hg=>(zI _ _).grown hg hA (λk e=>by cases e;exact aO _)
 have P:V.heap.size<=(V.alloc (.map #[] 0)).heap.size:=by simp
 have T:=di P g1.size;have S:=di T H.size;have I:=di S G.size;have Q:=di I N.size;have X:=di Q L.size;have U:=di X M.size;have K:=di U g7.size;have R:=di K Y.size;have s9:=di R Z.size;have j:=di s9 n.size;have o:=di j m.size;have E:=di o l.size;exact(((((((((((((wh V _).trans (c P g1)).trans (c T H)).trans (c S G)).trans (c I N)).trans (c Q L)).trans (c X M)).trans (c U g7)).trans (c K Y)).trans (c R Z)).trans (c s9 n)).trans (c j m)).trans (c o l)).trans (c E C)
end
section
open Go.Joins
structure SD(w:World)(c b g:Nat)(a:List (List UInt8))(n:Nat)(st:Sx)(P:Nat->Prop)(W:World):Prop where
 dk:DHs w c n st P W
 mp:CX W b
 nm:¬P b
 ln:W.heap[g]?=some (.cells (a.map sV).toArray 9)
 ng:¬P g
 ge:w.heap.size<=b/\w.heap.size<=g
section
variable{w:World}{c b g n j:Nat}{a:List (List UInt8)}{st d:Sx}{P:Nat->Prop}{W f l:World}
theorem SD.low(h:SD w c b g a n st P W):Below w.heap.size w W:=by
 obtain⟨be,rs,Pe,e⟩:=h.dk;exact e.low
theorem SD.plt(h:SD w c b g a n st P W):∀k,P k->k<W.heap.size:=by
 obtain⟨be,rs,Pe,e⟩:=h.dk;exact e.plt
theorem SD.go(h:SD w c b g a n st P W)(e:Below W.heap.size W f):SD w c b g a n st P f:=by
 obtain⟨be,rs,i,k⟩:=h.dk;exact⟨⟨be,rs,i,k.below e⟩,h.mp.still (e.block _ h.mp.lt),h.nm,(e.block _ (aD.1 h.ln).1).trans h.ln,h.ng,h.ge⟩
theorem SD.next(h:SD w c b g a n st P W)(s:eu w c j d P W l):∃i,SD w c b g a j d i l/\Turned P W l/\∀k,i k->P k∨W.heap.size<=k:=by
 obtain⟨i,r,m,o⟩:=s;have p:=h.mp.lt;have t:=(aD.1 h.ln).1;refine⟨i,⟨r,h.mp.still (m.block _ p h.nm),λe=>?_,(m.block _ t h.ng).trans h.ln,λe=>?_,h.ge⟩,m,o⟩
 .rcases o _ e with q|q
  .exact h.nm q
  .omega
 .rcases o _ e with q|q
  .exact h.ng q
  .omega
theorem SD.more(h:SD w c b g a n st P W)(k:n<=j):SD w c b g a j st P W:=by
 obtain⟨be,rs,i,e⟩:=h.dk;exact⟨⟨be,rs,i,e.more k⟩,h.mp,h.nm,h.ln,h.ng,h.ge⟩
theorem SD.line(h:SD w c b g a n st P W)(i:Nat)(x:List UInt8)(hi:a[i]?=some x):W.cell? ⟨g,i,none⟩=some (.string ⟨x.toArray⟩):=by
 rw[vE h.ln];simp[hi]
end
def FR(w:World)(c b g:Nat)(a:List (List UInt8))(n:Nat)(st:Sx)(W:World):Prop:=∃P,SD w c b g a n st P W
theorem FR.go{w:World}{c b g n:Nat}{a:List (List UInt8)}{st:Sx}{W f:World}(h:FR w c b g a n st W)(i:Below W.heap.size W f):FR w c b g a n st f:=by
 obtain⟨P,e⟩:=h;exact⟨P,e.go i⟩
def nO(ws:List (List UInt8)):Bool:=ws.all λy=>(numOf y).isSome
def iR(ws:List (List UInt8)):List Int:=ws.map λy=>(numOf y).getD 0
theorem Km:∀(ws:List (List UInt8)),nO ws=true->numsOf ws=some (iR ws)
 |[],_=>rfl
 |y::r,h=>by
  unfold nO at h;rw[List.all_cons,Bool.and_eq_true]at h;obtain⟨n,e⟩:=qC.1 h.1;have ih:=Km r h.2;unfold numsOf;rw[e,ih];simp[iR,e]
theorem Kn:∀(ws:List (List UInt8)),nO ws=false->numsOf ws=none
 |[],h=>by simp[nO]at h
 |y::r,h=>by
  unfold nO at h;rw[List.all_cons]at h;unfold numsOf
  cases hy:numOf y with
  |none=>rfl
  |some n=>
   rw[hy]at h;simp only[Option.isSome_some,Bool.true_and]at h;rw[Kn r h];rfl
theorem TC(ws:List (List UInt8))(q:Nat)(y:List UInt8)(h:ws[q]?=some y):nO (ws.take (q+1))=(nO (ws.take q)&&(numOf y).isSome):=by
 unfold nO;rw[List.take_add_one,h];simp
theorem QJ(ws:List (List UInt8))(q:Nat)(y:List UInt8)(h:ws[q]?=some y):iR (ws.take (q+1))=iR (ws.take q)++[(numOf y).getD 0]:=by
 unfold iR;rw[List.take_add_one,h];simp
theorem Ko(ws:List (List UInt8)):(iR ws).length=ws.length:=by unfold iR;simp
def uM(w:List UInt8)(ws:List (List UInt8)):Bool:=(match dM w with|some v=>decide (ws.length=v.ar)|none=>false)&&nO ws
theorem Ml(st:Sx)(x:List UInt8)(wd:List UInt8)(ws:List (List UInt8))(e:aH x=wd::ws):
  (uM wd ws=true->∃v:Vb,wd=v.word/\ws.length=v.ar/\sayOf st x=(nY (v.does st (iR ws)).1.1 (v.does st (iR ws)).1.2,(v.does st (iR ws)).2))/\(uM wd ws=false->sayOf st x=(eH 3,st)):=by
 unfold uM sayOf;rw[e];simp only
 cases hv:dM wd with
 |none=>exact⟨λh=>by simp at h,λ_=>rfl⟩
 |some v=>
  simp only
  by_cases hl:ws.length=v.ar
  .rw[if_pos hl];unfold rF
   cases ho:nO ws with
   |true=>exact⟨λ_=>⟨v,Cb hv,hl,by simp only[Km ws ho]⟩,λh=>by simp[hl]at h⟩
   |false=>exact⟨λh=>by simp at h,λ_=>by simp only[Kn ws ho]⟩
  .rw[if_neg hl];exact⟨λh=>by simp[hl]at h,λ_=>rfl⟩
theorem QK(st:Sx)(x:List UInt8)(e:aH x=[]):sayOf st x=([111,107],st):=by
 unfold sayOf;rw[e]
theorem Mm(a:List (List UInt8))(q:Nat)(y:List UInt8)(h:a[q]?=some y):((a.take (q+1)).filter λy=>decide (y≠[]))=((a.take q).filter λy=>decide (y≠[]))++(if y=[]then[]else[y]):=by
 rw[List.take_add_one,h,List.filter_append]
 by_cases e:y=[]
 .simp[e]
 .simp[e]
end
end Go.Proofs.YthfpipieboophaaGreatDoor
