import Derived.Test.YthfpipieboophaaGreatDoorZbv
namespace Go.Proofs.YthfpipieboophaaGreatDoor
set_option maxRecDepth 100000
set_option maxHeartbeats 40000000
open Go.Proofs.Tryz Go.Joins Go.RowKit Go.Sort Go.Shelf
variable {a b c:Int} {K:Nat->Prop} {W w2 w3:World} {br be g:Nat} {st:Sx}
structure Sp where
 wh:Int
 sd:Int
 nn:Int
 k:Int
 t:Int
 v:Int
abbrev JN (W:World) (g o:Nat) (s:Sp):Prop:=W.cell? ⟨g,o,none⟩=some (.int .i64 s.wh)∧W.cell? ⟨g,o+1,none⟩=some (.int .i64 s.sd)∧W.cell? ⟨g,o+2,none⟩=some (.int .i64 s.nn)∧W.cell? ⟨g,o+3,none⟩=some (.int .i64 s.k)∧W.cell? ⟨g,o+4,none⟩=some (.int .i64 s.t)∧W.cell? ⟨g,o+5,none⟩=some (.int .i64 s.v)
theorem dK {a b c:World} (h:Below a.heap.size a b) (h2:Below b.heap.size b c):Below a.heap.size a c:=h.trans (h2.mono h.size)
theorem K9 {x:Value} (h:kH K W w2∧w2.cell? ⟨br,0,none⟩=some x) (hK:∀k,K k->k < w2.heap.size) (hb:Below w2.heap.size w2 w3):kH K W w3∧w3.cell? ⟨br,0,none⟩=some x:=
 ⟨fun k e=>(hb.block k (hK k e)).trans (h.1 k e),(hb.cell (p:=⟨br,0,none⟩) (World.block_lt_of_cell? _ _ h.2)).trans h.2⟩
theorem EQ.inK {w1:World} {j:Nat} {sr:Sx} (h:EQ w1 be br st sr j K W):∀k,K k->k < W.heap.size:=by
 obtain⟨S,P,rs,a1,a2,a3,a4,a5,a6,a7⟩:=h;exact a6
theorem JU (h:W.heap[g]? =some (.cells #[.int .i64 a,.int .i64 b,.int .i64 c] 45)):W.cell? ⟨g,0,none⟩=some (.int .i64 a)∧W.cell? ⟨g,1,none⟩=some (.int .i64 b)∧W.cell? ⟨g,2,none⟩=some (.int .i64 c):=by
 refine⟨?_,?_,?_⟩ <;>(rw[cell_of_block h];rfl)
theorem yg {d e f:Int} (h:W.heap[g]? =some (.cells #[.int .i64 a,.int .i64 b,.int .i64 c,.int .i64 d,.int .i64 e,.int .i64 f] 39)):W.cell? ⟨g,0,none⟩=some (.int .i64 a)∧W.cell? ⟨g,1,none⟩=some (.int .i64 b)∧W.cell? ⟨g,2,none⟩=some (.int .i64 c)∧W.cell? ⟨g,3,none⟩=some (.int .i64 d)∧W.cell? ⟨g,4,none⟩=some (.int .i64 e)∧W.cell? ⟨g,5,none⟩=some (.int .i64 f):=by
 refine⟨?_,?_,?_,?_,?_,?_⟩ <;>(rw[cell_of_block h];rfl)
theorem dH.fedL_le {n:Nat} (h:dH n st) (s k t v:Int):(fedL st s k t v).length<=1000:=by
 unfold Proofs.YthfpipieboophaaGreatDoor.fedL
 split
 ·unfold Dh
  split
  ·rename_i e;exact(rD h k t v e).2
  ·simp
 ·split
  ·unfold Di
   split
   ·rename_i e;exact(rE h k t v e).2
   ·simp
  ·simp
theorem U6 {w:World} {bj:Nat} {S:Nat->Prop} {lo hi mode:Int} (h2:Below w.heap.size w w2) (hE:PE (Sx.new lo hi mode) be S w2) (hS:∀k,S k->w.heap.size<=k) (h3:Below w2.heap.size w2 w3) (l1:w2.heap.size<=br) (l2:w2.heap.size<=bj)
  (hA:nM w3 br bj (.slice none 0 0) (.slice none 0 0) (.slice none 0 0) (yh lo hi mode) [] 0 0):EQ w be br (Sx.new lo hi mode) (Sx.new lo hi mode) 0 (fun _=>False) w3:=by
 have z:=h2.size;refine⟨S,fun k=>k=br∨k=bj,⟨yh lo hi mode,[],0,0⟩,cz _ be S w2 w3 hE h3.size (fun k hk=>h3.block k (dQ hE k hk)),⟨bj,_,_,_,hA,fun k=>⟨fun e=> ?_,fun e=> ?_⟩⟩,yj lo hi mode 0,fun k hk=>⟨fun e=> ?_,id,hS k hk⟩,fun k hk=>⟨id,?_⟩,fun _ e=>e.elim,h2.trans (h3.mono z)⟩
 ·rcases e with e | e
  ·exact .inl e
  ·exact .inr (.inl e)
 ·rcases e with e | e | e | e | e
  ·exact .inl e
  ·exact .inr e
  all_goals cases e
 ·have :=dQ hE k hk
  rcases e with e | e <;>omega
 ·rcases hk with e | e <;>omega
theorem nG (lo hi mode:Int) (oa:Option Addr) (n c:Nat) (T:Nat->Sp) (w:World) (hG:aU w) (hT:∀k,k < n->∃g off,oa=some ⟨g,off,none⟩∧g < w.heap.size∧JN w g (off+k * 6) (T k)):
  Calls prog 4 #[.agg #[.int .i64 lo,.int .i64 hi,.int .i64 mode],.slice oa n c] w fun e w'=>e= .returned (.bool true)∧Below w.heap.size w w':=by
 by_cases ab2:100 < n
 ·have i1:(100:Int) < (n:Int):=by omega
  clear hT hG;go_enter func4,ntmps4;go_wp2;go_ret;exact⟨rfl,below_alloc1 _ _⟩
 have i1:¬(100:Int) < (n:Int):=by omega
 have HT:=hid hT;have WS:=hid hG;have B1:Hid (Below w.heap.size w (w.alloc (.cells #[.int .i64 lo,.int .i64 hi,.int .i64 mode] 45))):=below_alloc1 _ _;clear hT hG
 by_cases hp:dn lo hi mode
 ·have hp0:=DK hp;have WT:=hid hp;have HN:=GH lo hi mode (w.alloc (.cells #[.int .i64 lo,.int .i64 hi,.int .i64 mode] 45)) hp
  have HR:=fun W=>lN lo hi mode W hp0
  clear hp hp0;go_enter func4,ntmps4
  go_wp2_with (first
   | (go_at_call 13;refine HN.mono ?_;rintro e w2 ⟨be,S,rfl,hE,hS,hb2⟩;have HE:Hid (PE (Sx.new lo hi mode) be S w2∧(∀k,S k->w.heap.size<=k)∧Below w.heap.size w w2):=⟨hE,fun k hk=>Nat.le_trans B1.out.size (hS k hk).1,B1.out.trans (hb2.mono B1.out.size)⟩;have cp:=(hb2.block w.heap.size (by simp)).trans (heap_alloc_new _ _);have c3:=JU cp;clear hE hS hb2)
   | (go_at_call 14;refine(HR _).mono ?_;rintro e w3 ⟨br,bj,rfl,l1,l2,hA,hb3⟩;have HQ:Hid (EQ w be br (Sx.new lo hi mode) (Sx.new lo hi mode) 0 (fun _=>False) w3):=U6 HE.out.2.2 HE.out.1 HE.out.2.1 hb3 l1 l2 hA;clear l1 l2 hA hb3 HE)
   | fail)
  clear HN HR B1 c3 cp
  go_loopg [5,9] n (fun gg v5 v9 wr=>∃(i be:Nat) (st:Sx),i<=n∧gg=n -i∧v5= .pointer (some ⟨be,0,none⟩)∧v9= .int .i64 i∧Hid (dH i st∧EQ w be br st st i (fun _=>False) wr))
  case atStart=>exact⟨0,be,_,Nat.zero_le _,rfl,rfl,rfl,BU WT.out 0,HQ.out⟩
  case round=>
   obtain⟨i,be,st,hile,iU,rfl,rfl,I⟩:=hrel;have HG:=hid iU;clear iU HQ
   by_cases hlt:i < n
   ·obtain⟨g,off,rfl,hg,hC⟩:=HT.out i hlt;have hS:JN wr g (off+i * 6) (T i):=⟨(I.out.2.base.cell (p:=⟨g,_,none⟩) hg).trans hC.1,(I.out.2.base.cell (p:=⟨g,_,none⟩) hg).trans hC.2.1,(I.out.2.base.cell (p:=⟨g,_,none⟩) hg).trans hC.2.2.1,(I.out.2.base.cell (p:=⟨g,_,none⟩) hg).trans hC.2.2.2.1,(I.out.2.base.cell (p:=⟨g,_,none⟩) hg).trans hC.2.2.2.2.1,(I.out.2.base.cell (p:=⟨g,_,none⟩) hg).trans hC.2.2.2.2.2⟩
    have j1:(0:Int)<=(i:Int):=by omega
    have j2:(i:Int) < (n:Int):=by omega
    have hin:i<=100:=by omega
    obtain⟨s,hs⟩:∃s,s=T i:=⟨_,rfl⟩;rw[<-hs] at hS;clear hC hs;obtain⟨wh,sd,nn,k,t,v⟩:=s
    (try simp only[JN] at hS)
    go_upto_block 2 with fail
    go_cut [5,11,12,13,14,15,16,17,18] from 48 to 232 (fun s5 s11 s12 s13 s14 s15 s16 WU s18 wc=>∃(iF:Nat) (st':Sx),s5= .pointer (some ⟨iF,0,none⟩)∧Hid (dH (i+1) st'∧EQ w iF br st' st' (i+1) (fun _=>False) wc))
    case first=>
     have HO:=hid I.out.1;have Sw:Hid (EQ w be br st st i (fun k=>k=wr.heap.size) (wr.alloc (.cells #[.int .i64 wh,.int .i64 sd,.int .i64 nn,.int .i64 k,.int .i64 t,.int .i64 v] 39))):=I.out.2.hold (below_alloc1 _ _) _ (fun k e=> .inr ⟨by omega,by simp;omega⟩);have AJ:=hid (heap_alloc_new wr (.cells #[.int .i64 wh,.int .i64 sd,.int .i64 nn,.int .i64 k,.int .i64 t,.int .i64 v] 39));have hg0:=WS.out.g.err;clear I hS
     by_cases h0:wh=0
     ·have hf:=Sw.out.feeds HO.out (by omega) hg0 sd k t v;have Ov:Hid (dH (i+1) (fedC st sd k t v).2):=HO.out.fedC (by omega) _ _ _ _;have hle:=HO.out.fedL_le sd k t v;have cb:=yg AJ.out
      have MZ:=fun(k:Int) (W:World) (hb:Below w.heap.size w W)=>wT k W ((hb.cell (p:=⟨2,0,none⟩) (World.block_lt_of_cell? _ _ hg0)).trans hg0)
      subst h0
      go_wp2_with (first
       | (go_at_call 10;refine hf.mono ?_;rintro e w5 ⟨vx,rfl,hk5,hE⟩;have cb5:=yg ((hk5 _ rfl).trans AJ.out);clear hf hk5 cb)
       | (go_at_call 11;refine hE.mono ?_;rintro e w6 ⟨v9,rfl,o9,ox,tT⟩;have R9:=hid o9;have RX:=hid ox;have Q6:=hid tT;clear hE o9 ox tT cb5)
       | (go_at_call 9;refine(MZ _ _ Q6.out.base).mono ?_;rintro e w7 ⟨rfl,qh⟩;have B7:=hid qh;clear qh)
       | (go_at_call 12;refine(Cr _ _ _ _ _ _ (aD R9.out B7.out) (aD RX.out B7.out) (by omega)).mono ?_;rintro e w8 ⟨rfl,Ep⟩;have B8:=hid (B7.out.trans (Ep.mono B7.out.size));clear Ep)
       | fail)
      go_meet
      exact⟨be,_,rfl,Ov.out,Q6.out.hold B8.out _ (fun _ e=>e.elim)⟩
     have n0:(wh==0)=false:=by simp[h0]
     by_cases h1:wh=1
     ·subst h1;obtain⟨bj,cj,h15,h16⟩:=Sw.out.moves HO.out (by omega) sd nn;have H15:=hid h15;have H16:=hid h16;have Ov:=hid ((HO.out.move sd nn).more (Nat.le_succ i));have MZ:=hid (fun(k:Int) (W:World) (hb:Below w.heap.size w W)=>wT k W ((hb.cell (p:=⟨2,0,none⟩) (World.block_lt_of_cell? _ _ hg0)).trans hg0));clear h15 h16
      have cs0:(wr.alloc (.cells #[.int .i64 1,.int .i64 sd,.int .i64 nn,.int .i64 k,.int .i64 t,.int .i64 v] 39)).cell? ⟨wr.heap.size,1,none⟩=some (.int .i64 sd)∧(wr.alloc (.cells #[.int .i64 1,.int .i64 sd,.int .i64 nn,.int .i64 k,.int .i64 t,.int .i64 v] 39)).cell? ⟨wr.heap.size,2,none⟩=some (.int .i64 nn)∧(wr.alloc (.cells #[.int .i64 1,.int .i64 sd,.int .i64 nn,.int .i64 k,.int .i64 t,.int .i64 v] 39)).cell? ⟨br,0,none⟩=some (.pointer (some ⟨bj,0,none⟩)):=by
       have cb:=yg AJ.out;exact⟨cb.2.1,cb.2.2.1,cj⟩
      have HF:Hid (∀V,kH (fun k=>k=wr.heap.size) (wr.alloc (.cells #[.int .i64 1,.int .i64 sd,.int .i64 nn,.int .i64 k,.int .i64 t,.int .i64 v] 39)) V∧V.cell? ⟨br,0,none⟩=some (.pointer (some ⟨bj,0,none⟩))->V.cell? ⟨wr.heap.size,1,none⟩=some (.int .i64 sd)∧V.cell? ⟨wr.heap.size,2,none⟩=some (.int .i64 nn)∧V.cell? ⟨br,0,none⟩=some (.pointer (some ⟨bj,0,none⟩))):=fun V hV=>by
       have cb:=yg ((hV.1 _ rfl).trans AJ.out);exact⟨cb.2.1,cb.2.2.1,hV.2⟩
      have c0:=(yg AJ.out).1;go_wp2_with fail
      go_region_held3 (fun V=>V.cell? ⟨wr.heap.size,1,none⟩=some (.int .i64 sd)∧V.cell? ⟨wr.heap.size,2,none⟩=some (.int .i64 nn)∧V.cell? ⟨br,0,none⟩=some (.pointer (some ⟨bj,0,none⟩))) (first | exact cs0 | exact cs3 | exact cs2 | exact cs1 | (go_keep;done) | fail) (first
       | (have q:=M15;go_at_call 16;refine(M15.out _ ?_).mono ?_;(focus (repeat' (first | with_reducible exact Below.refl _ _ | (with_reducible refine Below.drew ?_))));rintro e w2 ⟨rfl,k2,h2⟩;have cs2:=HF.out _ k2;have K2:=hid k2;have Q2:=hid h2;clear k2 h2)
       | (have q:=M16;go_at_call 15;refine(M16.out _ ?_).mono ?_;(focus (repeat' (first | with_reducible exact Below.refl _ _ | (with_reducible refine Below.drew ?_))));rintro e w2 ⟨rfl,k2,h2⟩;have cs2:=HF.out _ k2;have K2:=hid k2;have Q2:=hid h2;clear k2 h2)
       | (go_at_call 15;refine(H15.out _ ?_).mono ?_;(focus (repeat' (first | with_reducible exact Below.refl _ _ | (with_reducible refine Below.drew ?_))));rintro e w5 ⟨rfl,k1,h1⟩;have cs1:=HF.out _ k1;have M15:=hid h1;clear k1 h1)
       | (go_at_call 16;refine(H16.out _ ?_).mono ?_;(focus (repeat' (first | with_reducible exact Below.refl _ _ | (with_reducible refine Below.drew ?_))));rintro e w5 ⟨rfl,k1,h1⟩;have cs1:=HF.out _ k1;have M16:=hid h1;clear k1 h1)
       | (have q:=Q2;go_at_call 9;refine(MZ.out _ _ (Q2.out.below ?_).base).mono ?_;(focus (repeat' (first | with_reducible exact Below.refl _ _ | (with_reducible refine Below.drew ?_))));rintro e w3 ⟨rfl,b3⟩;have Ho:=dK (show Below w2.heap.size w2 _ by(repeat' (first | with_reducible exact Below.refl _ _ | (with_reducible refine Below.drew ?_)))) b3;have Q3:=hid (Q2.out.below Ho);have cs3:=HF.out _ (K9 K2.out Q2.out.inK Ho);clear b3 Ho)
       | fail)
      all_goals (try go_wp2_with fail)
      all_goals go_meet
      all_goals exact⟨be,_,rfl,Ov.out,((Q3.out.below (by(repeat' (first | with_reducible exact Below.refl _ _ | (with_reducible refine Below.drew ?_))))).more (Nat.le_succ i)).hold (Below.refl _ _) _ (fun _ e=>e.elim)⟩
     have n1:(wh==1)=false:=by simp[h1]
     by_cases h3:wh=3
     ·subst h3;have hR:=Sw.out.savedR HO.out (by omega) WS.out
      have YI:=fun V (hV:Below _ (wr.alloc (.cells #[.int .i64 3,.int .i64 sd,.int .i64 nn,.int .i64 k,.int .i64 t,.int .i64 v] 39)) V)=>(Sw.out.below hV).savedE HO.out (by omega) WS.out
      have MZ:=fun(k:Int) (W:World) (hb:Below w.heap.size w W)=>wT k W ((hb.cell (p:=⟨2,0,none⟩) (World.block_lt_of_cell? _ _ hg0)).trans hg0)
      have c0:=(yg AJ.out).1
      cases ht:st.text with
      | none=>
       simp only[ht] at hR YI;have Df:=MZ 4;rw[show jI 4= .iface 24 (.int .i64 4) from rfl] at Df
       go_wp2_with (first
        | (go_at_call 17;refine hR.mono ?_;rintro e w5 ⟨rfl,hb5⟩;have B5:=hid hb5;clear hb5)
        | (go_at_call 18;refine(YI _ B5.out).mono ?_;rintro e w6 ⟨rfl,hb6⟩;have B6:=hid (B5.out.trans (hb6.mono B5.out.size));clear hb6)
        | (go_at_call 9;refine(Df _ ((Sw.out.below B6.out).base)).mono ?_;rintro e w7 ⟨rfl,qh⟩;have B7:=hid (B6.out.trans (qh.mono B6.out.size));clear qh)
        | fail)
       go_meet
       exact⟨be,st,rfl,HO.out.more (by omega),(Sw.out.more (by omega)).hold B7.out _ (fun _ e=>e.elim)⟩
      | some t'=>
       simp only[ht] at hR YI
       have hL:=fun V (hV:Below _ (wr.alloc (.cells #[.int .i64 3,.int .i64 sd,.int .i64 nn,.int .i64 k,.int .i64 t,.int .i64 v] 39)) V)=>(Sw.out.below hV).loadE HO.out (by omega) WS.out ht
       have HB0:=MZ 0;rw[show jI 0= .nilIface from rfl] at HB0;simp only[sV] at hR
       go_wp2_with (first
        | (go_at_call 17;refine hR.mono ?_;rintro e w5 ⟨rfl,hb5⟩;have B5:=hid hb5;clear hb5)
        | (go_at_call 18;refine(YI _ B5.out).mono ?_;rintro e w6 ⟨rfl,hb6⟩;have B6:=hid (B5.out.trans (hb6.mono B5.out.size));clear hb6)
        | (go_at_call 9;refine(HB0 _ ((Sw.out.below B6.out).base)).mono ?_;rintro e w7 ⟨rfl,qh⟩;have B7:=hid (B6.out.trans (qh.mono B6.out.size));clear qh)
        | (go_at_call 8;refine(hL _ B7.out).mono ?_;rintro e w8 ⟨be8,rfl,hq8,_⟩;have Q8:=hid hq8;clear hq8)
        | fail)
       go_meet
       exact⟨be8,_,rfl,HO.out.again.more (by omega),(Q8.out.more (by omega)).hold (Below.refl _ _) _ (fun _ e=>e.elim)⟩
     have n3:(wh==3)=false:=by simp[h3]
     have cb:=yg AJ.out;go_wp2_with fail
     go_meet
     exact⟨be,st,rfl,HO.out.more (by omega),(Sw.out.more (by omega)).hold (Below.refl _ _) _ (fun _ e=>e.elim)⟩
    case rest=>
     obtain⟨iF,st',rfl,J⟩:=hcut;obtain⟨bj,q0,q1,d0,d1,vv,E0,E1,Rl⟩:=J.out.2.shown J.out.1 (by omega);have vE:=hid Rl;have YJ:=hid (Rl wc (Below.refl _ _)).le;have HSZ:Hid (0<=wc.heap.size):=Nat.zero_le _;clear Rl;go_wp2_with fail
     go_loopg [19] 2 (fun gg v19 wr2=>∃m:Nat,m<=2∧gg=2 -m∧v19= .int .i64 m∧Hid (Below wc.heap.size wc wr2))
     case atStart=>exact⟨0,by omega,rfl,rfl,Below.refl _ _⟩
     case round=>
      obtain⟨m,hm,hg2,rfl,HB2⟩:=hrel;have HG2:=hid hg2;clear hg2
      obtain rfl | rfl | rfl:m=0∨m=1∨m=2:=by omega
      ·as_aux_lemma=>
        have i4:((0:Nat):Int) < 2:=by decide
        have HC:Hid (∀V,Below wc.heap.size wc V->V.cell? ⟨br,0,none⟩=some (.pointer (some ⟨bj,0,none⟩))∧V.cell? ⟨bj,3,none⟩=some (.slice q0 st'.x.R0.length d0)∧V.cell? ⟨bj,5,none⟩=some (.int .i64 st'.x.m0)∧V.cell? ⟨br,2,none⟩=some (.int .i64 st'.f0)):=fun V hV=>by
         have h:=vE.out V hV;exact⟨h.cr.1,h.cj.1,h.cj.2.2.1,h.cr.2.2.1⟩
        have BB:=HB2;have c0:=HC.out _ HB2.out;go_wp2_with fail
        go_region_held3 (fun V=>V.cell? ⟨br,0,none⟩=some (.pointer (some ⟨bj,0,none⟩))∧V.cell? ⟨bj,3,none⟩=some (.slice q0 st'.x.R0.length d0)∧V.cell? ⟨bj,5,none⟩=some (.int .i64 st'.x.m0)∧V.cell? ⟨br,2,none⟩=some (.int .i64 st'.f0)) ((refine HC.out _ ?_;(repeat' (first | with_reducible exact BB.out | (with_reducible refine Below.drew ?_))))) (first
         | (go_at_call 19;refine(vE.out _ ?_).h0.mono ?_;(focus (repeat' (first | with_reducible exact BB.out | (with_reducible refine Below.drew ?_))));rintro e w' ⟨rfl,hw⟩;have hw:=hw.symm;subst hw)
         | (go_at_call 20;refine(vE.out _ ?_).m0.mono ?_;(focus (repeat' (first | with_reducible exact BB.out | (with_reducible refine Below.drew ?_))));rintro e w' ⟨rfl,hw⟩;have hw:=hw.symm;subst hw)
         | (go_at_call 21;refine(vE.out _ ?_).f0.mono ?_;(focus (repeat' (first | with_reducible exact BB.out | (with_reducible refine Below.drew ?_))));rintro e w' ⟨rfl,hw⟩;have hw:=hw.symm;subst hw)
         | (have q1:=Hr;have q2:=Ht;go_at_call 22;refine(AB _ _ _ _ _ _ (aD Hr.out ?_) (aD Ht.out ?_) ?_).mono ?_;(focus (repeat' (first | with_reducible exact Below.refl _ _ | (with_reducible refine Below.drew ?_))));(focus (repeat' (first | with_reducible exact Below.refl _ _ | (with_reducible refine Below.drew ?_))));(focus (have :=YJ.out;omega));rintro e Zu ⟨rfl,Xw⟩;replace BB:Hid (Below wc.heap.size wc Zu):=dK (by(repeat' (first | with_reducible exact BB.out | (with_reducible refine Below.drew ?_)))) Xw;clear Xw)
         | (have q:=Ht;go_at_call 23;refine(vE.out _ ?_).r0.mono ?_;(focus (repeat' (first | with_reducible exact BB.out | (with_reducible refine Below.drew ?_))));rintro e U7 ⟨v23,rfl,Ow,c23,Ho⟩;have Hr:=hid Ow;replace BB:=hid Ho;have Ox:=hid (aD Ht.out (dK (show Below U8.heap.size U8 _ by(repeat' (first | with_reducible exact Below.refl _ _ | (with_reducible refine Below.drew ?_)))) c23));clear Ht;have Ht:=Ox;clear Ox;clear Ow c23 Ho)
         | (have q:=Hr;go_at_call 24;refine(vE.out _ ?_).a0.mono ?_;(focus (repeat' (first | with_reducible exact BB.out | (with_reducible refine Below.drew ?_))));rintro e U8 ⟨v24,rfl,Oy,c24,Oz⟩;have Ht:=hid Oy;replace BB:=hid Oz;have OA:=hid (aD Hr.out (dK (show Below U7.heap.size U7 _ by(repeat' (first | with_reducible exact Below.refl _ _ | (with_reducible refine Below.drew ?_)))) c24));clear Hr;have Hr:=OA;clear OA;clear Oy c24 Oz)
         | (go_at_call 23;refine(vE.out _ ?_).r0.mono ?_;(focus (repeat' (first | with_reducible exact BB.out | (with_reducible refine Below.drew ?_))));rintro e U7 ⟨v23,rfl,Ow,c23,Ho⟩;have Hr:=hid Ow;replace BB:=hid Ho;clear Ow c23 Ho)
         | (go_at_call 24;refine(vE.out _ ?_).a0.mono ?_;(focus (repeat' (first | with_reducible exact BB.out | (with_reducible refine Below.drew ?_))));rintro e U8 ⟨v24,rfl,Oy,c24,Oz⟩;have Ht:=hid Oy;replace BB:=hid Oz;clear Oy c24 Oz)
         | fail)
        all_goals (try go_wp2)
        all_goals go_roundg (2 -1)
        all_goals first
         | exact⟨1,by omega,rfl,by go_num,by show Below wc.heap.size wc _;(repeat' (first | with_reducible exact BB.out | (with_reducible refine Below.drew ?_)))⟩
         | (have :=HG2.out;omega)
         | omega
      ·as_aux_lemma=>
        have i4:((1:Nat):Int) < 2:=by decide
        have HC:Hid (∀V,Below wc.heap.size wc V->V.cell? ⟨br,0,none⟩=some (.pointer (some ⟨bj,0,none⟩))∧V.cell? ⟨bj,4,none⟩=some (.slice q1 st'.x.R1.length d1)∧V.cell? ⟨bj,6,none⟩=some (.int .i64 st'.x.m1)∧V.cell? ⟨br,3,none⟩=some (.int .i64 st'.f1)):=fun V hV=>by
         have h:=vE.out V hV;exact⟨h.cr.1,h.cj.2.1,h.cj.2.2.2.1,h.cr.2.2.2⟩
        have BB:=HB2;have c0:=HC.out _ HB2.out;go_wp2_with fail
        go_region_held3 (fun V=>V.cell? ⟨br,0,none⟩=some (.pointer (some ⟨bj,0,none⟩))∧V.cell? ⟨bj,4,none⟩=some (.slice q1 st'.x.R1.length d1)∧V.cell? ⟨bj,6,none⟩=some (.int .i64 st'.x.m1)∧V.cell? ⟨br,3,none⟩=some (.int .i64 st'.f1)) ((refine HC.out _ ?_;(repeat' (first | with_reducible exact BB.out | (with_reducible refine Below.drew ?_))))) (first
         | (go_at_call 19;refine(vE.out _ ?_).h1.mono ?_;(focus (repeat' (first | with_reducible exact BB.out | (with_reducible refine Below.drew ?_))));rintro e w' ⟨rfl,hw⟩;have hw:=hw.symm;subst hw)
         | (go_at_call 20;refine(vE.out _ ?_).m1.mono ?_;(focus (repeat' (first | with_reducible exact BB.out | (with_reducible refine Below.drew ?_))));rintro e w' ⟨rfl,hw⟩;have hw:=hw.symm;subst hw)
         | (go_at_call 21;refine(vE.out _ ?_).f1.mono ?_;(focus (repeat' (first | with_reducible exact BB.out | (with_reducible refine Below.drew ?_))));rintro e w' ⟨rfl,hw⟩;have hw:=hw.symm;subst hw)
         | (have q1:=Hr;have q2:=Ht;go_at_call 22;refine(AB _ _ _ _ _ _ (aD Hr.out ?_) (aD Ht.out ?_) ?_).mono ?_;(focus (repeat' (first | with_reducible exact Below.refl _ _ | (with_reducible refine Below.drew ?_))));(focus (repeat' (first | with_reducible exact Below.refl _ _ | (with_reducible refine Below.drew ?_))));(focus (have :=YJ.out;omega));rintro e Zu ⟨rfl,Xw⟩;replace BB:Hid (Below wc.heap.size wc Zu):=dK (by(repeat' (first | with_reducible exact BB.out | (with_reducible refine Below.drew ?_)))) Xw;clear Xw)
         | (have q:=Ht;go_at_call 23;refine(vE.out _ ?_).r1.mono ?_;(focus (repeat' (first | with_reducible exact BB.out | (with_reducible refine Below.drew ?_))));rintro e U7 ⟨v23,rfl,Ow,c23,Ho⟩;have Hr:=hid Ow;replace BB:=hid Ho;have Ox:=hid (aD Ht.out (dK (show Below U8.heap.size U8 _ by(repeat' (first | with_reducible exact Below.refl _ _ | (with_reducible refine Below.drew ?_)))) c23));clear Ht;have Ht:=Ox;clear Ox;clear Ow c23 Ho)
         | (have q:=Hr;go_at_call 24;refine(vE.out _ ?_).a1.mono ?_;(focus (repeat' (first | with_reducible exact BB.out | (with_reducible refine Below.drew ?_))));rintro e U8 ⟨v24,rfl,Oy,c24,Oz⟩;have Ht:=hid Oy;replace BB:=hid Oz;have OA:=hid (aD Hr.out (dK (show Below U7.heap.size U7 _ by(repeat' (first | with_reducible exact Below.refl _ _ | (with_reducible refine Below.drew ?_)))) c24));clear Hr;have Hr:=OA;clear OA;clear Oy c24 Oz)
         | (go_at_call 23;refine(vE.out _ ?_).r1.mono ?_;(focus (repeat' (first | with_reducible exact BB.out | (with_reducible refine Below.drew ?_))));rintro e U7 ⟨v23,rfl,Ow,c23,Ho⟩;have Hr:=hid Ow;replace BB:=hid Ho;clear Ow c23 Ho)
         | (go_at_call 24;refine(vE.out _ ?_).a1.mono ?_;(focus (repeat' (first | with_reducible exact BB.out | (with_reducible refine Below.drew ?_))));rintro e U8 ⟨v24,rfl,Oy,c24,Oz⟩;have Ht:=hid Oy;replace BB:=hid Oz;clear Oy c24 Oz)
         | fail)
        all_goals (try go_wp2)
        all_goals go_roundg (2 -2)
        all_goals first
         | exact⟨2,by omega,rfl,by go_num,by show Below wc.heap.size wc _;(repeat' (first | with_reducible exact BB.out | (with_reducible refine Below.drew ?_)))⟩
         | (have :=HG2.out;omega)
         | omega
      ·as_aux_lemma=>
        have i4:¬((2:Nat):Int) < 2:=by decide
        have HC:Hid (∀V,Below wc.heap.size wc V->V.cell? ⟨br,0,none⟩=some (.pointer (some ⟨bj,0,none⟩))∧V.cell? ⟨br,1,none⟩=some vv∧V.cell? ⟨bj,7,none⟩=some (.int .i64 st'.x.late)):=fun V hV=>by
         have h:=vE.out V hV;exact⟨h.cr.1,h.cr.2.1,h.cj.2.2.2.2⟩
        have BB:=HB2;have c0:=HC.out _ HB2.out;go_wp2_with fail
        go_region_held3 (fun V=>V.cell? ⟨br,0,none⟩=some (.pointer (some ⟨bj,0,none⟩))∧V.cell? ⟨br,1,none⟩=some vv∧V.cell? ⟨bj,7,none⟩=some (.int .i64 st'.x.late)) ((refine HC.out _ ?_;(repeat' (first | with_reducible exact BB.out | (with_reducible refine Below.drew ?_))))) (first
         | (go_at_call 25;refine(vE.out _ ?_).late.mono ?_;(focus (repeat' (first | with_reducible exact BB.out | (with_reducible refine Below.drew ?_))));rintro e w' ⟨rfl,hw⟩;have hw:=hw.symm;subst hw)
         | (have q1:=U9;have q2:=Va;go_at_call 26;refine(K5 _ _ _ _ _ _ (aD U9.out ?_) (aD Va.out ?_) ?_).mono ?_;(focus (repeat' (first | with_reducible exact Below.refl _ _ | (with_reducible refine Below.drew ?_))));(focus (repeat' (first | with_reducible exact Below.refl _ _ | (with_reducible refine Below.drew ?_))));(focus (have :=YJ.out;omega));rintro e w26 ⟨rfl,b26⟩;replace BB:Hid (Below wc.heap.size wc w26):=dK (by(repeat' (first | with_reducible exact BB.out | (with_reducible refine Below.drew ?_)))) b26;clear b26)
         | (have q1:=Vd;have q2:=Ve;go_at_call 29;refine(El _ _ _ _ _ _ (aD Vd.out ?_) (aD Ve.out ?_) ?_).mono ?_;(focus (repeat' (first | with_reducible exact Below.refl _ _ | (with_reducible refine Below.drew ?_))));(focus (repeat' (first | with_reducible exact Below.refl _ _ | (with_reducible refine Below.drew ?_))));(focus (have :=YJ.out;omega));rintro e w29 ⟨rfl,b29⟩;replace BB:Hid (Below wc.heap.size wc w29):=dK (by(repeat' (first | with_reducible exact BB.out | (with_reducible refine Below.drew ?_)))) b29;clear b29)
         | (have q:=Va;go_at_call 27;refine(vE.out _ ?_).vw.mono ?_;(focus (repeat' (first | with_reducible exact BB.out | (with_reducible refine Below.drew ?_))));rintro e Zv ⟨v27,rfl,Xx,YK,Xy⟩;have U9:=hid Xx;replace BB:=hid Xy;have Xz:=hid (aD Va.out (dK (show Below Zw.heap.size Zw _ by(repeat' (first | with_reducible exact Below.refl _ _ | (with_reducible refine Below.drew ?_)))) YK));clear Va;have Va:=Xz;clear Xz;clear Xx YK Xy)
         | (have q:=U9;go_at_call 28;refine(vE.out _ ?_).so.mono ?_;(focus (repeat' (first | with_reducible exact BB.out | (with_reducible refine Below.drew ?_))));rintro e Zw ⟨v28,rfl,XA,c28,XB⟩;have Va:=hid XA;replace BB:=hid XB;have XC:=hid (aD U9.out (dK (show Below Zv.heap.size Zv _ by(repeat' (first | with_reducible exact Below.refl _ _ | (with_reducible refine Below.drew ?_)))) c28));clear U9;have U9:=XC;clear XC;clear XA c28 XB)
         | (go_at_call 27;refine(vE.out _ ?_).vw.mono ?_;(focus (repeat' (first | with_reducible exact BB.out | (with_reducible refine Below.drew ?_))));rintro e Zv ⟨v27,rfl,Xx,YK,Xy⟩;have U9:=hid Xx;replace BB:=hid Xy;clear Xx YK Xy)
         | (go_at_call 28;refine(vE.out _ ?_).so.mono ?_;(focus (repeat' (first | with_reducible exact BB.out | (with_reducible refine Below.drew ?_))));rintro e Zw ⟨v28,rfl,XA,c28,XB⟩;have Va:=hid XA;replace BB:=hid XB;clear XA c28 XB)
         | (have q:=Ve;go_at_call 30;refine(vE.out _ ?_).gr.mono ?_;(focus (repeat' (first | with_reducible exact BB.out | (with_reducible refine Below.drew ?_))));rintro e Zx ⟨v30,rfl,XD,YL,XE⟩;have Vd:=hid XD;replace BB:=hid XE;have XF:=hid (aD Ve.out (dK (show Below Zy.heap.size Zy _ by(repeat' (first | with_reducible exact Below.refl _ _ | (with_reducible refine Below.drew ?_)))) YL));clear Ve;have Ve:=XF;clear XF;clear XD YL XE)
         | (have q:=Vd;go_at_call 31;refine(vE.out _ ?_).rg.mono ?_;(focus (repeat' (first | with_reducible exact BB.out | (with_reducible refine Below.drew ?_))));rintro e Zy ⟨v31,rfl,XG,c31,XH⟩;have Ve:=hid XG;replace BB:=hid XH;have XI:=hid (aD Vd.out (dK (show Below Zx.heap.size Zx _ by(repeat' (first | with_reducible exact Below.refl _ _ | (with_reducible refine Below.drew ?_)))) c31));clear Vd;have Vd:=XI;clear XI;clear XG c31 XH)
         | (go_at_call 30;refine(vE.out _ ?_).gr.mono ?_;(focus (repeat' (first | with_reducible exact BB.out | (with_reducible refine Below.drew ?_))));rintro e Zx ⟨v30,rfl,XD,YL,XE⟩;have Vd:=hid XD;replace BB:=hid XE;clear XD YL XE)
         | (go_at_call 31;refine(vE.out _ ?_).rg.mono ?_;(focus (repeat' (first | with_reducible exact BB.out | (with_reducible refine Below.drew ?_))));rintro e Zy ⟨v31,rfl,XG,c31,XH⟩;have Ve:=hid XG;replace BB:=hid XH;clear XG c31 XH)
         | fail)
        all_goals (try go_wp2)
        all_goals go_roundg (n -(i+1))
        all_goals first
         | exact⟨i+1,iF,st',by omega,rfl,rfl,by go_num,J.out.1,J.out.2.below (by(repeat' (first | with_reducible exact BB.out | (with_reducible refine Below.drew ?_))))⟩
         | (have :=HG.out;omega)
   ·have e1:i=n:=by omega
    subst e1
    have i3:¬((i:Nat):Int) < ((i:Nat):Int):=by omega
    obtain⟨bj,q0,q1,d0,d1,vv,E0,E1,Rl⟩:=I.out.2.shown I.out.1 (by omega);have hs:=Rl wr (Below.refl _ _);have c1:=hs.f5;have c2:=hs.hN;clear Rl hs
    go_wp2_with (first
     | (go_at_call 21;refine c1.mono ?_;rintro e w' ⟨rfl,hw⟩;have hw:=hw.symm;subst hw)
     | (go_at_call 19;refine c2.mono ?_;rintro e w' ⟨rfl,hw⟩;have hw:=hw.symm;subst hw)
     | fail)
    go_ret;exact⟨rfl,I.out.2.base⟩
 ·have hp0:¬aS lo hi mode=0:=fun e=>hp (qA e)
  have HN:=Aq lo hi mode (w.alloc (.cells #[.int .i64 lo,.int .i64 hi,.int .i64 mode] 45)) hp
  have HR:=fun W=>oF lo hi mode W hp0
  have HB:=fun(k:Int) (W:World) (hb:Below w.heap.size w W)=>wT k W ((hb.cell (p:=⟨2,0,none⟩) (World.block_lt_of_cell? _ _ WS.out.g.err)).trans WS.out.g.err)
  obtain⟨pc,hpc⟩:∃pc,pc=aS lo hi mode:=⟨_,rfl⟩;rw[<-hpc] at hp0 HR HN
  have he:jI pc= .iface 24 (.int .i64 pc):=by unfold jI;rw[if_neg hp0]
  have HB2:=HB pc;rw[he] at HB2
  have hne:(pc==0)=false:=by simp[hp0]
  have hne2:(pc !=0)=true:=by simp[hp0]
  clear hp hpc HB he;go_enter func4,ntmps4
  go_wp2_with (first
   | (go_at_call 13;refine HN.mono ?_;rintro e w2 ⟨rfl,hb2⟩;have B2:Hid (Below w.heap.size w w2):=B1.out.trans (hb2.mono B1.out.size);have c3:=JU ((hb2.block w.heap.size (by simp)).trans (heap_alloc_new _ _));clear hb2)
   | (go_at_call 14;refine(HR _).mono ?_;rintro e w3 ⟨rfl,hb3⟩;have B3:Hid (Below w.heap.size w w3):=B2.out.trans (hb3.mono B2.out.size);clear hb3)
   | (go_at_call 9;refine(HB2 _ B3.out).mono ?_;rintro e w4 ⟨rfl,hb4⟩;have B4:Hid (Below w.heap.size w w4):=B3.out.trans (hb4.mono B3.out.size);clear hb4)
   | fail)
  go_ret;exact⟨rfl,B4.out⟩
end Go.Proofs.YthfpipieboophaaGreatDoor
