/- EnginePlays: whatever rows come, however far sides are, wherever it is saved, and loaded, what changes, what comes of all, and what that comes to, is what the document tells: the card, proved whole, for every plan and every row of steps, with no condition (of more than a hundred steps the law itself asks nothing). -/
import Derived.ChangeMaps5
import Derived.SizedLaws
import Derived.Test.YthfpipieboophaaGreatDoorEpd
import Derived.Test.YthfpipieboophaaGreatDoorZCrp
namespace Go.Proofs.YthfpipieboophaaGreatDoor
set_option maxRecDepth 100000
set_option maxHeartbeats 40000000
open Go.Proofs.Tryz Go.ChangeShapes Go.WideShapes Go.ChangeAt Go.RowKit Go.Deep Go.Joins
open Go.ChangeMaps (open_string shut_string)
set_option linter.unusedVariables false
theorem G8 {H:Type} {enc:TypeId×Value->H} {W:World} {v:Value} {d:DataW H} {p:List MemPlace} {r:Reach} {b0:Nat} (lo hi mode:Int) (hG:aU W)
  (hv:Value.okWide prog W r b0 22 v) (h:DataW.Trod enc prog W 0 (fun _=>true) true 22 v d p):
  Calls prog 4 #[.agg #[.int .i64 lo,.int .i64 hi,.int .i64 mode],v] W fun e w'=>e= .returned (.bool true)∧Below W.heap.size W w':=by
 obtain⟨oa,n,c,rfl⟩:=okWide_slice underlying22 hv
 rcases Gv h with rfl | ⟨g,off,rfl,hg,hT⟩
 ·exact nG lo hi mode oa 0 c (fun _=>⟨0,0,0,0,0,0⟩) W hG (fun k hk=>absurd hk (Nat.not_lt_zero k))
 ·have xV:∀k,∃s:Sp,k < n->JN W g (off+k * 6) s:=fun k=>by
   by_cases hk:k < n
   ·obtain⟨a0,b0,c0,d0,e0,f0,h0⟩:=hT k hk;exact⟨⟨a0,b0,c0,d0,e0,f0⟩,fun _=>⟨h0 0 _ rfl,h0 1 _ rfl,h0 2 _ rfl,h0 3 _ rfl,h0 4 _ rfl,h0 5 _ rfl⟩⟩
   ·exact⟨⟨0,0,0,0,0,0⟩,fun e=>absurd e hk⟩
  obtain⟨T,hT3⟩:=Classical.axiomOfChoice xV;exact nG lo hi mode _ n c T W hG (fun k hk=>⟨g,off,rfl,hg,hT3 k hk⟩)
theorem qC (os:Os) (started:os.Started) (H:Type) (enc:TypeId×Value->H) (F:Stop.Interp):
  ReturnsInHanded {} Tryz.checked os 4 .any ((OpenSpec.ofChange Rows.enginePlaysSpec).preRow enc prog Tryz.f4 [] false Aj) (((OpenSpec.ofChange Rows.enginePlaysSpec).at F).post enc prog Tryz.f4 false true false false):=by
 refine returnsInHanded_of_row (C:=Tryz.checked) (s:=OpenSpec.ofChange Rows.enginePlaysSpec) own started (by kernel_rfl) func4
  (ChangeSpec.witness_shaped (s:=Rows.enginePlaysSpec) (enc:=enc) (C:=Tryz.checked) (os:=os) (X:=fun w _=>laidMetH prog Aj w) false (lW prog os) #[.agg #[.int .i64 0,.int .i64 0,.int .i64 0],.slice none 0 0] 8 (rf os) (World.shaped_of_ZipB (by kernel_rfl) (by kernel_rfl)) (by kernel_rfl) (by kernel_rfl) (by kernel_rfl) (qb os _)) ?_
 intro W base args ds gs before hval0 hW _ _ hwt hL Rl _;have hval:∀(j:Nat) t v,Tryz.f4.params[j]? =some t->args[j]? =some v->Value.okWide prog W .any base t v:=hval0;have hW':=hW;obtain⟨p,q,Zi,Zj,rfl,hfz,hnd⟩:=hW;have hA:DataW.TrodAll enc prog W 0 (fun _=>true) true Tryz.f4.params.toList args.toList ds p:=Zi;have hV:DataW.TrodVars enc prog W (fun _=>true) [] gs q:=Zj;rw[Tryz.params4] at hA hval hwt;obtain⟨v0,vs0,d0,ds0,p0,q0,hargs,rfl,rfl,h0,r0⟩:=trodAll_cons hA;obtain⟨v1,vs1,d1,ds1,p1,q1,rfl,rfl,rfl,h1,r1⟩:=trodAll_cons r0;obtain⟨rfl,rfl,rfl⟩:=trodAll_nil r1
 obtain rfl:args= #[v0,v1]:=by cases args;simp_all
 obtain⟨rfl,rfl⟩:=trodVars_none hV;obtain⟨lo,hi,mode,rfl⟩:=KE (hval 0 45 v0 rfl rfl) h0
 refine(G8 lo hi mode (rq hL Rl) (hval 1 22 v1 rfl rfl) h1).mono fun e W' ⟨he,Xl⟩=> ?_
 subst he;exact⟨_,rfl,_,_,_,[],_,[],hW',trodAll_mk1 (shut_bool underlying4 _),(trodAll_cons_mk (Below.trod laidOut (by kernel_rfl) (of_decide_eq_true (by kernel_rfl)) h0 Xl (Ak h0)) (trodAll_cons_mk (Below.trod laidOut (by kernel_rfl) (of_decide_eq_true (by kernel_rfl)) h1 Xl (Ak h1)) trodAll_mk0)),rfl,Xl.frame _,fun h=>by cases h⟩
theorem rM:Rows.EnginePlaysSaid:=
 OpenClaim.holds_of_cond 4 Tryz.f4 rfl rfl rfl rfl rfl rfl rfl ⟨rfl,rfl,rfl,rfl,rfl⟩ rfl rfl rfl rfl rfl (by kernel_rfl) func4 KD
  (of_decide_eq_true (by kernel_rfl)) (by unfold Func.isWrapper;first | (rw[if_pos (by decide+kernel)];kernel_rfl) | (rw[if_neg (by decide+kernel)];exact⟨rfl,rfl⟩))
  (fun os started H enc _ F0=>by rw[OpenClaim.pre_eq_preRow];exact qC os started H enc F0)
theorem enginePlays_card:Rows.EnginePlaysCardSaid:=
 Claim7.holds_tied_plain_at .later [] _ _ _ _
  rM (fun _ h=>by cases h) (by as_aux_lemma=>kernel_rfl) (fun _ h=>by cases h) enginePlays_row_tie rfl ⟨rfl,rfl⟩ (by as_aux_lemma=>kernel_rfl) rfl
  (fun f fn hf hfn=>by
   obtain rfl:f=4:=Option.some.inj ((show prog.funcNamed "estuary/estuarylaw.EnginePlays" =some 4 by as_aux_lemma=>kernel_rfl).symm.trans hf) |>.symm
   obtain rfl:fn=Tryz.f4:=(Option.some.inj (func4.symm.trans hfn)).symm
   exact⟨by as_aux_lemma=>kernel_rfl,fun j t ht=>by
    rw[Tryz.params4] at ht
    have h3:t=45∨t=22:=by
     rcases j with _ | _ | j
     ·exact .inl (by simpa using ht.symm)
     ·exact .inr (by simpa using ht.symm)
     ·simp at ht
    rcases h3 with rfl | rfl
    ·exact(show prog.wantsStandIn 45=false by as_aux_lemma=>kernel_rfl)
    ·exact(show prog.wantsStandIn 22=false by as_aux_lemma=>kernel_rfl)⟩)
  (by as_aux_lemma=>kernel_rfl)
#print axioms enginePlays_card
end Go.Proofs.YthfpipieboophaaGreatDoor
