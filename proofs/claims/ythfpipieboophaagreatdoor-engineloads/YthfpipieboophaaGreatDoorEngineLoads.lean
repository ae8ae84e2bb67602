/- EngineLoads of the program is proved for every argument. -/
import Derived.Test.YthfpipieboophaaGreatDoorZCrd
import Derived.Test.YthfpipieboophaaGreatDoorZRlt
namespace Go.Proofs.YthfpipieboophaaGreatDoor
set_option maxRecDepth 100000
set_option maxHeartbeats 40000000
open Go.Proofs.Tryz Go.ChangeShapes Go.WideShapes Go.ChangeAt Go.RowKit Go.Deep Go.Joins
open Go.ChangeMaps (open_string shut_string)
set_option linter.unusedVariables false
theorem acZ{H:Type}{enc:TypeId×Value->H}{W:World}{v:Value}{d:DataW H}{p:List MemPlace}{r:Reach}{j:Nat}(a:ByteArray)(l:aa3 W)
  (u:Value.okWide prog W r j 22 v) (h:DataW.Trod enc prog W 0 (λ_=>true) true 22 v d p):
  Calls prog 3 #[.string a,v] W λe o=>e=.returned (.bool true)/\Below W.heap.size W o:=by
 obtain⟨q,n,c,rfl⟩:=okWide_slice underlying22 u
 rcases Gv h with rfl|⟨g,off,rfl,hg,hT⟩
 .exact aa0 a.data.toList q 0 c (λ_=>⟨0,0,0,0⟩) W l (λk b=>absurd b (Nat.not_lt_zero k))
 .have t:∀k,∃s:SpL,k<n->ab3 W g (off+k*6) s:=λk=>by
   by_cases b:k<n
   .obtain⟨a0,j,c0,d0,m,f0,f⟩:=hT k b;exact⟨⟨j,d0,m,f0⟩,λ_=>⟨f 1 _ rfl,f 3 _ rfl,f 4 _ rfl,f 5 _ rfl⟩⟩
   .exact⟨⟨0,0,0,0⟩,λe=>absurd e b⟩
  obtain⟨T,i⟩:=Classical.axiomOfChoice t;exact aa0 a.data.toList _ n c T W l (λk b=>⟨g,off,rfl,hg,i k b⟩)
theorem aa9(os:Os)(started:os.Started)(H:Type)(enc:TypeId×Value->H)(F:Stop.Interp):
  ReturnsInHanded {} Tryz.checked os 3 .any ((OpenSpec.ofChange Rows.engineLoadsSpec).preRow enc prog Tryz.f3 [] false abA) (((OpenSpec.ofChange Rows.engineLoadsSpec).at F).post enc prog Tryz.f3 false true false false):=by
 refine returnsInHanded_of_row (C:=Tryz.checked) (s:=OpenSpec.ofChange Rows.engineLoadsSpec) own started (by kernel_rfl) func3
  (ChangeSpec.witness_shaped (s:=Rows.engineLoadsSpec) (enc:=enc) (C:=Tryz.checked) (os:=os) (X:=λw _=>laidMetH prog abA w) false (aaX prog os) #[.string ⟨#[]⟩,.slice none 0 0] 8 (abQ os) (World.shaped_of_ZipB (by kernel_rfl) (by kernel_rfl)) (by kernel_rfl) (by kernel_rfl) (by kernel_rfl) (abD os _)) ?_
 intro W base args ds gs before c k _ _ f A G _;have b:∀(j:Nat) t v,Tryz.f3.params[j]?=some t->args[j]?=some v->Value.okWide prog W .any base t v:=c;have g:=k;obtain⟨p,q,B,x,rfl,hfz,hnd⟩:=k;have n:DataW.TrodAll enc prog W 0 (λ_=>true) true Tryz.f3.params.toList args.toList ds p:=B;have z:DataW.TrodVars enc prog W (λ_=>true) [] gs q:=x;rw[Tryz.params3]at n b f;obtain⟨o,vs0,d0,ds0,p0,q0,hargs,rfl,rfl,u,y⟩:=trodAll_cons n;obtain⟨m,vs1,d1,ds1,p1,q1,rfl,rfl,rfl,d,r⟩:=trodAll_cons y;obtain⟨rfl,rfl,rfl⟩:=trodAll_nil r
 obtain rfl:args=#[o,m]:=by cases args;simp_all
 obtain⟨rfl,rfl⟩:=trodVars_none z;obtain⟨a,rfl,rfl,rfl,i⟩:=open_string underlying9 (b 0 9 o rfl rfl) u
 refine(acZ a (abR A G) (b 1 22 m rfl rfl) d).mono λe W' ⟨E,l⟩=>?_
 subst E;exact⟨_,rfl,_,_,_,[],_,[],g,trodAll_mk1 (shut_bool underlying4 _),(trodAll_cons_mk (shut_string underlying9 i) (trodAll_cons_mk (Below.trod laidOut (by kernel_rfl) (of_decide_eq_true (by kernel_rfl)) d l (Ak d)) trodAll_mk0)),rfl,l.frame _,λh=>by cases h⟩
theorem abe:Rows.EngineLoadsSaid:=
 OpenClaim.holds_of_cond 3 Tryz.f3 rfl rfl rfl rfl rfl rfl rfl ⟨rfl,rfl,rfl,rfl,rfl⟩ rfl rfl rfl rfl rfl (by kernel_rfl) func3 adq
  (of_decide_eq_true (by kernel_rfl)) (by unfold Func.isWrapper;first|(rw[if_pos (by decide+kernel)];kernel_rfl)|(rw[if_neg (by decide+kernel)];exact⟨rfl,rfl⟩))
  (λos started H enc _ a=>by rw[OpenClaim.pre_eq_preRow];exact aa9 os started H enc a)
theorem engineLoads_card:Rows.EngineLoadsCardSaid:=
 Claim7.holds_tied_plain_at .later [] _ _ _ _
  abe (λ_ h=>by cases h) (by as_aux_lemma=>kernel_rfl) (λ_ h=>by cases h) engineLoads_row_tie rfl ⟨rfl,rfl⟩ (by as_aux_lemma=>kernel_rfl) rfl
  (λf fn hf hfn=>by
   obtain rfl:f=3:=Option.some.inj ((show prog.funcNamed "estuary/estuarylaw.EngineLoads" =some 3 by as_aux_lemma=>kernel_rfl).symm.trans hf) |>.symm
   obtain rfl:fn=Tryz.f3:=(Option.some.inj (func3.symm.trans hfn)).symm
   exact⟨by as_aux_lemma=>kernel_rfl,λj t ht=>by
    rw[Tryz.params3]at ht
    have h3:t=9∨t=22:=by
     rcases j with _|_|j
     .exact .inl (by simpa using ht.symm)
     .exact .inr (by simpa using ht.symm)
     .simp at ht
    rcases h3 with rfl|rfl
    .exact(show prog.wantsStandIn 9=false by as_aux_lemma=>kernel_rfl)
    .exact(show prog.wantsStandIn 22=false by as_aux_lemma=>kernel_rfl)⟩)
  (by as_aux_lemma=>kernel_rfl)
#print axioms engineLoads_card
end Go.Proofs.YthfpipieboophaaGreatDoor
