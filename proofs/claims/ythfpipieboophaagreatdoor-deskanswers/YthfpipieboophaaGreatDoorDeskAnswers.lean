/- DeskAnswers of the program is proved for every argument. -/
import Derived.Test.YthfpipieboophaaGreatDoorCrd
import Derived.Test.YthfpipieboophaaGreatDoorZRlp
import Derived.Test.YthfpipieboophaaGreatDoorCrk
namespace Go.Proofs.YthfpipieboophaaGreatDoor
set_option maxRecDepth 100000
set_option maxHeartbeats 40000000
open Go.Proofs.Tryz Go.ChangeShapes Go.WideShapes Go.ChangeAt Go.RowKit Go.Deep Go.Joins
open Go.ChangeMaps (open_string shut_string)
set_option linter.unusedVariables false
theorem BR(a:ByteArray)(W:World)(c:aU W):Calls prog 6 #[.string a] W λe b=>e=.returned (.bool true)/\Below W.heap.size W b:=
 Dy a.data.toList W c
theorem qy(os:Os)(started:os.Started)(H:Type)(enc:TypeId×Value->H)(F:Stop.Interp):
  ReturnsInHanded {} Tryz.checked os 6 .any ((OpenSpec.ofChange Rows.deskAnswersSpec).preRow enc prog Tryz.f6 [] false Aj) (((OpenSpec.ofChange Rows.deskAnswersSpec).at F).post enc prog Tryz.f6 false true false false):=by
 refine returnsInHanded_of_row (C:=Tryz.checked) (s:=OpenSpec.ofChange Rows.deskAnswersSpec) own started (by kernel_rfl) func6
  (ChangeSpec.witness_shaped (s:=Rows.deskAnswersSpec) (enc:=enc) (C:=Tryz.checked) (os:=os) (X:=λw _=>laidMetH prog Aj w) false (lW prog os) #[.string ⟨#[]⟩] 8 (rf os) (World.shaped_of_ZipB (by kernel_rfl) (by kernel_rfl)) (by kernel_rfl) (by kernel_rfl) (by kernel_rfl) (qb os _)) ?_
 intro W base args ds gs before c k _ _ f A r _;have b:∀(j:Nat) t v,Tryz.f6.params[j]?=some t->args[j]?=some v->Value.okWide prog W .any base t v:=c;have d:=k;obtain⟨p,q,m,y,rfl,hfz,hnd⟩:=k;have l:DataW.TrodAll enc prog W 0 (λ_=>true) true Tryz.f6.params.toList args.toList ds p:=m;have u:DataW.TrodVars enc prog W (λ_=>true) [] gs q:=y;rw[Tryz.params6]at l b f;obtain⟨i,vs0,d0,ds0,p0,q0,hargs,rfl,rfl,n,z⟩:=trodAll_cons l;obtain⟨rfl,rfl,rfl⟩:=trodAll_nil z
 obtain rfl:args=#[i]:=by cases args;simp_all
 obtain⟨rfl,rfl⟩:=trodVars_none u;obtain⟨a,rfl,rfl,rfl,g⟩:=open_string underlying9 (b 0 9 i rfl rfl) n
 refine(BR a W (rq A r)).mono λe W' ⟨o,x⟩=>?_
 subst o;exact⟨_,rfl,_,_,_,[],_,[],d,trodAll_mk1 (shut_bool underlying4 _),(trodAll_cons_mk (shut_string underlying9 g) trodAll_mk0),rfl,x.frame _,λh=>by cases h⟩
theorem ru:Rows.DeskAnswersSaid:=
 OpenClaim.holds_of_cond 6 Tryz.f6 rfl rfl rfl rfl rfl rfl rfl ⟨rfl,rfl,rfl,rfl,rfl⟩ rfl rfl rfl rfl rfl (by kernel_rfl) func6 KC
  (of_decide_eq_true (by kernel_rfl)) (by unfold Func.isWrapper;first|(rw[if_pos (by decide+kernel)];kernel_rfl)|(rw[if_neg (by decide+kernel)];exact⟨rfl,rfl⟩))
  (λos started H enc _ a=>by rw[OpenClaim.pre_eq_preRow];exact qy os started H enc a)
theorem deskAnswers_card:Rows.DeskAnswersCardSaid:=
 Claim7.holds_tied_plain_at .later [] _ _ _ _
  ru (λ_ h=>by cases h) (by as_aux_lemma=>kernel_rfl) (λ_ h=>by cases h) deskAnswers_row_tie rfl ⟨rfl,rfl⟩ (by as_aux_lemma=>kernel_rfl) rfl
  (λf fn hf hfn=>by
   obtain rfl:f=6:=Option.some.inj ((show prog.funcNamed "estuary/estuarylaw.DeskAnswers" =some 6 by as_aux_lemma=>kernel_rfl).symm.trans hf) |>.symm
   obtain rfl:fn=Tryz.f6:=(Option.some.inj (func6.symm.trans hfn)).symm
   exact⟨by as_aux_lemma=>kernel_rfl,λj t ht=>by
    rw[Tryz.params6]at ht
    have h3:t=9:=by
     rcases j with _|j
     .simpa using ht.symm
     .simp at ht
    subst h3
    exact(show prog.wantsStandIn 9=false by as_aux_lemma=>kernel_rfl)⟩)
  (by as_aux_lemma=>kernel_rfl)
#print axioms deskAnswers_card
end Go.Proofs.YthfpipieboophaaGreatDoor
