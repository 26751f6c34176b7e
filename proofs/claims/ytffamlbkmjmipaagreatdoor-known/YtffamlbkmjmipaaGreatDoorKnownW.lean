import Derived.Test.YtffamlbkmjmipaaGreatDoorC17
import Derived.Test.YtffamlbkmjmipaaGreatDoorC18
import Derived.Test.YtffamlbkmjmipaaGreatDoorC44
import Derived.Test.YtffamlbkmjmipaaGreatDoorK5
set_option maxHeartbeats 8000000
set_option maxRecDepth 100000
namespace Go.Proofs.YtffamlbkmjmipaaGreatDoor
open _root_.Go.Proofs.Tryz
namespace fA
open Go.RowKit Go.Deep Go.ChangeShapes Go.WideShapes Go.ChangeAt
theorem known_contract(H:Type)(enc:TypeId×Value->H)(W:World)(base:Nat)(args:Array Value)(ds gs:List (DataW H))(before:List MemPlace)(hval: ∀(j:Nat) t v,f17.params[j]?=some t->args[j]?=some v->Value.okWide prog W .any base t v)(hW:DataW.Whole enc prog f17.params.toList Rows.knownSpec.vars false W args.toList ds gs before)(hL:laidMetH prog Rows.knownRow.laid W)(oh:W.ShapedOpen prog):Calls prog 17 args W fun e W'=> ∃v,e= .returned v∧Rows.knownSpec.post enc prog f17 false true false false W args v W':=by
 have BM:=hW;obtain⟨p,q,Kp,hV,rfl,Zj,jJ⟩:=hW;have hA:DataW.TrodAll enc prog W 0 (fun _=>true) true f17.params.toList args.toList ds p:=Kp;rw[params17]at hA hval;obtain⟨Kt,rfl,rfl⟩:=trodAll_nil hA;obtain rfl:args= #[]:=by cases args;simp_all
 obtain⟨rfl,rfl⟩:=trodVars_none hV;clear Kp;simp only[List.append_nil]at BM;refine(KpQ.known_any W (Pj.prj (bJ.Qm hL oh))).mono fun e W' ⟨he,hg⟩=> ?_;subst he;refine⟨_,rfl, [], [], [], [], [], [],BM, ?_, ?_,rfl,hg.frame _,fun h=>by cases h⟩
 ·exact trodAll_cons_mk (shut_bool underlying4 _) trodAll_mk0
 ·exact trodAll_mk0
theorem known_lifted(os:Os)(started:os.Started)(H:Type)(enc:TypeId×Value->H)(F:Stop.Interp):ReturnsInHanded {} checked os 17 .any ((OpenSpec.ofChange Rows.knownSpec).preRow enc prog f17 Rows.knownRow.domain false Rows.knownRow.laid) (((OpenSpec.ofChange Rows.knownSpec).at F).post enc prog f17 false true false false):=by
 obtain⟨W0,qK⟩: ∃W0,sq os W0:=⟨_,rfl⟩;obtain⟨places,hx⟩: ∃places,DataW.whole enc prog (W0.forCall (fun _ _=>0) ⟨#[], #[], []⟩).memory f17.params.toList Rows.knownSpec.vars false (#[]:Array Value).toList 8=some ([], [],places):=by cases qK;exact⟨[],by kernel_rfl⟩
 have BQ:laidMet prog Rows.knownRow.laid (W0.forCall (fun _ _=>0) ⟨#[], #[], []⟩).memory:=laid_met os W0 qK;refine returnsInHanded_of_row (C:=checked) (s:=OpenSpec.ofChange Rows.knownSpec) own started (by kernel_rfl) func17
  (witness_row_at (enc:=enc) (C:=checked) false W0 #[] (by cases qK;rfl) (by cases qK;kernel_rfl) (by cases qK;kernel_rfl) (by cases qK;kernel_rfl)
   (OpenSpec.preRow_of_cond 8 hx (by kernel_rfl) (fun k hk=>by cases hk) (by kernel_rfl) BQ)) ?_
 intro W base args ds gs before hval hW _ _ _ hL oh _;exact known_contract H enc W base args ds gs before hval hW hL oh
