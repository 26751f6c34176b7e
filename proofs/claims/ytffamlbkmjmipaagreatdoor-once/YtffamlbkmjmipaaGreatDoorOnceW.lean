import Derived.Test.YtffamlbkmjmipaaGreatDoorOnceC
set_option maxHeartbeats 8000000
set_option maxRecDepth 100000
namespace Go.Proofs.YtffamlbkmjmipaaGreatDoor
open _root_.Go.Proofs.Tryz
namespace ud
open Go.RowKit Go.Deep Go.ChangeShapes Go.WideShapes Go.ChangeAt
theorem once_lifted(os:Os)(started:os.Started)(H:Type)(enc:TypeId×Value->H)(F:Stop.Interp):ReturnsInHanded {} checked os 15 .any ((OpenSpec.ofChange Rows.onceSpec).preRow enc prog f15 Rows.onceRow.domain false Rows.onceRow.laid) (((OpenSpec.ofChange Rows.onceSpec).at F).post enc prog f15 false true false false):=by
 obtain⟨W0,Xp⟩: ∃W0,Md os W0:=⟨_,rfl⟩;obtain⟨places,hx⟩: ∃places,DataW.whole enc prog (W0.forCall (fun _ _=>0) ⟨#[], #[.slice none 0 0, .string ⟨#[]⟩], []⟩).memory f15.params.toList Rows.onceSpec.vars false (#[.slice none 0 0, .string ⟨#[]⟩]:Array Value).toList 8=some ([.nil, .lit (.string [])], [],places):=by cases Xp;exact⟨[],by kernel_rfl⟩
 have aaT:laidMet prog Rows.onceRow.laid (W0.forCall (fun _ _=>0) ⟨#[], #[.slice none 0 0, .string ⟨#[]⟩], []⟩).memory:=laid_met os W0 Xp;refine returnsInHanded_of_row (C:=checked) (s:=OpenSpec.ofChange Rows.onceSpec) own started (by kernel_rfl) func15
  (witness_row_at (enc:=enc) (C:=checked) false W0 #[.slice none 0 0, .string ⟨#[]⟩] (by cases Xp;rfl) (by cases Xp;kernel_rfl) (by cases Xp;kernel_rfl) (by cases Xp;kernel_rfl)
   (OpenSpec.preRow_of_cond 8 hx (by kernel_rfl) (fun k hk=>by cases hk) (by kernel_rfl) aaT)) ?_
 intro W base args ds gs before hval hW _ _ dc hL IZ _;exact once_contract H enc W base args ds gs before hval hW dc hL IZ
