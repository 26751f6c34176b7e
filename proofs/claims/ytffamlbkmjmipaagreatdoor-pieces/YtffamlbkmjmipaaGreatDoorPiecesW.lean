import Derived.Test.YtffamlbkmjmipaaGreatDoorPiecesC
set_option maxHeartbeats 8000000
set_option maxRecDepth 100000
namespace Go.Proofs.YtffamlbkmjmipaaGreatDoor
open _root_.Go.Proofs.Tryz
namespace fX
open Go.RowKit Go.Deep Go.ChangeShapes Go.WideShapes Go.ChangeAt
theorem pieces_lifted(os:Os)(started:os.Started)(H:Type)(enc:TypeId×Value->H)(F:Stop.Interp):ReturnsInHanded {} checked os 14 .any ((OpenSpec.ofChange Rows.piecesSpec).preRow enc prog f14 Rows.piecesRow.domain false Rows.piecesRow.laid) (((OpenSpec.ofChange Rows.piecesSpec).at F).post enc prog f14 false true false false):=by
 obtain⟨W0,jX⟩: ∃W0,mX os W0:=⟨_,rfl⟩;obtain⟨places,hx⟩: ∃places,DataW.whole enc prog (W0.forCall (fun _ _=>0) ⟨#[], #[.slice none 0 0, .string ⟨#[]⟩], []⟩).memory f14.params.toList Rows.piecesSpec.vars false (#[.slice none 0 0, .string ⟨#[]⟩]:Array Value).toList 8=some ([.nil, .lit (.string [])], [],places):=by cases jX;exact⟨[],by kernel_rfl⟩
 have tG:laidMet prog Rows.piecesRow.laid (W0.forCall (fun _ _=>0) ⟨#[], #[.slice none 0 0, .string ⟨#[]⟩], []⟩).memory:=laid_met os W0 jX;refine returnsInHanded_of_row (C:=checked) (s:=OpenSpec.ofChange Rows.piecesSpec) own started (by kernel_rfl) func14
  (witness_row_at (enc:=enc) (C:=checked) false W0 #[.slice none 0 0, .string ⟨#[]⟩] (by cases jX;rfl) (by cases jX;kernel_rfl) (by cases jX;kernel_rfl) (by cases jX;kernel_rfl)
   (OpenSpec.preRow_of_cond 8 hx (by kernel_rfl) (fun k hk=>by cases hk) (by kernel_rfl) tG)) ?_
 intro W base args ds gs before hval hW _ _ cY hL lU _;exact pieces_contract H enc W base args ds gs before hval hW cY hL lU
