import Derived.Test.YtffamlbkmjmipaaGreatDoorPiecesF
import Derived.Test.YtffamlbkmjmipaaGreatDoorPiecesW
import Derived.Test.YtffamlbkmjmipaaGreatDoorTie
set_option maxHeartbeats 8000000
set_option maxRecDepth 100000
namespace Go.Proofs.YtffamlbkmjmipaaGreatDoor
open _root_.Go.Proofs.Tryz
namespace fX
open Go.RowKit Go.Deep Go.ChangeShapes Go.WideShapes Go.ChangeAt
theorem pieces_said:Rows.PiecesSaid:=
 OpenClaim.holds_of_cond 14 f14 rfl rfl rfl rfl rfl rfl rfl ⟨rfl,rfl,rfl,rfl,rfl⟩ rfl rfl rfl rfl rfl (by kernel_rfl) func14 pieces_facts
  (of_decide_eq_true (by kernel_rfl)) (by unfold Func.isWrapper;first|(rw[if_pos (by decide+kernel)];kernel_rfl)|(rw[if_neg (by decide+kernel)];exact⟨rfl,rfl⟩))
  (fun os started H enc _ F=>by rw[OpenClaim.pre_eq_preRow];exact pieces_lifted os started H enc F)
theorem pieces_plain(f:FuncId)(fn:Func)(hf:Tryz.pinned.checked.prog.funcNamed f14.name=some f)(JA:Tryz.pinned.checked.prog.funcs[f]?=some fn):true=Tryz.pinned.checked.prog.looks []∧ ∀(j:Nat) t,fn.params[j]?=some t->Tryz.pinned.checked.prog.wantsStandIn t=false:=by
 obtain rfl:f=14:=Option.some.inj ((show prog.funcNamed f14.name=some 14 by kernel_rfl).symm.trans hf)|>.symm;obtain rfl:fn=f14:=(Option.some.inj (func14.symm.trans JA)).symm;refine⟨by kernel_rfl,fun j t ht=> ?_⟩;rw[params14]at ht;have hm:=Array.mem_of_getElem? ht;simp only[List.mem_toArray,List.mem_cons,List.mem_nil_iff,or_false]at hm;rcases hm with rfl|rfl
 ·exact(show prog.wantsStandIn 37=false by kernel_rfl)
 ·exact(show prog.wantsStandIn 9=false by kernel_rfl)
theorem pieces_card:Rows.PiecesCardSaid:=
 Claim7.holds_tied_plain_at .later [] _ _ _ _ pieces_said (fun _ h=>by cases h) (by as_aux_lemma=>kernel_rfl) (fun _ h=>by cases h) pieces_row_tie rfl ⟨rfl,rfl⟩ (by as_aux_lemma=>kernel_rfl) rfl pieces_plain (by as_aux_lemma=>kernel_rfl)
end fX
section
theorem pieces_holds:Rows.PiecesCardSaid:=fX.pieces_card
