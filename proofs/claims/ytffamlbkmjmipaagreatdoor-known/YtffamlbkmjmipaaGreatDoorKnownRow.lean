import Derived.Test.YtffamlbkmjmipaaGreatDoorKnownF
import Derived.Test.YtffamlbkmjmipaaGreatDoorKnownW
import Derived.Test.YtffamlbkmjmipaaGreatDoorTie
set_option maxHeartbeats 8000000
set_option maxRecDepth 100000
namespace Go.Proofs.YtffamlbkmjmipaaGreatDoor
open _root_.Go.Proofs.Tryz
namespace fA
open Go.RowKit Go.Deep Go.ChangeShapes Go.WideShapes Go.ChangeAt
theorem known_said:Rows.KnownSaid:=
 OpenClaim.holds_of_cond 17 f17 rfl rfl rfl rfl rfl rfl rfl ⟨rfl,rfl,rfl,rfl,rfl⟩ rfl rfl rfl rfl rfl (by kernel_rfl) func17 known_facts
  (of_decide_eq_true (by kernel_rfl)) (by unfold Func.isWrapper;first|(rw[if_pos (by decide+kernel)];kernel_rfl)|(rw[if_neg (by decide+kernel)];exact⟨rfl,rfl⟩))
  (fun os started H enc _ F=>by rw[OpenClaim.pre_eq_preRow];exact known_lifted os started H enc F)
theorem known_plain(f:FuncId)(fn:Func)(hf:Tryz.pinned.checked.prog.funcNamed f17.name=some f)(TN:Tryz.pinned.checked.prog.funcs[f]?=some fn):true=Tryz.pinned.checked.prog.looks []∧ ∀(j:Nat) t,fn.params[j]?=some t->Tryz.pinned.checked.prog.wantsStandIn t=false:=by obtain rfl:f=17:=Option.some.inj ((show prog.funcNamed f17.name=some 17 by kernel_rfl).symm.trans hf)|>.symm;obtain rfl:fn=f17:=(Option.some.inj (func17.symm.trans TN)).symm;refine⟨by kernel_rfl,fun j t ht=> ?_⟩;rw[params17]at ht;simp at ht
theorem known_card:Rows.KnownCardSaid:=
 Claim7.holds_tied_plain_at .later [] _ _ _ _ known_said (fun _ h=>by cases h) (by as_aux_lemma=>kernel_rfl) (fun _ h=>by cases h) known_row_tie rfl ⟨rfl,rfl⟩ (by as_aux_lemma=>kernel_rfl) rfl known_plain (by as_aux_lemma=>kernel_rfl)
end fA
section
theorem known_holds:Rows.KnownCardSaid:=fA.known_card
