import Derived.Test.YtffamlbkmjmipaaGreatDoorLeasedF
import Derived.Test.YtffamlbkmjmipaaGreatDoorLeasedW
import Derived.Test.YtffamlbkmjmipaaGreatDoorTie
set_option maxHeartbeats 8000000
set_option maxRecDepth 100000
namespace Go.Proofs.YtffamlbkmjmipaaGreatDoor
open _root_.Go.Proofs.Tryz
namespace fA
open Go.RowKit Go.Deep Go.ChangeShapes Go.WideShapes Go.ChangeAt
theorem leased_said:Rows.LeasedSaid:=
 OpenClaim.holds_of_cond 11 f11 rfl rfl rfl rfl rfl rfl rfl ⟨rfl,rfl,rfl,rfl,rfl⟩ rfl rfl rfl rfl rfl (by kernel_rfl) func11 leased_facts
  (of_decide_eq_true (by kernel_rfl)) (by unfold Func.isWrapper;first|(rw[if_pos (by decide+kernel)];kernel_rfl)|(rw[if_neg (by decide+kernel)];exact⟨rfl,rfl⟩))
  (fun os started H enc _ F=>by rw[OpenClaim.pre_eq_preRow];exact leased_lifted os started H enc F)
theorem leased_plain(f:FuncId)(fn:Func)(hf:Tryz.pinned.checked.prog.funcNamed f11.name=some f)(TN:Tryz.pinned.checked.prog.funcs[f]?=some fn):true=Tryz.pinned.checked.prog.looks []∧ ∀(j:Nat) t,fn.params[j]?=some t->Tryz.pinned.checked.prog.wantsStandIn t=false:=by obtain rfl:f=11:=Option.some.inj ((show prog.funcNamed f11.name=some 11 by kernel_rfl).symm.trans hf)|>.symm;obtain rfl:fn=f11:=(Option.some.inj (func11.symm.trans TN)).symm;refine⟨by kernel_rfl,fun j t ht=> ?_⟩;rw[params11]at ht;have hm:=Array.mem_of_getElem? ht;simp only[List.mem_toArray,List.mem_cons,List.mem_nil_iff,or_false,or_self]at hm;subst hm;exact(show prog.wantsStandIn 3=false by kernel_rfl)
theorem leased_card:Rows.LeasedCardSaid:=
 Claim7.holds_tied_plain_at .later [] _ _ _ _ leased_said (fun _ h=>by cases h) (by as_aux_lemma=>kernel_rfl) (fun _ h=>by cases h) leased_row_tie rfl ⟨rfl,rfl⟩ (by as_aux_lemma=>kernel_rfl) rfl leased_plain (by as_aux_lemma=>kernel_rfl)
end fA
section
theorem leased_holds:Rows.LeasedCardSaid:=fA.leased_card
