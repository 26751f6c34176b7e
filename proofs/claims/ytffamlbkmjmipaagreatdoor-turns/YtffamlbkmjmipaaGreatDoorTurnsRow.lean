import Derived.Test.YtffamlbkmjmipaaGreatDoorTurnsF
import Derived.Test.YtffamlbkmjmipaaGreatDoorTurnsW
import Derived.Test.YtffamlbkmjmipaaGreatDoorTie
set_option maxHeartbeats 8000000
set_option maxRecDepth 100000
namespace Go.Proofs.YtffamlbkmjmipaaGreatDoor
open _root_.Go.Proofs.Tryz
namespace fX
open Go.RowKit Go.Deep Go.ChangeShapes Go.WideShapes Go.ChangeAt
theorem turns_said:Rows.TurnsSaid:=
 OpenClaim.holds_of_cond 9 f9 rfl rfl rfl rfl rfl rfl rfl ⟨rfl,rfl,rfl,rfl,rfl⟩ rfl rfl rfl rfl rfl (by kernel_rfl) func9 turns_facts
  (of_decide_eq_true (by kernel_rfl)) (by unfold Func.isWrapper;first|(rw[if_pos (by decide+kernel)];kernel_rfl)|(rw[if_neg (by decide+kernel)];exact⟨rfl,rfl⟩))
  (fun os started H enc _ F=>by rw[OpenClaim.pre_eq_preRow];exact turns_lifted os started H enc F)
theorem turns_plain(f:FuncId)(fn:Func)(hf:Tryz.pinned.checked.prog.funcNamed f9.name=some f)(JA:Tryz.pinned.checked.prog.funcs[f]?=some fn):true=Tryz.pinned.checked.prog.looks []∧ ∀(j:Nat) t,fn.params[j]?=some t->Tryz.pinned.checked.prog.wantsStandIn t=false:=by obtain rfl:f=9:=Option.some.inj ((show prog.funcNamed f9.name=some 9 by kernel_rfl).symm.trans hf)|>.symm;obtain rfl:fn=f9:=(Option.some.inj (func9.symm.trans JA)).symm;refine⟨by kernel_rfl,fun j t ht=> ?_⟩;rw[params9]at ht;have hm:=Array.mem_of_getElem? ht;simp only[List.mem_toArray,List.mem_cons,List.mem_nil_iff,or_false,or_self]at hm;subst hm;exact(show prog.wantsStandIn 3=false by kernel_rfl)
theorem turns_card:Rows.TurnsCardSaid:=
 Claim7.holds_tied_plain_at .later [] _ _ _ _ turns_said (fun _ h=>by cases h) (by as_aux_lemma=>kernel_rfl) (fun _ h=>by cases h) turns_row_tie rfl ⟨rfl,rfl⟩ (by as_aux_lemma=>kernel_rfl) rfl turns_plain (by as_aux_lemma=>kernel_rfl)
end fX
section
theorem turns_holds:Rows.TurnsCardSaid:=fX.turns_card
