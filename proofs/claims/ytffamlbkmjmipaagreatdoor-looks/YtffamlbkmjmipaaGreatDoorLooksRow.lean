import Derived.Test.YtffamlbkmjmipaaGreatDoorLooksF
import Derived.Test.YtffamlbkmjmipaaGreatDoorLooksW
import Derived.Test.YtffamlbkmjmipaaGreatDoorTie
set_option maxHeartbeats 8000000
set_option maxRecDepth 100000
namespace Go.Proofs.YtffamlbkmjmipaaGreatDoor
open _root_.Go.Proofs.Tryz
namespace fA
open Go.RowKit Go.Deep Go.ChangeShapes Go.WideShapes Go.ChangeAt
theorem I3:Rows.LooksSaid:=
 OpenClaim.holds_of_cond 6 f6 rfl rfl rfl rfl rfl rfl rfl ⟨rfl,rfl,rfl,rfl,rfl⟩ rfl rfl rfl rfl rfl (by kernel_rfl) func6 ER
  (of_decide_eq_true (by kernel_rfl)) (by unfold Func.isWrapper;first|(rw[if_pos (by decide+kernel)];kernel_rfl)|(rw[if_neg (by decide+kernel)];exact⟨rfl,rfl⟩))
  (fun os started H enc _ F=>by rw[OpenClaim.pre_eq_preRow];exact Ci os started H enc F)
theorem ES(f:FuncId)(fn:Func)(hf:Tryz.pinned.checked.prog.funcNamed f6.name=some f)(TN:Tryz.pinned.checked.prog.funcs[f]?=some fn):true=Tryz.pinned.checked.prog.looks []∧ ∀(j:Nat) t,fn.params[j]?=some t->Tryz.pinned.checked.prog.wantsStandIn t=false:=by
 obtain rfl:f=6:=Option.some.inj ((show prog.funcNamed f6.name=some 6 by kernel_rfl).symm.trans hf)|>.symm;obtain rfl:fn=f6:=(Option.some.inj (func6.symm.trans TN)).symm;refine⟨by kernel_rfl,fun j t ht=> ?_⟩;rw[params6]at ht;obtain rfl:t=22:=by simpa using Array.mem_of_getElem? ht
 exact(show prog.wantsStandIn 22=false by kernel_rfl)
theorem I0:Rows.LooksCardSaid:=
 Claim7.holds_tied_plain_at .later [] _ _ _ _ I3 (fun _ h=>by cases h) (by as_aux_lemma=>kernel_rfl) (fun _ h=>by cases h) looks_row_tie rfl ⟨rfl,rfl⟩ (by as_aux_lemma=>kernel_rfl) rfl ES (by as_aux_lemma=>kernel_rfl)
end fA
section
theorem looks_holds:Rows.LooksCardSaid:=fA.I0
