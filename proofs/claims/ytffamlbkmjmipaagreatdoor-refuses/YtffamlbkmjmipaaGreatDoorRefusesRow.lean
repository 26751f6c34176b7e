import Derived.Test.YtffamlbkmjmipaaGreatDoorRefusesF
import Derived.Test.YtffamlbkmjmipaaGreatDoorRefusesW
import Derived.Test.YtffamlbkmjmipaaGreatDoorTie
set_option maxHeartbeats 8000000
set_option maxRecDepth 100000
namespace Go.Proofs.YtffamlbkmjmipaaGreatDoor
open _root_.Go.Proofs.Tryz
namespace fX
open Go.RowKit Go.Deep Go.ChangeShapes Go.WideShapes Go.ChangeAt
theorem xZ:Rows.RefusesSaid:=
 OpenClaim.holds_of_cond 16 f16 rfl rfl rfl rfl rfl rfl rfl ⟨rfl,rfl,rfl,rfl,rfl⟩ rfl rfl rfl rfl rfl (by kernel_rfl) func16 vx
  (of_decide_eq_true (by kernel_rfl)) (by unfold Func.isWrapper;first|(rw[if_pos (by decide+kernel)];kernel_rfl)|(rw[if_neg (by decide+kernel)];exact⟨rfl,rfl⟩))
  (fun os started H enc _ F=>by rw[OpenClaim.pre_eq_preRow];exact uk os started H enc F)
theorem vy(f:FuncId)(fn:Func)(hf:Tryz.pinned.checked.prog.funcNamed f16.name=some f)(JA:Tryz.pinned.checked.prog.funcs[f]?=some fn):true=Tryz.pinned.checked.prog.looks []∧ ∀(j:Nat) t,fn.params[j]?=some t->Tryz.pinned.checked.prog.wantsStandIn t=false:=by obtain rfl:f=16:=Option.some.inj ((show prog.funcNamed f16.name=some 16 by kernel_rfl).symm.trans hf)|>.symm;obtain rfl:fn=f16:=(Option.some.inj (func16.symm.trans JA)).symm;refine⟨by kernel_rfl,fun j t ht=> ?_⟩;rw[params16]at ht;have hm:=Array.mem_of_getElem? ht;simp only[List.mem_toArray,List.mem_cons,List.mem_nil_iff,or_false]at hm;subst hm;exact(show prog.wantsStandIn 3=false by kernel_rfl)
theorem xY:Rows.RefusesCardSaid:=
 Claim7.holds_tied_plain_at .later [] _ _ _ _ xZ (fun _ h=>by cases h) (by as_aux_lemma=>kernel_rfl) (fun _ h=>by cases h) refuses_row_tie rfl ⟨rfl,rfl⟩ (by as_aux_lemma=>kernel_rfl) rfl vy (by as_aux_lemma=>kernel_rfl)
end fX
section
theorem refuses_holds:Rows.RefusesCardSaid:=fX.xY
