import Derived.Test.YtffamlbkmjmipaaGreatDoorC18
import Derived.Test.YtffamlbkmjmipaaGreatDoorRows
import Derived.Deep.Slices
import Derived.ProofKit
import Derived.SizedLaws
set_option maxHeartbeats 8000000
set_option maxRecDepth 100000
namespace Go.Proofs.YtffamlbkmjmipaaGreatDoor
open _root_.Go.Proofs.Tryz
namespace ud
open Go.RowKit Go.Deep Go.ChangeShapes Go.WideShapes Go.ChangeAt
theorem once_facts:joinedFacts checked.prog 15 f15 (OpenSpec.ofChange Rows.onceSpec).bare Rows.onceRow=true:=by
 unfold joinedFacts;refine cd (cd (cd (cd (cd (cd (cd (cd (cd (cd (cd (cd (cd (cd (cd (cd (cd (cd (cd (cd (cd (cd (cd (cd (cd (cd (cd (cd (cd (cd (cd (?c1) ?c2) ?c3) ?c4) ?c5) ?c6) ?c7) ?c8) ?c9) ?c10) ?c11) ?c12) ?c13) ?c14) ?c15) ?c16) ?c17) ?c18) ?c19) ?c20) ?c21) ?c22) ?c23) ?c24) ?c25) ?c26) ?c27) ?c28) ?c29) ?c30) ?c31) ?c32
 case c1=>as_aux_lemma=>kernel_rfl
 case c2=>exact Cv
 case c3=>exact AZ
 case c4=>as_aux_lemma=>kernel_rfl
 case c5=>as_aux_lemma=>kernel_rfl
 case c6=>as_aux_lemma=>kernel_rfl
 case c7=>as_aux_lemma=>kernel_rfl
 case c8=>as_aux_lemma=>kernel_rfl
 case c9=>as_aux_lemma=>kernel_rfl
 case c10=>as_aux_lemma=>kernel_rfl
 case c11=>as_aux_lemma=>kernel_rfl
 case c12=>as_aux_lemma=>kernel_rfl
 case c13=>as_aux_lemma=>kernel_rfl
 case c14=>as_aux_lemma=>kernel_rfl
 case c15=>as_aux_lemma=>kernel_rfl
 case c16=>as_aux_lemma=>kernel_rfl
 case c17=>as_aux_lemma=>kernel_rfl
 case c18=>as_aux_lemma=>kernel_rfl
 case c19=>as_aux_lemma=>kernel_rfl
 case c20=>as_aux_lemma=>kernel_rfl
 case c21=>as_aux_lemma=>kernel_rfl
 case c22=>as_aux_lemma=>kernel_rfl
 case c23=>exact Vt (by kernel_rfl) AY
 case c24=>as_aux_lemma=>kernel_rfl
 case c25=>exact AX
 case c26=>exact AW
 case c27=>as_aux_lemma=>kernel_rfl
 case c28=>as_aux_lemma=>kernel_rfl
 case c29=>as_aux_lemma=>kernel_rfl
 case c30=>as_aux_lemma=>kernel_rfl
 case c31=>as_aux_lemma=>kernel_rfl
 case c32=>as_aux_lemma=>kernel_rfl
