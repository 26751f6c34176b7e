import Derived.Test.YtffamlbkmjmipaaGreatDoorC18
import Derived.Test.YtffamlbkmjmipaaGreatDoorRows
import Derived.Deep.Slices
import Derived.ProofKit
import Derived.SizedLaws
set_option maxHeartbeats 8000000
set_option maxRecDepth 100000
namespace Go.Proofs.YtffamlbkmjmipaaGreatDoor
open _root_.Go.Proofs.Tryz
namespace fX
open Go.RowKit Go.Deep Go.ChangeShapes Go.WideShapes Go.ChangeAt
theorem pieces_facts:joinedFacts checked.prog 14 f14 (OpenSpec.ofChange Rows.piecesSpec).bare Rows.piecesRow=true:=by
 unfold joinedFacts;refine aq (aq (aq (aq (aq (aq (aq (aq (aq (aq (aq (aq (aq (aq (aq (aq (aq (aq (aq (aq (aq (aq (aq (aq (aq (aq (aq (aq (aq (aq (aq (?c1) ?c2) ?c3) ?c4) ?c5) ?c6) ?c7) ?c8) ?c9) ?c10) ?c11) ?c12) ?c13) ?c14) ?c15) ?c16) ?c17) ?c18) ?c19) ?c20) ?c21) ?Iy) ?c23) ?c24) ?c25) ?Iz) ?IA) ?c28) ?c29) ?IB) ?c31) ?c32
 case c1=>as_aux_lemma=>kernel_rfl
 case c2=>exact fD
 case c3=>exact eG
 case c4=>as_aux_lemma=>kernel_rfl
 case c5=>as_aux_lemma=>kernel_rfl
 case c6=>as_aux_lemma=>kernel_rfl
 case c7=>as_aux_lemma=>kernel_rfl
 case c8=>as_aux_lemma=>kernel_rfl
 case c9=>as_aux_lemma=>kernel_rfl
 case c10=>as_aux_lemma=>kernel_rfl
 case c11=>as_aux_lemma=>kernel_rfl
 case c12=>as_aux_lemma=>kernel_rfl
 case c13=>as_aux_lemma=>kernel_rfl
 case c14=>as_aux_lemma=>kernel_rfl
 case c15=>as_aux_lemma=>kernel_rfl
 case c16=>as_aux_lemma=>kernel_rfl
 case c17=>as_aux_lemma=>kernel_rfl
 case c18=>as_aux_lemma=>kernel_rfl
 case c19=>as_aux_lemma=>kernel_rfl
 case c20=>as_aux_lemma=>kernel_rfl
 case c21=>as_aux_lemma=>kernel_rfl
 case Iy=>as_aux_lemma=>kernel_rfl
 case c23=>exact pV (by kernel_rfl) eF
 case c24=>as_aux_lemma=>kernel_rfl
 case c25=>exact eE
 case Iz=>exact eD
 case IA=>as_aux_lemma=>kernel_rfl
 case c28=>as_aux_lemma=>kernel_rfl
 case c29=>as_aux_lemma=>kernel_rfl
 case IB=>as_aux_lemma=>kernel_rfl
 case c31=>as_aux_lemma=>kernel_rfl
 case c32=>as_aux_lemma=>kernel_rfl
