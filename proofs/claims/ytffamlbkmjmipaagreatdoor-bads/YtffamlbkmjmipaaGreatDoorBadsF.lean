import Derived.Test.YtffamlbkmjmipaaGreatDoorB12
import Derived.Test.YtffamlbkmjmipaaGreatDoorRows
import Derived.Deep.Slices
import Derived.ProofKit
import Derived.SizedLaws
set_option maxHeartbeats 8000000
set_option maxRecDepth 100000
namespace Go.Proofs.YtffamlbkmjmipaaGreatDoor
open _root_.Go.Proofs.Tryz
namespace fA
open Go.RowKit Go.Deep Go.ChangeShapes Go.WideShapes Go.ChangeAt
theorem Hl:joinedFacts checked.prog 4 f4 (OpenSpec.ofChange Rows.badsSpec).bare Rows.badsRow=true:=by
 unfold joinedFacts;refine ax (ax (ax (ax (ax (ax (ax (ax (ax (ax (ax (ax (ax (ax (ax (ax (ax (ax (ax (ax (ax (ax (ax (ax (ax (ax (ax (ax (ax (ax (ax (?c1) ?c2) ?c3) ?c4) ?c5) ?c6) ?c7) ?c8) ?c9) ?c10) ?c11) ?c12) ?c13) ?c14) ?c15) ?c16) ?c17) ?c18) ?c19) ?c20) ?c21) ?S4) ?c23) ?c24) ?c25) ?S8) ?S9) ?c28) ?c29) ?Ta) ?c31) ?c32
 case c2=>exact jZ
 case c3=>exact iW
 case c23=>exact xX (by kernel_rfl) iV
 case c25=>exact iU
 case S8=>exact iT
 all_goals as_aux_lemma=>kernel_rfl
