import Derived.Test.YtffamlbkmjmipaaGreatDoorC01
import Derived.Test.YtffamlbkmjmipaaGreatDoorRows
import Derived.Carry
import Derived.Deep.DeepHandedRow
import Derived.Lib.LaidTab
import Derived.Deep.Slices
import Derived.SizedLaws
set_option maxHeartbeats 8000000
set_option maxRecDepth 100000
namespace Go.Proofs.YtffamlbkmjmipaaGreatDoor
open _root_.Go.Proofs.Tryz
namespace ud
open Go.RowKit Go.Deep Go.ChangeShapes Go.WideShapes Go.ChangeAt
theorem own:ownKnob prog.godebug=none:=by kernel_rfl
def Ct:DataW Unit->List Value
 | .lit (.int k n)=> [.int k n]
 |_=> []
def MR:DataW Unit->List Value
 | .agg l=>l.flatMap Ct
 |d=>Ct d
def tableCells:DataW Unit->Array Value
 | .agg l=>(l.flatMap MR).toArray
 |_=> #[]
def lay(o:Obj)(d:DataW Unit):Obj:=match o with
 | .cells _ t frozen=> .cells (tableCells d) t frozen
 |o=>o
def ZY(o:Obj)(v:Value):Obj:=match o with
 | .cells _ t frozen=> .cells #[v] t frozen
 |o=>o
def Md(os:Os)(W:World):Prop:=
 W={World.holding prog os ⟨#[], #[], []⟩with heap:=(((((((((World.holding prog os ⟨#[], #[], []⟩).heap.modify 1 (fun o=>lay o Rows.laid_unicode_utf8_first)).modify 2 (fun o=>lay o Rows.laid_unicode_utf8_acceptRanges)).modify 3 (fun o=>lay o Rows.laid_internal_strconv_uint64pow10)).modify 6 (fun o=>lay o Rows.laid_math_bits_deBruijn32tab)).modify 7 (fun o=>lay o Rows.laid_math_bits_deBruijn64tab)).modify 4 (fun o=>ZY o (.iface 312 (.pointer (some ⟨13,0,none⟩))))).modify 5 (fun o=>ZY o (.iface 312 (.pointer (some ⟨14,0,none⟩))))).push (.cells #[.string ⟨#[105,110,118,97,108,105,100,32,115,121,110,116,97,120]⟩] 314)).push (.cells #[.string ⟨#[118,97,108,117,101,32,111,117,116,32,111,102,32,114,97,110,103,101]⟩] 314)}
theorem laid_met(os:Os)(W:World)(h:Md os W):laidMet prog Rows.sealsRow.laid (W.forCall (fun _ _=>0) ⟨#[], #[.slice none 0 0], []⟩).memory:=by cases h;exact laidMet_of_run' 8 (by kernel_rfl) (by kernel_rfl)
