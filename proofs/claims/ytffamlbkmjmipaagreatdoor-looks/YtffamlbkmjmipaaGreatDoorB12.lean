import Derived.Test.YtffamlbkmjmipaaGreatDoorCards
import Derived.ClosedOfChecked
import Derived.JoinedOf
set_option maxHeartbeats 8000000
set_option maxRecDepth 100000
namespace Go.Proofs.YtffamlbkmjmipaaGreatDoor
open _root_.Go.Proofs.Tryz
namespace fA
open Go
variable{a b:Bool}
set_option maxRecDepth 100000
theorem oC:checked.prog.types=checked.src.types:=by kernel_rfl
theorem pS:(checked.prog.globals.all (fun g=>decide (g.type<checked.prog.types.size)) &&checked.prog.funcs.all (fun f=>f.params.all fun t=>decide (t<checked.prog.types.size)))=true:=by kernel_rfl
theorem pR:Go.ClosedOfChecked.keysListB checked.prog=true:=by kernel_rfl
theorem jZ:laidOutB checked.prog=true:=(Go.ClosedOfChecked.closed_of_checked checked oC pS pR).1
theorem iW:mapsRowed checked.prog=true:=(Go.ClosedOfChecked.closed_of_checked checked oC pS pR).2.1
theorem iV:checked.prog.plainKeys=true:=(Go.ClosedOfChecked.closed_of_checked checked oC pS pR).2.2
theorem iU:checked.prog.stopsHeard=true:=by kernel_rfl
theorem iT:checked.prog.mayEnter=true:=by kernel_rfl
theorem ax(ha:a=true)(hb:b=true):(a &&b)=true:=by rw[ha,hb];rfl
theorem xX(ha:a=true)(hb:b=true):(a==b)=true:=by rw[ha,hb];rfl
