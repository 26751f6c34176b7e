import Derived.Test.YtffamlbkmjmipaaGreatDoorCards
import Derived.ClosedOfChecked
import Derived.JoinedOf
set_option maxHeartbeats 8000000
set_option maxRecDepth 100000
namespace Go.Proofs.YtffamlbkmjmipaaGreatDoor
open _root_.Go.Proofs.Tryz
namespace fX
open Go
variable{a b:Bool}
set_option maxRecDepth 100000
theorem kr:checked.prog.types=checked.src.types:=by kernel_rfl
theorem k8:(checked.prog.globals.all (fun g=>decide (g.type<checked.prog.types.size)) &&checked.prog.funcs.all (fun f=>f.params.all fun t=>decide (t<checked.prog.types.size)))=true:=by kernel_rfl
theorem k7:Go.ClosedOfChecked.keysListB checked.prog=true:=by kernel_rfl
theorem fD:laidOutB checked.prog=true:=(Go.ClosedOfChecked.closed_of_checked checked kr k8 k7).1
theorem eG:mapsRowed checked.prog=true:=(Go.ClosedOfChecked.closed_of_checked checked kr k8 k7).2.1
theorem eF:checked.prog.plainKeys=true:=(Go.ClosedOfChecked.closed_of_checked checked kr k8 k7).2.2
theorem eE:checked.prog.stopsHeard=true:=by kernel_rfl
theorem eD:checked.prog.mayEnter=true:=by kernel_rfl
theorem aq(ha:a=true)(hb:b=true):(a &&b)=true:=by rw[ha,hb];rfl
theorem pV(ha:a=true)(hb:b=true):(a==b)=true:=by rw[ha,hb];rfl
