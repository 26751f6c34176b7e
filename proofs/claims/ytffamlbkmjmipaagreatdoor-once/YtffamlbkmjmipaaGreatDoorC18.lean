import Derived.Test.YtffamlbkmjmipaaGreatDoorCards
import Derived.ClosedOfChecked
import Derived.JoinedOf
set_option maxHeartbeats 8000000
set_option maxRecDepth 100000
namespace Go.Proofs.YtffamlbkmjmipaaGreatDoor
open _root_.Go.Proofs.Tryz
namespace ud
open Go
variable{a b:Bool}
set_option maxRecDepth 100000
theorem lL:checked.prog.types=checked.src.types:=by kernel_rfl
theorem mK:(checked.prog.globals.all (fun g=>decide (g.type<checked.prog.types.size)) &&checked.prog.funcs.all (fun f=>f.params.all fun t=>decide (t<checked.prog.types.size)))=true:=by kernel_rfl
theorem mJ:Go.ClosedOfChecked.keysListB checked.prog=true:=by kernel_rfl
theorem Cv:laidOutB checked.prog=true:=(Go.ClosedOfChecked.closed_of_checked checked lL mK mJ).1
theorem AZ:mapsRowed checked.prog=true:=(Go.ClosedOfChecked.closed_of_checked checked lL mK mJ).2.1
theorem AY:checked.prog.plainKeys=true:=(Go.ClosedOfChecked.closed_of_checked checked lL mK mJ).2.2
theorem AX:checked.prog.stopsHeard=true:=by kernel_rfl
theorem AW:checked.prog.mayEnter=true:=by kernel_rfl
theorem cd(ha:a=true)(hb:b=true):(a &&b)=true:=by rw[ha,hb];rfl
theorem Vt(ha:a=true)(hb:b=true):(a==b)=true:=by rw[ha,hb];rfl
