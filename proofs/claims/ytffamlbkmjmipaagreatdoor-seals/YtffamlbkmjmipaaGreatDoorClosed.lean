import Derived.Test.YtffamlbkmjmipaaGreatDoorCards
import Derived.ClosedOfChecked
import Derived.JoinedOf
namespace Go.Proofs.YtffamlbkmjmipaaGreatDoor.Law
open Go
set_option maxRecDepth 100000

/-! The facts of a row that run over the whole program, each by itself: together they are too much for one go of the kernel. -/

theorem closed_types : Tryz.checked.prog.types = Tryz.checked.src.types := by kernel_rfl
theorem closed_rest : (Tryz.checked.prog.globals.all (fun g => decide (g.type < Tryz.checked.prog.types.size)) && Tryz.checked.prog.funcs.all (fun f => f.params.all fun t => decide (t < Tryz.checked.prog.types.size))) = true := by kernel_rfl
theorem closed_keys : Go.ClosedOfChecked.keysListB Tryz.checked.prog = true := by kernel_rfl
theorem closed_laid : laidOutB Tryz.checked.prog = true := (Go.ClosedOfChecked.closed_of_checked Tryz.checked closed_types closed_rest closed_keys).1
theorem closed_rowed : mapsRowed Tryz.checked.prog = true := (Go.ClosedOfChecked.closed_of_checked Tryz.checked closed_types closed_rest closed_keys).2.1
theorem closed_plain : Tryz.checked.prog.plainKeys = true := (Go.ClosedOfChecked.closed_of_checked Tryz.checked closed_types closed_rest closed_keys).2.2
theorem closed_heard : Tryz.checked.prog.stopsHeard = true := by kernel_rfl
theorem closed_enter : Tryz.checked.prog.mayEnter = true := by kernel_rfl
theorem and_mk {a b : Bool} (ha : a = true) (hb : b = true) : (a && b) = true := by rw [ha, hb]; rfl
theorem beq_mk {a b : Bool} (ha : a = true) (hb : b = true) : (a == b) = true := by rw [ha, hb]; rfl
end Go.Proofs.YtffamlbkmjmipaaGreatDoor.Law
