import Derived.Test.YtffamlbkmjmipaaGreatDoorRows
import Derived.Test.YtffamlbkmjmipaaGreatDoorOpen
import Derived.Carry
import Derived.Deep.DeepHandedRow
import Derived.Lib.LaidTab
namespace Go.Proofs.YtffamlbkmjmipaaGreatDoor.Law
open Go.RowKit Go.Deep Go.ChangeShapes Go.WideShapes Go.ChangeAt

theorem own : ownKnob Tryz.prog.godebug = none := by kernel_rfl
theorem laidOut : laidOutB Tryz.prog = true := by kernel_rfl
theorem readScript : Tryz.prog.readableRec 22 = true := by kernel_rfl
theorem rowScript : 22 < Tryz.prog.types.size := of_decide_eq_true (by kernel_rfl)

theorem weightsAll_mem {H : Type} {P : Program} {e : TypeId} : ∀ {l : List (DataW H)} {d : DataW H}, d ∈ l → ∀ n ∈ d.weights P e, n ∈ DataW.weightsAll P e l
  | x :: l, d, h, n, hn => by
    rw [DataW.weightsAll, List.mem_append]
    rcases List.mem_cons.1 h with rfl | h
    · exact Or.inl hn
    · exact Or.inr (weightsAll_mem h n hn)

theorem op_weight {H : Type} (o : Opr) : o.s.data.toList.length ∈ (o.dat (H := H)).weights Tryz.prog 73 := by
  unfold Opr.dat DataW.weights
  rw [Tryz.underlying73]
  simp [DataW.weightsEach, DataW.weights]

/-- What the form's own reach gives. -/
theorem reach {H : Type} {d : DataW H} {len : Nat} {ops : Nat → Opr} (hsz : (DataW.weightsEach Tryz.prog [22] [d]).all (· ≤ reachBytes) = true) (hd : len = 0 ∨ ∃ sp, d = .slice ((List.range len).map fun i => (ops i).dat) sp) :
    len ≤ 1000000000000000 ∧ ∀ i, i < len → (ops i).s.size ≤ 1000000000000000 := by
  have hrb : reachBytes ≤ 1000000000000000 := by decide
  rcases hd with rfl | ⟨sp, rfl⟩
  · exact ⟨Nat.zero_le _, fun i hi => absurd hi (by omega)⟩
  have h1 := sized_slice hsz (j := 0) rfl rfl Tryz.underlying22
  rw [bytesOp, List.length_map, List.length_range] at h1
  refine ⟨by omega, fun i hi => ?_⟩
  have hm : (ops i).s.data.toList.length ∈ DataW.weightsEach Tryz.prog [22] [DataW.slice ((List.range len).map fun i => (ops i).dat (H := H)) sp] := by
    refine DataW.weights_mem_each (j := 0) rfl rfl _ ?_
    rw [DataW.weights, Tryz.underlying22]
    refine List.mem_cons_of_mem _ (List.mem_append.2 (Or.inl (weightsAll_mem (List.mem_map.2 ⟨i, List.mem_range.2 hi, rfl⟩) _ (op_weight _))))
  have h2 := List.all_eq_true.1 hsz _ hm
  have h3 : (ops i).s.data.toList.length = (ops i).s.size := by simp
  simp only [decide_eq_true_eq] at h2
  omega

/-- A table's cells, off its datum (two storeys). -/
def cellsOf0 : DataW Unit → List Value
  | .lit (.int k n) => [.int k n]
  | _ => []
def cellsOf1 : DataW Unit → List Value
  | .agg l => l.flatMap cellsOf0
  | d => cellsOf0 d
def tableCells : DataW Unit → Array Value
  | .agg l => (l.flatMap cellsOf1).toArray
  | _ => #[]
def lay (o : Obj) (d : DataW Unit) : Obj := match o with
  | .cells _ t frozen => .cells (tableCells d) t frozen
  | o => o
def lay1 (o : Obj) (v : Value) : Obj := match o with
  | .cells _ t frozen => .cells #[v] t frozen
  | o => o
/-- A world for the witness: the settled one, each listed variable holding what it lists. -/
def IsLaid (os : Os) (W : World) : Prop :=
  W = { World.holding Tryz.prog os ⟨#[], #[], []⟩ with heap := (((((((((World.holding Tryz.prog os ⟨#[], #[], []⟩).heap.modify 1 (fun o => lay o Rows.laid_unicode_utf8_first)).modify 2 (fun o => lay o Rows.laid_unicode_utf8_acceptRanges)).modify 3 (fun o => lay o Rows.laid_internal_strconv_uint64pow10)).modify 6 (fun o => lay o Rows.laid_math_bits_deBruijn32tab)).modify 7 (fun o => lay o Rows.laid_math_bits_deBruijn64tab)).modify 4 (fun o => lay1 o (.iface 312 (.pointer (some ⟨13, 0, none⟩))))).modify 5 (fun o => lay1 o (.iface 312 (.pointer (some ⟨14, 0, none⟩))))).push (.cells #[.string ⟨#[105, 110, 118, 97, 108, 105, 100, 32, 115, 121, 110, 116, 97, 120]⟩] 314)).push (.cells #[.string ⟨#[118, 97, 108, 117, 101, 32, 111, 117, 116, 32, 111, 102, 32, 114, 97, 110, 103, 101]⟩] 314) }

set_option maxHeartbeats 4000000 in
set_option maxRecDepth 100000 in
theorem laid_met (os : Os) (W : World) (h : IsLaid os W) : laidMet Tryz.prog Rows.sealsRow.laid (W.forCall (fun _ _ => 0) ⟨#[], #[.slice none 0 0], []⟩).memory := by
  cases h
  exact laidMet_of_run' 8 (by kernel_rfl) (by kernel_rfl)
set_option maxHeartbeats 4000000 in
set_option maxRecDepth 100000 in
theorem reads (os : Os) (W : World) (h : IsLaid os W) {H : Type} (enc : TypeId × Value → H) : ∃ places, DataW.whole enc Tryz.prog (W.forCall (fun _ _ => 0) ⟨#[], #[.slice none 0 0], []⟩).memory Tryz.f3.params.toList Rows.sealsSpec.vars false #[Value.slice none 0 0].toList 8 = some ([.nil], [], places) := by
  cases h
  exact ⟨[], by kernel_rfl⟩

end Go.Proofs.YtffamlbkmjmipaaGreatDoor.Law
