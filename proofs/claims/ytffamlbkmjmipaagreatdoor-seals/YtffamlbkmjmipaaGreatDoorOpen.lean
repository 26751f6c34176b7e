import Derived.Test.YtffamlbkmjmipaaGreatDoorLaw
import Derived.Deep.Slices
import Derived.ProofKit
import Derived.SizedLaws
namespace Go.Proofs.YtffamlbkmjmipaaGreatDoor.Law
open Go.RowKit Go.Deep

theorem cellsOp : Tryz.prog.cellsOf 73 = 9 := by kernel_rfl
theorem bytesOp : Tryz.prog.bytesOf 73 = 80 := by kernel_rfl

/-- A step's datum. -/
def Opr.dat {H : Type} (x : Opr) : DataW H := .agg [.lit (.int .i64 x.k), .lit (.int .i64 x.a), .lit (.int .i64 x.b), .agg [.lit (.int .i64 x.le), .lit (.int .i64 x.re), .lit (.int .i64 x.ca), .lit (.int .i64 x.bo), .lit (.int .i64 x.he)], .lit (.string x.s.data.toList)]

section
variable {H : Type} {enc : TypeId × Value → H} {w : World} {base : Nat} {spare : Nat → Bool} {held : Bool}

/-- That a number fits its kind. -/
def Opr.fits (x : Opr) : Prop := (Lit.int .i64 x.k).wf = true ∧ (Lit.int .i64 x.a).wf = true ∧ (Lit.int .i64 x.b).wf = true ∧ (Lit.int .i64 x.le).wf = true ∧ (Lit.int .i64 x.re).wf = true ∧ (Lit.int .i64 x.ca).wf = true ∧ (Lit.int .i64 x.bo).wf = true ∧ (Lit.int .i64 x.he).wf = true

set_option maxRecDepth 100000 in
/-- Nine cells that read as a step. -/
theorem open_op {fuel : Nat} {cs : List Value} {x : DataW H × List MemPlace} (h : DataW.trod enc Tryz.prog w base spare held fuel 73 cs = some x) :
    ∃ o : Opr, cs = o.cs.toList ∧ x.1 = o.dat ∧ o.fits := by
  obtain ⟨xs, n, rfl, rfl, hlen, hxl, hf⟩ := DataW.trod_struct Tryz.underlying73 h
  rw [cellsOp] at hlen
  match cs, hlen with
  | [v0, v1, v2, v3, v4, v5, v6, v7, v8], _ =>
    match xs, hxl with
    | [y0, y1, y2, y3, y4], _ =>
      have g0 := hf 0 _ rfl
      have g1 := hf 1 _ rfl
      have g2 := hf 2 _ rfl
      have g3 := hf 3 _ rfl
      have g4 := hf 4 _ rfl
      simp only [List.getElem?_cons_zero, List.getElem?_cons_succ] at g0 g1 g2 g3 g4
      obtain ⟨n0, e0, rfl, f0⟩ := DataW.trod_int Tryz.underlying3 g0
      obtain ⟨n1, e1, rfl, f1⟩ := DataW.trod_int Tryz.underlying3 g1
      obtain ⟨n2, e2, rfl, f2⟩ := DataW.trod_int Tryz.underlying3 g2
      obtain ⟨s, e8, rfl, _⟩ := DataW.trod_string Tryz.underlying9 g4
      obtain ⟨zs, m, rfl, rfl, _, hzl, hg⟩ := DataW.trod_struct Tryz.underlying30 g3
      match zs, hzl with
      | [z0, z1, z2, z3, z4], _ =>
        have k0 := hg 0 _ rfl
        have k1 := hg 1 _ rfl
        have k2 := hg 2 _ rfl
        have k3 := hg 3 _ rfl
        have k4 := hg 4 _ rfl
        simp only [List.getElem?_cons_zero, List.getElem?_cons_succ] at k0 k1 k2 k3 k4
        obtain ⟨n3, e3, rfl, f3⟩ := DataW.trod_int Tryz.underlying3 k0
        obtain ⟨n4, e4, rfl, f4⟩ := DataW.trod_int Tryz.underlying3 k1
        obtain ⟨n5, e5, rfl, f5⟩ := DataW.trod_int Tryz.underlying3 k2
        obtain ⟨n6, e6, rfl, f6⟩ := DataW.trod_int Tryz.underlying3 k3
        obtain ⟨n7, e7, rfl, f7⟩ := DataW.trod_int Tryz.underlying3 k4
        cases e0; cases e1; cases e2; cases e3; cases e4; cases e5; cases e6; cases e7; cases e8
        exact ⟨⟨n0, n1, n2, n3, n4, n5, n6, n7, s⟩, rfl, rfl, f0, f1, f2, f3, f4, f5, f6, f7⟩

/-- The argument: nil, or steps one behind another. -/
theorem open_script {fuel : Nat} {cs : List Value} {x : DataW H × List MemPlace} (h : DataW.trod enc Tryz.prog w base spare held fuel 22 cs = some x) :
    ∃ (ao : Option Addr) (b off len cap : Nat) (ops : Nat → Opr), cs = [.slice ao len cap] ∧ (0 < len → ao = some ⟨b, off, none⟩) ∧ Scr w b off len ops ∧ (0 < len → b < w.heap.size) ∧ (∀ i, i < len → (ops i).fits) ∧
      (len = 0 ∨ ∃ sp, x.1 = .slice ((List.range len).map fun i => (ops i).dat) sp) := by
  have inh : Inhabited Opr := ⟨⟨0, 0, 0, 0, 0, 0, 0, 0, .empty⟩⟩
  rcases open_slice Tryz.underlying22 h with ⟨rfl, rfl⟩ | ⟨a, len, cap, m, n, D, Pl, rfl, hb, hl, hm, hmm, rfl, hx⟩
  · exact ⟨none, 0, 0, 0, 0, fun _ => default, rfl, fun h => absurd h (by omega), fun i hi => absurd hi (by omega), fun h => absurd h (by omega), fun i hi => absurd hi (by omega), Or.inl rfl⟩
  have hlm : len ≤ m := by rw [hmm]; split <;> omega
  obtain ⟨ops, hops⟩ := choose_lt (α := Opr) (n := m) (p := fun i o => (∀ j, j < 9 → w.cell? (a.add (i * 9 + j)) = some (o.cs.getD j .nilIface)) ∧ D i = o.dat ∧ o.fits) (fun i hi => by
    obtain ⟨cs', h1, h2⟩ := hx i hi
    rw [cellsOp] at h1
    obtain ⟨_, _, hc⟩ := World.cells?_some h1
    obtain ⟨o, rfl, hd, hf⟩ := open_op h2
    refine ⟨o, fun j hj => ?_, hd, hf⟩
    have := hc j hj
    rw [add_add] at this
    rw [this]
    match j, hj with
    | 0, _ => rfl
    | 1, _ => rfl
    | 2, _ => rfl
    | 3, _ => rfl
    | 4, _ => rfl
    | 5, _ => rfl
    | 6, _ => rfl
    | 7, _ => rfl
    | 8, _ => rfl)
  obtain ⟨b, off, spot⟩ := a
  by_cases h0 : 0 < len
  · have hc0 := (hops 0 (by omega)).1 0 (by omega)
    have hspot : spot = none := by simpa [Addr.add] using World.cell?_spot hc0
    subst hspot
    refine ⟨some ⟨b, off, none⟩, b, off, len, cap, ops, rfl, fun _ => rfl, fun i hi j hj => ?_, fun _ => World.block_lt_of_cell? _ _ hc0, fun i hi => (hops i (by omega)).2.2, Or.inr ⟨(List.range (m - len)).map fun j => D (len + j), ?_⟩⟩
    · have := (hops i (by omega)).1 j hj
      rw [Go.WideShapes.add_plain] at this
      rw [Nat.add_assoc]
      exact this
    · show DataW.slice _ _ = DataW.slice _ _
      rw [List.map_congr_left (fun i hi => (hops i (by have := List.mem_range.1 hi; omega)).2.1)]
  · obtain rfl : len = 0 := by omega
    exact ⟨_, b, off, 0, cap, ops, rfl, fun h => absurd h (by omega), fun i hi => absurd hi (by omega), fun h => absurd h (by omega), fun i hi => absurd hi (by omega), Or.inl rfl⟩
end
end Go.Proofs.YtffamlbkmjmipaaGreatDoor.Law
