import Derived.Test.YtffamlbkmjmipaaGreatDoorPlayed1
import Derived.Test.YtffamlbkmjmipaaGreatDoorSeal
import Derived.Deep.RegionWith
import Derived.Deep.RegionHeld3
namespace Go.Proofs.YtffamlbkmjmipaaGreatDoor.Law
open Go.RowKit

set_option maxHeartbeats 2000000 in
set_option maxRecDepth 100000 in
theorem stepSeal_any (p : Value) (x : Opr) (w : World) (hx : x.k = 2) (hs : x.s.size ≤ 1048576) :
    Calls Tryz.prog 37 #[p, .agg x.cs] w fun e w' => e = .returned (.bool true) ∧ Below w.heap.size w w' := by
  obtain ⟨k, a, b, le, re, ca, bo, he, s⟩ := x
  simp only at hx hs
  subst hx
  simp only [Opr.cs] at *
  go_enter Tryz.func37, Tryz.ntmps37
  go_wp2_with fail
  go_region_with (first
    | (go_at_call 28; refine (Sums.seal_any s _ hs).mono ?_; rintro e w1 ⟨rfl, hb1⟩; have hc1 : w1.cell? ⟨w.heap.size, 8, none⟩ = some (.string s) := by rw [hb1.cell (by simp)]; simp [go_sem])
    | (go_at_call 58; refine (Sums.sealed_any s _ hs).mono ?_; rintro e w2 ⟨rfl, hb2⟩))
  all_goals
    go_wp2
    go_ret
    exact ⟨ret_bool (by simp), ((((Below.refl w.heap.size w).alloc (Nat.le_refl _) _).drew).trans (hb1.mono (by simp))).trans (hb2.mono (by have := hb1.size; simp at this; omega))⟩

end Go.Proofs.YtffamlbkmjmipaaGreatDoor.Law
