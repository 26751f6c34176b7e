import Derived.Test.YtffamlbkmjmipaaGreatDoorLaw
namespace Go.Proofs.YtffamlbkmjmipaaGreatDoor.Law
open Go.RowKit

set_option maxHeartbeats 2000000 in
set_option maxRecDepth 100000 in
theorem played1_any (x : Opr) (w : World) (hs : x.s.size ≤ 1048576) :
    Calls Tryz.prog 36 #[.agg x.cs, .int .i64 1] w fun e w' => e = .returned (.bool (x.k == 2)) ∧ Below w.heap.size w w' := by
  have hh := fun w => head_any x w hs
  have HH : Hid (∀ w, Calls Tryz.prog 54 #[.agg x.cs] w fun e w' => e = .returned (.string ⟨(hdOf x).toArray⟩) ∧ w' = w.alloc (.cells x.cs 73)) := hh
  clear hh
  generalize hdOf x = h at *
  obtain ⟨k, a, b, le, re, ca, bo, he, s⟩ := x
  by_cases hk : k = 3
  · subst hk
    simp only [Opr.cs] at *
    go_enter Tryz.func36, Tryz.ntmps36
    go_wp2_with fail
    refine (HH.out _).mono ?_
    rintro e w1 ⟨rfl, rfl⟩
    go_wp2_with fail
    go_loop [6] (fun i => ∃ j : Nat, j ≤ s.size ∧ i = .int .i64 j) (fun i => s.size - (intOf i).toNat)
    case atStart => exact ⟨0, Nat.zero_le _, rfl⟩
    case round =>
      obtain ⟨j, hj, rfl⟩ := hrel
      by_cases hlt : j < s.size
      · cases hq : ((s[j].toNat : Int) == 10)
        · go_wp2
          go_round
          case rel => exact ⟨j + 1, by omega, by go_num⟩
          case measure => simp [intOf]; omega
        · go_wp2
          go_ret
          exact ⟨rfl, ((Below.refl _ _).alloc (Nat.le_refl _) _).alloc (by simp) _⟩
      · obtain rfl : j = s.size := by omega
        go_wp2
        all_goals
          go_ret
          exact ⟨ret_bool rfl, ((Below.refl _ _).alloc (Nat.le_refl _) _).alloc (by simp) _⟩
  · have hk' : (k == 3) = false := by rw [beq_eq_false_iff_ne]; exact hk
    clear hk
    simp only [Opr.cs] at *
    go_enter Tryz.func36, Tryz.ntmps36
    go_wp2_with fail
    refine (HH.out _).mono ?_
    rintro e w1 ⟨rfl, rfl⟩
    go_wp2
    all_goals
      go_ret
      exact ⟨ret_bool (by first | rfl | simp [*]), ((Below.refl _ _).alloc (Nat.le_refl _) _).alloc (by simp) _⟩
end Go.Proofs.YtffamlbkmjmipaaGreatDoor.Law
