import Derived.Test.YtjkenehiojbmiaaGreatDoorLaw
import Derived.Test.YtjkenehiojbmiaaGreatDoorLine
namespace Go.Proofs.YtjkenehiojbmiaaGreatDoor.Law
open Go.RowKit Mdl

/-- Which of n things a number speaks of. -/
def pickI (c : Int) (n : Nat) : Nat := ((if c < 0 then -(c + 1) else c) % n).toNat
theorem pickI_lt (c : Int) (n : Nat) (hn : 0 < n) : pickI c n < n := by
  unfold pickI
  generalize (if c < 0 then -(c + 1) else c) = z
  have h0 := Int.emod_nonneg z (b := (n : Int)) (by omega)
  have h1 := Int.emod_lt_of_pos z (b := (n : Int)) (by omega)
  omega
theorem pick_fin {z : Int} {i : Nat} (h : z = (i : Int)) : Ending.returned (.int .i64 z) = .returned (.int .i64 (i : Int)) := by rw [h]
set_option maxHeartbeats 1000000 in
theorem pick_any (c : Int) (n : Nat) (w : World) (hn : 0 < n) (hn2 : n ≤ 4194304) (hc : -9223372036854775808 ≤ c ∧ c ≤ 9223372036854775807) :
    Calls Tryz.prog 21 #[.int .i64 c, .int .i64 n] w fun e w' => e = .returned (.int .i64 (pickI c n)) ∧ w' = w := by
  have hnn : ∀ z : Int, 0 ≤ z % (n : Int) := fun z => Int.emod_nonneg z (by omega)
  by_cases h : c < 0
  · have HE : Hid (-((c + 1).tmod (n : Int)) = (pickI c n : Int)) := by
      show _ = _
      unfold pickI
      rw [if_pos h, ← Int.neg_tmod, Int.tmod_eq_emod_of_nonneg (by omega)]
      have := hnn (-(c + 1))
      omega
    clear hnn
    go_enter Tryz.func21, Tryz.ntmps21
    go_wp2
    go_ret
    exact ⟨pick_fin HE.out, rfl⟩
  · have HE : Hid (c % (n : Int) = (pickI c n : Int)) := by
      show _ = _
      unfold pickI
      rw [if_neg h]
      have := hnn c
      omega
    clear hnn
    go_enter Tryz.func21, Tryz.ntmps21
    go_wp2
    go_ret
    exact ⟨pick_fin HE.out, rfl⟩

theorem outRow_at (l : List (Int × List UInt8)) (k : Nat) (hk : k < l.length) : (outRow l)[k * 2]? = some (.int .i64 (l[k]'hk).1) ∧ (outRow l)[k * 2 + 1]? = some (.string ⟨(l[k]'hk).2.toArray⟩) := by
  induction l generalizing k with
  | nil => simp at hk
  | cons c l ih =>
    rw [outRow, List.flatMap_cons]
    match k with
    | 0 => exact ⟨rfl, rfl⟩
    | k + 1 =>
      have := ih k (by simpa using hk)
      have e1 : (k + 1) * 2 = k * 2 + 2 := by omega
      rw [e1]
      exact this
theorem out_cell {w : World} {base g cap n : Nat} {l : List (Int × List UInt8)} (h : w.ownsRow base 64 2 (.slice (some ⟨g, 0, none⟩) n cap) n (outRow l)) {k : Nat} (hk : k < l.length) (hn : n = l.length) :
    w.cell? ⟨g, k * 2, none⟩ = some (.int .i64 (l[k]'hk).1) ∧ w.cell? ⟨g, k * 2 + 1, none⟩ = some (.string ⟨(l[k]'hk).2.toArray⟩) := by
  subst hn
  rw [h.cellAt (k * 2) (by omega), h.cellAt (k * 2 + 1) (by omega)]
  exact outRow_at l k hk

theorem row_form {w : World} {base : Nat} {e : TypeId} {size : Nat} {v : Value} {n : Nat} {xs : List Value} (h : w.ownsRow base e size v n xs) : ∃ ao cap, v = .slice ao n cap ∧ n ≤ cap ∧ (0 < n → ∃ g, ao = some ⟨g, 0, none⟩) := by
  rcases h.2 with ⟨h, h0⟩ | ⟨g, cap, cur, h, _, _, hn, _⟩
  · exact ⟨none, 0, by rw [h, h0], by omega, fun hh => absurd hh (by omega)⟩
  · exact ⟨_, cap, h, hn, fun _ => ⟨g, rfl⟩⟩

set_option maxHeartbeats 1000000 in
theorem same_any (a b : Value) (ba bb : Nat) (l : List (Int × List UInt8)) (w : World) (ha : w.ownsRow ba 64 2 a l.length (outRow l)) (hb : w.ownsRow bb 64 2 b l.length (outRow l)) (hl : l.length ≤ 4194304) :
    Calls Tryz.prog 30 #[a, b] w fun e w' => e = .returned (.bool true) ∧ Below w.heap.size w w' := by
  obtain ⟨ao, ca, rfl, hca, hao⟩ := row_form ha
  obtain ⟨bo, cb, rfl, hcb, hbo⟩ := row_form hb
  have HA : Hid (0 < l.length → ∃ g, ao = some ⟨g, 0, none⟩) := hao
  have HB : Hid (0 < l.length → ∃ g, bo = some ⟨g, 0, none⟩) := hbo
  clear hao hbo
  go_enter Tryz.func30, Tryz.ntmps30
  go_wp2
  go_loopw [13] (fun i wr => ∃ k : Nat, k ≤ l.length ∧ i = .int .i64 k ∧ Below w.heap.size w wr) (fun i _ => l.length - (intOf i).toNat)
  case atStart => exact ⟨0, Nat.zero_le _, rfl, Below.refl _ _⟩
  case round =>
    obtain ⟨k, hk, rfl, hB⟩ := hrel
    by_cases hlt : k < l.length
    · obtain ⟨ga, rfl⟩ := HA.out (by omega)
      obtain ⟨gb, rfl⟩ := HB.out (by omega)
      obtain ⟨a1, a2⟩ := out_cell ((((Only.refl (fun _ => False) w).below hB)).row ha (fun _ _ h => h)) hlt rfl
      obtain ⟨b1, b2⟩ := out_cell ((((Only.refl (fun _ => False) w).below hB)).row hb (fun _ _ h => h)) hlt rfl
      go_wp2
      go_quiet (fail)
      go_wp2
      go_roundw
      case rel => exact ⟨k + 1, by omega, by go_num, ⟨hB.os, hB.tape, hB.output, hB.size, hB.block⟩⟩
      case measure => simp [intOf]; omega
    · obtain rfl : k = l.length := by omega
      go_wp2
      go_ret
      exact ⟨rfl, hB⟩
end Go.Proofs.YtjkenehiojbmiaaGreatDoor.Law
