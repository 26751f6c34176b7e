import Derived.Test.YtffamlbkmjmipaaGreatDoorSealed
namespace Go.Proofs.YtffamlbkmjmipaaGreatDoor.Sums
open Go.RowKit
attribute [local go_sem] setCell_drewN
attribute [local go_sem] alloc_drewN

set_option maxHeartbeats 1000000 in
theorem sumof_any (s : ByteArray) (w : World) (hs : s.size ≤ 1048576) :
    Calls Tryz.prog 84 #[.string s] w fun e w' => e = .returned (.agg #[.int .u8 (sm s.data.toList s.size 0), .int .u8 (sm s.data.toList s.size 1), .int .u8 (sm s.data.toList s.size 2), .int .u8 (sm s.data.toList s.size 3)]) ∧ Below w.heap.size w w' := by
  go_enter Tryz.func84, Tryz.ntmps84
  go_wp2
  go_loopw [7] (fun i wr => ∃ k n : Nat, k ≤ s.size ∧ i = .int .i64 k ∧ wr = ((w.alloc (.cells #[.int .u8 0, .int .u8 0, .int .u8 0, .int .u8 0] 143)).alloc (.cells #[.int .u8 (sm s.data.toList k 0), .int .u8 (sm s.data.toList k 1), .int .u8 (sm s.data.toList k 2), .int .u8 (sm s.data.toList k 3)] 143)).drewN n) (fun i _ => s.size - (intOf i).toNat)
  case atStart => exact ⟨0, 0, Nat.zero_le _, rfl, rfl⟩
  case round =>
    obtain ⟨k, n, hk, rfl, rfl⟩ := hrel
    have b0 := sm_bd s.data.toList k 0
    have b1 := sm_bd s.data.toList k 1
    have b2 := sm_bd s.data.toList k 2
    have b3 := sm_bd s.data.toList k 3
    by_cases hlt : k < s.size
    · have hby : (s[k].toNat : Int) ≤ 255 := by have := s[k].toNat_lt; omega
      have hge : (s.data.toList[k]?.getD 0).toNat = s[k].toNat := by
        rw [List.getElem?_eq_getElem (by simpa using hlt)]; rfl
      have hm : k % 4 = 0 ∨ k % 4 = 1 ∨ k % 4 = 2 ∨ k % 4 = 3 := by omega
      have HG : Hid ((s.data.toList[k]?.getD 0).toNat = s[k].toNat) := hge
      clear hge
      rcases hm with hm | hm | hm | hm
      · have hmi : (k : Int) % 4 = 0 := by omega
        have HK : Hid (k % 4 = 0) := hm
        clear hm
        go_wp2
        go_region
        go_wp2
        go_roundw
        case rel =>
          refine ⟨k + 1, n + 1, by omega, by go_num, ?_⟩
          have e := HK.out
          rw [sm_same _ _ 0 e, sm_other _ _ 1 (by omega), sm_other _ _ 2 (by omega), sm_other _ _ 3 (by omega), HG.out]
        case measure => simp [intOf]; omega
      · have hmi : (k : Int) % 4 = 1 := by omega
        have HK : Hid (k % 4 = 1) := hm
        clear hm
        go_wp2
        go_region
        go_wp2
        go_roundw
        case rel =>
          refine ⟨k + 1, n + 1, by omega, by go_num, ?_⟩
          have e := HK.out
          rw [sm_same _ _ 1 e, sm_other _ _ 0 (by omega), sm_other _ _ 2 (by omega), sm_other _ _ 3 (by omega), HG.out]
        case measure => simp [intOf]; omega
      · have hmi : (k : Int) % 4 = 2 := by omega
        have HK : Hid (k % 4 = 2) := hm
        clear hm
        go_wp2
        go_region
        go_wp2
        go_roundw
        case rel =>
          refine ⟨k + 1, n + 1, by omega, by go_num, ?_⟩
          have e := HK.out
          rw [sm_same _ _ 2 e, sm_other _ _ 0 (by omega), sm_other _ _ 1 (by omega), sm_other _ _ 3 (by omega), HG.out]
        case measure => simp [intOf]; omega
      · have hmi : (k : Int) % 4 = 3 := by omega
        have HK : Hid (k % 4 = 3) := hm
        clear hm
        go_wp2
        go_region
        go_wp2
        go_roundw
        case rel =>
          refine ⟨k + 1, n + 1, by omega, by go_num, ?_⟩
          have e := HK.out
          rw [sm_same _ _ 3 e, sm_other _ _ 0 (by omega), sm_other _ _ 1 (by omega), sm_other _ _ 2 (by omega), HG.out]
        case measure => simp [intOf]; omega
    · obtain rfl : k = s.size := by omega
      go_wp2
      refine bodyPost_ret (v := .agg #[.int .u8 (sm s.data.toList s.size 0), .int .u8 (sm s.data.toList s.size 1), .int .u8 (sm s.data.toList s.size 2), .int .u8 (sm s.data.toList s.size 3)]) (by simp [results, Tryz.results84, go_sem]) rfl ⟨rfl, ?_⟩
      exact Below.drewN_of (((Below.refl _ _).alloc (Nat.le_refl _) _).alloc (by simp) _) n
end Go.Proofs.YtffamlbkmjmipaaGreatDoor.Sums
