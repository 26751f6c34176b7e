import Derived.Test.YtffamlbkmjmipaaGreatDoorChecked
import Derived.Test.YtffamlbkmjmipaaGreatDoorSums
import Derived.WalkKit
import Derived.WalkSpells
import Derived.RegionTactic
import Derived.ChangeAlike
import Derived.Deep.QuietTactic
import Derived.BigQuiet
import Derived.BigRegion
import Derived.OpenShut
namespace Go.Proofs.YtffamlbkmjmipaaGreatDoor.Sums
open Go.RowKit

theorem setCell_drewN (w : World) (n : Nat) (a : Addr) (v : Value) : (w.drewN n).setCell a v = (w.setCell a v).drewN n := rfl
theorem alloc_drewN (w : World) (n : Nat) (o : Obj) : (w.drewN n).alloc o = (w.alloc o).drewN n := rfl
attribute [local go_sem] setCell_drewN
attribute [local go_sem] alloc_drewN

theorem Below.drewN_of {B : Nat} {a w : World} (h : Below B a w) (n : Nat) : Below B a (w.drewN n) := ⟨h.os, h.tape, h.output, h.size, h.block⟩

set_option maxHeartbeats 1000000 in
theorem sealed_any (s : ByteArray) (w : World) (hs : s.size ≤ 1048576) :
    Calls Tryz.prog 58 #[.string s] w fun e w' => e = .returned (.string ⟨(line s.data.toList).toArray⟩) ∧ Below w.heap.size w w' := by
  go_enter Tryz.func58, Tryz.ntmps58
  go_wp2
  go_loopw [4] (fun i wr => ∃ k n : Nat, k ≤ s.size ∧ i = .int .i64 k ∧ wr = (w.alloc (.cells #[.int .i64 (sm s.data.toList k 0), .int .i64 (sm s.data.toList k 1), .int .i64 (sm s.data.toList k 2), .int .i64 (sm s.data.toList k 3)] 3)).drewN n) (fun i _ => s.size - (intOf i).toNat)
  case atStart => exact ⟨0, 0, Nat.zero_le _, rfl, rfl⟩
  case round =>
    obtain ⟨k, n, hk, rfl, rfl⟩ := hrel
    have b0 := sm_bd s.data.toList k 0
    have b1 := sm_bd s.data.toList k 1
    have b2 := sm_bd s.data.toList k 2
    have b3 := sm_bd s.data.toList k 3
    by_cases hlt : k < s.size
    · have hby : (s[k].toNat : Int) ≤ 255 := by have := s[k].toNat_lt; omega
      have hge : (s.data.toList[k]?.getD 0).toNat = s[k].toNat := by
        rw [List.getElem?_eq_getElem (by simpa using hlt)]; rfl
      have hm : k % 4 = 0 ∨ k % 4 = 1 ∨ k % 4 = 2 ∨ k % 4 = 3 := by omega
      have HG : Hid ((s.data.toList[k]?.getD 0).toNat = s[k].toNat) := hge
      clear hge
      rcases hm with hm | hm | hm | hm
      · have hmi : (k : Int) % 4 = 0 := by omega
        have HK : Hid (k % 4 = 0) := hm
        clear hm
        go_wp2
        go_region
        go_wp2
        go_roundw
        case rel =>
          refine ⟨k + 1, n + 1, by omega, by go_num, ?_⟩
          have e := HK.out
          rw [sm_same _ _ 0 e, sm_other _ _ 1 (by omega), sm_other _ _ 2 (by omega), sm_other _ _ 3 (by omega), HG.out]
        case measure => simp [intOf]; omega
      · have hmi : (k : Int) % 4 = 1 := by omega
        have HK : Hid (k % 4 = 1) := hm
        clear hm
        go_wp2
        go_region
        go_wp2
        go_roundw
        case rel =>
          refine ⟨k + 1, n + 1, by omega, by go_num, ?_⟩
          have e := HK.out
          rw [sm_same _ _ 1 e, sm_other _ _ 0 (by omega), sm_other _ _ 2 (by omega), sm_other _ _ 3 (by omega), HG.out]
        case measure => simp [intOf]; omega
      · have hmi : (k : Int) % 4 = 2 := by omega
        have HK : Hid (k % 4 = 2) := hm
        clear hm
        go_wp2
        go_region
        go_wp2
        go_roundw
        case rel =>
          refine ⟨k + 1, n + 1, by omega, by go_num, ?_⟩
          have e := HK.out
          rw [sm_same _ _ 2 e, sm_other _ _ 0 (by omega), sm_other _ _ 1 (by omega), sm_other _ _ 3 (by omega), HG.out]
        case measure => simp [intOf]; omega
      · have hmi : (k : Int) % 4 = 3 := by omega
        have HK : Hid (k % 4 = 3) := hm
        clear hm
        go_wp2
        go_region
        go_wp2
        go_roundw
        case rel =>
          refine ⟨k + 1, n + 1, by omega, by go_num, ?_⟩
          have e := HK.out
          rw [sm_same _ _ 3 e, sm_other _ _ 0 (by omega), sm_other _ _ 1 (by omega), sm_other _ _ 2 (by omega), HG.out]
        case measure => simp [intOf]; omega
    · have HK : Hid (k = s.data.toList.length) := by
        have e : s.data.toList.length = s.size := by simp
        show k = _
        omega
      go_wp2
      go_loopw [35, 5] (fun i o wr => ∃ j n : Nat, j ≤ 4 ∧ i = .int .i64 j ∧ o = .string ⟨(acc s.data.toList k j).toArray⟩ ∧ wr = (w.alloc (.cells #[.int .i64 (sm s.data.toList k 0), .int .i64 (sm s.data.toList k 1), .int .i64 (sm s.data.toList k 2), .int .i64 (sm s.data.toList k 3)] 3)).drewN n) (fun i _ _ => 4 - (intOf i).toNat)
      case atStart => exact ⟨0, n, by omega, rfl, str_congr (acc_zero s k), rfl⟩
      case round =>
        obtain ⟨j, n, hj, rfl, rfl, rfl⟩ := hrel
        have hal := acc_bd s.data.toList k j 1048576 (by simpa using hs) hj
        by_cases hlt4 : j < 4
        · have hm : j = 0 ∨ j = 1 ∨ j = 2 ∨ j = 3 := by omega
          rcases hm with rfl | rfl | rfl | rfl
          · go_wp2
            go_quiet (fail)
            go_wp2
            go_roundw
            case rel => exact ⟨_, _, by omega, by go_num, str_congr (acc_step _ _ _), rfl⟩
            case measure => simp [intOf]
          · go_wp2
            go_quiet (fail)
            go_wp2
            go_roundw
            case rel => exact ⟨_, _, by omega, by go_num, str_congr (acc_step _ _ _), rfl⟩
            case measure => simp [intOf]
          · go_wp2
            go_quiet (fail)
            go_wp2
            go_roundw
            case rel => exact ⟨_, _, by omega, by go_num, str_congr (acc_step _ _ _), rfl⟩
            case measure => simp [intOf]
          · go_wp2
            go_quiet (fail)
            go_wp2
            go_roundw
            case rel => exact ⟨_, _, by omega, by go_num, str_congr (acc_step _ _ _), rfl⟩
            case measure => simp [intOf]
        · obtain rfl : j = 4 := by omega
          go_wp2
          go_ret
          refine ⟨?_, ?_⟩
          · exact acc_ret _ _ HK.out
          · exact Below.drewN_of ((Below.refl _ _).alloc (Nat.le_refl _) _) n
end Go.Proofs.YtffamlbkmjmipaaGreatDoor.Sums
