import Derived.Test.YtffamlbkmjmipaaGreatDoorSumOf
import Derived.Test.YtffamlbkmjmipaaGreatDoorSumStr
namespace Go.Proofs.YtffamlbkmjmipaaGreatDoor.Sums
open Go.RowKit
attribute [local go_sem] setCell_drewN
attribute [local go_sem] alloc_drewN

theorem hex_eq (s : ByteArray) : two (sm s.data.toList s.size 0) ++ two (sm s.data.toList s.size 1) ++ two (sm s.data.toList s.size 2) ++ two (sm s.data.toList s.size 3) = hex s.data.toList := by
  have e : s.size = s.data.toList.length := by simp
  rw [e]; rfl
theorem line_eq (s : ByteArray) : s ++ (⟨#[32]⟩ : ByteArray) ++ (⟨(two (sm s.data.toList s.size 0) ++ two (sm s.data.toList s.size 1) ++ two (sm s.data.toList s.size 2) ++ two (sm s.data.toList s.size 3)).toArray⟩ : ByteArray) = ⟨(line s.data.toList).toArray⟩ := by
  rw [acc_zero s 0, hex_eq, ba_append]; rfl

set_option maxHeartbeats 1000000 in
theorem wireSeal_any (s : ByteArray) (w : World) (hs : s.size ≤ 1048576) :
    Calls Tryz.prog 46 #[.string s] w fun e w' => e = .returned (.string ⟨(line s.data.toList).toArray⟩) ∧ Below w.heap.size w w' := by
  go_enter Tryz.func46, Tryz.ntmps46
  go_wp2_with fail
  refine (sumof_any s _ hs).mono ?_
  rintro e w1 ⟨rfl, hb1⟩
  go_wp2_with fail
  refine (sumstr_any _ _ _ _ _ (sm_bd _ _ _) (sm_bd _ _ _) (sm_bd _ _ _) (sm_bd _ _ _)).mono ?_
  rintro e w2 ⟨rfl, hb2⟩
  have hl : (two (sm s.data.toList s.size 0) ++ two (sm s.data.toList s.size 1) ++ two (sm s.data.toList s.size 2) ++ two (sm s.data.toList s.size 3)).length ≤ 8 := by simp [two]
  have HE := line_eq s
  have HH : Hid (s ++ (⟨#[32]⟩ : ByteArray) ++ (⟨(two (sm s.data.toList s.size 0) ++ two (sm s.data.toList s.size 1) ++ two (sm s.data.toList s.size 2) ++ two (sm s.data.toList s.size 3)).toArray⟩ : ByteArray) = ⟨(line s.data.toList).toArray⟩) := HE
  clear HE
  generalize two (sm s.data.toList s.size 0) ++ two (sm s.data.toList s.size 1) ++ two (sm s.data.toList s.size 2) ++ two (sm s.data.toList s.size 3) = hx at *
  go_wp2
  go_ret
  exact ⟨congrArg (fun x => Ending.returned (.string x)) HH.out, hb1.trans (hb2.mono hb1.size)⟩

theorem seal_any (s : ByteArray) (w : World) (hs : s.size ≤ 1048576) :
    Calls Tryz.prog 28 #[.string s] w fun e w' => e = .returned (.string ⟨(line s.data.toList).toArray⟩) ∧ Below w.heap.size w w' := by
  go_enter Tryz.func28, Tryz.ntmps28
  go_wp2_with fail
  refine (wireSeal_any s _ hs).mono ?_
  rintro e w1 ⟨rfl, hb1⟩
  go_wp2
  go_ret
  exact ⟨rfl, hb1⟩
end Go.Proofs.YtffamlbkmjmipaaGreatDoor.Sums
