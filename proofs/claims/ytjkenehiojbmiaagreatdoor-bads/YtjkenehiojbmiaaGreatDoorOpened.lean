import Derived.Test.YtjkenehiojbmiaaGreatDoorCut
namespace Go.Proofs.YtjkenehiojbmiaaGreatDoor.Msg
open Go.RowKit

/-- The text of a line. -/
def openL (l : List UInt8) : Option (List UInt8) := if 9 ≤ l.length ∧ l.length ≤ 80 ∧ Sums.line (l.take (l.length - 9)) = l then some (l.take (l.length - 9)) else none
def openS (l : List UInt8) : List UInt8 := (openL l).getD []
def openB (l : List UInt8) : Bool := (openL l).isSome

theorem open_no {l : List UInt8} (h : ¬ (9 ≤ l.length ∧ l.length ≤ 80 ∧ Sums.line (l.take (l.length - 9)) = l)) : openS l = [] ∧ openB l = false := by
  unfold openS openB openL; rw [if_neg h]; exact ⟨rfl, rfl⟩
theorem open_yes {l : List UInt8} (h : 9 ≤ l.length ∧ l.length ≤ 80 ∧ Sums.line (l.take (l.length - 9)) = l) : openS l = l.take (l.length - 9) ∧ openB l = true := by
  unfold openS openB openL; rw [if_pos h]; exact ⟨rfl, rfl⟩
theorem open_len {s : ByteArray} (hs : s.size ≤ 4194304) : (openS s.data.toList).length ≤ 4194304 := by
  unfold openS openL
  split
  · simp; omega
  · simp
theorem ret_open {l t : List UInt8} {b : Bool} (h : openS l = t ∧ openB l = b) : Ending.returned (.tuple #[.string ⟨t.toArray⟩, .bool b]) = .returned (.tuple #[.string ⟨(openS l).toArray⟩, .bool (openB l)]) := by
  rw [h.1, h.2]
theorem cut_head (s : ByteArray) (n : Nat) : s.extract 0 n = ⟨(s.data.toList.take n).toArray⟩ := by
  apply ByteArray.ext
  apply Array.ext'
  simp
theorem bytes_eq {s : ByteArray} {l : List UInt8} : (⟨l.toArray⟩ : ByteArray) = s ↔ l = s.data.toList := by
  constructor
  · intro h; rw [← h]
  · intro h; subst h; exact Sums.ba_self s

set_option maxHeartbeats 1000000 in
theorem opened_any (s : ByteArray) (w : World) (hs : s.size ≤ 4194304) :
    Calls Tryz.prog 70 #[.string s] w fun e w' => e = .returned (.tuple #[.string ⟨(openS s.data.toList).toArray⟩, .bool (openB s.data.toList)]) ∧ Below w.heap.size w w' := by
  have e0 : s.data.toList.length = s.size := by simp
  by_cases h9 : s.size < 9
  · have HF : Hid (openS s.data.toList = [] ∧ openB s.data.toList = false) := open_no (by omega)
    clear e0
    go_enter Tryz.func70, Tryz.ntmps70
    go_wp2
    go_ret2
    exact ⟨ret_open HF.out, Below.refl _ _⟩
  obtain ⟨n, hn⟩ : ∃ n, s.size = n + 9 := ⟨s.size - 9, by omega⟩
  have hd9 : decide ((s.size : Int) - 9 < 0) = false := by simp; omega
  by_cases h80 : 80 < s.size
  · have HF : Hid (openS s.data.toList = [] ∧ openB s.data.toList = false) := open_no (by omega)
    clear e0 hn
    go_enter Tryz.func70, Tryz.ntmps70
    go_wp2
    go_ret2
    exact ⟨ret_open HF.out, Below.refl _ _⟩
  have hd80 : decide (80 < (s.size : Int)) = false := by simp; omega
  have htk : s.data.toList.length - 9 = n := by omega
  by_cases hq : Sums.line (s.data.toList.take n) = s.data.toList
  · have HF : Hid (openS s.data.toList = s.data.toList.take n ∧ openB s.data.toList = true) := htk ▸ open_yes ⟨by omega, by omega, by rw [htk]; exact hq⟩
    have HC : Hid (s.extract 0 n = ⟨(s.data.toList.take n).toArray⟩) := cut_head s n
    have hns : (s.extract 0 n).size ≤ 1048576 := by simp; omega
    have HSL : Hid ((s.extract 0 n).data.toList = s.data.toList.take n) := by show _ = _; rw [cut_head s n]
    clear e0 htk
    go_enter Tryz.func70, Tryz.ntmps70
    go_wp2_with fail
    refine (Sums.sealed_any _ _ hns).mono ?_
    rintro e w1 ⟨rfl, hb1⟩
    rw [HSL.out, hq, Sums.ba_self]
    clear hq
    go_wp2
    go_ret2
    exact ⟨by rw [HC.out]; exact ret_open HF.out, hb1⟩
  · have HF : Hid (openS s.data.toList = [] ∧ openB s.data.toList = false) := open_no (by rw [htk]; exact fun h => hq h.2.2)
    have hns : (s.extract 0 n).size ≤ 1048576 := by simp; omega
    have HSL : Hid ((s.extract 0 n).data.toList = s.data.toList.take n) := by show _ = _; rw [cut_head s n]
    have hne : ((⟨(Sums.line (s.data.toList.take n)).toArray⟩ : ByteArray).toList == s.toList) = false := by rw [ByteArray.toList_eq, ByteArray.toList_eq, beq_eq_false_iff_ne]; exact hq
    clear e0 htk hq
    go_enter Tryz.func70, Tryz.ntmps70
    go_wp2_with fail
    refine (Sums.sealed_any _ _ hns).mono ?_
    rintro e w1 ⟨rfl, hb1⟩
    rw [HSL.out]
    generalize (⟨(Sums.line (s.data.toList.take n)).toArray⟩ : ByteArray) = t at *
    go_wp2
    go_ret2
    exact ⟨ret_open HF.out, hb1⟩
end Go.Proofs.YtjkenehiojbmiaaGreatDoor.Msg
