import Derived.WalkKit
import Derived.RowKit3
import Derived.Below
namespace Go.Proofs.YtffamlbkmjmipaaGreatDoor.Sums
open Go.RowKit

/-- The j-th of the four sums, behind the first k bytes. -/
def sm (l : List UInt8) : Nat → Nat → Int
  | 0, _ => 0
  | k + 1, j => if k % 4 = j then (3 * sm l k j + ((l[k]?.getD 0).toNat : Int)) % 256 else sm l k j

theorem sm_bd (l : List UInt8) (k j : Nat) : 0 ≤ sm l k j ∧ sm l k j ≤ 255 := by
  induction k with
  | zero => simp [sm]
  | succ k ih =>
    unfold sm
    split
    · omega
    · exact ih

theorem sm_same (l : List UInt8) (k j : Nat) (h : k % 4 = j) : sm l (k + 1) j = (3 * sm l k j + ((l[k]?.getD 0).toNat : Int)) % 256 := by
  rw [sm, if_pos h]
theorem sm_other (l : List UInt8) (k j : Nat) (h : k % 4 ≠ j) : sm l (k + 1) j = sm l k j := by
  rw [sm, if_neg h]

/-- A digit of base 16. -/
def dg (n : Int) : UInt8 := if n < 10 then (48 + n.toNat).toUInt8 else (87 + n.toNat).toUInt8
/-- A sum's two digits. -/
def two (n : Int) : List UInt8 := [dg (n / 16), dg (n % 16)]
/-- The eight digits. -/
def hex (l : List UInt8) : List UInt8 := two (sm l l.length 0) ++ two (sm l l.length 1) ++ two (sm l l.length 2) ++ two (sm l l.length 3)
/-- A text as a line. -/
def line (l : List UInt8) : List UInt8 := l ++ [32] ++ hex l

/-- What stands behind j of the four sums. -/
def acc (l : List UInt8) (k : Nat) : Nat → List UInt8
  | 0 => l ++ [32]
  | j + 1 => acc l k j ++ two (sm l k j)

theorem acc_len (l : List UInt8) (k j : Nat) : (acc l k j).length = l.length + 1 + 2 * j := by
  induction j with
  | zero => simp [acc]
  | succ j ih => simp [acc, two, ih]; omega
theorem acc_bd (l : List UInt8) (k j n : Nat) (h : l.length ≤ n) (hj : j ≤ 4) : (acc l k j).length ≤ n + 9 := by
  rw [acc_len]; omega
theorem ba_append (a b : List UInt8) : (⟨a.toArray⟩ : ByteArray) ++ (⟨b.toArray⟩ : ByteArray) = ⟨(a ++ b).toArray⟩ := by
  apply ByteArray.ext
  simp
theorem ba_self (s : ByteArray) : (⟨s.data.toList.toArray⟩ : ByteArray) = s := by
  apply ByteArray.ext
  simp

def digits : ByteArray := ⟨#[48, 49, 50, 51, 52, 53, 54, 55, 56, 57, 97, 98, 99, 100, 101, 102]⟩
theorem digit_cut (x : Int) (h0 : 0 ≤ x) (h1 : x ≤ 15) : (⟨#[48, 49, 50, 51, 52, 53, 54, 55, 56, 57, 97, 98, 99, 100, 101, 102]⟩ : ByteArray).extract x.toNat (x + 1).toNat = ⟨[dg x].toArray⟩ := by
  obtain ⟨n, rfl⟩ := Int.eq_ofNat_of_zero_le h0
  have h : n < 16 := by omega
  have e : ∀ m : Fin 16, (⟨#[48, 49, 50, 51, 52, 53, 54, 55, 56, 57, 97, 98, 99, 100, 101, 102]⟩ : ByteArray).extract ((m.val : Int)).toNat ((m.val : Int) + 1).toNat = ⟨[dg (m.val : Int)].toArray⟩ := by decide +kernel
  exact e ⟨n, h⟩

theorem acc_step (l : List UInt8) (k j : Nat) : (⟨(acc l k j).toArray⟩ : ByteArray) ++ ((⟨#[48, 49, 50, 51, 52, 53, 54, 55, 56, 57, 97, 98, 99, 100, 101, 102]⟩ : ByteArray).extract (sm l k j / 16).toNat (sm l k j / 16 + 1).toNat ++ (⟨#[48, 49, 50, 51, 52, 53, 54, 55, 56, 57, 97, 98, 99, 100, 101, 102]⟩ : ByteArray).extract (sm l k j % 16).toNat (sm l k j % 16 + 1).toNat) = ⟨(acc l k (j + 1)).toArray⟩ := by
  have b := sm_bd l k j
  rw [digit_cut _ (by omega) (by omega), digit_cut _ (by omega) (by omega), ba_append, ba_append]
  rfl
theorem acc_four (l : List UInt8) : acc l l.length 4 = line l := by
  simp [acc, line, hex, List.append_assoc]
theorem acc_ret (l : List UInt8) (k : Nat) (h : k = l.length) : Ending.returned (.string ⟨(acc l k 4).toArray⟩) = .returned (.string ⟨(line l).toArray⟩) := by
  rw [h, acc_four]
theorem acc_zero (s : ByteArray) (k : Nat) : s ++ (⟨#[32]⟩ : ByteArray) = ⟨(acc s.data.toList k 0).toArray⟩ := by
  have h := ba_append s.data.toList [32]
  rw [ba_self] at h
  exact h
theorem str_congr {a b : ByteArray} (h : a = b) : Value.string a = .string b := by rw [h]
end Go.Proofs.YtffamlbkmjmipaaGreatDoor.Sums
