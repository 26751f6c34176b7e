import Derived.Test.YtjkenehiojbmiaaGreatDoorShelfB
import Derived.Test.YtjkenehiojbmiaaGreatDoorSeal
import Derived.Test.YtjkenehiojbmiaaGreatDoorOpened
namespace Go.Proofs.YtjkenehiojbmiaaGreatDoor.Sums
open Go.RowKit
attribute [local go_sem] setCell_drewN
attribute [local go_sem] alloc_drewN

/-- What a digit of base 16 is worth; -1. -/
def dv (c : UInt8) : Int := if 48 ≤ c.toNat ∧ c.toNat ≤ 57 then c.toNat - 48 else if 97 ≤ c.toNat ∧ c.toNat ≤ 102 then c.toNat - 87 else -1
set_option maxRecDepth 100000 in
theorem dv_ix : ∀ c : UInt8, Lib.indexByte [48, 49, 50, 51, 52, 53, 54, 55, 56, 57, 97, 98, 99, 100, 101, 102] c = dv c := by
  have h : ∀ n : Fin 256, Lib.indexByte [48, 49, 50, 51, 52, 53, 54, 55, 56, 57, 97, 98, 99, 100, 101, 102] (UInt8.ofNat n.val) = dv (UInt8.ofNat n.val) := by decide +kernel
  intro c
  have := h ⟨c.toNat, c.toNat_lt⟩
  simpa using this
theorem dv_bd (c : UInt8) : -1 ≤ dv c ∧ dv c ≤ 15 := by
  unfold dv; split
  · omega
  · split <;> omega
theorem indexDigit (c : UInt8) (w : World) : Calls Tryz.prog 94 #[.string ⟨#[48, 49, 50, 51, 52, 53, 54, 55, 56, 57, 97, 98, 99, 100, 101, 102]⟩, .int .u8 (c.toNat : Int)] w fun e w' => e = .returned (.int .i64 (dv c)) ∧ w' = w := by
  refine (Tryz.strings_IndexByte ⟨#[48, 49, 50, 51, 52, 53, 54, 55, 56, 57, 97, 98, 99, 100, 101, 102]⟩ (c.toNat : Int) w).mono ?_
  rintro e w' ⟨rfl, rfl⟩
  refine ⟨?_, rfl⟩
  have e1 : ((c.toNat : Int).toNat).toUInt8 = c := by simp
  rw [e1]
  exact congrArg (fun x => Ending.returned (.int .i64 x)) (dv_ix c)

/-- A part of the sum that eight digits say. -/
def part (l : List UInt8) (j : Nat) : Int := 16 * dv (l[2 * j]?.getD 0) + dv (l[2 * j + 1]?.getD 0)
def partAt (l : List UInt8) (k j : Nat) : Int := if j < k then part l j else 0
/-- Eight digits. -/
def digitsOk (l : List UInt8) : Prop := ∀ i, i < 8 → 0 ≤ dv (l[i]?.getD 0)

def ReadSumPost (l : List UInt8) (w : World) (e : Ending) (w' : World) : Prop :=
  ((digitsOk l ∧ e = .returned (.tuple #[.agg #[.int .u8 (part l 0), .int .u8 (part l 1), .int .u8 (part l 2), .int .u8 (part l 3)], .bool true])) ∨
   (¬ digitsOk l ∧ e = .returned (.tuple #[.agg #[.int .u8 0, .int .u8 0, .int .u8 0, .int .u8 0], .bool false]))) ∧ Below w.heap.size w w'

theorem or16 : ∀ h l : Fin 16, bits .or .i64 ((h.val : Int) * 16) (l.val : Int) % 256 = 16 * (h.val : Int) + (l.val : Int) := by decide +kernel
theorem part_or {h l : Int} (hh : 0 ≤ h ∧ h ≤ 15) (hl : 0 ≤ l ∧ l ≤ 15) : bits .or .i64 (h * 16) l % 256 = 16 * h + l := by
  have := or16 ⟨h.toNat, by omega⟩ ⟨l.toNat, by omega⟩
  simp only [Int.toNat_of_nonneg hh.1, Int.toNat_of_nonneg hl.1] at this
  exact this
theorem part_new {l : List UInt8} {k : Nat} {h v : Int} (hh : dv (l[2 * k]?.getD 0) = h) (hl : dv (l[2 * k + 1]?.getD 0) = v) : 16 * h + v = partAt l (k + 1) k := by
  rw [partAt, if_pos (Nat.lt_succ_self k), part, hh, hl]
theorem part_old (l : List UInt8) {k j : Nat} (h : j ≠ k) : partAt l k j = partAt l (k + 1) j := by
  unfold partAt
  by_cases h' : j < k
  · rw [if_pos h', if_pos (by omega)]
  · rw [if_neg h', if_neg (by omega)]
theorem byte_at (s : ByteArray) (i : Nat) (h : i < s.size) : s.data.toList[i]?.getD 0 = s[i] := by
  rw [List.getElem?_eq_getElem (by simpa using h)]; rfl
set_option maxHeartbeats 4000000 in
set_option maxRecDepth 100000 in
theorem readSum_any (s : ByteArray) (w : World) (hs : s.size = 8) : Calls Tryz.prog 78 #[.string s] w (ReadSumPost s.data.toList w) := by
  have HIX : Hid (∀ c w, Calls Tryz.prog 94 #[.string ⟨#[48, 49, 50, 51, 52, 53, 54, 55, 56, 57, 97, 98, 99, 100, 101, 102]⟩, .int .u8 (UInt8.toNat c : Int)] w fun e w' => e = .returned (.int .i64 (dv c)) ∧ w' = w) := indexDigit
  have hs1 : ((s.size : Int) != 8) = false := by rw [hs]; rfl
  go_enter Tryz.func78, Tryz.ntmps78
  go_wp2
  go_loopw [12] (fun i wr => ∃ k : Nat, k ≤ 4 ∧ i = .int .i64 k ∧ Hid (∀ i, i < 2 * k → 0 ≤ dv (s.data.toList[i]?.getD 0)) ∧ wr = ((w.alloc (.cells #[.int .u8 0, .int .u8 0, .int .u8 0, .int .u8 0] 116)).alloc (.cells #[.int .u8 (partAt s.data.toList k 0), .int .u8 (partAt s.data.toList k 1), .int .u8 (partAt s.data.toList k 2), .int .u8 (partAt s.data.toList k 3)] 116))) (fun i _ => 4 - (intOf i).toNat)
  case atStart => exact ⟨0, Nat.zero_le _, rfl, (by intro i hi; omega), rfl⟩
  case round =>
    obtain ⟨k, hk, rfl, HD, rfl⟩ := hrel
    by_cases hlt : k < 4
    · obtain ⟨h, hh⟩ : ∃ h, dv (s.data.toList[2 * k]?.getD 0) = h := ⟨_, rfl⟩
      obtain ⟨l, hl⟩ : ∃ l, dv (s.data.toList[2 * k + 1]?.getD 0) = l := ⟨_, rfl⟩
      have hhb := dv_bd (s.data.toList[2 * k]?.getD 0)
      have hlb := dv_bd (s.data.toList[2 * k + 1]?.getD 0)
      rw [hh] at hhb
      rw [hl] at hlb
      have HC1 : Hid (∀ w, Calls Tryz.prog 94 #[.string ⟨#[48, 49, 50, 51, 52, 53, 54, 55, 56, 57, 97, 98, 99, 100, 101, 102]⟩, .int .u8 (s[2 * k].toNat : Int)] w fun e w' => e = .returned (.int .i64 h) ∧ w' = w) := fun w => by rw [← hh, ← byte_at s (2 * k) (by omega)]; exact HIX.out _ w
      have HC2 : Hid (∀ w, Calls Tryz.prog 94 #[.string ⟨#[48, 49, 50, 51, 52, 53, 54, 55, 56, 57, 97, 98, 99, 100, 101, 102]⟩, .int .u8 (s[2 * k + 1].toNat : Int)] w fun e w' => e = .returned (.int .i64 l) ∧ w' = w) := fun w => by rw [← hl, ← byte_at s (2 * k + 1) (by omega)]; exact HIX.out _ w
      have HH : Hid (dv (s.data.toList[2 * k]?.getD 0) = h) := hh
      have HL : Hid (dv (s.data.toList[2 * k + 1]?.getD 0) = l) := hl
      clear hh hl HIX
      by_cases h0 : h < 0
      · have HNO : Hid (¬ digitsOk s.data.toList) := fun hd => by have := hd (2 * k) (by omega); rw [HH.out] at this; omega
        go_wp2_with fail
        refine (HC1.out _).mono ?_
        rintro e w1 ⟨rfl, rfl⟩
        go_wp2_with fail
        refine (HC2.out _).mono ?_
        rintro e w1 ⟨rfl, rfl⟩
        go_wp2
        refine bodyPost_ret (v := .tuple #[.agg #[.int .u8 0, .int .u8 0, .int .u8 0, .int .u8 0], .bool false]) (by simp [results, Tryz.results78, go_sem]) rfl ⟨Or.inr ⟨HNO.out, rfl⟩, ?_⟩
        exact (((Below.refl _ _).alloc (Nat.le_refl _) _).alloc (by simp) _)
      have h0d : decide (h < 0) = false := by simp; omega
      by_cases l0 : l < 0
      · have HNO : Hid (¬ digitsOk s.data.toList) := fun hd => by have := hd (2 * k + 1) (by omega); rw [HL.out] at this; omega
        go_wp2_with fail
        refine (HC1.out _).mono ?_
        rintro e w1 ⟨rfl, rfl⟩
        go_wp2_with fail
        refine (HC2.out _).mono ?_
        rintro e w1 ⟨rfl, rfl⟩
        go_wp2
        refine bodyPost_ret (v := .tuple #[.agg #[.int .u8 0, .int .u8 0, .int .u8 0, .int .u8 0], .bool false]) (by simp [results, Tryz.results78, go_sem]) rfl ⟨Or.inr ⟨HNO.out, rfl⟩, ?_⟩
        exact (((Below.refl _ _).alloc (Nat.le_refl _) _).alloc (by simp) _)
      have l0d : decide (l < 0) = false := by simp; omega
      have HD2 : Hid (∀ i, i < 2 * (k + 1) → 0 ≤ dv (s.data.toList[i]?.getD 0)) := fun i hi => by
        rcases Nat.lt_or_ge i (2 * k) with h' | h'
        · exact HD.out i h'
        · rcases Nat.lt_or_ge i (2 * k + 1) with h'' | h''
          · obtain rfl : i = 2 * k := by omega
            rw [HH.out]; omega
          · obtain rfl : i = 2 * k + 1 := by omega
            rw [HL.out]; omega
      clear HD
      go_wp2_with fail
      refine (HC1.out _).mono ?_
      rintro e w1 ⟨rfl, rfl⟩
      go_wp2_with fail
      refine (HC2.out _).mono ?_
      rintro e w1 ⟨rfl, rfl⟩
      have hk4 : k = 0 ∨ k = 1 ∨ k = 2 ∨ k = 3 := by omega
      rcases hk4 with rfl | rfl | rfl | rfl
      · go_wp2
        refine ⟨⟨1, by omega, rfl, HD2, ?_⟩, by simp [intOf]⟩
        rw [part_or (by omega) (by omega), part_new HH.out HL.out, part_old s.data.toList (k := 0) (j := 1) (by decide), part_old s.data.toList (k := 0) (j := 2) (by decide), part_old s.data.toList (k := 0) (j := 3) (by decide)]
      · go_wp2
        refine ⟨⟨2, by omega, rfl, HD2, ?_⟩, by simp [intOf]⟩
        rw [part_or (by omega) (by omega), part_new HH.out HL.out, part_old s.data.toList (k := 1) (j := 0) (by decide), part_old s.data.toList (k := 1) (j := 2) (by decide), part_old s.data.toList (k := 1) (j := 3) (by decide)]
      · go_wp2
        refine ⟨⟨3, by omega, rfl, HD2, ?_⟩, by simp [intOf]⟩
        rw [part_or (by omega) (by omega), part_new HH.out HL.out, part_old s.data.toList (k := 2) (j := 0) (by decide), part_old s.data.toList (k := 2) (j := 1) (by decide), part_old s.data.toList (k := 2) (j := 3) (by decide)]
      · go_wp2
        refine ⟨⟨4, by omega, rfl, HD2, ?_⟩, by simp [intOf]⟩
        rw [part_or (by omega) (by omega), part_new HH.out HL.out, part_old s.data.toList (k := 3) (j := 0) (by decide), part_old s.data.toList (k := 3) (j := 1) (by decide), part_old s.data.toList (k := 3) (j := 2) (by decide)]
    · obtain rfl : k = 4 := by omega
      have HOK : Hid (digitsOk s.data.toList) := fun i hi => HD.out i (by omega)
      go_wp2
      refine bodyPost_ret (v := .tuple #[.agg #[.int .u8 (partAt s.data.toList 4 0), .int .u8 (partAt s.data.toList 4 1), .int .u8 (partAt s.data.toList 4 2), .int .u8 (partAt s.data.toList 4 3)], .bool true]) (by simp [results, Tryz.results78, go_sem]) rfl ⟨Or.inl ⟨HOK.out, rfl⟩, ?_⟩
      exact (((Below.refl _ _).alloc (Nat.le_refl _) _).alloc (by simp) _)
end Go.Proofs.YtjkenehiojbmiaaGreatDoor.Sums
