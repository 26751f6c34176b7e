import Derived.Test.YtjkenehiojbmiaaGreatDoorWords
import Derived.Lib.ValidLaws
import Derived.Lib.OthersKept
namespace Go.Proofs.YtjkenehiojbmiaaGreatDoor.Msg
open Go.RowKit

theorem byteAt_D (l : List UInt8) (i : Nat) : byteAt l i = ((l.getD i 0).toNat : Int) := rfl
theorem dec_nat (i len a b c d : Nat) (hi : i < len) (ha : a < 256) (hv : ¬ ((Lib.decodeN (len - i) a b c d).1 = 65533 ∧ (Lib.decodeN (len - i) a b c d).2 = 1)) (hr : (Lib.decodeN (len - i) a b c d).1 ≤ 65535) :
  (if (a : Int) < 128 then some ((a : Int), 1)
  else if 194 ≤ (a : Int) ∧ (a : Int) < 224 then (if i + 2 ≤ len ∧ (decide (128 ≤ (b : Int)) && decide ((b : Int) ≤ 191)) = true then some (64 * ((a : Int) % 32) + (b : Int) % 64, 2) else none)
  else if 224 ≤ (a : Int) ∧ (a : Int) < 240 then (if i + 3 ≤ len ∧ (decide (128 ≤ (b : Int)) && decide ((b : Int) ≤ 191)) = true ∧ (decide (128 ≤ (c : Int)) && decide ((c : Int) ≤ 191)) = true ∧ ¬ (64 * (64 * ((a : Int) % 16) + (b : Int) % 64) + (c : Int) % 64 < 2048 ∨ 55296 ≤ 64 * (64 * ((a : Int) % 16) + (b : Int) % 64) + (c : Int) % 64 ∧ 64 * (64 * ((a : Int) % 16) + (b : Int) % 64) + (c : Int) % 64 < 57344) then some (64 * (64 * ((a : Int) % 16) + (b : Int) % 64) + (c : Int) % 64, 3) else none)
  else none) = some (((Lib.decodeN (len - i) a b c d).1 : Int), (Lib.decodeN (len - i) a b c d).2) := by
  have on : ∀ x : Nat, x / 64 = 2 → (decide (128 ≤ (x : Int)) && decide ((x : Int) ≤ 191)) = true := fun x h => by
    rw [Bool.and_eq_true, decide_eq_true_eq, decide_eq_true_eq]; omega
  by_cases h1 : a < 128
  · have e : Lib.decodeN (len - i) a b c d = (a, 1) := by unfold Lib.decodeN; rw [if_pos h1]
    rw [e, if_pos (by omega)]
  rw [if_neg (by omega)]
  by_cases h2 : a / 32 = 6 ∧ (1 < len - i ∧ b / 64 = 2)
  · by_cases h3 : a % 32 * 64 + b % 64 ≥ 128
    · have e : Lib.decodeN (len - i) a b c d = (a % 32 * 64 + b % 64, 2) := by unfold Lib.decodeN; rw [if_neg h1, if_pos h2, if_pos h3]
      rw [e, if_pos (by omega), if_pos ⟨by omega, on b h2.2.2⟩]
      congr 2; simp only [Int.natCast_add, Int.natCast_mul, Int.natCast_emod]; omega
    · have e : Lib.decodeN (len - i) a b c d = (65533, 1) := by unfold Lib.decodeN; rw [if_neg h1, if_pos h2, if_neg h3]
      exact absurd ⟨by rw [e], by rw [e]⟩ hv
  by_cases h3 : a / 16 = 14 ∧ (1 < len - i ∧ b / 64 = 2) ∧ (2 < len - i ∧ c / 64 = 2)
  · by_cases h4 : a % 16 * 4096 + b % 64 * 64 + c % 64 ≥ 2048 ∧ (a % 16 * 4096 + b % 64 * 64 + c % 64 < 55296 ∨ (57344 ≤ a % 16 * 4096 + b % 64 * 64 + c % 64 ∧ a % 16 * 4096 + b % 64 * 64 + c % 64 ≤ 1114111))
    · have e : Lib.decodeN (len - i) a b c d = (a % 16 * 4096 + b % 64 * 64 + c % 64, 3) := by unfold Lib.decodeN; rw [if_neg h1, if_neg h2, if_pos h3, if_pos h4]
      rw [e, if_neg (by omega), if_pos (by omega), if_pos ⟨by omega, on b h3.2.1.2, on c h3.2.2.2, by omega⟩]
      congr 2; simp only [Int.natCast_add, Int.natCast_mul, Int.natCast_emod]; omega
    · have e : Lib.decodeN (len - i) a b c d = (65533, 1) := by unfold Lib.decodeN; rw [if_neg h1, if_neg h2, if_pos h3, if_neg h4]
      exact absurd ⟨by rw [e], by rw [e]⟩ hv
  exfalso
  by_cases h4 : a / 8 = 30 ∧ (1 < len - i ∧ b / 64 = 2) ∧ (2 < len - i ∧ c / 64 = 2) ∧ (3 < len - i ∧ d / 64 = 2)
  · by_cases h5 : a % 8 * 262144 + b % 64 * 4096 + c % 64 * 64 + d % 64 ≥ 65536 ∧ (a % 8 * 262144 + b % 64 * 4096 + c % 64 * 64 + d % 64 < 55296 ∨ (57344 ≤ a % 8 * 262144 + b % 64 * 4096 + c % 64 * 64 + d % 64 ∧ a % 8 * 262144 + b % 64 * 4096 + c % 64 * 64 + d % 64 ≤ 1114111))
    · have e : Lib.decodeN (len - i) a b c d = (a % 8 * 262144 + b % 64 * 4096 + c % 64 * 64 + d % 64, 4) := by unfold Lib.decodeN; rw [if_neg h1, if_neg h2, if_neg h3, if_pos h4, if_pos h5]
      rw [e] at hr
      have := h5.1
      simp only at hr
      omega
    · have e : Lib.decodeN (len - i) a b c d = (65533, 1) := by unfold Lib.decodeN; rw [if_neg h1, if_neg h2, if_neg h3, if_pos h4, if_neg h5]
      exact absurd ⟨by rw [e], by rw [e]⟩ hv
  · have e : Lib.decodeN (len - i) a b c d = (65533, 1) := by unfold Lib.decodeN; rw [if_neg h1, if_neg h2, if_neg h3, if_neg h4]
    exact absurd ⟨by rw [e], by rw [e]⟩ hv

/-- What the decoder reads, where it reads well and no more than three bytes, is the letter. -/
theorem dec_let (l : List UInt8) (i : Nat) (hi : i < l.length) (hv : ¬ ((Lib.decodeL (l.drop i)).1 = 65533 ∧ (Lib.decodeL (l.drop i)).2 = 1)) (hr : (Lib.decodeL (l.drop i)).1 ≤ 65535) :
    letAt l i = some (((Lib.decodeL (l.drop i)).1 : Int), (Lib.decodeL (l.drop i)).2) := by
  rw [Lib.decodeL_N, List.length_drop, Lib.getD_dropU, Lib.getD_dropU, Lib.getD_dropU, Lib.getD_dropU, Nat.add_zero] at hv hr ⊢
  unfold letAt goesOn two' three'
  rw [byteAt_D, byteAt_D, byteAt_D]
  exact dec_nat i l.length _ _ _ _ hi (l.getD i 0).toNat_lt hv hr

/-- The letters up to a place have been read. -/
def Got (p : Int → Bool) (s : ByteArray) (pos : Nat) (xs : List Int) : Prop :=
  xs.all p = true ∧ Lib.validD (s.data.toList.drop pos) = true ∧ xs.length ≤ pos ∧ ∃ f, s.size ≤ pos + f ∧ lets s.data.toList = (letsF s.data.toList f pos).map (xs ++ ·)
section
variable {p : Int → Bool} {s : ByteArray} {pos : Nat} {xs : List Int}
theorem Got.start (h : Lib.validD s.data.toList = true) : Got p s 0 [] := by
  refine ⟨rfl, by simpa using h, Nat.le_refl _, s.data.toList.length, by simp, ?_⟩
  unfold lets
  cases letsF s.data.toList s.data.toList.length 0 <;> simp
theorem Got.step (h : Got p s pos xs) (hl : pos < s.size) (hp : p ((Utf8.decode s pos).1 : Int) = true) (hb : ∀ c, p c = true → c ≤ 65535) : Got p s (pos + (Utf8.decode s pos).2) (xs ++ [((Utf8.decode s pos).1 : Int)]) := by
  obtain ⟨h1, h2, h3, f, h4, h5⟩ := h
  rw [← Lib.decodeL_drop] at hp ⊢
  have hne : s.data.toList.drop pos ≠ [] := by
    intro e
    have := congrArg List.length e
    simp at this; omega
  rw [Lib.validD_step _ hne] at h2
  have hv : ¬ ((Lib.decodeL (s.data.toList.drop pos)).1 = 65533 ∧ (Lib.decodeL (s.data.toList.drop pos)).2 = 1) := fun e => by rw [if_pos e] at h2; cases h2
  rw [if_neg hv, List.drop_drop] at h2
  have hd := dec_let s.data.toList pos (by simpa using hl) hv (by have := hb _ hp; omega)
  have hw := Lib.decodeL_width (s.data.toList.drop pos)
  obtain ⟨f, rfl⟩ : ∃ f', f = f' + 1 := ⟨f - 1, by omega⟩
  refine ⟨by rw [List.all_append, h1]; simp [hp], h2, by simp; omega, f, by omega, ?_⟩
  exact lets_step h5 (by simpa using hl) hd
theorem Got.done (h : Got p s pos xs) (hl : ¬ pos < s.size) : lets s.data.toList = some xs := by
  obtain ⟨_, _, _, f, _, h5⟩ := h
  exact lets_end h5 (by simpa using hl)
end
end Go.Proofs.YtjkenehiojbmiaaGreatDoor.Msg
