import Derived.Test.YtjkenehiojbmiaaGreatDoorSums
namespace Go.Proofs.YtjkenehiojbmiaaGreatDoor.Msg
open Go.RowKit

/-! Plain: texts cut at a byte; messages read. -/

/-- One byte more of a text that is being cut. -/
def cutStep (by' : UInt8) (p : List (List UInt8) × List UInt8) (c : UInt8) : List (List UInt8) × List UInt8 := if c = by' then (p.1 ++ [p.2], []) else (p.1, p.2 ++ [c])
/-- The pieces that are ended, and the last one. -/
def cutP (by' : UInt8) (l : List UInt8) : List (List UInt8) × List UInt8 := l.foldl (cutStep by') ([], [])
def cutL (by' : UInt8) (l : List UInt8) : List (List UInt8) := (cutP by' l).1 ++ [(cutP by' l).2]

theorem cutP_snoc (by' : UInt8) (l : List UInt8) (c : UInt8) : cutP by' (l ++ [c]) = cutStep by' (cutP by' l) c := by
  simp [cutP, List.foldl_append]

theorem cutP_len (by' : UInt8) (l : List UInt8) : (cutP by' l).1.length ≤ l.length ∧ (cutP by' l).2.length ≤ l.length ∧ ∀ x ∈ (cutP by' l).1, x.length ≤ l.length := by
  rw [← List.reverse_reverse l]
  generalize l.reverse = r
  induction r with
  | nil => simp [cutP]
  | cons c r ih =>
    rw [List.reverse_cons, cutP_snoc]
    unfold cutStep
    obtain ⟨h1, h2, h3⟩ := ih
    split
    · refine ⟨by simp at *; omega, by simp, fun x hx => ?_⟩
      rw [List.mem_append] at hx
      rcases hx with hx | hx
      · have := h3 x hx; simp at *; omega
      · simp at hx; subst hx; simp at *; omega
    · refine ⟨by simp at *; omega, by simp at *; omega, fun x hx => ?_⟩
      have := h3 x hx; simp at *; omega

/-- Strings as cells. -/
def strs (l : List (List UInt8)) : List Value := l.map fun x => .string ⟨x.toArray⟩
theorem strs_len (l : List (List UInt8)) : (strs l).length = l.length := by simp [strs]
theorem strs_append (a b : List (List UInt8)) : strs (a ++ b) = strs a ++ strs b := by simp [strs]

theorem take_snoc (s : ByteArray) (k : Nat) (h : k < s.size) : s.data.toList.take (k + 1) = s.data.toList.take k ++ [s[k]] := by
  rw [List.take_succ_eq_append_getElem (by simpa using h)]; rfl
theorem take_all (s : ByteArray) : s.data.toList.take s.size = s.data.toList := List.take_of_length_le (by simp)
theorem extract_one (s : ByteArray) (k : Nat) (h : k < s.size) : s.extract k (k + 1) = ⟨[s[k]].toArray⟩ := by
  apply ByteArray.ext
  apply Array.ext'
  have hk : k < s.data.toList.length := by simpa using h
  simp
  rw [List.drop_eq_getElem_cons hk]
  rfl
end Go.Proofs.YtjkenehiojbmiaaGreatDoor.Msg
