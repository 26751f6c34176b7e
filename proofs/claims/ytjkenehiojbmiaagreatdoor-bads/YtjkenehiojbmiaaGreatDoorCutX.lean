import Derived.Test.YtjkenehiojbmiaaGreatDoorMsg
import Derived.Lib.Split
namespace Go.Proofs.YtjkenehiojbmiaaGreatDoor.Msg
open Go.RowKit

theorem fold_free {c : UInt8} {a : List UInt8} (h : c ∉ a) : ∀ (d : List (List UInt8)) (x : List UInt8), a.foldl (cutStep c) (d, x) = (d, x ++ a) := by
  induction a with
  | nil => intro d x; simp
  | cons b a ih =>
    intro d x
    have hb : b ≠ c := fun e => h (e ▸ List.mem_cons_self ..)
    rw [List.foldl_cons]
    unfold cutStep
    rw [if_neg hb]
    have := ih (fun e => h (List.mem_cons_of_mem _ e)) d (x ++ [b])
    unfold cutStep at this
    rw [this]
    simp
theorem fold_more (c : UInt8) (l : List UInt8) : ∀ (d d' : List (List UInt8)) (x : List UInt8), l.foldl (cutStep c) (d ++ d', x) = (d ++ (l.foldl (cutStep c) (d', x)).1, (l.foldl (cutStep c) (d', x)).2) := by
  induction l with
  | nil => intro d d' x; rfl
  | cons b l ih =>
    intro d d' x
    rw [List.foldl_cons, List.foldl_cons]
    unfold cutStep
    by_cases hb : b = c
    · rw [if_pos hb, if_pos hb]
      have := ih d (d' ++ [x]) []
      unfold cutStep at this
      simp only [List.append_assoc] at this ⊢
      exact this
    · rw [if_neg hb, if_neg hb]
      exact ih d d' (x ++ [b])
theorem cutL_free {c : UInt8} {a : List UInt8} (h : c ∉ a) : cutL c a = [a] := by
  unfold cutL cutP
  rw [fold_free h]; simp
theorem cutL_at {c : UInt8} {a b : List UInt8} (h : c ∉ a) : cutL c (a ++ c :: b) = a :: cutL c b := by
  unfold cutL cutP
  rw [List.foldl_append, fold_free h, List.foldl_cons]
  have e : cutStep c ([], [] ++ a) c = ([a] ++ [], []) := by unfold cutStep; rw [if_pos rfl]; simp
  rw [e, fold_more]
  simp
/-- Where a byte comes first. -/
theorem idx_one (c : UInt8) : ∀ s : List UInt8, (Lib.index s [c] = -1 ∧ c ∉ s) ∨ ∃ i : Nat, Lib.index s [c] = i ∧ s = s.take i ++ c :: s.drop (i + 1) ∧ c ∉ s.take i
  | [] => Or.inl ⟨rfl, by simp⟩
  | b :: l => by
    by_cases hb : c = b
    · subst hb
      refine Or.inr ⟨0, ?_, rfl, by simp⟩
      have hp : ([c].isPrefixOf (c :: l)) = true := by simp [List.isPrefixOf]
      unfold Lib.index; rw [hp]; rfl
    · have hp : ([c].isPrefixOf (b :: l)) = false := by simp [List.isPrefixOf, hb]
      rcases idx_one c l with ⟨h1, h2⟩ | ⟨i, h1, h2, h3⟩
      · refine Or.inl ⟨?_, by simp [hb, h2]⟩
        unfold Lib.index; rw [hp, h1]; rfl
      · refine Or.inr ⟨i + 1, ?_, ?_, by simp [hb, h3]⟩
        · unfold Lib.index
          rw [hp, h1]
          have : ((i : Int) == -1) = false := by rw [beq_eq_false_iff_ne]; omega
          simp [this]
        · simp only [List.take_succ_cons, List.drop_succ_cons, List.cons_append]
          rw [← h2]
theorem split_cut (c : UInt8) : ∀ (n : Nat) (s : List UInt8), s.length ≤ n → Lib.splitK [c] 0 (Lib.count s [c]) s = cutL c s ∧ (cutL c s).length = Lib.count s [c] + 1
  | n, s, hn => by
    rcases idx_one c s with ⟨h1, h2⟩ | ⟨i, h1, h2, h3⟩
    · rw [Lib.count_miss h1, cutL_free h2]
      exact ⟨rfl, rfl⟩
    · have hlen : s.length = (s.take i).length + (1 + (s.drop (i + 1)).length) := by
        conv => lhs; rw [h2]
        simp; omega
      match n, hn with
      | 0, hn => omega
      | n + 1, hn =>
        obtain ⟨ih1, ih2⟩ := split_cut c n (s.drop (i + 1)) (by omega)
        have hc : cutL c s = s.take i :: cutL c (s.drop (i + 1)) := by
          conv => lhs; rw [h2]
          exact cutL_at h3
        rw [Lib.count_hit (by simp) h1, hc]
        refine ⟨?_, by simp only [List.length_cons, List.length_nil, ih2, Nat.zero_add]; omega⟩
        rw [Nat.add_comm 1, Lib.splitK, h1]
        have : ((i : Int) == -1) = false := by rw [beq_eq_false_iff_ne]; omega
        rw [this]
        simp only [Bool.false_eq_true, if_false, Int.toNat_natCast, Nat.add_zero, List.length_cons, List.length_nil, Nat.zero_add]
        rw [ih1]
/-- The words that strings.Split gives. -/
theorem splitB_cut (c : UInt8) (s : ByteArray) : (Lib.splitB ⟨#[c]⟩ 0 (Lib.countB s ⟨#[c]⟩) s).map Value.string = strs (cutL c s.data.toList) ∧ Lib.countB s ⟨#[c]⟩ + 1 = (cutL c s.data.toList).length := by
  have h := Lib.splitB_data ⟨#[c]⟩ 0 (Lib.countB s ⟨#[c]⟩) s
  obtain ⟨h1, h2⟩ := split_cut c s.data.toList.length s.data.toList (Nat.le_refl _)
  have hc : Lib.countB s ⟨#[c]⟩ = Lib.count s.data.toList [c] := rfl
  rw [hc] at h ⊢
  refine ⟨?_, h2.symm⟩
  have h' : (Lib.splitB ⟨#[c]⟩ 0 (Lib.count s.data.toList [c]) s).map (·.data.toList) = cutL c s.data.toList := h.trans h1
  unfold strs
  rw [← h', List.map_map]
  refine List.map_congr_left (fun x _ => ?_)
  simp
/-- What strings.Cut gives. -/
theorem cut_cut (c : UInt8) (s : List UInt8) : (Lib.cut s [c] = (s, [], false) ∧ cutL c s = [s] ∧ c ∉ s) ∨ ∃ a b, Lib.cut s [c] = (a, b, true) ∧ cutL c s = a :: cutL c b ∧ c ∉ a ∧ s = a ++ c :: b := by
  rcases idx_one c s with ⟨h1, h2⟩ | ⟨i, h1, h2, h3⟩
  · refine Or.inl ⟨?_, cutL_free h2, h2⟩
    unfold Lib.cut; rw [h1]; rfl
  · refine Or.inr ⟨s.take i, s.drop (i + 1), ?_, ?_, h3, h2⟩
    · unfold Lib.cut
      rw [h1, if_pos (by omega)]
      simp
    · conv => lhs; rw [h2]
      exact cutL_at h3
end Go.Proofs.YtjkenehiojbmiaaGreatDoor.Msg
