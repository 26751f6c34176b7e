import Derived.Test.YtjkenehiojbmiaaGreatDoorCut
namespace Go.Proofs.YtjkenehiojbmiaaGreatDoor.Msg
open Go.RowKit

def isDig (c : UInt8) : Bool := decide (48 ≤ (c.toNat : Int)) && decide ((c.toNat : Int) ≤ 57)
def digs (l : List UInt8) : Bool := l.all isDig
def valL (l : List UInt8) : Int := l.foldl (fun n c => 10 * n + ((c.toNat : Int) - 48)) 0
theorem valL_snoc (l : List UInt8) (c : UInt8) : valL (l ++ [c]) = 10 * valL l + ((c.toNat : Int) - 48) := by simp [valL, List.foldl_append]
theorem digs_snoc (l : List UInt8) (c : UInt8) : digs (l ++ [c]) = (digs l && isDig c) := by simp [digs]

/-- What number answers. -/
def numL (l : List UInt8) : Int × Bool :=
  if decide (1 ≤ l.length) && decide (l.length ≤ 6) && !(l.head? == some 48 && decide (1 < l.length)) && digs l then (valL l, true) else (0, false)

theorem numL_short (l : List UInt8) (h : l.length < 1) : numL l = (0, false) := by
  unfold numL; rw [if_neg]; simp; omega
theorem numL_long (l : List UInt8) (h : 6 < l.length) : numL l = (0, false) := by
  unfold numL; rw [if_neg]; simp; omega
theorem head_eq (s : ByteArray) (h : 0 < s.size) : s.data.toList.head? = some s[0] := by
  have h' : 0 < s.data.toList.length := by simpa using h
  rw [List.head?_eq_getElem?, List.getElem?_eq_getElem h']; rfl
theorem u8_eq {a : UInt8} {n : Nat} (hn : n < 256) (h : ((a.toNat : Int) == (n : Int)) = true) : a = n.toUInt8 := by
  apply UInt8.toNat.inj
  rw [beq_iff_eq] at h
  have e : (n.toUInt8).toNat = n := by simp [Nat.toUInt8]; omega
  rw [e]; omega
theorem numL_nought (s : ByteArray) (h1 : 1 < s.size) (h : ((s[0].toNat : Int) == 48) = true) : numL s.data.toList = (0, false) := by
  unfold numL; rw [if_neg]
  have e : s.data.toList.length = s.size := by simp
  have e2 : s[0] = 48 := u8_eq (n := 48) (by omega) h
  rw [head_eq s (by omega), e2, e]
  simp; omega
theorem numL_bad (l : List UInt8) (h : digs l = false) : numL l = (0, false) := by
  unfold numL; rw [if_neg]; simp [h]
theorem numL_ok (s : ByteArray) (h0 : 1 ≤ s.size) (h6 : s.size ≤ 6) (h : ¬ (1 < s.size ∧ ((s[0].toNat : Int) == 48) = true)) (hd : digs s.data.toList = true) : numL s.data.toList = (valL s.data.toList, true) := by
  unfold numL; rw [if_pos]
  have e : s.data.toList.length = s.size := by simp
  rw [head_eq s (by omega), e, hd]
  simp [h0, h6]
  by_cases e2 : s[0] = 48
  · right
    rw [e2] at h
    simp at h
    omega
  · exact Or.inl e2
theorem digs_no (s : ByteArray) (k : Nat) (h : k < s.size) (hd : isDig s[k] = false) : digs s.data.toList = false := by
  unfold digs
  rw [List.all_eq_false]
  exact ⟨s[k], by rw [show s[k] = s.data.toList[k]'(by simpa using h) from rfl]; exact List.getElem_mem _, by rw [hd]; decide⟩

theorem val_bd (l : List UInt8) (h : digs l = true) : 0 ≤ valL l ∧ valL l < 10 ^ l.length := by
  rw [← List.reverse_reverse l] at h ⊢
  generalize l.reverse = r at h ⊢
  induction r with
  | nil => simp [valL]
  | cons c r ih =>
    rw [List.reverse_cons, digs_snoc, Bool.and_eq_true] at h
    have := ih h.1
    have h2 := h.2
    simp only [isDig, Bool.and_eq_true, decide_eq_true_eq] at h2
    rw [List.reverse_cons, valL_snoc, List.length_append, List.length_singleton, Int.pow_succ]
    omega
theorem val_small (l : List UInt8) (k : Nat) (hk : k ≤ 5) (h : digs (l.take k) = true) : valL (l.take k) ≤ 99999 := by
  have h1 := (val_bd _ h).2
  have h2 : (l.take k).length ≤ k := List.length_take_le _ _
  have h3 : (10 : Int) ^ (l.take k).length ≤ 10 ^ 5 := by
    have : (l.take k).length ≤ 5 := by omega
    generalize (l.take k).length = n at this
    match n, this with
    | 0, _ => decide
    | 1, _ => decide
    | 2, _ => decide
    | 3, _ => decide
    | 4, _ => decide
    | 5, _ => decide
  omega

theorem ret_num {l : List UInt8} {n : Int} {b : Bool} (h : numL l = (n, b)) : Ending.returned (.tuple #[.int .i64 n, .bool b]) = .returned (.tuple #[.int .i64 (numL l).1, .bool (numL l).2]) := by rw [h]

set_option maxHeartbeats 1000000 in
theorem number_any (s : ByteArray) (w : World) (hs : s.size ≤ 4194304) :
    Calls Tryz.prog 33 #[.string s] w fun e w' => e = .returned (.tuple #[.int .i64 (numL s.data.toList).1, .bool (numL s.data.toList).2]) ∧ w' = w := by
  have e0 : s.data.toList.length = s.size := by simp
  by_cases h0 : s.size < 1
  · have HF : Hid (numL s.data.toList = (0, false)) := numL_short _ (by omega)
    clear e0
    have h0i : (s.size : Int) < 1 := by omega
    go_enter Tryz.func33, Tryz.ntmps33
    go_wp2
    go_ret2
    exact ⟨ret_num HF.out, rfl⟩
  by_cases h6 : 6 < s.size
  · have HF : Hid (numL s.data.toList = (0, false)) := numL_long _ (by omega)
    clear e0
    go_enter Tryz.func33, Tryz.ntmps33
    go_wp2
    go_ret2
    exact ⟨ret_num HF.out, rfl⟩
  clear e0
  have hp : 0 < s.size := by omega
  cases hq : ((s[0].toNat : Int) == 48)
  · have hd0 : decide ((s.size : Int) < 1) = false := by simp; omega
    have hd1 : decide (6 < (s.size : Int)) = false := by simp; omega
    go_enter Tryz.func33, Tryz.ntmps33
    go_wp2
    go_loop [4, 5] (fun n i => ∃ k : Nat, k ≤ s.size ∧ i = .int .i64 k ∧ n = .int .i64 (valL (s.data.toList.take k)) ∧ Hid (digs (s.data.toList.take k) = true) ∧ (0 ≤ valL (s.data.toList.take k) ∧ valL (s.data.toList.take k) ≤ 1000000 * k)) (fun _ i => s.size - (intOf i).toNat)
    case atStart => exact ⟨0, Nat.zero_le _, rfl, rfl, rfl, by simp [valL]⟩
    case round =>
      obtain ⟨k, hk, rfl, rfl, HD, hv0, hv1⟩ := hrel
      by_cases hlt : k < s.size
      · have hby : (s[k].toNat : Int) ≤ 255 := by have := s[k].toNat_lt; omega
        have hvb : valL (s.data.toList.take k) ≤ 99999 := val_small s.data.toList k (by omega) HD.out
        by_cases hlo : (s[k].toNat : Int) < 48
        · have HF : Hid (numL s.data.toList = (0, false)) := numL_bad _ (digs_no s k hlt (by simp [isDig]; omega))
          go_wp2
          go_ret2
          exact ⟨ret_num HF.out, rfl⟩
        by_cases hhi : 57 < (s[k].toNat : Int)
        · have HF : Hid (numL s.data.toList = (0, false)) := numL_bad _ (digs_no s k hlt (by simp [isDig]; omega))
          have hd2 : decide ((s[k].toNat : Int) < 48) = false := by simpa using hlo
          go_wp2
          go_ret2
          exact ⟨ret_num HF.out, rfl⟩
        · have hd2 : decide ((s[k].toNat : Int) < 48) = false := by simpa using hlo
          have hd3 : decide (57 < (s[k].toNat : Int)) = false := by simpa using hhi
          have HS : Hid (valL (s.data.toList.take (k + 1)) = 10 * valL (s.data.toList.take k) + ((s[k].toNat : Int) - 48)) := by show _ = _; rw [take_snoc s k hlt, valL_snoc]
          have HD1 : Hid (digs (s.data.toList.take (k + 1)) = true) := by show _ = _; rw [take_snoc s k hlt, digs_snoc, HD.out]; simp [isDig]; omega
          go_wp2
          go_round
          case rel => exact ⟨k + 1, by omega, by go_num, by rw [HS.out], HD1, by rw [HS.out]; omega, by rw [HS.out]; omega⟩
          case measure => simp [intOf]; omega
      · obtain rfl : k = s.size := by omega
        have HF : Hid (numL s.data.toList = (valL (s.data.toList.take s.size), true)) := by
          show _ = _
          rw [take_all]
          exact numL_ok s (by omega) (by omega) (by rw [hq]; simp) (by have := HD.out; rwa [take_all] at this)
        go_wp2
        go_ret2
        exact ⟨ret_num HF.out, rfl⟩
  · by_cases h1 : 1 < s.size
    · have HF : Hid (numL s.data.toList = (0, false)) := numL_nought s h1 hq
      go_enter Tryz.func33, Tryz.ntmps33
      go_wp2
      go_ret2
      exact ⟨ret_num HF.out, rfl⟩
    · have hd0 : decide ((s.size : Int) < 1) = false := by simp; omega
      have hd1 : decide (6 < (s.size : Int)) = false := by simp; omega
      have hd2 : decide (1 < (s.size : Int)) = false := by simp; omega
      go_enter Tryz.func33, Tryz.ntmps33
      go_wp2
      go_loop [4, 5] (fun n i => ∃ k : Nat, k ≤ s.size ∧ i = .int .i64 k ∧ n = .int .i64 (valL (s.data.toList.take k)) ∧ Hid (digs (s.data.toList.take k) = true) ∧ (0 ≤ valL (s.data.toList.take k) ∧ valL (s.data.toList.take k) ≤ 1000000 * k)) (fun _ i => s.size - (intOf i).toNat)
      case atStart => exact ⟨0, Nat.zero_le _, rfl, rfl, rfl, by simp [valL]⟩
      case round =>
        obtain ⟨k, hk, rfl, rfl, HD, hv0, hv1⟩ := hrel
        by_cases hlt : k < s.size
        · have hby : (s[k].toNat : Int) ≤ 255 := by have := s[k].toNat_lt; omega
          have hvb : valL (s.data.toList.take k) ≤ 99999 := val_small s.data.toList k (by omega) HD.out
          by_cases hlo : (s[k].toNat : Int) < 48
          · have HF : Hid (numL s.data.toList = (0, false)) := numL_bad _ (digs_no s k hlt (by simp [isDig]; omega))
            go_wp2
            go_ret2
            exact ⟨ret_num HF.out, rfl⟩
          by_cases hhi : 57 < (s[k].toNat : Int)
          · have HF : Hid (numL s.data.toList = (0, false)) := numL_bad _ (digs_no s k hlt (by simp [isDig]; omega))
            have hd4 : decide ((s[k].toNat : Int) < 48) = false := by simpa using hlo
            go_wp2
            go_ret2
            exact ⟨ret_num HF.out, rfl⟩
          · have hd4 : decide ((s[k].toNat : Int) < 48) = false := by simpa using hlo
            have hd3 : decide (57 < (s[k].toNat : Int)) = false := by simpa using hhi
            have HS : Hid (valL (s.data.toList.take (k + 1)) = 10 * valL (s.data.toList.take k) + ((s[k].toNat : Int) - 48)) := by show _ = _; rw [take_snoc s k hlt, valL_snoc]
            have HD1 : Hid (digs (s.data.toList.take (k + 1)) = true) := by show _ = _; rw [take_snoc s k hlt, digs_snoc, HD.out]; simp [isDig]; omega
            go_wp2
            go_round
            case rel => exact ⟨k + 1, by omega, by go_num, by rw [HS.out], HD1, by rw [HS.out]; omega, by rw [HS.out]; omega⟩
            case measure => simp [intOf]; omega
        · obtain rfl : k = s.size := by omega
          have HF : Hid (numL s.data.toList = (valL (s.data.toList.take s.size), true)) := by
            show _ = _
            rw [take_all]
            exact numL_ok s (by omega) (by omega) (by omega) (by have := HD.out; rwa [take_all] at this)
          go_wp2
          go_ret2
          exact ⟨ret_num HF.out, rfl⟩
end Go.Proofs.YtjkenehiojbmiaaGreatDoor.Msg
