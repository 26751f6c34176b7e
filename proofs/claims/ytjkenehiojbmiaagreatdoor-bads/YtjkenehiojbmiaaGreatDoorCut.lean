import Derived.Test.YtjkenehiojbmiaaGreatDoorSealed
import Derived.Test.YtjkenehiojbmiaaGreatDoorMsg
import Derived.Deep.AppendLies
import Derived.OwnWalk
namespace Go.Proofs.YtjkenehiojbmiaaGreatDoor.Msg
open Go.RowKit
attribute [local go_sem] Sums.setCell_drewN
attribute [local go_sem] Sums.alloc_drewN

theorem infoStr : (Tryz.prog.info? 9).map (fun i => (i.zero, i.size, i.bytes)) = some (some (.string ⟨#[]⟩), 1, 16) := by kernel_rfl

theorem last_cell {w : World} {base g cap m : Nat} {done : List (List UInt8)} {last : List UInt8} (hn : done.length = m)
    (h : w.ownsRow base 9 1 (.slice (some ⟨g, 0, none⟩) (m + 1) cap) (m + 1) (strs (done ++ [last]))) : w.cell? ⟨g, m, none⟩ = some (.string ⟨last.toArray⟩) := by
  rw [h.cellAt m (by omega), strs_append]
  rw [List.getElem?_append_right (by rw [strs_len]; omega), strs_len, hn, Nat.sub_self]
  rfl
theorem set_last {m : Nat} (done : List (List UInt8)) (hm : done.length = m) (last new : List UInt8) : (strs (done ++ [last])).set m (.string ⟨new.toArray⟩) = strs (done ++ [new]) := by
  subst hm
  rw [strs_append, strs_append, List.set_append_right _ _ (by rw [strs_len]; exact Nat.le_refl _), strs_len, Nat.sub_self]
  rfl
theorem grow_last (last : List UInt8) (s : ByteArray) (k : Nat) (h : k < s.size) : (⟨last.toArray⟩ : ByteArray) ++ s.extract k (k + 1) = ⟨(last ++ [s[k]]).toArray⟩ := by
  rw [extract_one s k h, Sums.ba_append]
theorem cut_same (c : UInt8) (s : ByteArray) (k : Nat) (h : k < s.size) {done : List (List UInt8)} {last : List UInt8} (hq : ((s[k].toNat : Int) == (c.toNat : Int)) = true) (hc : cutP c (s.data.toList.take k) = (done, last)) :
    cutP c (s.data.toList.take (k + 1)) = (done ++ [last], []) := by
  rw [take_snoc s k h, cutP_snoc, hc, cutStep, if_pos]
  apply UInt8.toNat.inj
  rw [beq_iff_eq] at hq; omega
theorem cut_other (c : UInt8) (s : ByteArray) (k : Nat) (h : k < s.size) {done : List (List UInt8)} {last : List UInt8} (hq : ((s[k].toNat : Int) == (c.toNat : Int)) = false) (hc : cutP c (s.data.toList.take k) = (done, last)) :
    cutP c (s.data.toList.take (k + 1)) = (done, last ++ [s[k]]) := by
  rw [take_snoc s k h, cutP_snoc, hc, cutStep, if_neg]
  intro e; rw [e] at hq; simp at hq
theorem cut_end (c : UInt8) (s : ByteArray) {done : List (List UInt8)} {last : List UInt8} (hc : cutP c (s.data.toList.take s.size) = (done, last)) : cutL c s.data.toList = done ++ [last] := by
  rw [take_all] at hc; rw [cutL, hc]

set_option maxHeartbeats 1000000 in
theorem cut_any (s : ByteArray) (c : UInt8) (w : World) (hs : s.size ≤ 4194304) :
    Calls Tryz.prog 32 #[.string s, .int .u8 c.toNat] w fun e w' => ∃ g cap, e = .returned (.slice (some ⟨g, 0, none⟩) (cutL c s.data.toList).length cap) ∧ w.heap.size ≤ g ∧
      w'.ownsRow w.heap.size 9 1 (.slice (some ⟨g, 0, none⟩) (cutL c s.data.toList).length cap) (cutL c s.data.toList).length (strs (cutL c s.data.toList)) ∧ Below w.heap.size w w' := by
  obtain ⟨i0, hi, hz0, hz1, hz2⟩ := info_parts infoStr
  go_enter Tryz.func32, Tryz.ntmps32
  go_wp2
  go_loopw [5, 6] (fun o i wr => ∃ (k m g cap : Nat) (done : List (List UInt8)) (last : List UInt8), k ≤ s.size ∧ i = .int .i64 k ∧ o = .slice (some ⟨g, 0, none⟩) (m + 1) cap ∧ Hid (done.length = m) ∧ m ≤ k ∧ last.length ≤ k ∧ w.heap.size ≤ g ∧
      wr.ownsRow w.heap.size 9 1 (.slice (some ⟨g, 0, none⟩) (m + 1) cap) (m + 1) (strs (done ++ [last])) ∧ Below w.heap.size w wr ∧ Hid (cutP c (s.data.toList.take k) = (done, last))) (fun _ i _ => s.size - (intOf i).toNat)
  case atStart =>
    refine ⟨0, 0, w.heap.size, 1, [], [], Nat.zero_le _, rfl, rfl, rfl, by omega, by simp, Nat.le_refl _, ?_, (Below.refl _ _).alloc (Nat.le_refl _) _, rfl⟩
    exact World.ownsRow_lit w #[.string ⟨#[]⟩] 1 (Nat.le_refl _) (by decide) rfl
  case round =>
    obtain ⟨k, m, g, cap, done, last, hk, rfl, rfl, HN, hmk, hll, hwg, hown, hB, HC⟩ := hrel
    have hz := hB.size
    by_cases hlt : k < s.size
    · have hby : (s[k].toNat : Int) ≤ 255 := by have := s[k].toNat_lt; omega
      cases hq : ((s[k].toNat : Int) == (c.toNat : Int))
      · have hcl := last_cell HN.out hown
        have hfz := hown.frozenAt m
        have HE : Hid ((⟨last.toArray⟩ : ByteArray) ++ s.extract k (k + 1) = ⟨(last ++ [s[k]]).toArray⟩) := grow_last last s k hlt
        have HO : Hid (cutP c (s.data.toList.take (k + 1)) = (done, last ++ [s[k]])) := cut_other c s k hlt hq HC.out
        go_wp2
        go_region
        go_wp2
        go_roundw
        case rel =>
          obtain ⟨h1, h2⟩ := hown.stored m (.string ⟨(last ++ [s[k]]).toArray⟩)
          rw [set_last done HN.out] at h1
          rw [HE.out]
          exact ⟨k + 1, m, g, cap, done, last ++ [s[k]], by omega, by go_num, rfl, HN, by omega, by simp; omega, hwg, h1, (hB.grown h2 hz (fun q hq => by cases hq; exact hwg)).drew, HO⟩
        case measure => simp [intOf]; omega
      · have HO : Hid (cutP c (s.data.toList.take (k + 1)) = (done ++ [last], [])) := cut_same c s k hlt hq HC.out
        go_wp2_with (at_builtin; refine wpList_append_lies _ rfl _ _ 65 rfl w.heap.size 9 i0 (.string ⟨#[]⟩) 1 16 Tryz.underlying65 hi hz0 hz1 hz2 rfl (by decide) _ _ _ rfl (hown.alloc _) ⟨wr.heap.size, 0, none⟩ 1 1 [.string ⟨#[]⟩] rfl rfl ?c1 ?c2 (by decide) ?c3 ?c4 ?c5 (wr.heap.size + 1) (by simp) ?_)
        case c1 => exact cell_one_new _ _ _
        case c2 => intro u hu; simp at hu; subst hu; rfl
        case c3 => unfold maxLen; omega
        case c4 => omega
        case c5 => simp; omega
        intro g1 cap1 w1 hown1 hgrow hat hlt1
        have hB1 : Below w.heap.size w w1 := (hB.alloc hz _).grown hgrow (by simp; omega) (fun q hq => by simp [Value.ownBlock] at hq; omega)
        go_wp2
        go_roundw
        case rel => exact ⟨k + 1, m + 1, g1, cap1, done ++ [last], [], by omega, by go_num, rfl, by show (done ++ [last]).length = _; rw [List.length_append, HN.out]; rfl, by omega, by simp, by rcases hat with h | h; (· cases h; exact hwg); (· omega), by rw [strs_append]; exact hown1, hB1, HO⟩
        case measure => simp [intOf]; omega
    · obtain rfl : k = s.size := by omega
      go_wp2
      go_ret
      have e := cut_end c s HC.out
      have e2 : (done ++ [last]).length = m + 1 := by rw [List.length_append, HN.out]; rfl
      rw [e, e2]
      exact ⟨g, cap, rfl, hwg, hown, hB⟩
end Go.Proofs.YtjkenehiojbmiaaGreatDoor.Msg
