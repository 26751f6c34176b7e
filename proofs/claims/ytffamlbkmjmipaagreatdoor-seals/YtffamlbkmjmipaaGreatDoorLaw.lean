import Derived.Test.YtffamlbkmjmipaaGreatDoorChecked
import Derived.WalkKit
import Derived.WalkSpells
import Derived.RegionTactic
import Derived.ChangeAlike
import Derived.Deep.QuietTactic
import Derived.BigQuiet
import Derived.BigRegion
import Derived.OpenShut
import Derived.RowKit3
import Derived.Below
namespace Go.Proofs.YtffamlbkmjmipaaGreatDoor.Law
open Go.RowKit

theorem bcell {W w1 : World} (hb : Below W.heap.size W w1) : (∀ b o, b < W.heap.size → w1.cell? ⟨b, o, none⟩ = W.cell? ⟨b, o, none⟩) ∧ (∀ b o, b < W.heap.size → w1.frozen? ⟨b, o, none⟩ = W.frozen? ⟨b, o, none⟩) :=
  ⟨fun b o h => hb.cell (p := ⟨b, o, none⟩) h, fun b o h => hb.frozen (p := ⟨b, o, none⟩) h⟩

/-- A step, as it lies in memory: nine cells. -/
structure Opr where
  k : Int
  a : Int
  b : Int
  le : Int
  re : Int
  ca : Int
  bo : Int
  he : Int
  s : ByteArray

def Opr.cs (x : Opr) : Array Value := #[.int .i64 x.k, .int .i64 x.a, .int .i64 x.b, .int .i64 x.le, .int .i64 x.re, .int .i64 x.ca, .int .i64 x.bo, .int .i64 x.he, .string x.s]

/-- The script's steps lie one behind another. -/
def Scr (w : World) (b off len : Nat) (ops : Nat → Opr) : Prop :=
  ∀ i, i < len → ∀ j, j < 9 → w.cell? ⟨b, off + i * 9 + j, none⟩ = some ((ops i).cs.getD j .nilIface)

theorem Scr.below {w w' : World} {b off len : Nat} {ops : Nat → Opr} {B : Nat} (h : Scr w b off len ops) (hb : Below B w w') (hB : b < B) : Scr w' b off len ops := by
  intro i hi j hj
  rw [hb.cell (p := ⟨b, off + i * 9 + j, none⟩) hB]
  exact h i hi j hj

theorem Scr.cells {w : World} {b off len : Nat} {ops : Nat → Opr} (h : Scr w b off len ops) {k : Nat} (hk : k < len) :
    w.cell? ⟨b, off + k * 9, none⟩ = some (.int .i64 (ops k).k) ∧ w.cell? ⟨b, off + k * 9 + 1, none⟩ = some (.int .i64 (ops k).a) ∧ w.cell? ⟨b, off + k * 9 + 2, none⟩ = some (.int .i64 (ops k).b) ∧
    w.cell? ⟨b, off + k * 9 + 3, none⟩ = some (.int .i64 (ops k).le) ∧ w.cell? ⟨b, off + k * 9 + 4, none⟩ = some (.int .i64 (ops k).re) ∧ w.cell? ⟨b, off + k * 9 + 5, none⟩ = some (.int .i64 (ops k).ca) ∧
    w.cell? ⟨b, off + k * 9 + 6, none⟩ = some (.int .i64 (ops k).bo) ∧ w.cell? ⟨b, off + k * 9 + 7, none⟩ = some (.int .i64 (ops k).he) ∧ w.cell? ⟨b, off + k * 9 + 8, none⟩ = some (.string (ops k).s) :=
  ⟨h k hk 0 (by omega), h k hk 1 (by omega), h k hk 2 (by omega), h k hk 3 (by omega), h k hk 4 (by omega), h k hk 5 (by omega), h k hk 6 (by omega), h k hk 7 (by omega), h k hk 8 (by omega)⟩

/-- n, behind i steps. -/
def tot (len : Nat) (ops : Nat → Opr) : Nat → Int
  | 0 => len
  | i + 1 => tot len ops i + ((ops i).s.size : Int)

theorem tot_mono (len : Nat) (ops : Nat → Opr) (i n : Nat) : tot len ops i ≤ tot len ops (i + n) := by
  induction n with
  | zero => exact Int.le_refl _
  | succ n ih => show _ ≤ tot len ops (i + n) + ((ops (i + n)).s.size : Int); omega
theorem tot_len (len : Nat) (ops : Nat → Opr) (n : Nat) : (len : Int) ≤ tot len ops n := by
  have := tot_mono len ops 0 n
  rw [Nat.zero_add] at this
  exact this
theorem tot_str (len : Nat) (ops : Nat → Opr) (i n : Nat) (h : i < n) : ((ops i).s.size : Int) ≤ tot len ops n := by
  have h1 := tot_mono len ops (i + 1) (n - (i + 1))
  rw [Nat.add_sub_cancel' h] at h1
  have h2 : tot len ops (i + 1) = tot len ops i + ((ops i).s.size : Int) := rfl
  have h3 := tot_len len ops i
  omega
theorem ret_bool {a b : Bool} (h : a = b) : Ending.returned (.bool a) = .returned (.bool b) := by rw [h]

set_option maxHeartbeats 1000000 in
theorem small_any (ao : Option Addr) (b off len cap : Nat) (ops : Nat → Opr) (w : World) (hao : 0 < len → ao = some ⟨b, off, none⟩) (hS : Scr w b off len ops) (hb : 0 < len → b < w.heap.size) (hlen : len ≤ 1000000000000000) (hstr : ∀ i, i < len → (ops i).s.size ≤ 1000000000000000) :
    Calls Tryz.prog 18 #[.slice ao len cap] w fun e w' => ∃ r : Bool, e = .returned (.bool r) ∧ (r = true → tot len ops len ≤ 1048576) ∧ Below w.heap.size w w' := by
  go_enter Tryz.func18, Tryz.ntmps18
  go_wp2
  go_loopw [3, 10] (fun n i wr => ∃ k : Nat, k ≤ len ∧ i = .int .i64 k ∧ n = .int .i64 (tot len ops k) ∧ (0 ≤ tot len ops k ∧ tot len ops k ≤ 1000000000000000) ∧ Below w.heap.size w wr) (fun _ i _ => len - (intOf i).toNat)
  case atStart => exact ⟨0, Nat.zero_le _, rfl, rfl, by simp [tot]; omega, Below.refl _ _⟩
  case round =>
    obtain ⟨k, hk, rfl, rfl, ⟨ht0, ht1⟩, hB⟩ := hrel
    by_cases hlt : k < len
    · obtain rfl := hao (by omega)
      have hs1 : ((ops k).s.size : Int) ≤ 1000000000000000 := by have := hstr k hlt; omega
      obtain ⟨c0, c1, c2, c3, c4, c5, c6, c7, c8⟩ := (hS.below hB (hb (by omega))).cells hlt
      have hsz := hB.size
      clear hS hao hstr
      by_cases hgt : 1048576 < tot len ops k + ((ops k).s.size : Int)
      · go_wp2
        go_ret
        exact ⟨_, rfl, fun h => by simp at h, hB.alloc hsz _⟩
      · go_wp2
        go_roundw
        case rel => exact ⟨k + 1, by omega, by go_num, rfl, ⟨by show (0 : Int) ≤ tot len ops k + _; omega, by show tot len ops k + _ ≤ _; omega⟩, hB.alloc hsz _⟩
        case measure => simp [intOf]; omega
    · obtain rfl : k = len := by omega
      go_wp2
      go_ret
      exact ⟨_, rfl, fun h => of_decide_eq_true h, hB⟩

/-- A text's first word. -/
def hd (l : List UInt8) : List UInt8 := l.takeWhile (fun c => c != 32)
theorem hd_step (s : ByteArray) (j : Nat) (h : j < s.size) (hn : ((s[j].toNat : Int) == 32) = false) (hr : hd s.data.toList = s.data.toList.take j ++ hd (s.data.toList.drop j)) :
    hd s.data.toList = s.data.toList.take (j + 1) ++ hd (s.data.toList.drop (j + 1)) := by
  have hj : j < s.data.toList.length := by simpa using h
  have e : s.data.toList[j] = s[j] := rfl
  have hne : (s[j] != 32) = true := by
    rw [bne_iff_ne]; intro h'; rw [h'] at hn; simp at hn
  rw [hr, List.drop_eq_getElem_cons hj, List.take_succ_eq_append_getElem hj, e]
  unfold hd
  rw [List.takeWhile_cons, if_pos hne, List.append_assoc]
  rfl
theorem hd_stop (s : ByteArray) (j : Nat) (h : j < s.size) (hn : ((s[j].toNat : Int) == 32) = true) (hr : hd s.data.toList = s.data.toList.take j ++ hd (s.data.toList.drop j)) :
    s.extract 0 j = ⟨(hd s.data.toList).toArray⟩ := by
  have hj : j < s.data.toList.length := by simpa using h
  have e : s.data.toList[j] = s[j] := rfl
  have hne : ¬ (s[j] != 32) = true := by
    rw [bne_iff_ne]; intro h'; apply h'; rw [beq_iff_eq] at hn; exact UInt8.toNat.inj (by simpa using (by omega : s[j].toNat = 32))
  rw [hr, List.drop_eq_getElem_cons hj, e]
  unfold hd
  rw [List.takeWhile_cons, if_neg hne, List.append_nil]
  apply ByteArray.ext
  apply Array.ext'
  simp
theorem hd_end (s : ByteArray) (hr : hd s.data.toList = s.data.toList.take s.size ++ hd (s.data.toList.drop s.size)) : s = ⟨(hd s.data.toList).toArray⟩ := by
  have e1 : s.data.toList.take s.size = s.data.toList := List.take_of_length_le (by simp)
  have e2 : s.data.toList.drop s.size = [] := List.drop_of_length_le (by simp)
  rw [hr, e1, e2]
  apply ByteArray.ext
  simp [hd]
theorem ret_str {a b : ByteArray} (h : a = b) : Ending.returned (.string a) = .returned (.string b) := by rw [h]

theorem ret_nil {l : List UInt8} (h : l = []) : Ending.returned (.string ⟨#[]⟩) = .returned (.string ⟨l.toArray⟩) := by rw [h]

/-- What head answers. -/
def hdOf (x : Opr) : List UInt8 := if x.k = 3 then hd x.s.data.toList else []

set_option maxHeartbeats 1000000 in
theorem head_any (x : Opr) (w : World) (hs : x.s.size ≤ 1048576) :
    Calls Tryz.prog 54 #[.agg x.cs] w fun e w' => e = .returned (.string ⟨(hdOf x).toArray⟩) ∧ w' = w.alloc (.cells x.cs 73) := by
  obtain ⟨k, a, b, le, re, ca, bo, he, s⟩ := x
  by_cases hk : k = 3
  · subst hk
    have HF : Hid (hdOf ⟨3, a, b, le, re, ca, bo, he, s⟩ = hd s.data.toList) := rfl
    simp only [Opr.cs] at *
    go_enter Tryz.func54, Tryz.ntmps54
    go_wp2
    go_loop [3] (fun i => ∃ j : Nat, j ≤ s.size ∧ i = .int .i64 j ∧ Hid (hd s.data.toList = s.data.toList.take j ++ hd (s.data.toList.drop j))) (fun i => s.size - (intOf i).toNat)
    case atStart => exact ⟨0, Nat.zero_le _, rfl, by show _ = _; simp⟩
    case round =>
      obtain ⟨j, hj, rfl, HR⟩ := hrel
      by_cases hlt : j < s.size
      · cases hq : ((s[j].toNat : Int) == 32)
        · go_wp2
          go_round
          case rel => exact ⟨j + 1, by omega, by go_num, hd_step s j hlt hq HR.out⟩
          case measure => simp [intOf]; omega
        · go_wp2
          go_ret
          exact ⟨by rw [HF.out]; exact ret_str (hd_stop s j hlt hq HR.out), rfl⟩
      · obtain rfl : j = s.size := by omega
        go_wp2
        go_ret
        exact ⟨by rw [HF.out]; exact ret_str (hd_end s HR.out), rfl⟩
  · have hk' : (k != 3) = true := by rw [bne_iff_ne]; exact hk
    have HF : Hid (hdOf ⟨k, a, b, le, re, ca, bo, he, s⟩ = []) := if_neg hk
    clear hk
    simp only [Opr.cs] at *
    go_enter Tryz.func54, Tryz.ntmps54
    go_wp2
    go_ret
    exact ⟨ret_nil HF.out, rfl⟩
end Go.Proofs.YtffamlbkmjmipaaGreatDoor.Law
