import Derived.Test.YtffamlbkmjmipaaGreatDoorSealed
import Derived.Test.YtffamlbkmjmipaaGreatDoorBld
import Derived.BigCall
namespace Go.Proofs.YtffamlbkmjmipaaGreatDoor.Sums
open Go.RowKit
attribute [local go_sem] setCell_drewN
attribute [local go_sem] alloc_drewN

theorem dig_at (x : Int) (h0 : 0 ≤ x) (h1 : x ≤ 15) (h : x.toNat < (⟨#[48, 49, 50, 51, 52, 53, 54, 55, 56, 57, 97, 98, 99, 100, 101, 102]⟩ : ByteArray).size) : ((⟨#[48, 49, 50, 51, 52, 53, 54, 55, 56, 57, 97, 98, 99, 100, 101, 102]⟩ : ByteArray)[x.toNat]'h) = dg x := by
  obtain ⟨n, rfl⟩ := Int.eq_ofNat_of_zero_le h0
  have hn : n < 16 := by omega
  have e : ∀ m : Fin 16, ((⟨#[48, 49, 50, 51, 52, 53, 54, 55, 56, 57, 97, 98, 99, 100, 101, 102]⟩ : ByteArray)[((m.val : Int)).toNat]?).getD 0 = dg (m.val : Int) := by decide +kernel
  have e1 : ((⟨#[48, 49, 50, 51, 52, 53, 54, 55, 56, 57, 97, 98, 99, 100, 101, 102]⟩ : ByteArray)[((n : Int)).toNat]?).getD 0 = dg (n : Int) := e ⟨n, hn⟩
  have e2 : (⟨#[48, 49, 50, 51, 52, 53, 54, 55, 56, 57, 97, 98, 99, 100, 101, 102]⟩ : ByteArray)[((n : Int)).toNat]? = some ((⟨#[48, 49, 50, 51, 52, 53, 54, 55, 56, 57, 97, 98, 99, 100, 101, 102]⟩ : ByteArray)[((n : Int)).toNat]'h) := getElem?_pos (⟨#[48, 49, 50, 51, 52, 53, 54, 55, 56, 57, 97, 98, 99, 100, 101, 102]⟩ : ByteArray) _ h
  rw [e2] at e1
  exact e1
theorem two_cells (l : List UInt8) (x : Int) (h0 : 0 ≤ x) (h1 : x ≤ 255) (p1 : (x / 16).toNat < (⟨#[48, 49, 50, 51, 52, 53, 54, 55, 56, 57, 97, 98, 99, 100, 101, 102]⟩ : ByteArray).size) (p2 : (x % 16).toNat < (⟨#[48, 49, 50, 51, 52, 53, 54, 55, 56, 57, 97, 98, 99, 100, 101, 102]⟩ : ByteArray).size) :
    Lib.byteCells l ++ [Value.int .u8 (((⟨#[48, 49, 50, 51, 52, 53, 54, 55, 56, 57, 97, 98, 99, 100, 101, 102]⟩ : ByteArray)[(x / 16).toNat]'p1).toNat : Int)] ++ [Value.int .u8 (((⟨#[48, 49, 50, 51, 52, 53, 54, 55, 56, 57, 97, 98, 99, 100, 101, 102]⟩ : ByteArray)[(x % 16).toNat]'p2).toNat : Int)] = Lib.byteCells (l ++ two x) := by
  rw [dig_at _ (by omega) (by omega), dig_at _ (by omega) (by omega), Lib.byteCells_append]
  simp [Lib.byteCells, two]

set_option maxHeartbeats 1000000 in
set_option maxRecDepth 100000 in
theorem sumstr_any (a b c d : Int) (w : World) (ha : 0 ≤ a ∧ a ≤ 255) (hb : 0 ≤ b ∧ b ≤ 255) (hc : 0 ≤ c ∧ c ≤ 255) (hd : 0 ≤ d ∧ d ≤ 255) :
    Calls Tryz.prog 85 #[.agg #[.int .u8 a, .int .u8 b, .int .u8 c, .int .u8 d]] w fun e w' => e = .returned (.string ⟨(two a ++ two b ++ two c ++ two d).toArray⟩) ∧ Below w.heap.size w w' := by
  have i0 : ∀ w : World, (Instr.index 143 (.agg #[.int .u8 a, .int .u8 b, .int .u8 c, .int .u8 d]) (.int .i64 0)).run Tryz.prog w = .ok (.int .u8 a) w := fun _ => by kernel_rfl
  have i1 : ∀ w : World, (Instr.index 143 (.agg #[.int .u8 a, .int .u8 b, .int .u8 c, .int .u8 d]) (.int .i64 1)).run Tryz.prog w = .ok (.int .u8 b) w := fun _ => by kernel_rfl
  have i2 : ∀ w : World, (Instr.index 143 (.agg #[.int .u8 a, .int .u8 b, .int .u8 c, .int .u8 d]) (.int .i64 2)).run Tryz.prog w = .ok (.int .u8 c) w := fun _ => by kernel_rfl
  have i3 : ∀ w : World, (Instr.index 143 (.agg #[.int .u8 a, .int .u8 b, .int .u8 c, .int .u8 d]) (.int .i64 3)).run Tryz.prog w = .ok (.int .u8 d) w := fun _ => by kernel_rfl
  go_enter Tryz.func85, Tryz.ntmps85
  go_wp2
  go_loopw [7] (fun i wr => ∃ (j : Nat) (l : List UInt8), j ≤ 4 ∧ l.length ≤ 2 * j ∧ i = .int .i64 j ∧ Lib.IsBuilderF 191 5 (w.heap.size + 1) (w.heap.size + 1) (Lib.byteCells l) wr ∧ Below (w.heap.size + 1) (w.alloc (.cells #[.int .u8 a, .int .u8 b, .int .u8 c, .int .u8 d] 143)) wr ∧ l = (([a, b, c, d].take j).flatMap two)) (fun i _ => 4 - (intOf i).toNat)
  case atStart => exact ⟨0, [], by omega, by simp, rfl, Lib.IsBuilderF.of (by have h := Lib.fresh_isBuilder 191 5 (w.alloc (.cells #[.int .u8 a, .int .u8 b, .int .u8 c, .int .u8 d] 143)); simp only [World.size_alloc] at h; exact h), (Below.refl _ _).alloc (by simp) _, rfl⟩
  case round =>
    obtain ⟨j, l, hj, hll, rfl, hI, hB, hl⟩ := hrel
    have hsz : w.heap.size + 1 ≤ wr.heap.size := by have := hB.size; simpa using this
    have HL : Hid (l = (([a, b, c, d].take j).flatMap two)) := hl
    clear hl
    by_cases hlt : j < 4
    · have hm : j = 0 ∨ j = 1 ∨ j = 2 ∨ j = 3 := by omega
      rcases hm with rfl | rfl | rfl | rfl
      · have q1 : 0 ≤ a / 16 ∧ a / 16 ≤ 15 := by omega
        have q2 : 0 ≤ a % 16 ∧ a % 16 ≤ 15 := by omega
        go_wp2_with fail
        refine (Bld.writeByte_k (w.heap.size + 1) (w.heap.size + 1) (Lib.byteCells l) _ _ hI (by rw [Lib.byteCells_length]; omega) hsz).mono ?_
        rintro e w1 ⟨rfl, h1, hb1, _⟩
        have hsz1 : w.heap.size + 1 ≤ w1.heap.size := Nat.le_trans hsz hb1.size
        go_wp2_with fail
        refine (Bld.writeByte_k (w.heap.size + 1) (w.heap.size + 1) _ _ _ (Or.inr h1) (by rw [List.length_append, Lib.byteCells_length, List.length_singleton]; omega) hsz1).mono ?_
        rintro e w2 ⟨rfl, h2, hb2, _⟩
        rw [two_cells l a ha.1 ha.2] at h2
        go_wp2
        go_roundw
        case rel => exact ⟨0 + 1, l ++ two a, by omega, by rw [List.length_append]; simp only [two, List.length_cons, List.length_nil]; omega, by go_num, Or.inr h2, (hB.trans hb1).trans hb2, by rw [HL.out]; simp⟩
        case measure => simp [intOf]
      · have q1 : 0 ≤ b / 16 ∧ b / 16 ≤ 15 := by omega
        have q2 : 0 ≤ b % 16 ∧ b % 16 ≤ 15 := by omega
        go_wp2_with fail
        refine (Bld.writeByte_k (w.heap.size + 1) (w.heap.size + 1) (Lib.byteCells l) _ _ hI (by rw [Lib.byteCells_length]; omega) hsz).mono ?_
        rintro e w1 ⟨rfl, h1, hb1, _⟩
        have hsz1 : w.heap.size + 1 ≤ w1.heap.size := Nat.le_trans hsz hb1.size
        go_wp2_with fail
        refine (Bld.writeByte_k (w.heap.size + 1) (w.heap.size + 1) _ _ _ (Or.inr h1) (by rw [List.length_append, Lib.byteCells_length, List.length_singleton]; omega) hsz1).mono ?_
        rintro e w2 ⟨rfl, h2, hb2, _⟩
        rw [two_cells l b hb.1 hb.2] at h2
        go_wp2
        go_roundw
        case rel => exact ⟨1 + 1, l ++ two b, by omega, by rw [List.length_append]; simp only [two, List.length_cons, List.length_nil]; omega, by go_num, Or.inr h2, (hB.trans hb1).trans hb2, by rw [HL.out]; simp⟩
        case measure => simp [intOf]
      · have q1 : 0 ≤ c / 16 ∧ c / 16 ≤ 15 := by omega
        have q2 : 0 ≤ c % 16 ∧ c % 16 ≤ 15 := by omega
        go_wp2_with fail
        refine (Bld.writeByte_k (w.heap.size + 1) (w.heap.size + 1) (Lib.byteCells l) _ _ hI (by rw [Lib.byteCells_length]; omega) hsz).mono ?_
        rintro e w1 ⟨rfl, h1, hb1, _⟩
        have hsz1 : w.heap.size + 1 ≤ w1.heap.size := Nat.le_trans hsz hb1.size
        go_wp2_with fail
        refine (Bld.writeByte_k (w.heap.size + 1) (w.heap.size + 1) _ _ _ (Or.inr h1) (by rw [List.length_append, Lib.byteCells_length, List.length_singleton]; omega) hsz1).mono ?_
        rintro e w2 ⟨rfl, h2, hb2, _⟩
        rw [two_cells l c hc.1 hc.2] at h2
        go_wp2
        go_roundw
        case rel => exact ⟨2 + 1, l ++ two c, by omega, by rw [List.length_append]; simp only [two, List.length_cons, List.length_nil]; omega, by go_num, Or.inr h2, (hB.trans hb1).trans hb2, by rw [HL.out]; simp⟩
        case measure => simp [intOf]
      · have q1 : 0 ≤ d / 16 ∧ d / 16 ≤ 15 := by omega
        have q2 : 0 ≤ d % 16 ∧ d % 16 ≤ 15 := by omega
        go_wp2_with fail
        refine (Bld.writeByte_k (w.heap.size + 1) (w.heap.size + 1) (Lib.byteCells l) _ _ hI (by rw [Lib.byteCells_length]; omega) hsz).mono ?_
        rintro e w1 ⟨rfl, h1, hb1, _⟩
        have hsz1 : w.heap.size + 1 ≤ w1.heap.size := Nat.le_trans hsz hb1.size
        go_wp2_with fail
        refine (Bld.writeByte_k (w.heap.size + 1) (w.heap.size + 1) _ _ _ (Or.inr h1) (by rw [List.length_append, Lib.byteCells_length, List.length_singleton]; omega) hsz1).mono ?_
        rintro e w2 ⟨rfl, h2, hb2, _⟩
        rw [two_cells l d hd.1 hd.2] at h2
        go_wp2
        go_roundw
        case rel => exact ⟨3 + 1, l ++ two d, by omega, by rw [List.length_append]; simp only [two, List.length_cons, List.length_nil]; omega, by go_num, Or.inr h2, (hB.trans hb1).trans hb2, by rw [HL.out]; simp⟩
        case measure => simp [intOf]
    · obtain rfl : j = 4 := by omega
      go_wp2_with fail
      refine (Tryz.Builder_String_any_k (w.heap.size + 1) (w.heap.size + 1) l _ hI hsz).mono ?_
      rintro e w1 ⟨rfl, _, hb1, _⟩
      go_wp2
      go_ret
      refine ⟨by rw [HL.out]; simp, ?_⟩
      exact ((Below.refl _ _).alloc (Nat.le_refl _) _).trans ((hB.trans hb1).mono (Nat.le_succ _))
end Go.Proofs.YtffamlbkmjmipaaGreatDoor.Sums
