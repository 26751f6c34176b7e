import Derived.Test.YtjkenehiojbmiaaGreatDoorRunes
import Derived.Test.YtjkenehiojbmiaaGreatDoorCutX
import Derived.WalkKit
import Derived.Shelf.Abstract
import Derived.Laws.RangeAny
namespace Go.Proofs.YtjkenehiojbmiaaGreatDoor.Msg
open Go.RowKit

/-- What the library answers in worlds that have grown out of w00. -/
structure LibAt (base : Nat) (w00 : World) : Prop where
  valid : ∀ (s : ByteArray) (w : World), s.size ≤ 4194304 → Below base w00 w → Calls Tryz.prog 109 #[.string s] w fun e w' => e = .returned (.bool (Lib.validD s.data.toList)) ∧ Below w.heap.size w w'
  split : ∀ (s : ByteArray) (w : World), s.size ≤ 4194304 → Below base w00 w → Calls Tryz.prog 79 #[.string s, .string ⟨#[32]⟩] w fun e w' =>
    e = .returned (.slice (some ⟨w.heap.size, 0, none⟩) (cutL 32 s.data.toList).length (cutL 32 s.data.toList).length) ∧ w' = w.alloc (.cells (strs (cutL 32 s.data.toList)).toArray 9)
  cut : ∀ (s : ByteArray) (w : World), s.size ≤ 4194304 → Below base w00 w → Calls Tryz.prog 41 #[.string s, .string ⟨#[10]⟩] w fun e w' =>
    e = .returned (.tuple #[.string ⟨(Lib.cut s.data.toList [10]).1.toArray⟩, .string ⟨(Lib.cut s.data.toList [10]).2.1.toArray⟩, .bool (Lib.cut s.data.toList [10]).2.2]) ∧ ∃ n, w' = w.drewN n

/-- A test of letters, as a function value. -/
structure Tests (g : Nat) (p : Int → Bool) : Prop where
  enter : ∀ args w, (callFunc g args).run Tryz.prog w = .ok (.enter g args) w
  says : ∀ (r : Nat) (w : World), r ≤ 1114111 → Calls Tryz.prog g #[.int .i32 r] w fun e w' => e = .returned (.bool (p r)) ∧ w' = w
  low : ∀ c, p c = true → c ≤ 65535

def isDigI (c : Int) : Bool := decide (48 ≤ c) && decide (c ≤ 57)
theorem isDigit_tests : Tests 97 isDigI := by
  refine ⟨enters_of Tryz.func97 (by kernel_rfl) rfl, fun r w hr => ?_, fun c h => ?_⟩
  · unfold isDigI
    by_cases h1 : (48 : Int) ≤ r <;> by_cases h2 : (r : Int) ≤ 57
    all_goals
      go_enter Tryz.func97, Tryz.ntmps97
      go_wp2
      go_ret
      simp [h1, h2]
  · unfold isDigI at h
    simp only [Bool.and_eq_true, decide_eq_true_eq] at h; omega
theorem isTenantLetter_tests : Tests 98 isTen := by
  refine ⟨enters_of Tryz.func98 (by kernel_rfl) rfl, fun r w hr => ?_, fun c h => ?_⟩
  · unfold isTen
    by_cases h1 : (97 : Int) ≤ r <;> by_cases h2 : (r : Int) ≤ 122 <;> by_cases h3 : (945 : Int) ≤ r <;> by_cases h4 : (r : Int) ≤ 969
    all_goals
      go_enter Tryz.func98, Tryz.ntmps98
      go_wp2
      go_ret
      simp [h1, h2, h3, h4]
  · unfold isTen at h
    simp only [Bool.and_eq_true, Bool.or_eq_true, decide_eq_true_eq] at h; omega
theorem isTextLetter_tests : Tests 99 isTxt := by
  refine ⟨enters_of Tryz.func99 (by kernel_rfl) rfl, fun r w hr => ?_, fun c h => ?_⟩
  · unfold isTxt
    by_cases h1 : (33 : Int) ≤ r <;> by_cases h2 : (r : Int) ≤ 126 <;> by_cases h3 : (161 : Int) ≤ r <;> by_cases h4 : (r : Int) ≤ 65535
    all_goals
      go_enter Tryz.func99, Tryz.ntmps99
      go_wp2
      go_ret
      simp [h1, h2, h3, h4]
  · unfold isTxt at h
    simp only [Bool.and_eq_true, Bool.or_eq_true, decide_eq_true_eq] at h; omega

/-- What consists leaves. -/
def ConsPost (p : Int → Bool) (most : Nat) (l : List UInt8) (w : World) (e : Ending) (w' : World) : Prop :=
  ∃ b, e = .returned (.bool b) ∧ (b = true → wordL p most l = true) ∧ Below w.heap.size w w'
theorem cons_no {p : Int → Bool} {most : Nat} {l : List UInt8} {w w' : World} (h : Below w.heap.size w w') : ConsPost p most l w (.returned (.bool false)) w' := ⟨false, rfl, (fun h => by cases h), h⟩

set_option maxHeartbeats 1000000 in
theorem consists_any {base : Nat} {w00 : World} (L : LibAt base w00) (g : Nat) (p : Int → Bool) (T : Tests g p) (s : ByteArray) (most : Nat) (w : World) (hs : s.size ≤ 4194304) (hb : Below base w00 w) :
    Calls Tryz.prog 96 #[.string s, .int .i64 most, .func (.func g) #[] #[]] w (ConsPost p most s.data.toList w) := by
  have HV : Hid (Calls Tryz.prog 109 #[.string s] w fun e w' => e = .returned (.bool (Lib.validD s.data.toList)) ∧ Below w.heap.size w w') := L.valid s w hs hb
  have eg := T.enter
  have HT : Hid (Tests g p) := T
  clear T hb
  go_enter Tryz.func96, Tryz.ntmps96
  go_wp2_with fail
  refine HV.out.mono ?_
  rintro e w1 ⟨rfl, hb1⟩
  clear HV
  cases hv : Lib.validD s.data.toList
  · clear hv
    go_wp2
    go_ret
    exact cons_no hb1
  · have HG : Hid (Got p s 0 []) := Got.start hv
    clear hv
    have hz1 := hb1.size
    go_wp2
    go_loopw [7] (fun c wr => ∃ (pos : Nat) (xs : List Int), c = .int .i64 xs.length ∧ Hid (Got p s pos xs) ∧ xs.length ≤ pos ∧ wr.heap[w1.heap.size]? = some (.stringIter s pos) ∧ Below w.heap.size w wr) (fun _ wr => s.size - wr.iterPos w1.heap.size)
    case atStart => exact ⟨0, [], rfl, HG, Nat.le_refl _, World.iter_heap w1 s 0, hb1.alloc hz1 _⟩
    case round =>
      obtain ⟨pos, xs, rfl, HGt, hxp, hit, hbw⟩ := hrel
      by_cases hlt : pos < s.size
      · have hnx : ∀ ty, (Instr.next (.pointer (some ⟨w1.heap.size, 0, none⟩)) true ty).run Tryz.prog wr = _ := fun ty => Lib.run_next_any_at wr w1.heap.size s pos ty hit hlt
        have hwd := Lib.width_pos s pos
        have hrl := Lib.rune_le s pos
        have hit2 := Lib.iterAt_heap wr w1.heap.size s pos (pos + (Utf8.decode s pos).2) hit
        have hbw2 := Lib.below_iterAt hbw (k := w1.heap.size) hz1 s (pos + (Utf8.decode s pos).2)
        have HST : Hid (p ((Utf8.decode s pos).1 : Int) = true → Got p s (pos + (Utf8.decode s pos).2) (xs ++ [((Utf8.decode s pos).1 : Int)])) := fun hp => HGt.out.step hlt hp HT.out.low
        obtain ⟨W, hWd⟩ : ∃ W, wr.iterAt w1.heap.size s (pos + (Utf8.decode s pos).2) = W := ⟨_, rfl⟩
        rw [hWd] at hnx hit2 hbw2
        have hip : s.size - W.iterPos w1.heap.size < s.size - wr.iterPos w1.heap.size := by
          unfold World.iterPos; rw [hit, hit2]; simp; omega
        generalize (Utf8.decode s pos).1 = R at *
        generalize (Utf8.decode s pos).2 = K at *
        have HS : Hid (Calls Tryz.prog g #[.int .i32 (R : Int)] W fun e w' => e = .returned (.bool (p R)) ∧ w' = W) := HT.out.says R W hrl
        clear HT HG HGt hit hbw hWd
        cases hp : p (R : Int)
        · rw [hp] at HS
          clear hp HST
          go_wp2_with (go_at_fn g; refine HS.out.mono ?_; rintro e W' ⟨rfl, rfl⟩)
          go_ret
          exact cons_no hbw2
        · rw [hp] at HS
          have HG2 : Hid (Got p s (pos + K) (xs ++ [(R : Int)])) := HST.out hp
          clear hp HST
          go_wp2_with (go_at_fn g; refine HS.out.mono ?_; rintro e W' ⟨rfl, rfl⟩)
          go_roundw
          case rel => exact ⟨pos + K, xs ++ [(R : Int)], by simp, HG2, by simp; omega, hit2, hbw2⟩
          case measure => exact hip
      · have hnx : ∀ ty, (Instr.next (.pointer (some ⟨w1.heap.size, 0, none⟩)) true ty).run Tryz.prog wr = _ := fun ty => Lib.run_next_end_at wr w1.heap.size s pos ty hit hlt
        have HL : Hid (wordL p most s.data.toList = (decide (1 ≤ xs.length) && decide (xs.length ≤ most))) := by
          rw [wordL_some (HGt.out.done hlt), HGt.out.1]; rfl
        clear HGt HG HT
        have hxm : xs.length ≤ 4194304 + pos := by omega
        generalize xs.length = n at *
        by_cases h1 : (1 : Int) ≤ n <;> by_cases h2 : (n : Int) ≤ most
        all_goals
          go_wp2
          go_ret
        · exact ⟨true, rfl, fun _ => by rw [HL.out]; simp; omega, hbw⟩
        · exact cons_no hbw
        · exact cons_no hbw
        · exact cons_no hbw
end Go.Proofs.YtjkenehiojbmiaaGreatDoor.Msg
