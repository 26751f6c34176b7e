import Derived.Test.YtjkenehiojbmiaaGreatDoorSim
import Derived.Carry
namespace Go.Proofs.YtjkenehiojbmiaaGreatDoor.Law
open Go.RowKit Mdl Msg

/-- Numbers that are a configuration. -/
def okC (o : Opr) : Bool := decide (1 ≤ o.le) && decide (o.le ≤ 20) && (decide (0 ≤ o.re) && decide (o.re ≤ 5)) && (decide (1 ≤ o.ca) && decide (o.ca ≤ 5)) && (decide (1 ≤ o.bo) && decide (o.bo ≤ 8)) && (decide (0 ≤ o.he) && decide (o.he ≤ 20))

set_option maxHeartbeats 1000000 in
theorem withinM_any (n a b : Int) (w : World) : Calls Tryz.prog 37 #[.int .i64 n, .int .i64 a, .int .i64 b] w fun e w' => e = .returned (.bool (decide (a ≤ n) && decide (n ≤ b))) ∧ w' = w := by
  by_cases h1 : a ≤ n
  · by_cases h2 : n ≤ b
    · go_enter Tryz.func37, Tryz.ntmps37
      go_wp2
      go_ret
      exact ⟨by simp [h1, h2], rfl⟩
    · go_enter Tryz.func37, Tryz.ntmps37
      go_wp2
      go_ret
      exact ⟨by simp; omega, rfl⟩
  · go_enter Tryz.func37, Tryz.ntmps37
    go_wp2
    go_ret
    exact ⟨by simp; omega, rfl⟩
set_option maxHeartbeats 1000000 in
theorem withinX_any (n a b : Int) (w : World) : Calls Tryz.prog 63 #[.int .i64 n, .int .i64 a, .int .i64 b] w fun e w' => e = .returned (.bool (decide (a ≤ n) && decide (n ≤ b))) ∧ w' = w := by
  by_cases h1 : a ≤ n
  · by_cases h2 : n ≤ b
    · go_enter Tryz.func63, Tryz.ntmps63
      go_wp2
      go_ret
      exact ⟨by simp [h1, h2], rfl⟩
    · go_enter Tryz.func63, Tryz.ntmps63
      go_wp2
      go_ret
      exact ⟨by simp; omega, rfl⟩
  · go_enter Tryz.func63, Tryz.ntmps63
    go_wp2
    go_ret
    exact ⟨by simp; omega, rfl⟩

/-- The model, made. -/
def mv0 (o : Opr) : MV := ⟨.int .i64 o.le, .int .i64 o.re, .int .i64 o.ca, .int .i64 o.bo, .int .i64 o.he, .int .i64 0, .slice none 0 0, .slice none 0 0, .slice none 0 0, .slice none 0 0, .slice none 0 0, .slice none 0 0⟩
theorem ret_no {a b : Bool} (h : a = b) {P : Prop} (hp : P) : a = b ∧ P := ⟨h, hp⟩

def NewMPost (o : Opr) (w : World) (e : Ending) (w' : World) : Prop :=
  (okC o = false ∧ e = .returned (.tuple #[.pointer none, .bool false]) ∧ Below w.heap.size w w') ∨
  (okC o = true ∧ ∃ b, e = .returned (.tuple #[.pointer (some ⟨w.heap.size + 1, 0, none⟩), .bool true]) ∧ w' = (w.alloc b).alloc (.cells (mv0 o).cs 80))

set_option maxHeartbeats 4000000 in
set_option maxRecDepth 100000 in
theorem newM_any (o : Opr) (w : World) : Calls Tryz.prog 18 #[o.cfg] w (NewMPost o w) := by
  obtain ⟨k, a, b, le, re, ca, bo, he, s⟩ := o
  have h1 := fun w => withinM_any le 1 20 w
  have h2 := fun w => withinM_any re 0 5 w
  have h3 := fun w => withinM_any ca 1 5 w
  have h4 := fun w => withinM_any bo 1 8 w
  have h5 := fun w => withinM_any he 0 20 w
  have hok : okC ⟨k, a, b, le, re, ca, bo, he, s⟩ = ((((((decide (1 ≤ le) && decide (le ≤ 20))) && (decide (0 ≤ re) && decide (re ≤ 5))) && (decide (1 ≤ ca) && decide (ca ≤ 5))) && (decide (1 ≤ bo) && decide (bo ≤ 8))) && (decide (0 ≤ he) && decide (he ≤ 20))) := rfl
  generalize (decide (1 ≤ le) && decide (le ≤ 20)) = b1 at *
  generalize (decide (0 ≤ re) && decide (re ≤ 5)) = b2 at *
  generalize (decide (1 ≤ ca) && decide (ca ≤ 5)) = b3 at *
  generalize (decide (1 ≤ bo) && decide (bo ≤ 8)) = b4 at *
  generalize (decide (0 ≤ he) && decide (he ≤ 20)) = b5 at *
  have HOK : Hid (okC ⟨k, a, b, le, re, ca, bo, he, s⟩ = ((((b1 && b2) && b3) && b4) && b5)) := hok
  have H1 : Hid (∀ w, Calls Tryz.prog 37 #[.int .i64 le, .int .i64 1, .int .i64 20] w fun e w' => e = .returned (.bool b1) ∧ w' = w) := h1
  have H2 : Hid (∀ w, Calls Tryz.prog 37 #[.int .i64 re, .int .i64 0, .int .i64 5] w fun e w' => e = .returned (.bool b2) ∧ w' = w) := h2
  have H3 : Hid (∀ w, Calls Tryz.prog 37 #[.int .i64 ca, .int .i64 1, .int .i64 5] w fun e w' => e = .returned (.bool b3) ∧ w' = w) := h3
  have H4 : Hid (∀ w, Calls Tryz.prog 37 #[.int .i64 bo, .int .i64 1, .int .i64 8] w fun e w' => e = .returned (.bool b4) ∧ w' = w) := h4
  have H5 : Hid (∀ w, Calls Tryz.prog 37 #[.int .i64 he, .int .i64 0, .int .i64 20] w fun e w' => e = .returned (.bool b5) ∧ w' = w) := h5
  clear h1 h2 h3 h4 h5 hok
  simp only [Opr.cfg]
  have HNO : Hid (∀ o', okC ⟨k, a, b, le, re, ca, bo, he, s⟩ = false → NewMPost ⟨k, a, b, le, re, ca, bo, he, s⟩ w (.returned (.tuple #[.pointer none, .bool false])) (w.alloc o')) := fun o' h => Or.inl ⟨h, rfl, (Below.refl _ _).alloc (Nat.le_refl _) _⟩
  cases b1
  · go_enter Tryz.func18, Tryz.ntmps18
    go_wp2_with fail
    refine (H1.out _).mono ?_
    rintro e wq ⟨rfl, rfl⟩
    go_wp2
    go_ret2
    exact HNO.out _ (HOK.out.trans (by simp))
  cases b2
  · go_enter Tryz.func18, Tryz.ntmps18
    go_wp2_with fail
    refine (H1.out _).mono ?_
    rintro e wq ⟨rfl, rfl⟩
    go_wp2_with fail
    refine (H2.out _).mono ?_
    rintro e wq ⟨rfl, rfl⟩
    go_wp2
    go_ret2
    exact HNO.out _ (HOK.out.trans (by simp))
  cases b3
  · go_enter Tryz.func18, Tryz.ntmps18
    go_wp2_with fail
    refine (H1.out _).mono ?_
    rintro e wq ⟨rfl, rfl⟩
    go_wp2_with fail
    refine (H2.out _).mono ?_
    rintro e wq ⟨rfl, rfl⟩
    go_wp2_with fail
    refine (H3.out _).mono ?_
    rintro e wq ⟨rfl, rfl⟩
    go_wp2
    go_ret2
    exact HNO.out _ (HOK.out.trans (by simp))
  cases b4
  · go_enter Tryz.func18, Tryz.ntmps18
    go_wp2_with fail
    refine (H1.out _).mono ?_
    rintro e wq ⟨rfl, rfl⟩
    go_wp2_with fail
    refine (H2.out _).mono ?_
    rintro e wq ⟨rfl, rfl⟩
    go_wp2_with fail
    refine (H3.out _).mono ?_
    rintro e wq ⟨rfl, rfl⟩
    go_wp2_with fail
    refine (H4.out _).mono ?_
    rintro e wq ⟨rfl, rfl⟩
    go_wp2
    go_ret2
    exact HNO.out _ (HOK.out.trans (by simp))
  cases b5
  · go_enter Tryz.func18, Tryz.ntmps18
    go_wp2_with fail
    refine (H1.out _).mono ?_
    rintro e wq ⟨rfl, rfl⟩
    go_wp2_with fail
    refine (H2.out _).mono ?_
    rintro e wq ⟨rfl, rfl⟩
    go_wp2_with fail
    refine (H3.out _).mono ?_
    rintro e wq ⟨rfl, rfl⟩
    go_wp2_with fail
    refine (H4.out _).mono ?_
    rintro e wq ⟨rfl, rfl⟩
    go_wp2_with fail
    refine (H5.out _).mono ?_
    rintro e wq ⟨rfl, rfl⟩
    go_wp2
    go_ret2
    exact HNO.out _ (HOK.out.trans (by simp))
  go_enter Tryz.func18, Tryz.ntmps18
  go_wp2_with fail
  refine (H1.out _).mono ?_
  rintro e wq ⟨rfl, rfl⟩
  go_wp2_with fail
  refine (H2.out _).mono ?_
  rintro e wq ⟨rfl, rfl⟩
  go_wp2_with fail
  refine (H3.out _).mono ?_
  rintro e wq ⟨rfl, rfl⟩
  go_wp2_with fail
  refine (H4.out _).mono ?_
  rintro e wq ⟨rfl, rfl⟩
  go_wp2_with fail
  refine (H5.out _).mono ?_
  rintro e wq ⟨rfl, rfl⟩
  go_wp2
  go_ret2
  exact Or.inr ⟨HOK.out, _, rfl, rfl⟩
end Go.Proofs.YtjkenehiojbmiaaGreatDoor.Law
namespace Go.Proofs.YtjkenehiojbmiaaGreatDoor.Law
open Go.RowKit Mdl Msg

theorem cfg_ret {a b : Bool} (h : a = b) : Ending.returned (.bool b) = .returned (.bool a) := by rw [h]
set_option maxHeartbeats 4000000 in
set_option maxRecDepth 100000 in
theorem isConfig_any (o : Opr) (w : World) : Calls Tryz.prog 36 #[o.cfg] w fun e w' => e = .returned (.bool (okC o)) ∧ Below w.heap.size w w' := by
  obtain ⟨k, a, b, le, re, ca, bo, he, s⟩ := o
  have h1 := fun w => withinX_any le 1 20 w
  have h2 := fun w => withinX_any re 0 5 w
  have h3 := fun w => withinX_any ca 1 5 w
  have h4 := fun w => withinX_any bo 1 8 w
  have h5 := fun w => withinX_any he 0 20 w
  have hok : okC ⟨k, a, b, le, re, ca, bo, he, s⟩ = ((((((decide (1 ≤ le) && decide (le ≤ 20))) && (decide (0 ≤ re) && decide (re ≤ 5))) && (decide (1 ≤ ca) && decide (ca ≤ 5))) && (decide (1 ≤ bo) && decide (bo ≤ 8))) && (decide (0 ≤ he) && decide (he ≤ 20))) := rfl
  generalize (decide (1 ≤ le) && decide (le ≤ 20)) = b1 at *
  generalize (decide (0 ≤ re) && decide (re ≤ 5)) = b2 at *
  generalize (decide (1 ≤ ca) && decide (ca ≤ 5)) = b3 at *
  generalize (decide (1 ≤ bo) && decide (bo ≤ 8)) = b4 at *
  generalize (decide (0 ≤ he) && decide (he ≤ 20)) = b5 at *
  have HOK : Hid (okC ⟨k, a, b, le, re, ca, bo, he, s⟩ = ((((b1 && b2) && b3) && b4) && b5)) := hok
  have H1 : Hid (∀ w, Calls Tryz.prog 63 #[.int .i64 le, .int .i64 1, .int .i64 20] w fun e w' => e = .returned (.bool b1) ∧ w' = w) := h1
  have H2 : Hid (∀ w, Calls Tryz.prog 63 #[.int .i64 re, .int .i64 0, .int .i64 5] w fun e w' => e = .returned (.bool b2) ∧ w' = w) := h2
  have H3 : Hid (∀ w, Calls Tryz.prog 63 #[.int .i64 ca, .int .i64 1, .int .i64 5] w fun e w' => e = .returned (.bool b3) ∧ w' = w) := h3
  have H4 : Hid (∀ w, Calls Tryz.prog 63 #[.int .i64 bo, .int .i64 1, .int .i64 8] w fun e w' => e = .returned (.bool b4) ∧ w' = w) := h4
  have H5 : Hid (∀ w, Calls Tryz.prog 63 #[.int .i64 he, .int .i64 0, .int .i64 20] w fun e w' => e = .returned (.bool b5) ∧ w' = w) := h5
  clear h1 h2 h3 h4 h5 hok
  simp only [Opr.cfg]
  cases b1
  · go_enter Tryz.func36, Tryz.ntmps36
    go_wp2_with fail
    refine (H1.out _).mono ?_
    rintro e wq ⟨rfl, rfl⟩
    go_wp2
    go_ret
    exact ⟨cfg_ret (HOK.out.trans (by simp)), (Below.refl _ _).alloc (Nat.le_refl _) _⟩
  cases b2
  · go_enter Tryz.func36, Tryz.ntmps36
    go_wp2_with fail
    refine (H1.out _).mono ?_
    rintro e wq ⟨rfl, rfl⟩
    go_wp2_with fail
    refine (H2.out _).mono ?_
    rintro e wq ⟨rfl, rfl⟩
    go_wp2
    go_ret
    exact ⟨cfg_ret (HOK.out.trans (by simp)), (Below.refl _ _).alloc (Nat.le_refl _) _⟩
  cases b3
  · go_enter Tryz.func36, Tryz.ntmps36
    go_wp2_with fail
    refine (H1.out _).mono ?_
    rintro e wq ⟨rfl, rfl⟩
    go_wp2_with fail
    refine (H2.out _).mono ?_
    rintro e wq ⟨rfl, rfl⟩
    go_wp2_with fail
    refine (H3.out _).mono ?_
    rintro e wq ⟨rfl, rfl⟩
    go_wp2
    go_ret
    exact ⟨cfg_ret (HOK.out.trans (by simp)), (Below.refl _ _).alloc (Nat.le_refl _) _⟩
  cases b4
  · go_enter Tryz.func36, Tryz.ntmps36
    go_wp2_with fail
    refine (H1.out _).mono ?_
    rintro e wq ⟨rfl, rfl⟩
    go_wp2_with fail
    refine (H2.out _).mono ?_
    rintro e wq ⟨rfl, rfl⟩
    go_wp2_with fail
    refine (H3.out _).mono ?_
    rintro e wq ⟨rfl, rfl⟩
    go_wp2_with fail
    refine (H4.out _).mono ?_
    rintro e wq ⟨rfl, rfl⟩
    go_wp2
    go_ret
    exact ⟨cfg_ret (HOK.out.trans (by simp)), (Below.refl _ _).alloc (Nat.le_refl _) _⟩
  cases b5
  · go_enter Tryz.func36, Tryz.ntmps36
    go_wp2_with fail
    refine (H1.out _).mono ?_
    rintro e wq ⟨rfl, rfl⟩
    go_wp2_with fail
    refine (H2.out _).mono ?_
    rintro e wq ⟨rfl, rfl⟩
    go_wp2_with fail
    refine (H3.out _).mono ?_
    rintro e wq ⟨rfl, rfl⟩
    go_wp2_with fail
    refine (H4.out _).mono ?_
    rintro e wq ⟨rfl, rfl⟩
    go_wp2_with fail
    refine (H5.out _).mono ?_
    rintro e wq ⟨rfl, rfl⟩
    go_wp2
    go_ret
    exact ⟨cfg_ret (HOK.out.trans (by simp)), (Below.refl _ _).alloc (Nat.le_refl _) _⟩
  go_enter Tryz.func36, Tryz.ntmps36
  go_wp2_with fail
  refine (H1.out _).mono ?_
  rintro e wq ⟨rfl, rfl⟩
  go_wp2_with fail
  refine (H2.out _).mono ?_
  rintro e wq ⟨rfl, rfl⟩
  go_wp2_with fail
  refine (H3.out _).mono ?_
  rintro e wq ⟨rfl, rfl⟩
  go_wp2_with fail
  refine (H4.out _).mono ?_
  rintro e wq ⟨rfl, rfl⟩
  go_wp2_with fail
  refine (H5.out _).mono ?_
  rintro e wq ⟨rfl, rfl⟩
  go_wp2
  go_ret
  exact ⟨cfg_ret (HOK.out.trans (by simp)), (Below.refl _ _).alloc (Nat.le_refl _) _⟩

def NewXPost (o : Opr) (w : World) (e : Ending) (w' : World) : Prop :=
  (okC o = false ∧ e = .returned (.tuple #[.pointer none, .int .i64 1]) ∧ Below w.heap.size w w') ∨
  (okC o = true ∧ ∃ w1, Below w.heap.size w w1 ∧ e = .returned (.tuple #[.pointer (some ⟨w1.heap.size + 1, 0, none⟩), .int .i64 0]) ∧ w' = (w1.alloc (.map #[] 0)).alloc (.cells #[.map (some w1.heap.size)] 72))

set_option maxHeartbeats 4000000 in
set_option maxRecDepth 100000 in
theorem newX_any (o : Opr) (w : World) : Calls Tryz.prog 17 #[o.cfg] w (NewXPost o w) := by
  have HC : Hid (∀ w, Calls Tryz.prog 36 #[o.cfg] w fun e w' => e = .returned (.bool (okC o)) ∧ Below w.heap.size w w') := fun w => isConfig_any o w
  obtain ⟨ok, hok⟩ : ∃ ok, okC o = ok := ⟨_, rfl⟩
  rw [hok] at HC
  have HOK : Hid (okC o = ok) := hok
  clear hok
  obtain ⟨k, a, b, le, re, ca, bo, he, s⟩ := o
  simp only [Opr.cfg] at *
  have hmm := @run_makeMap Tryz.prog
  cases ok
  · go_enter Tryz.func17, Tryz.ntmps17
    go_wp2_with fail
    refine (HC.out _).mono ?_
    rintro e w1 ⟨rfl, hb1⟩
    go_wp2
    go_ret2
    exact Or.inl ⟨HOK.out, rfl, ((Below.refl _ _).alloc (Nat.le_refl _) _).trans (hb1.mono (by simp))⟩
  · go_enter Tryz.func17, Tryz.ntmps17
    go_wp2_with fail
    refine (HC.out _).mono ?_
    rintro e w1 ⟨rfl, hb1⟩
    go_wp2
    go_ret2
    exact Or.inr ⟨HOK.out, w1, ((Below.refl _ _).alloc (Nat.le_refl _) _).trans (hb1.mono (by simp)), rfl, rfl⟩
end Go.Proofs.YtjkenehiojbmiaaGreatDoor.Law
