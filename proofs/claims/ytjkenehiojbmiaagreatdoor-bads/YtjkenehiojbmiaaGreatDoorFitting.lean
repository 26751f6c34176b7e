import Derived.Test.YtjkenehiojbmiaaGreatDoorCons
import Derived.Test.YtjkenehiojbmiaaGreatDoorReadDef
namespace Go.Proofs.YtjkenehiojbmiaaGreatDoor.Msg
open Go.RowKit

/-- A test of words, as a function value. -/
structure Words (base : Nat) (w00 : World) (g : Nat) (p : List UInt8 → Bool) : Prop where
  enter : ∀ args w, (callFunc g args).run Tryz.prog w = .ok (.enter g args) w
  says : ∀ (s : ByteArray) (w : World), s.size ≤ 4194304 → Below base w00 w → Calls Tryz.prog g #[.string s] w fun e w' => ∃ b, e = .returned (.bool b) ∧ (b = true → p s.data.toList = true) ∧ Below w.heap.size w w'

theorem isTenant_says {base : Nat} {w00 : World} (L : LibAt base w00) : Words base w00 82 tenL := by
  refine ⟨enters_of Tryz.func82 (by kernel_rfl) rfl, fun s w hs hb => ?_⟩
  have HC := consists_any L _ isTen isTenantLetter_tests s 6 w hs hb
  go_enter Tryz.func82, Tryz.ntmps82
  go_wp2_with fail
  refine HC.mono ?_
  rintro e w1 ⟨b, rfl, h, hb1⟩
  go_wp2
  go_ret
  exact ⟨b, rfl, h, hb1⟩
theorem isPayload_says {base : Nat} {w00 : World} (L : LibAt base w00) : Words base w00 83 txtL := by
  refine ⟨enters_of Tryz.func83 (by kernel_rfl) rfl, fun s w hs hb => ?_⟩
  have HC := consists_any L _ isTxt isTextLetter_tests s 12 w hs hb
  go_enter Tryz.func83, Tryz.ntmps83
  go_wp2_with fail
  refine HC.mono ?_
  rintro e w1 ⟨b, rfl, h, hb1⟩
  go_wp2
  go_ret
  exact ⟨b, rfl, h, hb1⟩
/-! ### numbers -/
theorem let_small {l : List UInt8} {i n : Nat} {c : Int} (h : letAt l i = some (c, n)) (hc : c < 128) : n = 1 ∧ c = byteAt l i := by
  have hb := byteAt_bd l i
  have hb1 := byteAt_bd l (i + 1)
  have hb2 := byteAt_bd l (i + 2)
  unfold letAt at h
  by_cases h1 : byteAt l i < 128
  · rw [if_pos h1] at h
    have e := Option.some.inj h
    exact ⟨(Prod.mk.inj e).2.symm, (Prod.mk.inj e).1.symm⟩
  rw [if_neg h1] at h
  by_cases h2 : 194 ≤ byteAt l i ∧ byteAt l i < 224
  · rw [if_pos h2] at h
    split at h
    · have e := (Prod.mk.inj (Option.some.inj h)).1
      unfold two' at e
      omega
    · cases h
  rw [if_neg h2] at h
  by_cases h3 : 224 ≤ byteAt l i ∧ byteAt l i < 240
  · rw [if_pos h3] at h
    split at h
    · rename_i hh
      have e := (Prod.mk.inj (Option.some.inj h)).1
      have := hh.2.2.2
      omega
    · cases h
  rw [if_neg h3] at h
  cases h
theorem lets_dig {l : List UInt8} : ∀ (f i : Nat) (xs : List Int), letsG (letAt l) l.length f i = some xs → xs.all isDigI = true → i ≤ l.length → xs.length = l.length - i ∧ ∀ j, i ≤ j → j < l.length → isDigI (byteAt l j) = true
  | f, i, xs, h, ha, hi => by
    by_cases hl : i < l.length
    · cases hn : letAt l i with
      | none => rw [letsG_none f i hl hn] at h; cases h
      | some r =>
        obtain ⟨c, n⟩ := r
        match f, h with
        | 0, h => simp [letsG, hl] at h
        | f + 1, h =>
          rw [letsG_some f i n c hl hn] at h
          cases hr : letsG (letAt l) l.length f (i + n) with
          | none => rw [hr] at h; cases h
          | some ys =>
            rw [hr] at h
            have e : xs = c :: ys := (Option.some.inj h).symm
            subst e
            rw [List.all_cons, Bool.and_eq_true] at ha
            have hc : 48 ≤ c ∧ c ≤ 57 := by have := ha.1; unfold isDigI at this; simpa using this
            obtain ⟨rfl, hcb⟩ := let_small hn (by omega)
            obtain ⟨h1, h2⟩ := lets_dig f (i + 1) ys hr ha.2 (by omega)
            refine ⟨by rw [List.length_cons, h1]; omega, fun j hj hjl => ?_⟩
            rcases Nat.lt_or_ge i j with h' | h'
            · exact h2 j (by omega) hjl
            · obtain rfl : j = i := by omega
              rw [← hcb]; exact ha.1
    · rw [letsG_end f i hl] at h
      have e : xs = [] := (Option.some.inj h).symm
      subst e
      exact ⟨by simp; omega, fun j hj hjl => by omega⟩
theorem word_num {s : ByteArray} (h : wordL isDigI 6 s.data.toList = true) : 1 ≤ s.size ∧ s.size ≤ 6 ∧ digs s.data.toList = true := by
  unfold wordL at h
  split at h
  · rename_i xs hx
    simp only [Bool.and_eq_true, decide_eq_true_eq] at h
    obtain ⟨h1, h2⟩ := lets_dig _ 0 xs hx h.1.1 (Nat.zero_le _)
    rw [slen] at h1
    refine ⟨by omega, by omega, ?_⟩
    unfold digs
    rw [List.all_eq_true]
    intro c hc
    obtain ⟨j, hj, rfl⟩ := List.getElem_of_mem hc
    have := h2 j (Nat.zero_le _) hj
    unfold byteAt at this
    rw [List.getElem?_eq_getElem hj] at this
    exact this
  · cases h
theorem num_of {s : ByteArray} (h : wordL isDigI 6 s.data.toList = true) (h' : ¬ (1 < s.size ∧ ((s[0]'(by have := word_num h; omega)).toNat : Int) = 48)) : (numL s.data.toList).2 = true := by
  obtain ⟨h1, h2, h3⟩ := word_num h
  rw [numL_ok s h1 h2 (fun e => h' ⟨e.1, by have := e.2; rw [beq_iff_eq] at this; exact this⟩) h3]

theorem isNumber_says {base : Nat} {w00 : World} (L : LibAt base w00) : Words base w00 81 (fun l => (numL l).2) := by
  refine ⟨enters_of Tryz.func81 (by kernel_rfl) rfl, fun s w hs hb => ?_⟩
  have HC := consists_any L _ isDigI isDigit_tests s 6 w hs hb
  go_enter Tryz.func81, Tryz.ntmps81
  go_wp2_with fail
  refine HC.mono ?_
  rintro e w1 ⟨b, rfl, h, hb1⟩
  cases b
  · clear h
    go_wp2
    go_ret
    exact ⟨false, rfl, (fun h => by cases h), hb1⟩
  · have HW := h rfl
    have hp : 0 < s.size := by have := word_num HW; omega
    clear h
    have H1 : Hid (s.toList = [48] → (numL s.data.toList).2 = true) := fun e => num_of HW (fun h' => by
      rw [ByteArray.toList_eq] at e
      have := congrArg List.length e
      rw [slen] at this
      have := h'.1
      simp at *
      omega)
    have H2 : Hid ((s[0].toNat : Int) ≠ 48 → (numL s.data.toList).2 = true) := fun e => num_of HW (fun h' => e h'.2)
    clear HW HC
    go_wp2
    · rename_i he
      go_ret
      exact ⟨true, rfl, fun _ => H1.out he, hb1⟩
    · rename_i he
      go_ret
      refine ⟨_, rfl, fun h => ?_, hb1⟩
      rw [Bool.or_eq_true] at h
      rcases h with h | h
      · exact absurd (by simpa using h) he
      · exact H2.out (by simpa using h)

/-! ### fits -/
/-- The tests, and what they say of the words. -/
def FitsPost (ws : List (List UInt8)) (ks : List (Nat × (List UInt8 → Bool))) (w : World) (e : Ending) (w' : World) : Prop :=
  ∃ b, e = .returned (.bool b) ∧ (b = true → ws.length = ks.length ∧ ∀ i (h : i < ws.length) (h2 : i < ks.length), (ks[i]'h2).2 (ws[i]'h) = true) ∧ Below w.heap.size w w'
theorem fits_no {ws : List (List UInt8)} {ks : List (Nat × (List UInt8 → Bool))} {w w' : World} (h : Below w.heap.size w w') : FitsPost ws ks w (.returned (.bool false)) w' := ⟨false, rfl, (fun h => by cases h), h⟩

set_option maxHeartbeats 1000000 in
theorem fits_any {base : Nat} {w00 : World} (ws : List (List UInt8)) (ks : List (Nat × (List UInt8 → Bool))) (ao bo : Option Addr) (a b cap capk : Nat) (w : World) (hW : ∀ k ∈ ks, Words base w00 k.1 k.2) (hb : Below base w00 w) (hB : base ≤ w.heap.size)
    (hao : 0 < ws.length → ao = some ⟨a, 1, none⟩ ∧ a < w.heap.size) (hbo : 0 < ks.length → bo = some ⟨b, 0, none⟩ ∧ b < w.heap.size) (hws : ∀ x ∈ ws, x.length ≤ 4194304) (hkl : ks.length ≤ 3)
    (hcw : ∀ i (h : i < ws.length), w.cell? ⟨a, 1 + i, none⟩ = some (.string ⟨(ws[i]'h).toArray⟩)) (hck : ∀ i (h : i < ks.length), w.cell? ⟨b, i, none⟩ = some (.func (.func (ks[i]'h).1) #[] #[])) :
    Calls Tryz.prog 80 #[.slice ao ws.length cap, .slice bo ks.length capk] w (FitsPost ws ks w) := by
  by_cases hl : ws.length = ks.length
  · obtain ⟨n, hn⟩ : ∃ n, ks.length = n := ⟨_, rfl⟩
    have hwn : ws.length = n := hl.trans hn
    rw [hwn, hn]
    rw [hn] at hkl hbo
    rw [hwn] at hao
    have HW : Hid (∀ k ∈ ks, Words base w00 k.1 k.2) := hW
    have HB : Hid (Below base w00 w) := hb
    have HS : Hid (∀ x ∈ ws, x.length ≤ 4194304) := hws
    have HCW : Hid (∀ i (h : i < ws.length), w.cell? ⟨a, 1 + i, none⟩ = some (.string ⟨(ws[i]'h).toArray⟩)) := hcw
    have HCK : Hid (∀ i (h : i < ks.length), w.cell? ⟨b, i, none⟩ = some (.func (.func (ks[i]'h).1) #[] #[])) := hck
    have HLW : Hid (ws.length = n) := hwn
    have HLK : Hid (ks.length = n) := hn
    clear hW hb hws hcw hck hl hn hwn
    go_enter Tryz.func80, Tryz.ntmps80
    go_wp2
    go_loopw [14] (fun i wr => ∃ k : Nat, k ≤ n ∧ i = .int .i64 k ∧ Hid (∀ i (_ : i < k) (h : i < ws.length) (h2 : i < ks.length), (ks[i]'h2).2 (ws[i]'h) = true) ∧ Below w.heap.size w wr) (fun i _ => n - (intOf i).toNat)
    case atStart => exact ⟨0, Nat.zero_le _, rfl, (fun i h => absurd h (by omega)), Below.refl _ _⟩
    case round =>
      obtain ⟨k, hk, rfl, HD, hbw⟩ := hrel
      by_cases hlt : k < n
      · obtain ⟨rfl, hal⟩ := hao (by omega)
        obtain ⟨rfl, hbl⟩ := hbo (by omega)
        have hkw : k < ws.length := by rw [HLW.out]; exact hlt
        have hkk : k < ks.length := by rw [HLK.out]; exact hlt
        have c1 := HCW.out k hkw
        have c2 := HCK.out k hkk
        rw [← hbw.cell (p := ⟨a, 1 + k, none⟩) hal] at c1
        rw [← hbw.cell (p := ⟨b, k, none⟩) hbl] at c2
        have eg := (HW.out _ (List.getElem_mem hkk)).enter
        have HSY : Hid (Calls Tryz.prog (ks[k]'hkk).1 #[.string ⟨(ws[k]'hkw).toArray⟩] wr fun e w' => ∃ b, e = .returned (.bool b) ∧ (b = true → (ks[k]'hkk).2 (ws[k]'hkw) = true) ∧ Below wr.heap.size wr w') := (HW.out _ (List.getElem_mem hkk)).says ⟨(ws[k]'hkw).toArray⟩ wr (by simpa [ByteArray.size] using HS.out _ (List.getElem_mem hkw)) (HB.out.trans (hbw.mono hB))
        have HN : Hid ((ks[k]'hkk).2 (ws[k]'hkw) = true → ∀ i (_ : i < k + 1) (h : i < ws.length) (h2 : i < ks.length), (ks[i]'h2).2 (ws[i]'h) = true) := fun hp i hi h h2 => by
          rcases Nat.lt_or_ge i k with h' | h'
          · exact HD.out i h' h h2
          · obtain rfl : i = k := by omega
            exact hp
        generalize (ks[k]'hkk).1 = g at *
        generalize (ks[k]'hkk).2 (ws[k]'hkw) = pb at *
        generalize (⟨(ws[k]'hkw).toArray⟩ : ByteArray) = t at *
        clear HCW HCK HW HS HD hao hbo hkw hkk HLW HLK
        go_wp2_with (go_at_fn g; refine HSY.out.mono ?_; rintro e W' ⟨r, rfl, hr, hbr⟩; have hB2 := hbw.trans (hbr.mono hbw.size))
        · go_ret
          exact fits_no hB2
        · rename_i hrr
          have HN2 : Hid (∀ i (_ : i < k + 1) (h : i < ws.length) (h2 : i < ks.length), (ks[i]'h2).2 (ws[i]'h) = true) := HN.out (hr (by cases r <;> simp at hrr ⊢))
          go_roundw
          case rel => exact ⟨k + 1, by omega, by go_num, HN2, hB2⟩
          case measure => simp [intOf]; omega
      · have HF : Hid (ws.length = ks.length ∧ ∀ i (h : i < ws.length) (h2 : i < ks.length), (ks[i]'h2).2 (ws[i]'h) = true) := ⟨HLW.out.trans HLK.out.symm, fun i h h2 => HD.out i (by have := HLW.out; omega) h h2⟩
        clear HCW HCK HW HS HD hao hbo HLW HLK
        go_wp2
        go_ret
        exact ⟨true, rfl, fun _ => HF.out, hbw⟩
  · have hne : ((ws.length : Int) != ks.length) = true := by rw [bne_iff_ne]; omega
    clear hcw hck hws hW hao hbo
    generalize ws.length = n at *
    generalize ks.length = m at *
    go_enter Tryz.func80, Tryz.ntmps80
    go_wp2
    go_ret
    exact fits_no (Below.refl _ _)
end Go.Proofs.YtjkenehiojbmiaaGreatDoor.Msg
namespace Go.Proofs.YtjkenehiojbmiaaGreatDoor.Msg
open Go.RowKit

/-- What Is leaves. -/
def IsPost (l : List UInt8) (w : World) (e : Ending) (w' : World) : Prop := ∃ b, e = .returned (.bool b) ∧ (b = true → (readL l).2 = true) ∧ Below w.heap.size w w'
theorem is_no {l : List UInt8} {w w' : World} (h : Below w.heap.size w w') : IsPost l w (.returned (.bool false)) w' := ⟨false, rfl, (fun h => by cases h), h⟩
theorem cell_new (w : World) (xs : Array Value) (t : TypeId) (i : Nat) : (w.alloc (.cells xs t)).cell? ⟨w.heap.size, i, none⟩ = xs[i]? := by
  have h := heap_alloc_new w (.cells xs t)
  unfold World.cell?
  rw [h]
  simp
def fvs (ks : List (Nat × (List UInt8 → Bool))) : Array Value := (ks.map fun x => Value.func (.func x.1) #[] #[]).toArray

/-- fits, of the words behind the first. -/
theorem fits_at {base : Nat} {w00 : World} (w : World) (k : List UInt8) (r : List (List UInt8)) (ks : List (Nat × (List UInt8 → Bool))) (hW : ∀ x ∈ ks, Words base w00 x.1 x.2) (hb : Below base w00 w) (hB : base ≤ w.heap.size) (hr : ∀ x ∈ r, x.length ≤ 4194304) (hk : ks.length ≤ 3)
    (ao : Option Addr) (hao : 0 < r.length → ao = some ⟨w.heap.size, 1, none⟩) (cap : Nat) :
    Calls Tryz.prog 80 #[.slice ao r.length cap, .slice (some ⟨w.heap.size + 1, 0, none⟩) ks.length ks.length] ((w.alloc (.cells (strs (k :: r)).toArray 9)).alloc (.cells (fvs ks) 42))
      (FitsPost r ks ((w.alloc (.cells (strs (k :: r)).toArray 9)).alloc (.cells (fvs ks) 42))) := by
  have hz : (w.alloc (.cells (strs (k :: r)).toArray 9)).heap.size = w.heap.size + 1 := by simp
  refine fits_any r ks ao _ w.heap.size (w.heap.size + 1) cap ks.length _ hW ((hb.alloc hB _).alloc (by simp; omega) _) (by simp; omega) (fun h => ⟨hao h, by simp; omega⟩) (fun _ => ⟨rfl, by simp⟩) hr hk (fun i h => ?_) (fun i h => ?_)
  · have e : ((w.alloc (.cells (strs (k :: r)).toArray 9)).alloc (.cells (fvs ks) 42)).cell? ⟨w.heap.size, 1 + i, none⟩ = (w.alloc (.cells (strs (k :: r)).toArray 9)).cell? ⟨w.heap.size, 1 + i, none⟩ :=
      ((Below.refl _ _).alloc (Nat.le_refl _) _).cell (p := ⟨w.heap.size, 1 + i, none⟩) (by simp)
    rw [e, cell_new, Nat.add_comm 1 i]
    simp [strs, h]
  · rw [← hz, cell_new]
    simp [fvs, h]
theorem fits_at0 {base : Nat} {w00 : World} (w : World) (k : List UInt8) (r : List (List UInt8)) (hb : Below base w00 w) (hB : base ≤ w.heap.size) (hr : ∀ x ∈ r, x.length ≤ 4194304)
    (ao : Option Addr) (hao : 0 < r.length → ao = some ⟨w.heap.size, 1, none⟩) (cap : Nat) :
    Calls Tryz.prog 80 #[.slice ao r.length cap, .slice none 0 0] (w.alloc (.cells (strs (k :: r)).toArray 9)) (FitsPost r [] (w.alloc (.cells (strs (k :: r)).toArray 9))) := by
  refine fits_any r [] ao none w.heap.size 0 cap 0 _ (fun x h => by cases h) (hb.alloc hB _) (by simp; omega) (fun h => ⟨hao h, by simp⟩) (fun h => absurd h (by simp)) hr (by simp) (fun i h => ?_) (fun i h => absurd h (by simp))
  rw [cell_new, Nat.add_comm 1 i]
  simp [strs, h]
theorem split_first (w : World) (k : List UInt8) (r : List (List UInt8)) : (w.alloc (.cells (strs (k :: r)).toArray 9)).cell? ⟨w.heap.size, 0, none⟩ = some (.string ⟨k.toArray⟩) := by
  rw [cell_new]; simp [strs]
theorem lk {k a : List UInt8} (h : (k == a) = true) : k = a := by simpa using h

set_option maxHeartbeats 1000000 in
set_option maxRecDepth 100000 in
theorem is_pull {base : Nat} {w00 : World} (L : LibAt base w00) (s : ByteArray) (w : World) (hs : s.size ≤ 4194304) (hb : Below base w00 w) (hB : base ≤ w.heap.size) (k : List UInt8) (r : List (List UInt8)) (hw : cutL 32 s.data.toList = k :: r) (hr : ∀ x ∈ r, x.length ≤ 4194304) (h0 : (k == [112, 117, 108, 108]) = true) :
    Calls Tryz.prog 68 #[.string s] w (IsPost s.data.toList w) := by
  have HFT : Hid (∀ ao cap, (0 < r.length → ao = some ⟨w.heap.size, 1, none⟩) → Calls Tryz.prog 80 #[.slice ao r.length cap, .slice none 0 0] (w.alloc (.cells (strs (k :: r)).toArray 9)) (FitsPost r [] (w.alloc (.cells (strs (k :: r)).toArray 9)))) := fun ao cap hao => fits_at0 w k r hb hB hr ao hao cap
  have HRD : Hid (r.length = 0 → (∀ i (h : i < r.length) (h2 : i < ([] : List (Nat × (List UInt8 → Bool))).length), (([] : List (Nat × (List UInt8 → Bool)))[i]'h2).2 (r[i]'h) = true) → (readL s.data.toList).2 = true) := by
    intro hl hp
    unfold readL
    rw [hw]
    have hk := lk h0
    subst hk
    match r, hl with
    | [], _ =>
      rfl
  have HSP : Hid (Calls Tryz.prog 79 #[.string s, .string ⟨#[32]⟩] w fun e w' => e = .returned (.slice (some ⟨w.heap.size, 0, none⟩) (r.length + 1) (r.length + 1)) ∧ w' = w.alloc (.cells (strs (k :: r)).toArray 9)) := by
    have := L.split s w hs hb
    rw [hw] at this
    exact this
  have hc0 := split_first w k r
  have hsz : (w.alloc (.cells (strs (k :: r)).toArray 9)).heap.size = w.heap.size + 1 := by simp
  have hB1 : Below w.heap.size w (w.alloc (.cells (strs (k :: r)).toArray 9)) := (Below.refl _ _).alloc (Nat.le_refl _) _
  generalize w.alloc (.cells (strs (k :: r)).toArray 9) = w1 at *
  obtain ⟨n, hn⟩ : ∃ n, r.length = n := ⟨_, rfl⟩
  have HN : Hid (r.length = n) := hn
  rw [hn] at HSP HFT
  clear hn hw hr hb hs L
  go_enter Tryz.func68, Tryz.ntmps68
  go_wp2_with fail
  refine HSP.out.mono ?_
  rintro e w2 ⟨rfl, rfl⟩
  clear HSP
  go_wp2_with fail
  · rename_i h
    subst h
    refine (HFT.out (some ⟨w.heap.size, 0, none⟩) 0 (fun h => absurd h (by omega))).mono ?_
    rintro e w3 ⟨b, rfl, hp, hb3⟩
    have hB3 : Below w.heap.size w w3 := hB1.trans (hb3.mono (by omega))
    clear HFT hc0
    go_wp2
    go_ret
    exact ⟨b, rfl, fun h => HRD.out (hp h).1 (hp h).2, hB3⟩
  · refine (HFT.out (some ⟨w.heap.size, 1, none⟩) n (fun _ => rfl)).mono ?_
    rintro e w3 ⟨b, rfl, hp, hb3⟩
    have hB3 : Below w.heap.size w w3 := hB1.trans (hb3.mono (by omega))
    clear HFT hc0
    go_wp2
    go_ret
    exact ⟨b, rfl, fun h => HRD.out (hp h).1 (hp h).2, hB3⟩
set_option maxHeartbeats 1000000 in
set_option maxRecDepth 100000 in
theorem is_beat {base : Nat} {w00 : World} (L : LibAt base w00) (s : ByteArray) (w : World) (hs : s.size ≤ 4194304) (hb : Below base w00 w) (hB : base ≤ w.heap.size) (k : List UInt8) (r : List (List UInt8)) (hw : cutL 32 s.data.toList = k :: r) (hr : ∀ x ∈ r, x.length ≤ 4194304) (h0 : (k == [112, 117, 108, 108]) = false) (h1 : (k == [98, 101, 97, 116]) = true) :
    Calls Tryz.prog 68 #[.string s] w (IsPost s.data.toList w) := by
  have HFT : Hid (∀ ao cap, (0 < r.length → ao = some ⟨w.heap.size, 1, none⟩) → Calls Tryz.prog 80 #[.slice ao r.length cap, .slice none 0 0] (w.alloc (.cells (strs (k :: r)).toArray 9)) (FitsPost r [] (w.alloc (.cells (strs (k :: r)).toArray 9)))) := fun ao cap hao => fits_at0 w k r hb hB hr ao hao cap
  have HRD : Hid (r.length = 0 → (∀ i (h : i < r.length) (h2 : i < ([] : List (Nat × (List UInt8 → Bool))).length), (([] : List (Nat × (List UInt8 → Bool)))[i]'h2).2 (r[i]'h) = true) → (readL s.data.toList).2 = true) := by
    intro hl hp
    unfold readL
    rw [hw]
    have hk := lk h1
    subst hk
    match r, hl with
    | [], _ =>
      rfl
  have HSP : Hid (Calls Tryz.prog 79 #[.string s, .string ⟨#[32]⟩] w fun e w' => e = .returned (.slice (some ⟨w.heap.size, 0, none⟩) (r.length + 1) (r.length + 1)) ∧ w' = w.alloc (.cells (strs (k :: r)).toArray 9)) := by
    have := L.split s w hs hb
    rw [hw] at this
    exact this
  have hc0 := split_first w k r
  have hsz : (w.alloc (.cells (strs (k :: r)).toArray 9)).heap.size = w.heap.size + 1 := by simp
  have hB1 : Below w.heap.size w (w.alloc (.cells (strs (k :: r)).toArray 9)) := (Below.refl _ _).alloc (Nat.le_refl _) _
  generalize w.alloc (.cells (strs (k :: r)).toArray 9) = w1 at *
  obtain ⟨n, hn⟩ : ∃ n, r.length = n := ⟨_, rfl⟩
  have HN : Hid (r.length = n) := hn
  rw [hn] at HSP HFT
  clear hn hw hr hb hs L
  go_enter Tryz.func68, Tryz.ntmps68
  go_wp2_with fail
  refine HSP.out.mono ?_
  rintro e w2 ⟨rfl, rfl⟩
  clear HSP
  go_wp2_with fail
  · rename_i h
    subst h
    refine (HFT.out (some ⟨w.heap.size, 0, none⟩) 0 (fun h => absurd h (by omega))).mono ?_
    rintro e w3 ⟨b, rfl, hp, hb3⟩
    have hB3 : Below w.heap.size w w3 := hB1.trans (hb3.mono (by omega))
    clear HFT hc0
    go_wp2
    go_ret
    exact ⟨b, rfl, fun h => HRD.out (hp h).1 (hp h).2, hB3⟩
  · refine (HFT.out (some ⟨w.heap.size, 1, none⟩) n (fun _ => rfl)).mono ?_
    rintro e w3 ⟨b, rfl, hp, hb3⟩
    have hB3 : Below w.heap.size w w3 := hB1.trans (hb3.mono (by omega))
    clear HFT hc0
    go_wp2
    go_ret
    exact ⟨b, rfl, fun h => HRD.out (hp h).1 (hp h).2, hB3⟩
set_option maxHeartbeats 1000000 in
set_option maxRecDepth 100000 in
theorem is_drain {base : Nat} {w00 : World} (L : LibAt base w00) (s : ByteArray) (w : World) (hs : s.size ≤ 4194304) (hb : Below base w00 w) (hB : base ≤ w.heap.size) (k : List UInt8) (r : List (List UInt8)) (hw : cutL 32 s.data.toList = k :: r) (hr : ∀ x ∈ r, x.length ≤ 4194304) (h0 : (k == [112, 117, 108, 108]) = false) (h1 : (k == [98, 101, 97, 116]) = false) (h2 : (k == [100, 114, 97, 105, 110]) = true) :
    Calls Tryz.prog 68 #[.string s] w (IsPost s.data.toList w) := by
  have HFT : Hid (∀ ao cap, (0 < r.length → ao = some ⟨w.heap.size, 1, none⟩) → Calls Tryz.prog 80 #[.slice ao r.length cap, .slice none 0 0] (w.alloc (.cells (strs (k :: r)).toArray 9)) (FitsPost r [] (w.alloc (.cells (strs (k :: r)).toArray 9)))) := fun ao cap hao => fits_at0 w k r hb hB hr ao hao cap
  have HRD : Hid (r.length = 0 → (∀ i (h : i < r.length) (h2 : i < ([] : List (Nat × (List UInt8 → Bool))).length), (([] : List (Nat × (List UInt8 → Bool)))[i]'h2).2 (r[i]'h) = true) → (readL s.data.toList).2 = true) := by
    intro hl hp
    unfold readL
    rw [hw]
    have hk := lk h2
    subst hk
    match r, hl with
    | [], _ =>
      rfl
  have HSP : Hid (Calls Tryz.prog 79 #[.string s, .string ⟨#[32]⟩] w fun e w' => e = .returned (.slice (some ⟨w.heap.size, 0, none⟩) (r.length + 1) (r.length + 1)) ∧ w' = w.alloc (.cells (strs (k :: r)).toArray 9)) := by
    have := L.split s w hs hb
    rw [hw] at this
    exact this
  have hc0 := split_first w k r
  have hsz : (w.alloc (.cells (strs (k :: r)).toArray 9)).heap.size = w.heap.size + 1 := by simp
  have hB1 : Below w.heap.size w (w.alloc (.cells (strs (k :: r)).toArray 9)) := (Below.refl _ _).alloc (Nat.le_refl _) _
  generalize w.alloc (.cells (strs (k :: r)).toArray 9) = w1 at *
  obtain ⟨n, hn⟩ : ∃ n, r.length = n := ⟨_, rfl⟩
  have HN : Hid (r.length = n) := hn
  rw [hn] at HSP HFT
  clear hn hw hr hb hs L
  go_enter Tryz.func68, Tryz.ntmps68
  go_wp2_with fail
  refine HSP.out.mono ?_
  rintro e w2 ⟨rfl, rfl⟩
  clear HSP
  go_wp2_with fail
  · rename_i h
    subst h
    refine (HFT.out (some ⟨w.heap.size, 0, none⟩) 0 (fun h => absurd h (by omega))).mono ?_
    rintro e w3 ⟨b, rfl, hp, hb3⟩
    have hB3 : Below w.heap.size w w3 := hB1.trans (hb3.mono (by omega))
    clear HFT hc0
    go_wp2
    go_ret
    exact ⟨b, rfl, fun h => HRD.out (hp h).1 (hp h).2, hB3⟩
  · refine (HFT.out (some ⟨w.heap.size, 1, none⟩) n (fun _ => rfl)).mono ?_
    rintro e w3 ⟨b, rfl, hp, hb3⟩
    have hB3 : Below w.heap.size w w3 := hB1.trans (hb3.mono (by omega))
    clear HFT hc0
    go_wp2
    go_ret
    exact ⟨b, rfl, fun h => HRD.out (hp h).1 (hp h).2, hB3⟩
set_option maxHeartbeats 1000000 in
set_option maxRecDepth 100000 in
theorem is_can {base : Nat} {w00 : World} (L : LibAt base w00) (s : ByteArray) (w : World) (hs : s.size ≤ 4194304) (hb : Below base w00 w) (hB : base ≤ w.heap.size) (k : List UInt8) (r : List (List UInt8)) (hw : cutL 32 s.data.toList = k :: r) (hr : ∀ x ∈ r, x.length ≤ 4194304) (h0 : (k == [112, 117, 108, 108]) = false) (h1 : (k == [98, 101, 97, 116]) = false) (h2 : (k == [100, 114, 97, 105, 110]) = false) (h3 : (k == [99, 97, 110]) = true) :
    Calls Tryz.prog 68 #[.string s] w (IsPost s.data.toList w) := by
  have HFT : Hid (∀ ao cap, (0 < r.length → ao = some ⟨w.heap.size, 1, none⟩) → Calls Tryz.prog 80 #[.slice ao r.length cap, .slice (some ⟨w.heap.size + 1, 0, none⟩) 1 1] ((w.alloc (.cells (strs (k :: r)).toArray 9)).alloc (.cells #[.func (.func 81) #[] #[]] 42)) (FitsPost r [(81, fun l => (numL l).2)] ((w.alloc (.cells (strs (k :: r)).toArray 9)).alloc (.cells #[.func (.func 81) #[] #[]] 42)))) := fun ao cap hao =>
    fits_at w k r [(81, fun l => (numL l).2)] (by
      intro x hx
      simp only [List.mem_cons, List.not_mem_nil, or_false] at hx
      subst hx
      exact isNumber_says L) hb hB hr (by simp) ao hao cap
  have HRD : Hid (r.length = 1 → (∀ i (h : i < r.length) (h2 : i < ([(81, fun l => (numL l).2)] : List (Nat × (List UInt8 → Bool))).length), (([(81, fun l => (numL l).2)] : List (Nat × (List UInt8 → Bool)))[i]'h2).2 (r[i]'h) = true) → (readL s.data.toList).2 = true) := by
    intro hl hp
    unfold readL
    rw [hw]
    have hk := lk h3
    subst hk
    match r, hl with
    | [a], _ =>
      have p0 := hp 0 (by simp) (by simp)
      simp at p0
      simp [readW, kCan, p0]
  have HSP : Hid (Calls Tryz.prog 79 #[.string s, .string ⟨#[32]⟩] w fun e w' => e = .returned (.slice (some ⟨w.heap.size, 0, none⟩) (r.length + 1) (r.length + 1)) ∧ w' = w.alloc (.cells (strs (k :: r)).toArray 9)) := by
    have := L.split s w hs hb
    rw [hw] at this
    exact this
  have hc0 := split_first w k r
  have hsz : (w.alloc (.cells (strs (k :: r)).toArray 9)).heap.size = w.heap.size + 1 := by simp
  have hB1 : Below w.heap.size w (w.alloc (.cells (strs (k :: r)).toArray 9)) := (Below.refl _ _).alloc (Nat.le_refl _) _
  generalize w.alloc (.cells (strs (k :: r)).toArray 9) = w1 at *
  obtain ⟨n, hn⟩ : ∃ n, r.length = n := ⟨_, rfl⟩
  have HN : Hid (r.length = n) := hn
  rw [hn] at HSP HFT
  clear hn hw hr hb hs L
  go_enter Tryz.func68, Tryz.ntmps68
  go_wp2_with fail
  refine HSP.out.mono ?_
  rintro e w2 ⟨rfl, rfl⟩
  clear HSP
  go_wp2_with fail
  · rename_i h
    subst h
    refine (HFT.out (some ⟨w.heap.size, 0, none⟩) 0 (fun h => absurd h (by omega))).mono ?_
    rintro e w3 ⟨b, rfl, hp, hb3⟩
    have hB3 : Below w.heap.size w w3 := (hB1.alloc (by omega) _).trans (hb3.mono (by simp; omega))
    clear HFT hc0
    go_wp2
    go_ret
    exact ⟨b, rfl, fun h => HRD.out (hp h).1 (hp h).2, hB3⟩
  · refine (HFT.out (some ⟨w.heap.size, 1, none⟩) n (fun _ => rfl)).mono ?_
    rintro e w3 ⟨b, rfl, hp, hb3⟩
    have hB3 : Below w.heap.size w w3 := (hB1.alloc (by omega) _).trans (hb3.mono (by simp; omega))
    clear HFT hc0
    go_wp2
    go_ret
    exact ⟨b, rfl, fun h => HRD.out (hp h).1 (hp h).2, hB3⟩
set_option maxHeartbeats 1000000 in
set_option maxRecDepth 100000 in
theorem is_fail {base : Nat} {w00 : World} (L : LibAt base w00) (s : ByteArray) (w : World) (hs : s.size ≤ 4194304) (hb : Below base w00 w) (hB : base ≤ w.heap.size) (k : List UInt8) (r : List (List UInt8)) (hw : cutL 32 s.data.toList = k :: r) (hr : ∀ x ∈ r, x.length ≤ 4194304) (h0 : (k == [112, 117, 108, 108]) = false) (h1 : (k == [98, 101, 97, 116]) = false) (h2 : (k == [100, 114, 97, 105, 110]) = false) (h3 : (k == [99, 97, 110]) = false) (h4 : (k == [102, 97, 105, 108]) = true) :
    Calls Tryz.prog 68 #[.string s] w (IsPost s.data.toList w) := by
  have HFT : Hid (∀ ao cap, (0 < r.length → ao = some ⟨w.heap.size, 1, none⟩) → Calls Tryz.prog 80 #[.slice ao r.length cap, .slice (some ⟨w.heap.size + 1, 0, none⟩) 2 2] ((w.alloc (.cells (strs (k :: r)).toArray 9)).alloc (.cells #[.func (.func 81) #[] #[], .func (.func 81) #[] #[]] 42)) (FitsPost r [(81, fun l => (numL l).2), (81, fun l => (numL l).2)] ((w.alloc (.cells (strs (k :: r)).toArray 9)).alloc (.cells #[.func (.func 81) #[] #[], .func (.func 81) #[] #[]] 42)))) := fun ao cap hao =>
    fits_at w k r [(81, fun l => (numL l).2), (81, fun l => (numL l).2)] (by
      intro x hx
      simp only [List.mem_cons, List.not_mem_nil, or_false] at hx
      rcases hx with rfl | rfl
      · exact isNumber_says L
      · exact isNumber_says L) hb hB hr (by simp) ao hao cap
  have HRD : Hid (r.length = 2 → (∀ i (h : i < r.length) (h2 : i < ([(81, fun l => (numL l).2), (81, fun l => (numL l).2)] : List (Nat × (List UInt8 → Bool))).length), (([(81, fun l => (numL l).2), (81, fun l => (numL l).2)] : List (Nat × (List UInt8 → Bool)))[i]'h2).2 (r[i]'h) = true) → (readL s.data.toList).2 = true) := by
    intro hl hp
    unfold readL
    rw [hw]
    have hk := lk h4
    subst hk
    match r, hl with
    | [a, b], _ =>
      have p0 := hp 0 (by simp) (by simp)
      have p1 := hp 1 (by simp) (by simp)
      simp at p0 p1
      simp [readW, kFail, p0, p1]
  have HSP : Hid (Calls Tryz.prog 79 #[.string s, .string ⟨#[32]⟩] w fun e w' => e = .returned (.slice (some ⟨w.heap.size, 0, none⟩) (r.length + 1) (r.length + 1)) ∧ w' = w.alloc (.cells (strs (k :: r)).toArray 9)) := by
    have := L.split s w hs hb
    rw [hw] at this
    exact this
  have hc0 := split_first w k r
  have hsz : (w.alloc (.cells (strs (k :: r)).toArray 9)).heap.size = w.heap.size + 1 := by simp
  have hB1 : Below w.heap.size w (w.alloc (.cells (strs (k :: r)).toArray 9)) := (Below.refl _ _).alloc (Nat.le_refl _) _
  generalize w.alloc (.cells (strs (k :: r)).toArray 9) = w1 at *
  obtain ⟨n, hn⟩ : ∃ n, r.length = n := ⟨_, rfl⟩
  have HN : Hid (r.length = n) := hn
  rw [hn] at HSP HFT
  clear hn hw hr hb hs L
  go_enter Tryz.func68, Tryz.ntmps68
  go_wp2_with fail
  refine HSP.out.mono ?_
  rintro e w2 ⟨rfl, rfl⟩
  clear HSP
  go_wp2_with fail
  · rename_i h
    subst h
    refine (HFT.out (some ⟨w.heap.size, 0, none⟩) 0 (fun h => absurd h (by omega))).mono ?_
    rintro e w3 ⟨b, rfl, hp, hb3⟩
    have hB3 : Below w.heap.size w w3 := (hB1.alloc (by omega) _).trans (hb3.mono (by simp; omega))
    clear HFT hc0
    go_wp2
    go_ret
    exact ⟨b, rfl, fun h => HRD.out (hp h).1 (hp h).2, hB3⟩
  · refine (HFT.out (some ⟨w.heap.size, 1, none⟩) n (fun _ => rfl)).mono ?_
    rintro e w3 ⟨b, rfl, hp, hb3⟩
    have hB3 : Below w.heap.size w w3 := (hB1.alloc (by omega) _).trans (hb3.mono (by simp; omega))
    clear HFT hc0
    go_wp2
    go_ret
    exact ⟨b, rfl, fun h => HRD.out (hp h).1 (hp h).2, hB3⟩
set_option maxHeartbeats 1000000 in
set_option maxRecDepth 100000 in
theorem is_sub {base : Nat} {w00 : World} (L : LibAt base w00) (s : ByteArray) (w : World) (hs : s.size ≤ 4194304) (hb : Below base w00 w) (hB : base ≤ w.heap.size) (k : List UInt8) (r : List (List UInt8)) (hw : cutL 32 s.data.toList = k :: r) (hr : ∀ x ∈ r, x.length ≤ 4194304) (h0 : (k == [112, 117, 108, 108]) = false) (h1 : (k == [98, 101, 97, 116]) = false) (h2 : (k == [100, 114, 97, 105, 110]) = false) (h3 : (k == [99, 97, 110]) = false) (h4 : (k == [102, 97, 105, 108]) = false) (h5 : (k == [115, 117, 98]) = true) :
    Calls Tryz.prog 68 #[.string s] w (IsPost s.data.toList w) := by
  have HFT : Hid (∀ ao cap, (0 < r.length → ao = some ⟨w.heap.size, 1, none⟩) → Calls Tryz.prog 80 #[.slice ao r.length cap, .slice (some ⟨w.heap.size + 1, 0, none⟩) 3 3] ((w.alloc (.cells (strs (k :: r)).toArray 9)).alloc (.cells #[.func (.func 81) #[] #[], .func (.func 82) #[] #[], .func (.func 83) #[] #[]] 42)) (FitsPost r [(81, fun l => (numL l).2), (82, tenL), (83, txtL)] ((w.alloc (.cells (strs (k :: r)).toArray 9)).alloc (.cells #[.func (.func 81) #[] #[], .func (.func 82) #[] #[], .func (.func 83) #[] #[]] 42)))) := fun ao cap hao =>
    fits_at w k r [(81, fun l => (numL l).2), (82, tenL), (83, txtL)] (by
      intro x hx
      simp only [List.mem_cons, List.not_mem_nil, or_false] at hx
      rcases hx with rfl | rfl | rfl
      · exact isNumber_says L
      · exact isTenant_says L
      · exact isPayload_says L) hb hB hr (by simp) ao hao cap
  have HRD : Hid (r.length = 3 → (∀ i (h : i < r.length) (h2 : i < ([(81, fun l => (numL l).2), (82, tenL), (83, txtL)] : List (Nat × (List UInt8 → Bool))).length), (([(81, fun l => (numL l).2), (82, tenL), (83, txtL)] : List (Nat × (List UInt8 → Bool)))[i]'h2).2 (r[i]'h) = true) → (readL s.data.toList).2 = true) := by
    intro hl hp
    unfold readL
    rw [hw]
    have hk := lk h5
    subst hk
    match r, hl with
    | [a, b, c], _ =>
      have p0 := hp 0 (by simp) (by simp)
      have p1 := hp 1 (by simp) (by simp)
      have p2 := hp 2 (by simp) (by simp)
      simp at p0 p1 p2
      simp [readW, kDone, kSub, p0, p1, p2]
  have HSP : Hid (Calls Tryz.prog 79 #[.string s, .string ⟨#[32]⟩] w fun e w' => e = .returned (.slice (some ⟨w.heap.size, 0, none⟩) (r.length + 1) (r.length + 1)) ∧ w' = w.alloc (.cells (strs (k :: r)).toArray 9)) := by
    have := L.split s w hs hb
    rw [hw] at this
    exact this
  have hc0 := split_first w k r
  have hsz : (w.alloc (.cells (strs (k :: r)).toArray 9)).heap.size = w.heap.size + 1 := by simp
  have hB1 : Below w.heap.size w (w.alloc (.cells (strs (k :: r)).toArray 9)) := (Below.refl _ _).alloc (Nat.le_refl _) _
  generalize w.alloc (.cells (strs (k :: r)).toArray 9) = w1 at *
  obtain ⟨n, hn⟩ : ∃ n, r.length = n := ⟨_, rfl⟩
  have HN : Hid (r.length = n) := hn
  rw [hn] at HSP HFT
  clear hn hw hr hb hs L
  go_enter Tryz.func68, Tryz.ntmps68
  go_wp2_with fail
  refine HSP.out.mono ?_
  rintro e w2 ⟨rfl, rfl⟩
  clear HSP
  go_wp2_with fail
  · rename_i h
    subst h
    refine (HFT.out (some ⟨w.heap.size, 0, none⟩) 0 (fun h => absurd h (by omega))).mono ?_
    rintro e w3 ⟨b, rfl, hp, hb3⟩
    have hB3 : Below w.heap.size w w3 := (hB1.alloc (by omega) _).trans (hb3.mono (by simp; omega))
    clear HFT hc0
    go_wp2
    go_ret
    exact ⟨b, rfl, fun h => HRD.out (hp h).1 (hp h).2, hB3⟩
  · refine (HFT.out (some ⟨w.heap.size, 1, none⟩) n (fun _ => rfl)).mono ?_
    rintro e w3 ⟨b, rfl, hp, hb3⟩
    have hB3 : Below w.heap.size w w3 := (hB1.alloc (by omega) _).trans (hb3.mono (by simp; omega))
    clear HFT hc0
    go_wp2
    go_ret
    exact ⟨b, rfl, fun h => HRD.out (hp h).1 (hp h).2, hB3⟩
set_option maxHeartbeats 1000000 in
set_option maxRecDepth 100000 in
theorem is_done {base : Nat} {w00 : World} (L : LibAt base w00) (s : ByteArray) (w : World) (hs : s.size ≤ 4194304) (hb : Below base w00 w) (hB : base ≤ w.heap.size) (k : List UInt8) (r : List (List UInt8)) (hw : cutL 32 s.data.toList = k :: r) (hr : ∀ x ∈ r, x.length ≤ 4194304) (h0 : (k == [112, 117, 108, 108]) = false) (h1 : (k == [98, 101, 97, 116]) = false) (h2 : (k == [100, 114, 97, 105, 110]) = false) (h3 : (k == [99, 97, 110]) = false) (h4 : (k == [102, 97, 105, 108]) = false) (h5 : (k == [115, 117, 98]) = false) (h6 : (k == [100, 111, 110, 101]) = true) :
    Calls Tryz.prog 68 #[.string s] w (IsPost s.data.toList w) := by
  have HFT : Hid (∀ ao cap, (0 < r.length → ao = some ⟨w.heap.size, 1, none⟩) → Calls Tryz.prog 80 #[.slice ao r.length cap, .slice (some ⟨w.heap.size + 1, 0, none⟩) 3 3] ((w.alloc (.cells (strs (k :: r)).toArray 9)).alloc (.cells #[.func (.func 81) #[] #[], .func (.func 81) #[] #[], .func (.func 83) #[] #[]] 42)) (FitsPost r [(81, fun l => (numL l).2), (81, fun l => (numL l).2), (83, txtL)] ((w.alloc (.cells (strs (k :: r)).toArray 9)).alloc (.cells #[.func (.func 81) #[] #[], .func (.func 81) #[] #[], .func (.func 83) #[] #[]] 42)))) := fun ao cap hao =>
    fits_at w k r [(81, fun l => (numL l).2), (81, fun l => (numL l).2), (83, txtL)] (by
      intro x hx
      simp only [List.mem_cons, List.not_mem_nil, or_false] at hx
      rcases hx with rfl | rfl | rfl
      · exact isNumber_says L
      · exact isNumber_says L
      · exact isPayload_says L) hb hB hr (by simp) ao hao cap
  have HRD : Hid (r.length = 3 → (∀ i (h : i < r.length) (h2 : i < ([(81, fun l => (numL l).2), (81, fun l => (numL l).2), (83, txtL)] : List (Nat × (List UInt8 → Bool))).length), (([(81, fun l => (numL l).2), (81, fun l => (numL l).2), (83, txtL)] : List (Nat × (List UInt8 → Bool)))[i]'h2).2 (r[i]'h) = true) → (readL s.data.toList).2 = true) := by
    intro hl hp
    unfold readL
    rw [hw]
    have hk := lk h6
    subst hk
    match r, hl with
    | [a, b, c], _ =>
      have p0 := hp 0 (by simp) (by simp)
      have p1 := hp 1 (by simp) (by simp)
      have p2 := hp 2 (by simp) (by simp)
      simp at p0 p1 p2
      simp [readW, kDone, p0, p1, p2]
  have HSP : Hid (Calls Tryz.prog 79 #[.string s, .string ⟨#[32]⟩] w fun e w' => e = .returned (.slice (some ⟨w.heap.size, 0, none⟩) (r.length + 1) (r.length + 1)) ∧ w' = w.alloc (.cells (strs (k :: r)).toArray 9)) := by
    have := L.split s w hs hb
    rw [hw] at this
    exact this
  have hc0 := split_first w k r
  have hsz : (w.alloc (.cells (strs (k :: r)).toArray 9)).heap.size = w.heap.size + 1 := by simp
  have hB1 : Below w.heap.size w (w.alloc (.cells (strs (k :: r)).toArray 9)) := (Below.refl _ _).alloc (Nat.le_refl _) _
  generalize w.alloc (.cells (strs (k :: r)).toArray 9) = w1 at *
  obtain ⟨n, hn⟩ : ∃ n, r.length = n := ⟨_, rfl⟩
  have HN : Hid (r.length = n) := hn
  rw [hn] at HSP HFT
  clear hn hw hr hb hs L
  go_enter Tryz.func68, Tryz.ntmps68
  go_wp2_with fail
  refine HSP.out.mono ?_
  rintro e w2 ⟨rfl, rfl⟩
  clear HSP
  go_wp2_with fail
  · rename_i h
    subst h
    refine (HFT.out (some ⟨w.heap.size, 0, none⟩) 0 (fun h => absurd h (by omega))).mono ?_
    rintro e w3 ⟨b, rfl, hp, hb3⟩
    have hB3 : Below w.heap.size w w3 := (hB1.alloc (by omega) _).trans (hb3.mono (by simp; omega))
    clear HFT hc0
    go_wp2
    go_ret
    exact ⟨b, rfl, fun h => HRD.out (hp h).1 (hp h).2, hB3⟩
  · refine (HFT.out (some ⟨w.heap.size, 1, none⟩) n (fun _ => rfl)).mono ?_
    rintro e w3 ⟨b, rfl, hp, hb3⟩
    have hB3 : Below w.heap.size w w3 := (hB1.alloc (by omega) _).trans (hb3.mono (by simp; omega))
    clear HFT hc0
    go_wp2
    go_ret
    exact ⟨b, rfl, fun h => HRD.out (hp h).1 (hp h).2, hB3⟩
set_option maxHeartbeats 1000000 in
set_option maxRecDepth 100000 in
theorem is_other {base : Nat} {w00 : World} (L : LibAt base w00) (s : ByteArray) (w : World) (hs : s.size ≤ 4194304) (hb : Below base w00 w) (k : List UInt8) (r : List (List UInt8)) (hw : cutL 32 s.data.toList = k :: r) (h0 : (k == [112, 117, 108, 108]) = false) (h1 : (k == [98, 101, 97, 116]) = false) (h2 : (k == [100, 114, 97, 105, 110]) = false) (h3 : (k == [99, 97, 110]) = false) (h4 : (k == [102, 97, 105, 108]) = false) (h5 : (k == [115, 117, 98]) = false) (h6 : (k == [100, 111, 110, 101]) = false) :
    Calls Tryz.prog 68 #[.string s] w (IsPost s.data.toList w) := by
  have HSP : Hid (Calls Tryz.prog 79 #[.string s, .string ⟨#[32]⟩] w fun e w' => e = .returned (.slice (some ⟨w.heap.size, 0, none⟩) (r.length + 1) (r.length + 1)) ∧ w' = w.alloc (.cells (strs (k :: r)).toArray 9)) := by
    have := L.split s w hs hb
    rw [hw] at this
    exact this
  have hc0 := split_first w k r
  have hsz : (w.alloc (.cells (strs (k :: r)).toArray 9)).heap.size = w.heap.size + 1 := by simp
  have hB1 : Below w.heap.size w (w.alloc (.cells (strs (k :: r)).toArray 9)) := (Below.refl _ _).alloc (Nat.le_refl _) _
  generalize w.alloc (.cells (strs (k :: r)).toArray 9) = w1 at *
  generalize r.length = n at *
  clear hw hb hs L
  go_enter Tryz.func68, Tryz.ntmps68
  go_wp2_with fail
  refine HSP.out.mono ?_
  rintro e w2 ⟨rfl, rfl⟩
  clear HSP
  go_wp2
  all_goals
    go_ret
    exact is_no hB1
theorem is_any {base : Nat} {w00 : World} (L : LibAt base w00) (s : ByteArray) (w : World) (hs : s.size ≤ 4194304) (hb : Below base w00 w) (hB : base ≤ w.heap.size) : Calls Tryz.prog 68 #[.string s] w (IsPost s.data.toList w) := by
  have hsm := cut_small (s := s) (c := 32) hs
  cases hw : cutL 32 s.data.toList with
  | nil => exact absurd hw (cut_ne _ _)
  | cons k r =>
    have hr : ∀ x ∈ r, x.length ≤ 4194304 := fun x hx => hsm x (by rw [hw]; exact List.mem_cons_of_mem _ hx)
    cases h0 : (k == [112, 117, 108, 108])
    case true => exact is_pull L s w hs hb hB k r hw hr h0
    cases h1 : (k == [98, 101, 97, 116])
    case true => exact is_beat L s w hs hb hB k r hw hr h0 h1
    cases h2 : (k == [100, 114, 97, 105, 110])
    case true => exact is_drain L s w hs hb hB k r hw hr h0 h1 h2
    cases h3 : (k == [99, 97, 110])
    case true => exact is_can L s w hs hb hB k r hw hr h0 h1 h2 h3
    cases h4 : (k == [102, 97, 105, 108])
    case true => exact is_fail L s w hs hb hB k r hw hr h0 h1 h2 h3 h4
    cases h5 : (k == [115, 117, 98])
    case true => exact is_sub L s w hs hb hB k r hw hr h0 h1 h2 h3 h4 h5
    cases h6 : (k == [100, 111, 110, 101])
    case true => exact is_done L s w hs hb hB k r hw hr h0 h1 h2 h3 h4 h5 h6
    exact is_other L s w hs hb k r hw h0 h1 h2 h3 h4 h5 h6
end Go.Proofs.YtjkenehiojbmiaaGreatDoor.Msg
