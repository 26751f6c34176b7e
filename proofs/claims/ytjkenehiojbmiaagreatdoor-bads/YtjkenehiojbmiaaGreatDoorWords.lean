import Derived.Test.YtjkenehiojbmiaaGreatDoorLetsDef
namespace Go.Proofs.YtjkenehiojbmiaaGreatDoor.Msg
open Go.RowKit

def isTen (c : Int) : Bool := (decide (97 ≤ c) && decide (c ≤ 122)) || (decide (945 ≤ c) && decide (c ≤ 969))
def isTxt (c : Int) : Bool := (decide (33 ≤ c) && decide (c ≤ 126)) || (decide (161 ≤ c) && decide (c ≤ 65535))
def wordL (p : Int → Bool) (most : Nat) (l : List UInt8) : Bool := match lets l with
  | some xs => xs.all p && decide (1 ≤ xs.length) && decide (xs.length ≤ most)
  | none => false
def tenL (l : List UInt8) : Bool := wordL isTen 6 l
def txtL (l : List UInt8) : Bool := wordL isTxt 12 l

theorem shape {w : World} {base : Nat} {e : TypeId} {size : Nat} {v : Value} {n : Nat} {xs : List Value} (h : w.ownsRow base e size v n xs) : ∃ ao cap, v = .slice ao n cap ∧ (0 < n → ∃ g, ao = some ⟨g, 0, none⟩ ∧ base ≤ g) := by
  rcases h.2 with ⟨rfl, rfl⟩ | ⟨g, cap, cur, rfl, hb, _⟩
  · exact ⟨none, 0, rfl, fun h => absurd h (by omega)⟩
  · exact ⟨_, cap, rfl, fun _ => ⟨g, rfl, hb⟩⟩
theorem int_cell {w : World} {base g cap : Nat} {xs : List Int} {n : Nat} (h : w.ownsRow base 3 1 (.slice (some ⟨g, 0, none⟩) n cap) n (ints xs)) {k : Nat} (hk : k < n) (hn : n = xs.length) :
    w.cell? ⟨g, k, none⟩ = some (.int .i64 (xs.getD k 0)) := by
  subst hn
  rw [h.cellAt k (by omega), ints, List.getElem?_map, List.getElem?_eq_getElem hk]
  simp [hk]
theorem all_snoc (p : Int → Bool) (xs : List Int) (k : Nat) (h : k < xs.length) : (xs.take (k + 1)).all p = ((xs.take k).all p && p (xs.getD k 0)) := by
  rw [List.take_succ_eq_append_getElem h, List.all_append]
  simp [h]
theorem wordL_some {p : Int → Bool} {most : Nat} {l : List UInt8} {xs : List Int} (h : lets l = some xs) : wordL p most l = (xs.all p && decide (1 ≤ xs.length) && decide (xs.length ≤ most)) := by
  unfold wordL; rw [h]
theorem wordL_none {p : Int → Bool} {most : Nat} {l : List UInt8} (h : lets l = none) : wordL p most l = false := by
  unfold wordL; rw [h]
theorem fin_le (n most : Nat) (m : Int) (hm : m = (most : Int)) (h1 : 1 ≤ n) : decide ((n : Int) ≤ m) = (true && decide (1 ≤ n) && decide (n ≤ most)) := by
  subst hm; simp [h1]
theorem ret_bool {a b : Bool} (h : a = b) : Ending.returned (.bool a) = .returned (.bool b) := by rw [h]

theorem letsG_len {la : Nat → Option (Int × Nat)} {len : Nat} : ∀ (f i : Nat) (xs : List Int), letsG la len f i = some xs → xs.length ≤ f
  | 0, i, xs, h => by
    unfold letsG at h
    split at h
    · cases h
    · cases h; simp
  | f + 1, i, xs, h => by
    unfold letsG at h
    split at h
    · split at h
      · cases h
      · rename_i c n _
        cases hr : letsG la len f (i + n) with
        | none => rw [hr] at h; cases h
        | some ys =>
          rw [hr] at h
          cases h
          have := letsG_len f (i + n) ys hr
          simp; omega
    · cases h; simp
theorem lets_len {s : ByteArray} {xs : List Int} (h : lets s.data.toList = some xs) (hs : s.size ≤ 4194304) : xs.length ≤ 1000000000 := by
  have := letsG_len _ _ xs h
  rw [slen] at this; omega

set_option maxHeartbeats 4000000 in
set_option maxRecDepth 100000 in
theorem tenant_any (HLT : LettersSaid) (s : ByteArray) (w : World) (hs : s.size ≤ 4194304) :
    Calls Tryz.prog 35 #[.string s] w fun e w' => e = .returned (.bool (tenL s.data.toList)) ∧ Below w.heap.size w w' := by
  go_enter Tryz.func35, Tryz.ntmps35
  go_wp2_with fail
  refine (HLT s _ hs).mono ?_
  rintro e w1 (⟨hl, rfl, hb1⟩ | ⟨xs, v, hl, rfl, hown, hb1⟩)
  · have HL : Hid (tenL s.data.toList = false) := wordL_none hl
    clear hl
    go_wp2
    go_loop [4, 14] (fun o i => o = .bool false ∧ i = .int .i64 0) (fun _ _ => 0)
    case atStart => exact ⟨rfl, rfl⟩
    case round =>
      obtain ⟨rfl, rfl⟩ := hrel
      go_wp2
      go_ret
      exact ⟨ret_bool HL.out.symm, hb1⟩
  · have HL : Hid (tenL s.data.toList = (xs.all isTen && decide (1 ≤ xs.length) && decide (xs.length ≤ 6))) := wordL_some hl
    have hxl : xs.length ≤ 1000000000 := lets_len hl hs
    clear hl
    obtain ⟨ao, cap, rfl, hao⟩ := shape hown
    have HAO : Hid (0 < xs.length → ∃ g, ao = some ⟨g, 0, none⟩ ∧ w.heap.size ≤ g) := hao
    clear hao
    go_wp2
    go_loop [4, 14] (fun o i => ∃ (k : Nat) (bb : Bool), k ≤ xs.length ∧ i = .int .i64 k ∧ o = .bool bb ∧ Hid (bb = (xs.take k).all isTen)) (fun _ i => xs.length - (intOf i).toNat)
    case atStart => exact ⟨0, true, Nat.zero_le _, rfl, rfl, rfl⟩
    case round =>
      obtain ⟨k, bb, hk, rfl, rfl, HB⟩ := hrel
      by_cases hlt : k < xs.length
      · obtain ⟨g, rfl, _⟩ := HAO.out (by omega)
        have hcl := int_cell hown hlt rfl
        have HS : Hid ((xs.take (k + 1)).all isTen = (bb && isTen (xs.getD k 0))) := by rw [HB.out]; exact all_snoc _ _ _ hlt
        clear hown
        generalize xs.getD k 0 = c at *
        cases bb
        · go_wp2
          go_round
          case rel => exact ⟨k + 1, false, by omega, by go_num, rfl, by rw [HS.out]; rfl⟩
          case measure => simp [intOf]; omega
        · have hcs : (c < 97) ∨ (97 ≤ c ∧ c ≤ 122) ∨ (122 < c ∧ c < 945) ∨ (945 ≤ c ∧ c ≤ 969) ∨ (969 < c) := by omega
          rcases hcs with hq | hq | hq | hq | hq
          · have HP : Hid (isTen c = false) := by simp [isTen, Hid]; omega
            have hd97 : decide (97 ≤ c) = false := by simp; omega
            have hd945 : decide (945 ≤ c) = false := by simp; omega
            go_wp2
            go_round
            case rel => exact ⟨k + 1, false, by omega, by go_num, rfl, by rw [HS.out, HP.out]; rfl⟩
            case measure => simp [intOf]; omega
          · have HP : Hid (isTen c = true) := by simp [isTen, Hid]; omega
            obtain ⟨hq1, hq2⟩ := hq
            go_wp2
            go_round
            case rel => exact ⟨k + 1, true, by omega, by go_num, rfl, by rw [HS.out, HP.out]; rfl⟩
            case measure => simp [intOf]; omega
          · have HP : Hid (isTen c = false) := by simp [isTen, Hid]; omega
            obtain ⟨hq1, hq2⟩ := hq
            have hd122 : decide (c ≤ 122) = false := by simp; omega
            have hd945 : decide (945 ≤ c) = false := by simp; omega
            go_wp2
            go_round
            case rel => exact ⟨k + 1, false, by omega, by go_num, rfl, by rw [HS.out, HP.out]; rfl⟩
            case measure => simp [intOf]; omega
          · have HP : Hid (isTen c = true) := by simp [isTen, Hid]; omega
            obtain ⟨hq1, hq2⟩ := hq
            have hd122 : decide (c ≤ 122) = false := by simp; omega
            go_wp2
            go_round
            case rel => exact ⟨k + 1, true, by omega, by go_num, rfl, by rw [HS.out, HP.out]; rfl⟩
            case measure => simp [intOf]; omega
          · have HP : Hid (isTen c = false) := by simp [isTen, Hid]; omega
            have hd122 : decide (c ≤ 122) = false := by simp; omega
            have hd969 : decide (c ≤ 969) = false := by simp; omega
            go_wp2
            go_round
            case rel => exact ⟨k + 1, false, by omega, by go_num, rfl, by rw [HS.out, HP.out]; rfl⟩
            case measure => simp [intOf]; omega
      · obtain rfl : k = xs.length := by omega
        have HT : Hid (tenL s.data.toList = (bb && decide (1 ≤ xs.length) && decide (xs.length ≤ 6))) := by rw [HL.out, HB.out, List.take_length]; rfl
        cases bb
        · go_wp2
          go_ret
          exact ⟨ret_bool (by rw [HT.out]; rfl), hb1⟩
        · by_cases h1 : 1 ≤ xs.length
          · have h1d : decide (1 ≤ (xs.length : Int)) = true := by simp; omega
            go_wp2
            go_ret
            exact ⟨ret_bool (by rw [HT.out]; exact fin_le _ _ _ rfl h1), hb1⟩
          · have h1d : decide (1 ≤ (xs.length : Int)) = false := by simp; omega
            go_wp2
            go_ret
            exact ⟨ret_bool (by rw [HT.out]; simp [h1]), hb1⟩

set_option maxHeartbeats 4000000 in
set_option maxRecDepth 100000 in
theorem text_any (HLT : LettersSaid) (s : ByteArray) (w : World) (hs : s.size ≤ 4194304) :
    Calls Tryz.prog 34 #[.string s] w fun e w' => e = .returned (.bool (txtL s.data.toList)) ∧ Below w.heap.size w w' := by
  go_enter Tryz.func34, Tryz.ntmps34
  go_wp2_with fail
  refine (HLT s _ hs).mono ?_
  rintro e w1 (⟨hl, rfl, hb1⟩ | ⟨xs, v, hl, rfl, hown, hb1⟩)
  · have HL : Hid (txtL s.data.toList = false) := wordL_none hl
    clear hl
    go_wp2
    go_loop [4, 14] (fun o i => o = .bool false ∧ i = .int .i64 0) (fun _ _ => 0)
    case atStart => exact ⟨rfl, rfl⟩
    case round =>
      obtain ⟨rfl, rfl⟩ := hrel
      go_wp2
      go_ret
      exact ⟨ret_bool HL.out.symm, hb1⟩
  · have HL : Hid (txtL s.data.toList = (xs.all isTxt && decide (1 ≤ xs.length) && decide (xs.length ≤ 12))) := wordL_some hl
    have hxl : xs.length ≤ 1000000000 := lets_len hl hs
    clear hl
    obtain ⟨ao, cap, rfl, hao⟩ := shape hown
    have HAO : Hid (0 < xs.length → ∃ g, ao = some ⟨g, 0, none⟩ ∧ w.heap.size ≤ g) := hao
    clear hao
    go_wp2
    go_loop [4, 14] (fun o i => ∃ (k : Nat) (bb : Bool), k ≤ xs.length ∧ i = .int .i64 k ∧ o = .bool bb ∧ Hid (bb = (xs.take k).all isTxt)) (fun _ i => xs.length - (intOf i).toNat)
    case atStart => exact ⟨0, true, Nat.zero_le _, rfl, rfl, rfl⟩
    case round =>
      obtain ⟨k, bb, hk, rfl, rfl, HB⟩ := hrel
      by_cases hlt : k < xs.length
      · obtain ⟨g, rfl, _⟩ := HAO.out (by omega)
        have hcl := int_cell hown hlt rfl
        have HS : Hid ((xs.take (k + 1)).all isTxt = (bb && isTxt (xs.getD k 0))) := by rw [HB.out]; exact all_snoc _ _ _ hlt
        clear hown
        generalize xs.getD k 0 = c at *
        cases bb
        · go_wp2
          go_round
          case rel => exact ⟨k + 1, false, by omega, by go_num, rfl, by rw [HS.out]; rfl⟩
          case measure => simp [intOf]; omega
        · have hcs : (c < 33) ∨ (33 ≤ c ∧ c ≤ 126) ∨ (126 < c ∧ c < 161) ∨ (161 ≤ c ∧ c ≤ 65535) ∨ (65535 < c) := by omega
          rcases hcs with hq | hq | hq | hq | hq
          · have HP : Hid (isTxt c = false) := by simp [isTxt, Hid]; omega
            have hd33 : decide (33 ≤ c) = false := by simp; omega
            have hd161 : decide (161 ≤ c) = false := by simp; omega
            go_wp2
            go_round
            case rel => exact ⟨k + 1, false, by omega, by go_num, rfl, by rw [HS.out, HP.out]; rfl⟩
            case measure => simp [intOf]; omega
          · have HP : Hid (isTxt c = true) := by simp [isTxt, Hid]; omega
            obtain ⟨hq1, hq2⟩ := hq
            go_wp2
            go_round
            case rel => exact ⟨k + 1, true, by omega, by go_num, rfl, by rw [HS.out, HP.out]; rfl⟩
            case measure => simp [intOf]; omega
          · have HP : Hid (isTxt c = false) := by simp [isTxt, Hid]; omega
            obtain ⟨hq1, hq2⟩ := hq
            have hd126 : decide (c ≤ 126) = false := by simp; omega
            have hd161 : decide (161 ≤ c) = false := by simp; omega
            go_wp2
            go_round
            case rel => exact ⟨k + 1, false, by omega, by go_num, rfl, by rw [HS.out, HP.out]; rfl⟩
            case measure => simp [intOf]; omega
          · have HP : Hid (isTxt c = true) := by simp [isTxt, Hid]; omega
            obtain ⟨hq1, hq2⟩ := hq
            have hd126 : decide (c ≤ 126) = false := by simp; omega
            go_wp2
            go_round
            case rel => exact ⟨k + 1, true, by omega, by go_num, rfl, by rw [HS.out, HP.out]; rfl⟩
            case measure => simp [intOf]; omega
          · have HP : Hid (isTxt c = false) := by simp [isTxt, Hid]; omega
            have hd126 : decide (c ≤ 126) = false := by simp; omega
            have hd65535 : decide (c ≤ 65535) = false := by simp; omega
            go_wp2
            go_round
            case rel => exact ⟨k + 1, false, by omega, by go_num, rfl, by rw [HS.out, HP.out]; rfl⟩
            case measure => simp [intOf]; omega
      · obtain rfl : k = xs.length := by omega
        have HT : Hid (txtL s.data.toList = (bb && decide (1 ≤ xs.length) && decide (xs.length ≤ 12))) := by rw [HL.out, HB.out, List.take_length]; rfl
        cases bb
        · go_wp2
          go_ret
          exact ⟨ret_bool (by rw [HT.out]; rfl), hb1⟩
        · by_cases h1 : 1 ≤ xs.length
          · have h1d : decide (1 ≤ (xs.length : Int)) = true := by simp; omega
            go_wp2
            go_ret
            exact ⟨ret_bool (by rw [HT.out]; exact fin_le _ _ _ rfl h1), hb1⟩
          · have h1d : decide (1 ≤ (xs.length : Int)) = false := by simp; omega
            go_wp2
            go_ret
            exact ⟨ret_bool (by rw [HT.out]; simp [h1]), hb1⟩
end Go.Proofs.YtjkenehiojbmiaaGreatDoor.Msg
