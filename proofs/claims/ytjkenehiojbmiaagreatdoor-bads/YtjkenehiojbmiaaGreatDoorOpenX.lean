import Derived.Test.YtjkenehiojbmiaaGreatDoorReadSum
import Derived.Deep.RegionHeld3
namespace Go.Proofs.YtjkenehiojbmiaaGreatDoor.Sums
open Go.RowKit Msg
attribute [local go_sem] setCell_drewN
attribute [local go_sem] alloc_drewN

theorem dg_dv : ∀ c : UInt8, 0 ≤ dv c → dg (dv c) = c := by
  have h : ∀ n : Fin 256, 0 ≤ dv (UInt8.ofNat n.val) → dg (dv (UInt8.ofNat n.val)) = UInt8.ofNat n.val := by decide +kernel
  intro c
  have := h ⟨c.toNat, c.toNat_lt⟩
  simpa using this
theorem dv_dg (n : Int) (h0 : 0 ≤ n) (h1 : n ≤ 15) : dv (dg n) = n := by
  have h : ∀ n : Fin 16, dv (dg (n.val : Int)) = (n.val : Int) := by decide +kernel
  have := h ⟨n.toNat, by omega⟩
  simpa [Int.toNat_of_nonneg h0] using this
theorem two_part {l : List UInt8} (hd : digitsOk l) {j : Nat} (hj : j < 4) : two (part l j) = [l[2 * j]?.getD 0, l[2 * j + 1]?.getD 0] := by
  have h1 := hd (2 * j) (by omega)
  have h2 := hd (2 * j + 1) (by omega)
  have b1 := dv_bd (l[2 * j]?.getD 0)
  have b2 := dv_bd (l[2 * j + 1]?.getD 0)
  have e1 : part l j / 16 = dv (l[2 * j]?.getD 0) := by unfold part; omega
  have e2 : part l j % 16 = dv (l[2 * j + 1]?.getD 0) := by unfold part; omega
  unfold two
  rw [e1, e2, dg_dv _ h1, dg_dv _ h2]
theorem eight {l : List UInt8} (h : l.length = 8) : l = [l[0]?.getD 0, l[1]?.getD 0, l[2]?.getD 0, l[3]?.getD 0, l[4]?.getD 0, l[5]?.getD 0, l[6]?.getD 0, l[7]?.getD 0] := by
  match l, h with
  | [a, b, c, d, e, f, g, i], _ => rfl
/-- A tail is the sum of a text, just if its digits say so. -/
theorem tail_iff {t l : List UInt8} (h : l.length = 8) : l = hex t ↔ digitsOk l ∧ part l 0 = sm t t.length 0 ∧ part l 1 = sm t t.length 1 ∧ part l 2 = sm t t.length 2 ∧ part l 3 = sm t t.length 3 := by
  constructor
  · intro e
    subst e
    have b0 := sm_bd t t.length 0
    have b1 := sm_bd t t.length 1
    have b2 := sm_bd t t.length 2
    have b3 := sm_bd t t.length 3
    have d0 := dv_dg (sm t t.length 0 / 16) (by omega) (by omega)
    have d1 := dv_dg (sm t t.length 0 % 16) (by omega) (by omega)
    have d2 := dv_dg (sm t t.length 1 / 16) (by omega) (by omega)
    have d3 := dv_dg (sm t t.length 1 % 16) (by omega) (by omega)
    have d4 := dv_dg (sm t t.length 2 / 16) (by omega) (by omega)
    have d5 := dv_dg (sm t t.length 2 % 16) (by omega) (by omega)
    have d6 := dv_dg (sm t t.length 3 / 16) (by omega) (by omega)
    have d7 := dv_dg (sm t t.length 3 % 16) (by omega) (by omega)
    refine ⟨fun i hi => ?_, ?_, ?_, ?_, ?_⟩
    · match i, hi with
      | 0, _ => show 0 ≤ dv (dg (sm t t.length 0 / 16)); omega
      | 1, _ => show 0 ≤ dv (dg (sm t t.length 0 % 16)); omega
      | 2, _ => show 0 ≤ dv (dg (sm t t.length 1 / 16)); omega
      | 3, _ => show 0 ≤ dv (dg (sm t t.length 1 % 16)); omega
      | 4, _ => show 0 ≤ dv (dg (sm t t.length 2 / 16)); omega
      | 5, _ => show 0 ≤ dv (dg (sm t t.length 2 % 16)); omega
      | 6, _ => show 0 ≤ dv (dg (sm t t.length 3 / 16)); omega
      | 7, _ => show 0 ≤ dv (dg (sm t t.length 3 % 16)); omega
    · show 16 * dv (dg (sm t t.length 0 / 16)) + dv (dg (sm t t.length 0 % 16)) = _; omega
    · show 16 * dv (dg (sm t t.length 1 / 16)) + dv (dg (sm t t.length 1 % 16)) = _; omega
    · show 16 * dv (dg (sm t t.length 2 / 16)) + dv (dg (sm t t.length 2 % 16)) = _; omega
    · show 16 * dv (dg (sm t t.length 3 / 16)) + dv (dg (sm t t.length 3 % 16)) = _; omega
  · rintro ⟨hd, h0, h1, h2, h3⟩
    unfold hex
    rw [← h0, ← h1, ← h2, ← h3, two_part hd (by omega), two_part hd (by omega), two_part hd (by omega), two_part hd (by omega)]
    exact eight h

/-- When a line is open. -/
theorem line_iff {l : List UInt8} {n : Nat} (h : l.length = n + 9) : line (l.take n) = l ↔ l[n]? = some 32 ∧ l.drop (n + 1) = hex (l.take n) := by
  have hn : n < l.length := by omega
  have e : l = l.take n ++ (l[n] :: l.drop (n + 1)) := by rw [← List.drop_eq_getElem_cons hn, List.take_append_drop]
  have el : (l.take n).length = n := by simp; omega
  constructor
  · intro hl
    have h2 : l.take n ++ ([32] ++ hex (l.take n)) = l.take n ++ (l[n] :: l.drop (n + 1)) := by
      rw [← e]; unfold line at hl; rw [List.append_assoc] at hl; exact hl
    have h3 := List.append_cancel_left h2
    simp only [List.cons_append, List.nil_append, List.cons.injEq] at h3
    exact ⟨by rw [List.getElem?_eq_getElem hn, ← h3.1], h3.2.symm⟩
  · rintro ⟨h1, h2⟩
    rw [List.getElem?_eq_getElem hn] at h1
    have h1' := Option.some.inj h1
    unfold line
    rw [← h2, List.append_assoc]
    conv => rhs; rw [e, h1']
    rfl

theorem drop_str (s : ByteArray) (n : Nat) : (s.extract n s.size).data.toList = s.data.toList.drop n := by
  have e : s.size - n = (s.data.toList.drop n).length := by simp
  simp only [ByteArray.data_extract, Array.toList_extract, List.extract_eq_take_drop]
  rw [e, List.take_length]

theorem eqSum (a b c d e f g h : Int) (w : World) : (Op.equalIn 10000 116 (.agg #[.int .u8 a, .int .u8 b, .int .u8 c, .int .u8 d]) (.agg #[.int .u8 e, .int .u8 f, .int .u8 g, .int .u8 h])).run Tryz.prog w = .ok (a == e && (b == f && (c == g && d == h))) w := by
  have u3 := Tryz.underlying5
  have a3 := Tryz.isAgg5
  have z3 := Tryz.sizeOf5
  rw [show (10000 : Nat) = 9999 + 1 from rfl, Op.equalIn]
  simp only [Sem.run_bind, run_underlying Tryz.underlying116, Result.andThen_ok]
  simp only [Std.Legacy.Range.forIn_eq_forIn_range', Std.Legacy.Range.size, Nat.sub_zero, Nat.add_sub_cancel, Nat.div_one, List.range'_succ, List.range'_zero, List.forIn_cons, List.forIn_nil]
  go_simp
  by_cases h1 : a = e <;> by_cases h2 : b = f <;> by_cases h3 : c = g <;> by_cases h4 : d = h <;> simp [h1, h2, h3, h4]
attribute [local go_sem] eqSum
theorem sum_blk {w w1 : World} (hb : Below w.heap.size w w1) (p0 p1 p2 p3 : Int) : ∃ w3, w1.alloc (.cells #[.int .u8 p0, .int .u8 p1, .int .u8 p2, .int .u8 p3] 116) = w3 ∧ Below w.heap.size w w3 ∧ w1.heap.size < w3.heap.size ∧
    w3.cell? ⟨w1.heap.size, 0, none⟩ = some (.int .u8 p0) ∧ w3.cell? ⟨w1.heap.size, 1, none⟩ = some (.int .u8 p1) ∧ w3.cell? ⟨w1.heap.size, 2, none⟩ = some (.int .u8 p2) ∧ w3.cell? ⟨w1.heap.size, 3, none⟩ = some (.int .u8 p3) := by
  refine ⟨_, rfl, hb.alloc hb.size _, by simp, ?_⟩
  have h := heap_alloc_new w1 (.cells #[.int .u8 p0, .int .u8 p1, .int .u8 p2, .int .u8 p3] 116)
  simp only [World.cell?, h]; simp
theorem sum_keep {w w' : World} {b : Nat} {v0 v1 v2 v3 : Value} (hb : Below w.heap.size w w') (hlt : b < w.heap.size) (h0 : w.cell? ⟨b, 0, none⟩ = some v0) (h1 : w.cell? ⟨b, 1, none⟩ = some v1) (h2 : w.cell? ⟨b, 2, none⟩ = some v2) (h3 : w.cell? ⟨b, 3, none⟩ = some v3) :
    w'.cell? ⟨b, 0, none⟩ = some v0 ∧ w'.cell? ⟨b, 1, none⟩ = some v1 ∧ w'.cell? ⟨b, 2, none⟩ = some v2 ∧ w'.cell? ⟨b, 3, none⟩ = some v3 :=
  ⟨by rw [hb.cell (p := ⟨b, 0, none⟩) hlt]; exact h0, by rw [hb.cell (p := ⟨b, 1, none⟩) hlt]; exact h1, by rw [hb.cell (p := ⟨b, 2, none⟩) hlt]; exact h2, by rw [hb.cell (p := ⟨b, 3, none⟩) hlt]; exact h3⟩

set_option maxHeartbeats 4000000 in
set_option maxRecDepth 100000 in
theorem openX_any (s : ByteArray) (w : World) (hs : s.size ≤ 4194304) :
    Calls Tryz.prog 67 #[.string s] w fun e w' => e = .returned (.tuple #[.string ⟨(openS s.data.toList).toArray⟩, .bool (openB s.data.toList)]) ∧ Below w.heap.size w w' := by
  have e0 : s.data.toList.length = s.size := by simp
  by_cases h80 : 80 < s.size
  · have HF : Hid (openS s.data.toList = [] ∧ openB s.data.toList = false) := open_no (by omega)
    clear e0
    go_enter Tryz.func67, Tryz.ntmps67
    go_wp2
    go_ret2
    exact ⟨ret_open HF.out, Below.refl _ _⟩
  have hd80 : decide (80 < (s.size : Int)) = false := by simp; omega
  by_cases h9 : s.size < 9
  · have HF : Hid (openS s.data.toList = [] ∧ openB s.data.toList = false) := open_no (by omega)
    clear e0
    go_enter Tryz.func67, Tryz.ntmps67
    go_wp2
    go_ret2
    exact ⟨ret_open HF.out, Below.refl _ _⟩
  obtain ⟨n, hn⟩ : ∃ n, s.size = n + 9 := ⟨s.size - 9, by omega⟩
  have hd9 : decide ((s.size : Int) - 9 < 0) = false := by simp; omega
  have hnn : (s.size : Int) - 9 = (n : Int) := by omega
  have hnl : n < s.size := by omega
  have htk : s.data.toList.length - 9 = n := by omega
  have hln : s.data.toList.length = n + 9 := by omega
  have hbl : s.data.toList[n]? = some s[n] := by rw [List.getElem?_eq_getElem (by omega)]; rfl
  by_cases hb : s[n] = 32
  · have hb' : ((s[n].toNat : Int) != 32) = false := by rw [hb]; rfl
    obtain ⟨t, ht⟩ : ∃ t, s.extract 0 n = t := ⟨_, rfl⟩
    obtain ⟨u, hu⟩ : ∃ u, s.extract (n + 1) s.size = u := ⟨_, rfl⟩
    have htl : t.data.toList = s.data.toList.take n := by rw [← ht, cut_head s n]
    have hul : u.data.toList = s.data.toList.drop (n + 1) := by rw [← hu]; exact drop_str s (n + 1)
    have hts : t.size = n := by rw [← ht]; simp; omega
    have hus : u.size = 8 := by rw [← hu]; simp; omega
    have hlen8 : u.data.toList.length = 8 := by simp [hus]
    have htlen : t.data.toList.length = t.size := by simp
    have hiff := line_iff hln
    rw [← hul, ← htl, tail_iff hlen8, htlen] at hiff
    have hiff' : line t.data.toList = s.data.toList ↔ digitsOk u.data.toList ∧ part u.data.toList 0 = sm t.data.toList t.size 0 ∧ part u.data.toList 1 = sm t.data.toList t.size 1 ∧ part u.data.toList 2 = sm t.data.toList t.size 2 ∧ part u.data.toList 3 = sm t.data.toList t.size 3 := hiff.trans ⟨fun h => h.2, fun h => ⟨by rw [hbl, hb], h⟩⟩
    have HNO : Hid (¬ (line t.data.toList = s.data.toList) → openS s.data.toList = [] ∧ openB s.data.toList = false) := fun h => open_no (by rw [htk, ← htl]; exact fun h' => h h'.2.2)
    have HYES : Hid (line t.data.toList = s.data.toList → openS s.data.toList = t.data.toList ∧ openB s.data.toList = true) := fun h => by
      have := open_yes (l := s.data.toList) ⟨by omega, by omega, by rw [htk, ← htl]; exact h⟩
      rw [htk, ← htl] at this; exact this
    have HIFF : Hid (line t.data.toList = s.data.toList ↔ digitsOk u.data.toList ∧ part u.data.toList 0 = sm t.data.toList t.size 0 ∧ part u.data.toList 1 = sm t.data.toList t.size 1 ∧ part u.data.toList 2 = sm t.data.toList t.size 2 ∧ part u.data.toList 3 = sm t.data.toList t.size 3) := hiff'
    have HT : Hid (s.extract 0 n = t) := ht
    have HU : Hid (s.extract (n + 1) s.size = u) := hu
    have HRS : Hid (∀ w, Calls Tryz.prog 78 #[.string u] w (ReadSumPost u.data.toList w)) := fun w => readSum_any u w hus
    have HSO : Hid (∀ w, Calls Tryz.prog 64 #[.string t] w fun e w' => e = .returned (.agg #[.int .u8 (sm t.data.toList t.size 0), .int .u8 (sm t.data.toList t.size 1), .int .u8 (sm t.data.toList t.size 2), .int .u8 (sm t.data.toList t.size 3)]) ∧ Below w.heap.size w w') := fun w => sumof_any t w (by omega)
    clear hiff hiff' ht hu htl hul htk hln hlen8 htlen e0 hbl
    go_enter Tryz.func67, Tryz.ntmps67
    go_wp2_with fail
    rw [← hn, HU.out]
    refine (HRS.out _).mono ?_
    rintro e w1 ⟨hcase, hb1⟩
    have hz1 := hb1.size
    rcases hcase with ⟨hd, rfl⟩ | ⟨hd, rfl⟩
    · generalize part u.data.toList 0 = p0 at *
      generalize part u.data.toList 1 = p1 at *
      generalize part u.data.toList 2 = p2 at *
      generalize part u.data.toList 3 = p3 at *
      generalize sm t.data.toList t.size 0 = q0 at *
      generalize sm t.data.toList t.size 1 = q1 at *
      generalize sm t.data.toList t.size 2 = q2 at *
      generalize sm t.data.toList t.size 3 = q3 at *
      have HD : Hid (digitsOk u.data.toList) := hd
      clear hd
      go_wp2_with fail
      rw [HT.out]
      obtain ⟨w3, hw3, hB3, hlt3, c0, c1, c2, c3⟩ := sum_blk hb1 p0 p1 p2 p3
      rw [hw3]
      clear hw3 hb1 hz1
      go_region_held3 (fun w' => w'.cell? ⟨w1.heap.size, 0, none⟩ = some (.int .u8 p0) ∧ w'.cell? ⟨w1.heap.size, 1, none⟩ = some (.int .u8 p1) ∧ w'.cell? ⟨w1.heap.size, 2, none⟩ = some (.int .u8 p2) ∧ w'.cell? ⟨w1.heap.size, 3, none⟩ = some (.int .u8 p3)) (go_keep)
        (first | (go_at_call 64; refine (HSO.out _).mono ?_; rintro e w2 ⟨rfl, hb2⟩; obtain ⟨k0, k1, k2, k3⟩ := sum_keep hb2 hlt3 c0 c1 c2 c3))
      all_goals
        have hB2 : Below w.heap.size w w2 := hB3.drew.trans (hb2.mono hB3.size)
        generalize hc : (!(p0 == q0) || (!(p1 == q1) || (!(p2 == q2) || !(p3 == q3)))) = bb
        have HC : Hid (bb = false ↔ p0 = q0 ∧ p1 = q1 ∧ p2 = q2 ∧ p3 = q3) := by show (_ ↔ _); rw [← hc]; simp
        clear hc HSO HRS k0 k1 k2 k3 c0 c1 c2 c3 hb2
        cases bb
        · have HF := HYES.out (HIFF.out.2 ⟨HD.out, HC.out.1 rfl⟩)
          have HE : Hid (Ending.returned (.tuple #[.string t, .bool true]) = .returned (.tuple #[.string ⟨(openS s.data.toList).toArray⟩, .bool (openB s.data.toList)])) := by show _ = _; rw [HF.1, HF.2]
          clear HF HC HIFF HYES HNO
          go_wp2
          go_ret2
          exact ⟨HE.out, hB2⟩
        · have HF : Hid (openS s.data.toList = [] ∧ openB s.data.toList = false) := HNO.out (fun h => by have := HC.out.2 (HIFF.out.1 h).2; cases this)
          clear HC HIFF HYES HNO
          go_wp2
          go_ret2
          exact ⟨ret_open HF.out, hB2⟩
    · have HF : Hid (openS s.data.toList = [] ∧ openB s.data.toList = false) := HNO.out (fun h => hd (HIFF.out.1 h).1)
      clear HIFF HYES HNO hd
      go_wp2_with fail
      rw [HT.out]
      go_quiet (fail)
      go_wp2
      go_ret2
      exact ⟨ret_open HF.out, Below.drewN_of (hb1.alloc hz1 _) _⟩
  · have hb' : ((s[n].toNat : Int) != 32) = true := by
      rw [bne_iff_ne]
      intro h
      apply hb
      apply UInt8.toNat.inj
      show s[n].toNat = 32
      omega
    have HF : Hid (openS s.data.toList = [] ∧ openB s.data.toList = false) := open_no (fun h => by
      have h2 := h.2.2
      rw [htk, line_iff hln, hbl] at h2
      exact hb (Option.some.inj h2.1))
    clear e0 htk hln hbl hb
    go_enter Tryz.func67, Tryz.ntmps67
    go_wp2
    go_ret2
    exact ⟨ret_open HF.out, Below.refl _ _⟩
end Go.Proofs.YtjkenehiojbmiaaGreatDoor.Sums
