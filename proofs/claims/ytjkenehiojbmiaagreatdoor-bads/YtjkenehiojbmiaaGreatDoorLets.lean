import Derived.Test.YtjkenehiojbmiaaGreatDoorLetsDef
namespace Go.Proofs.YtjkenehiojbmiaaGreatDoor.Msg
open Go.RowKit

theorem no_band {a : Int} (h : 128 ≤ a ∧ a ≤ 191) : ¬ a < 128 ∧ ¬ 191 < a := ⟨by omega, by omega⟩

set_option maxHeartbeats 100000000 in
set_option maxRecDepth 100000 in
theorem letters_any (s : ByteArray) (w : World) (hs : s.size ≤ 4194304) :
    Calls Tryz.prog 62 #[.string s] w (LetsPost s.data.toList w) := by
  obtain ⟨i0, hi, hz0, hz1, hz2⟩ := info_parts infoInt
  have e0 : s.data.toList.length = s.size := by simp
  have E0 : Hid (s.data.toList.length = s.size) := e0
  clear e0
  go_enter Tryz.func62, Tryz.ntmps62
  go_wp2
  go_loopw [4, 5] (fun o ip wr => ∃ (i f : Nat) (xs : List Int), i ≤ s.size ∧ ip = .int .i64 i ∧ xs.length ≤ i ∧ s.size ≤ i + f ∧ wr.ownsRow w.heap.size 3 1 o xs.length (ints xs) ∧ Below w.heap.size w wr ∧ Hid (lets s.data.toList = (letsF s.data.toList f i).map (xs ++ ·))) (fun _ ip _ => s.size - (intOf ip).toNat)
  case atStart =>
    refine ⟨0, s.size, [], Nat.zero_le _, rfl, by simp, by omega, World.ownsRow_nil _ _ _ _, Below.refl _ _, ?_⟩
    show _ = _
    have e := E0.out
    rw [lets, e]; simp
  case round =>
    obtain ⟨i, f, xs, hil, rfl, hxl, hf, hown, hB, HR⟩ := hrel
    have hz := hB.size
    by_cases hlt : i < s.size
    · have hby : (s[i].toNat : Int) ≤ 255 := by have := s[i].toNat_lt; omega
      have HLI : Hid (i < s.data.toList.length) := (slen s).symm ▸ hlt
      obtain ⟨f, rfl⟩ : ∃ f', f = f' + 1 := ⟨f - 1, by omega⟩
      by_cases hA : (s[i].toNat : Int) < 128
      · have HL : Hid (letAt s.data.toList i = some ((s[i].toNat : Int), 1)) := let_one s i hlt hA
        have HR2 : Hid (lets s.data.toList = (letsF s.data.toList f (i + 1)).map ((xs ++ [(s[i].toNat : Int)]) ++ ·)) := lets_step HR.out HLI.out HL.out
        go_wp2
        go_loop [6, 8] (fun x k => x = .int .i64 (s[i].toNat : Int) ∧ k = .int .i64 1) (fun _ _ => 0)
        case atStart => exact ⟨rfl, rfl⟩
        case round =>
          obtain ⟨rfl, rfl⟩ := hrel
          go_wp2_with (at_builtin; go_must (refine wpList_append_lies _ rfl _ _ 77 rfl w.heap.size 3 i0 (.int .i64 0) 1 8 Tryz.underlying77 hi hz0 hz1 hz2 rfl (by decide) _ _ _ rfl (hown.alloc _) ⟨wr.heap.size, 0, none⟩ 1 1 [.int .i64 ((s[i].toNat : Int))] rfl rfl ?c1 ?c2 (by decide) ?c3 ?c4 ?c5 (wr.heap.size + 1) (by simp) ?main))
          case c2 => rfl
          case c3 => unfold maxLen; omega
          case c4 => omega
          case c5 => omega
          case main =>
            intro g1 cap1 w1 hown1 hgrow hat hlt1
            have hB1 : Below w.heap.size w w1 := (hB.alloc hz _).grown hgrow (by simp; omega) (fun q hq => (hown.lt q hq).1)
            go_wp2
            go_roundw
            case rel => exact ⟨i + 1, f, xs ++ [(s[i].toNat : Int)], by omega, by go_num, by simp; omega, by omega, by rw [ints_snoc, List.length_append]; exact hown1, hB1, HR2⟩
            case measure => simp [intOf]; omega
      by_cases hM : (s[i].toNat : Int) < 194 ∨ 240 ≤ (s[i].toNat : Int)
      · have HL : Hid (lets s.data.toList = none) := lets_none HR.out HLI.out (let_mid s i hlt hA hM)
        rcases hM with hM | hM
        · have hg1 : decide (194 ≤ (s[i].toNat : Int)) = false := by simp; omega
          have hg2 : decide (224 ≤ (s[i].toNat : Int)) = false := by simp; omega
          go_wp2
          go_ret2
          exact Or.inl ⟨HL.out, rfl, hB⟩
        · go_wp2
          go_ret2
          exact Or.inl ⟨HL.out, rfl, hB⟩
      by_cases hT : (s[i].toNat : Int) < 224
      · have hc0 : 194 ≤ (s[i].toNat : Int) := by omega
        by_cases hsh : s.size < i + 2
        · have HL : Hid (lets s.data.toList = none) := lets_none HR.out HLI.out (let_two_short s i hlt hc0 hT hsh)
          clear hM
          go_wp2
          go_ret2
          exact Or.inl ⟨HL.out, rfl, hB⟩
        have h1 : i + 1 < s.size := by omega
        have hby1 : (s[i + 1].toNat : Int) ≤ 255 := by have := s[i + 1].toNat_lt; omega
        clear hM
        obtain ⟨v2, hv2⟩ : ∃ v : Int, v = 64 * ((s[i].toNat : Int) % 32) + (s[i + 1].toNat : Int) % 64 := ⟨_, rfl⟩
        have HV : Hid (v2 = 64 * ((s[i].toNat : Int) % 32) + (s[i + 1].toNat : Int) % 64) := hv2
        clear hv2
        go_wp2
        go_loop [6, 8] (fun x k => (x = .int .i64 ((s[i].toNat : Int) % 32) ∧ k = .int .i64 1) ∨ (x = .int .i64 v2 ∧ k = .int .i64 2 ∧ Hid (¬ (s[i + 1].toNat : Int) < 128 ∧ ¬ 191 < (s[i + 1].toNat : Int)))) (fun _ k => 2 - (intOf k).toNat)
        case atStart => exact Or.inl ⟨rfl, rfl⟩
        case round =>
          rcases hrel with ⟨rfl, rfl⟩ | ⟨rfl, rfl, HD⟩
          · by_cases hd0 : (s[i + 1].toNat : Int) < 128
            · have HL : Hid (lets s.data.toList = none) := lets_none HR.out HLI.out (let_two_bad s i h1 hc0 hT (Or.inl hd0))
              go_wp2
              go_ret2
              exact Or.inl ⟨HL.out, rfl, hB⟩
            have hg : decide ((s[i + 1].toNat : Int) < 128) = false := by simp; omega
            by_cases hd1 : 191 < (s[i + 1].toNat : Int)
            · have HL : Hid (lets s.data.toList = none) := lets_none HR.out HLI.out (let_two_bad s i h1 hc0 hT (Or.inr hd1))
              go_wp2
              go_ret2
              exact Or.inl ⟨HL.out, rfl, hB⟩
            have hg' : decide (191 < (s[i + 1].toNat : Int)) = false := by simp; omega
            have HD : Hid (¬ (s[i + 1].toNat : Int) < 128 ∧ ¬ 191 < (s[i + 1].toNat : Int)) := ⟨hd0, hd1⟩
            go_wp2
            go_round
            case rel => exact Or.inr ⟨by rw [HV.out], rfl, no_band HD.out⟩
            case measure => simp [intOf]
          · have HR2 : Hid (lets s.data.toList = (letsF s.data.toList f (i + 2)).map ((xs ++ [v2]) ++ ·)) := lets_step HR.out HLI.out (let_two_v s i h1 hc0 hT HD.out.1 HD.out.2 HV.out)
            go_wp2_with (at_builtin; go_must (refine wpList_append_lies _ rfl _ _ 77 rfl w.heap.size 3 i0 (.int .i64 0) 1 8 Tryz.underlying77 hi hz0 hz1 hz2 rfl (by decide) _ _ _ rfl (hown.alloc _) ⟨wr.heap.size, 0, none⟩ 1 1 [.int .i64 v2] rfl rfl ?d1 ?d2 (by decide) ?d3 ?d4 ?d5 (wr.heap.size + 1) (by simp) ?maind))
            case d2 => rfl
            case d3 => unfold maxLen; omega
            case d4 => omega
            case d5 => omega
            case maind =>
              intro g1 cap1 w1 hown1 hgrow hat hlt1
              have hB1 : Below w.heap.size w w1 := (hB.alloc hz _).grown hgrow (by simp; omega) (fun q hq => (hown.lt q hq).1)
              go_wp2
              go_roundw
              case rel => exact ⟨i + 2, f, xs ++ [v2], by omega, by go_num, by simp; omega, by omega, by rw [ints_snoc, List.length_append]; exact hown1, hB1, HR2⟩
              case measure => simp [intOf]; omega
      have hc0 : 224 ≤ (s[i].toNat : Int) := by omega
      have hc1 : (s[i].toNat : Int) < 240 := by omega
      clear hM
      by_cases hsh : s.size < i + 3
      · have HL : Hid (lets s.data.toList = none) := lets_none HR.out HLI.out (let_three_short s i hlt hc0 hc1 hsh)
        go_wp2
        go_ret2
        exact Or.inl ⟨HL.out, rfl, hB⟩
      have h2 : i + 2 < s.size := by omega
      have h1 : i + 1 < s.size := by omega
      have hby1 : (s[i + 1].toNat : Int) ≤ 255 := by have := s[i + 1].toNat_lt; omega
      have hby2 : (s[i + 2].toNat : Int) ≤ 255 := by have := s[i + 2].toNat_lt; omega
      obtain ⟨v1, hv1⟩ : ∃ v : Int, v = 64 * ((s[i].toNat : Int) % 16) + (s[i + 1].toNat : Int) % 64 := ⟨_, rfl⟩
      have HV1 : Hid (v1 = 64 * ((s[i].toNat : Int) % 16) + (s[i + 1].toNat : Int) % 64) := hv1
      have hv1b : 0 ≤ v1 ∧ v1 ≤ 1023 := by omega
      clear hv1
      obtain ⟨v3, hv3⟩ : ∃ v : Int, v = 64 * v1 + (s[i + 2].toNat : Int) % 64 := ⟨_, rfl⟩
      have HV3 : Hid (v3 = 64 * v1 + (s[i + 2].toNat : Int) % 64) := hv3
      have hv3b : 0 ≤ v3 ∧ v3 ≤ 65535 := by omega
      clear hv3
      go_wp2
      go_loop [6, 8] (fun x k => (x = .int .i64 ((s[i].toNat : Int) % 16) ∧ k = .int .i64 1) ∨ (x = .int .i64 v1 ∧ k = .int .i64 2 ∧ Hid (¬ (s[i + 1].toNat : Int) < 128 ∧ ¬ 191 < (s[i + 1].toNat : Int))) ∨ (x = .int .i64 v3 ∧ k = .int .i64 3 ∧ Hid ((¬ (s[i + 1].toNat : Int) < 128 ∧ ¬ 191 < (s[i + 1].toNat : Int)) ∧ (¬ (s[i + 2].toNat : Int) < 128 ∧ ¬ 191 < (s[i + 2].toNat : Int))))) (fun _ k => 4 - (intOf k).toNat)
      case atStart => exact Or.inl ⟨rfl, rfl⟩
      case round =>
        rcases hrel with ⟨rfl, rfl⟩ | ⟨rfl, rfl, HD⟩ | ⟨rfl, rfl, HD⟩
        · by_cases hd0 : (s[i + 1].toNat : Int) < 128
          · have HL : Hid (lets s.data.toList = none) := lets_none HR.out HLI.out (let_three_bad1 s i h2 hc0 hc1 (Or.inl hd0))
            go_wp2
            go_ret2
            exact Or.inl ⟨HL.out, rfl, hB⟩
          have hg : decide ((s[i + 1].toNat : Int) < 128) = false := by simp; omega
          by_cases hd1 : 191 < (s[i + 1].toNat : Int)
          · have HL : Hid (lets s.data.toList = none) := lets_none HR.out HLI.out (let_three_bad1 s i h2 hc0 hc1 (Or.inr hd1))
            go_wp2
            go_ret2
            exact Or.inl ⟨HL.out, rfl, hB⟩
          have hg' : decide (191 < (s[i + 1].toNat : Int)) = false := by simp; omega
          have HD : Hid (¬ (s[i + 1].toNat : Int) < 128 ∧ ¬ 191 < (s[i + 1].toNat : Int)) := ⟨hd0, hd1⟩
          go_wp2
          go_round
          case rel => exact Or.inr (Or.inl ⟨by rw [HV1.out], rfl, no_band HD.out⟩)
          case measure => simp [intOf]
        · by_cases hd0 : (s[i + 2].toNat : Int) < 128
          · have HL : Hid (lets s.data.toList = none) := lets_none HR.out HLI.out (let_three_bad2 s i h2 hc0 hc1 (Or.inl hd0))
            go_wp2
            go_ret2
            exact Or.inl ⟨HL.out, rfl, hB⟩
          have hg : decide ((s[i + 2].toNat : Int) < 128) = false := by simp; omega
          by_cases hd1 : 191 < (s[i + 2].toNat : Int)
          · have HL : Hid (lets s.data.toList = none) := lets_none HR.out HLI.out (let_three_bad2 s i h2 hc0 hc1 (Or.inr hd1))
            go_wp2
            go_ret2
            exact Or.inl ⟨HL.out, rfl, hB⟩
          have hg' : decide (191 < (s[i + 2].toNat : Int)) = false := by simp; omega
          have HD2 : Hid ((¬ (s[i + 1].toNat : Int) < 128 ∧ ¬ 191 < (s[i + 1].toNat : Int)) ∧ (¬ (s[i + 2].toNat : Int) < 128 ∧ ¬ 191 < (s[i + 2].toNat : Int))) := ⟨HD.out, hd0, hd1⟩
          go_wp2
          go_round
          case rel => exact Or.inr (Or.inr ⟨by rw [HV3.out], rfl, And.intro (no_band HD2.out.1) (no_band HD2.out.2)⟩)
          case measure => simp [intOf]
        · obtain ⟨hno, hyes⟩ := let_three_v s i h2 hc0 hc1 HD.out.1.1 HD.out.1.2 HD.out.2.1 HD.out.2.2 HV1.out HV3.out
          by_cases hk1 : v3 < 2048
          · have HL : Hid (lets s.data.toList = none) := lets_none HR.out HLI.out (hno (Or.inl hk1))
            clear hno hyes
            go_wp2
            go_ret2
            exact Or.inl ⟨HL.out, rfl, hB⟩
          have hk1d : decide (v3 < 2048) = false := by simp; omega
          by_cases hk2 : 55296 ≤ v3
          · by_cases hk3 : v3 < 57344
            · have HL : Hid (lets s.data.toList = none) := lets_none HR.out HLI.out (hno (Or.inr ⟨hk2, hk3⟩))
              clear hno hyes
              go_wp2
              go_ret2
              exact Or.inl ⟨HL.out, rfl, hB⟩
            · have HR2 : Hid (lets s.data.toList = (letsF s.data.toList f (i + 3)).map ((xs ++ [v3]) ++ ·)) := lets_step HR.out HLI.out (hyes (by omega))
              have hk3d : decide (v3 < 57344) = false := by simp; omega
              clear hno hyes
              go_wp2_with (at_builtin; go_must (refine wpList_append_lies _ rfl _ _ 77 rfl w.heap.size 3 i0 (.int .i64 0) 1 8 Tryz.underlying77 hi hz0 hz1 hz2 rfl (by decide) _ _ _ rfl (hown.alloc _) ⟨wr.heap.size, 0, none⟩ 1 1 [.int .i64 v3] rfl rfl ?e1 ?e2 (by decide) ?e3 ?e4 ?e5 (wr.heap.size + 1) (by simp) ?maine))
              case e2 => rfl
              case e3 => unfold maxLen; omega
              case e4 => omega
              case e5 => omega
              case maine =>
                intro g1 cap1 w1 hown1 hgrow hat hlt1
                have hB1 : Below w.heap.size w w1 := (hB.alloc hz _).grown hgrow (by simp; omega) (fun q hq => (hown.lt q hq).1)
                go_wp2
                go_roundw
                case rel => exact ⟨i + 3, f, xs ++ [v3], by omega, by go_num, by simp; omega, by omega, by rw [ints_snoc, List.length_append]; exact hown1, hB1, HR2⟩
                case measure => simp [intOf]; omega
          · have HR2 : Hid (lets s.data.toList = (letsF s.data.toList f (i + 3)).map ((xs ++ [v3]) ++ ·)) := lets_step HR.out HLI.out (hyes (by omega))
            have hk2d : decide (55296 ≤ v3) = false := by simp; omega
            clear hno hyes
            go_wp2_with (at_builtin; go_must (refine wpList_append_lies _ rfl _ _ 77 rfl w.heap.size 3 i0 (.int .i64 0) 1 8 Tryz.underlying77 hi hz0 hz1 hz2 rfl (by decide) _ _ _ rfl (hown.alloc _) ⟨wr.heap.size, 0, none⟩ 1 1 [.int .i64 v3] rfl rfl ?f1 ?f2 (by decide) ?f3 ?f4 ?f5 (wr.heap.size + 1) (by simp) ?mainf))
            case f2 => rfl
            case f3 => unfold maxLen; omega
            case f4 => omega
            case f5 => omega
            case mainf =>
              intro g1 cap1 w1 hown1 hgrow hat hlt1
              have hB1 : Below w.heap.size w w1 := (hB.alloc hz _).grown hgrow (by simp; omega) (fun q hq => (hown.lt q hq).1)
              go_wp2
              go_roundw
              case rel => exact ⟨i + 3, f, xs ++ [v3], by omega, by go_num, by simp; omega, by omega, by rw [ints_snoc, List.length_append]; exact hown1, hB1, HR2⟩
              case measure => simp [intOf]; omega
    · go_wp2
      go_ret2
      exact Or.inr ⟨xs, _, lets_end HR.out (by rw [E0.out]; exact hlt), rfl, hown, hB⟩
end Go.Proofs.YtjkenehiojbmiaaGreatDoor.Msg
