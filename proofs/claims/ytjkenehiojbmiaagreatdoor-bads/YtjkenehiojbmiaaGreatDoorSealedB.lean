import Derived.Test.YtjkenehiojbmiaaGreatDoorMine
namespace Go.Proofs.YtjkenehiojbmiaaGreatDoor.Law
open Go.RowKit Mdl

/-- The letters of a message's first words. -/
def keyL : List UInt8 := [115, 117, 98, 99, 97, 110, 112, 108, 101, 116, 100, 111, 102, 105, 114]
def noKey (l : List UInt8) : Prop := ∀ c ∈ l, c ∉ keyL

def keyWords : Array Value := #[.string ⟨#[115, 117, 98]⟩, .string ⟨#[99, 97, 110]⟩, .string ⟨#[112, 117, 108, 108]⟩, .string ⟨#[98, 101, 97, 116]⟩, .string ⟨#[100, 111, 110, 101]⟩, .string ⟨#[102, 97, 105, 108]⟩, .string ⟨#[100, 114, 97, 105, 110]⟩]
theorem key_word (w : World) (k : Nat) (hk : k < 7) : ∃ x : ByteArray, (w.alloc (.cells keyWords 9)).cell? ⟨w.heap.size, k, none⟩ = some (.string x) ∧ x.size ≤ 5 := by
  have h : (w.alloc (.cells keyWords 9)).cell? ⟨w.heap.size, k, none⟩ = keyWords[k]? := by
    have := heap_alloc_new w (.cells keyWords 9)
    simp only [World.cell?, this]; rfl
  rw [h]
  match k, hk with
  | 0, _ => exact ⟨_, rfl, by decide⟩
  | 1, _ => exact ⟨_, rfl, by decide⟩
  | 2, _ => exact ⟨_, rfl, by decide⟩
  | 3, _ => exact ⟨_, rfl, by decide⟩
  | 4, _ => exact ⟨_, rfl, by decide⟩
  | 5, _ => exact ⟨_, rfl, by decide⟩
  | 6, _ => exact ⟨_, rfl, by decide⟩

theorem noKey_step (s : ByteArray) (j : Nat) (h : j < s.size) (hn : noKey (s.data.toList.take j)) (hc : s[j] ∉ keyL) : noKey (s.data.toList.take (j + 1)) := by
  intro c hm
  rw [Msg.take_snoc s j h] at hm
  rcases List.mem_append.1 hm with h' | h'
  · exact hn c h'
  · have := List.mem_singleton.1 h'; subst this; exact hc
theorem u8_ne {c d : UInt8} (h : c ≠ d) (n : Int) (hn : (d.toNat : Int) = n) : ((c.toNat : Int) == n) = false := by
  rw [beq_eq_false_iff_ne]; intro e; apply h; apply UInt8.toNat.inj; omega
theorem not_key {c : UInt8} (h : c ∉ keyL) : ((c.toNat : Int) == 115) = false ∧ ((c.toNat : Int) == 117) = false ∧ ((c.toNat : Int) == 98) = false ∧ ((c.toNat : Int) == 99) = false ∧ ((c.toNat : Int) == 97) = false ∧ ((c.toNat : Int) == 110) = false ∧ ((c.toNat : Int) == 112) = false ∧ ((c.toNat : Int) == 108) = false ∧
    ((c.toNat : Int) == 101) = false ∧ ((c.toNat : Int) == 116) = false ∧ ((c.toNat : Int) == 100) = false ∧ ((c.toNat : Int) == 111) = false ∧ ((c.toNat : Int) == 102) = false ∧ ((c.toNat : Int) == 105) = false ∧ ((c.toNat : Int) == 114) = false := by
  have h' : ∀ d ∈ keyL, c ≠ d := fun d hd e => h (e ▸ hd)
  exact ⟨u8_ne (h' 115 (by decide)) _ rfl, u8_ne (h' 117 (by decide)) _ rfl, u8_ne (h' 98 (by decide)) _ rfl, u8_ne (h' 99 (by decide)) _ rfl, u8_ne (h' 97 (by decide)) _ rfl, u8_ne (h' 110 (by decide)) _ rfl, u8_ne (h' 112 (by decide)) _ rfl, u8_ne (h' 108 (by decide)) _ rfl, u8_ne (h' 101 (by decide)) _ rfl, u8_ne (h' 116 (by decide)) _ rfl, u8_ne (h' 100 (by decide)) _ rfl, u8_ne (h' 111 (by decide)) _ rfl, u8_ne (h' 102 (by decide)) _ rfl, u8_ne (h' 105 (by decide)) _ rfl, u8_ne (h' 114 (by decide)) _ rfl⟩
def SealedPost (s : ByteArray) (w : World) (e : Ending) (w' : World) : Prop := ∃ r : Bool, e = .returned (.bool r) ∧ (r = false → noKey s.data.toList) ∧ Below w.heap.size w w'

theorem sealed_true (s : ByteArray) (w : World) : SealedPost s w (.returned (.bool true)) (w.alloc (.cells keyWords 9)) := ⟨true, rfl, (fun h => by cases h), (Below.refl _ _).alloc (Nat.le_refl _) _⟩
theorem noKey_nil (s : ByteArray) : Hid (noKey (s.data.toList.take 0)) := by intro c hc; simp at hc
theorem key_absurd {c : UInt8} (h : c ∈ keyL) (h0 : ((c.toNat : Int) == 115) = false) (h1 : ((c.toNat : Int) == 117) = false) (h2 : ((c.toNat : Int) == 98) = false) (h3 : ((c.toNat : Int) == 99) = false) (h4 : ((c.toNat : Int) == 97) = false) (h5 : ((c.toNat : Int) == 110) = false) (h6 : ((c.toNat : Int) == 112) = false) (h7 : ((c.toNat : Int) == 108) = false)
    (h8 : ((c.toNat : Int) == 101) = false) (h9 : ((c.toNat : Int) == 116) = false) (h10 : ((c.toNat : Int) == 100) = false) (h11 : ((c.toNat : Int) == 111) = false) (h12 : ((c.toNat : Int) == 102) = false) (h13 : ((c.toNat : Int) == 105) = false) (h14 : ((c.toNat : Int) == 114) = false) : False := by
  have hk : ∀ d ∈ keyL, ((d.toNat : Int) == 115 || (d.toNat : Int) == 117 || (d.toNat : Int) == 98 || (d.toNat : Int) == 99 || (d.toNat : Int) == 97 || (d.toNat : Int) == 110 || (d.toNat : Int) == 112 || (d.toNat : Int) == 108 || (d.toNat : Int) == 101 || (d.toNat : Int) == 116 || (d.toNat : Int) == 100 || (d.toNat : Int) == 111 || (d.toNat : Int) == 102 || (d.toNat : Int) == 105 || (d.toNat : Int) == 114) = true := by decide
  have := hk c h
  rw [h0, h1, h2, h3, h4, h5, h6, h7, h8, h9, h10, h11, h12, h13, h14] at this
  cases this
set_option maxHeartbeats 8000000 in
set_option maxRecDepth 100000 in
theorem sealedB_any (s : ByteArray) (w : World) (hs : s.size ≤ 4194304) :
    Calls Tryz.prog 16 #[.string s] w (SealedPost s w) := by
  have hkw := key_word w
  go_enter Tryz.func16, Tryz.ntmps16
  go_wp2
  go_loopw [9] (fun i wr => ∃ k : Nat, k ≤ 7 ∧ i = .int .i64 k ∧ Hid (wr = w.alloc (.cells keyWords 9))) (fun i _ => 7 - (intOf i).toNat)
  case atStart => exact ⟨0, Nat.zero_le _, rfl, Eq.refl _⟩
  case round =>
    obtain ⟨k, hk, rfl, HWR⟩ := hrel
    obtain rfl := HWR.out
    by_cases hlt : k < 7
    · obtain ⟨x, hx, hxs⟩ := hkw k hlt
      clear hkw
      go_wp2
      go_loop [5] (fun i => ∃ j : Nat, j ≤ s.size + 1 ∧ i = .int .i64 j) (fun i => s.size + 1 - (intOf i).toNat)
      case atStart => exact ⟨0, Nat.zero_le _, rfl⟩
      case round =>
        obtain ⟨j, hj, rfl⟩ := hrel
        by_cases hlt2 : j + x.size ≤ s.size
        · cases hq : ((s.extract j (j + x.size)).toList == x.toList)
          · go_wp2
            go_round
            case rel => exact ⟨j + 1, by omega, by go_num⟩
            case measure => simp [intOf]; omega
          · go_wp2
            go_ret
            exact sealed_true s w
        · go_wp2
          go_roundw
          case rel => exact ⟨k + 1, by omega, by go_num, trivial⟩
          case measure => simp [intOf]; omega
    · go_wp2
      go_loop [6] (fun i => ∃ j : Nat, j ≤ s.size ∧ i = .int .i64 j ∧ Hid (noKey (s.data.toList.take j))) (fun i => s.size - (intOf i).toNat)
      case atStart => exact ⟨0, Nat.zero_le _, rfl, noKey_nil s⟩
      case round =>
        obtain ⟨j, hj, rfl, HN⟩ := hrel
        by_cases hlt2 : j < s.size
        · by_cases hin : s[j] ∈ keyL
          · have HIN : Hid (s[j] ∈ keyL) := hin
            clear hin
            go_wp2
            all_goals first
              | (go_ret; exact sealed_true s w)
              | exact (key_absurd HIN.out (by assumption) (by assumption) (by assumption) (by assumption) (by assumption) (by assumption) (by assumption) (by assumption) (by assumption) (by assumption) (by assumption) (by assumption) (by assumption) (by assumption) (by assumption)).elim
          · have hnn := not_key hin
            have HN2 : Hid (noKey (s.data.toList.take (j + 1))) := noKey_step s j hlt2 HN.out hin
            clear HN hin
            obtain ⟨n0, n1, n2, n3, n4, n5, n6, n7, n8, n9, n10, n11, n12, n13, n14⟩ := hnn
            go_wp2
            go_round
            case rel => exact ⟨j + 1, by omega, by go_num, HN2⟩
            case measure => simp [intOf]; omega
        · obtain rfl : j = s.size := by omega
          have HN2 : Hid (noKey s.data.toList) := by
            have h := HN.out
            rw [Msg.take_all] at h
            exact h
          go_wp2
          go_ret
          exact ⟨false, rfl, fun _ => HN2.out, (Below.refl _ _).alloc (Nat.le_refl _) _⟩
end Go.Proofs.YtjkenehiojbmiaaGreatDoor.Law
