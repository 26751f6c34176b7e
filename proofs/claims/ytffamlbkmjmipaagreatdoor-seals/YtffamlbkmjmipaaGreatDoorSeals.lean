import Derived.Test.YtffamlbkmjmipaaGreatDoorStep2
namespace Go.Proofs.YtffamlbkmjmipaaGreatDoor.Law
open Go.RowKit

set_option maxHeartbeats 2000000 in
set_option maxRecDepth 100000 in
theorem upto1_any (ao : Option Addr) (b off len cap : Nat) (ops : Nat → Opr) (w : World) (hao : 0 < len → ao = some ⟨b, off, none⟩) (hS : Scr w b off len ops) (hb : 0 < len → b < w.heap.size) (hlen : len ≤ 1048576) (hstr : ∀ i, i < len → (ops i).s.size ≤ 1048576) :
    Calls Tryz.prog 19 #[.slice ao len cap, .int .i64 1] w fun e w' => e = .returned (.int .i64 (-1)) ∧ Below w.heap.size w w' := by
  go_enter Tryz.func19, Tryz.ntmps19
  go_wp2
  go_loopw [13] (fun i wr => ∃ k : Nat, k ≤ len ∧ i = .int .i64 k ∧ Below w.heap.size w wr ∧ w.heap.size < wr.heap.size) (fun i _ => len - (intOf i).toNat)
  case atStart => exact ⟨0, Nat.zero_le _, rfl, (Below.refl _ _).alloc (Nat.le_refl _) _, by simp⟩
  case round =>
    obtain ⟨k, hk, rfl, hB, hsz⟩ := hrel
    by_cases hlt : k < len
    · obtain rfl := hao (by omega)
      have hs1 := hstr k hlt
      obtain ⟨c0, c1, c2, c3, c4, c5, c6, c7, c8⟩ := (hS.below hB (hb (by omega))).cells hlt
      have hpl := fun w => played1_any (ops k) w hs1
      have hst := fun p w (h : (ops k).k = 2) => stepSeal_any p (ops k) w h hs1
      generalize hx : ops k = x at *
      clear hx hS hao hstr
      have HPL : Hid (∀ w, Calls Tryz.prog 36 #[.agg x.cs, .int .i64 1] w fun e w' => e = .returned (.bool (x.k == 2)) ∧ Below w.heap.size w w') := hpl
      have HST : Hid (∀ p w, x.k = 2 → Calls Tryz.prog 37 #[p, .agg x.cs] w fun e w' => e = .returned (.bool true) ∧ Below w.heap.size w w') := hst
      clear hpl hst
      cases hk2 : (x.k == 2)
      · go_wp2_with fail
        refine (HPL.out _).mono ?_
        rintro e w1 ⟨rfl, hb1⟩
        have hz1 := hb1.size
        simp only [World.size_alloc] at hz1
        go_wp2
        go_roundw
        case rel => exact ⟨k + 1, by omega, by go_num, (hB.alloc (by omega) _).trans (hb1.mono (by simp; omega)), by omega⟩
        case measure => simp [intOf]; omega
      · go_wp2_with fail
        refine (HPL.out _).mono ?_
        rintro e w1 ⟨rfl, hb1⟩
        have hz1 := hb1.size
        obtain ⟨hc, hf⟩ := bcell hb1
        simp only [World.size_alloc] at hz1 hc hf
        go_wp2_with fail
        refine (HST.out _ _ (by simpa using hk2)).mono ?_
        rintro e w2 ⟨rfl, hb2⟩
        have hz2 := hb2.size
        go_wp2
        go_roundw
        case rel => exact ⟨k + 1, by omega, by go_num, ((hB.alloc (by omega) _).trans (hb1.mono (by simp; omega))).trans (hb2.mono (by omega)), by omega⟩
        case measure => simp [intOf]; omega
    · go_wp2
      go_ret
      exact ⟨rfl, hB⟩
end Go.Proofs.YtffamlbkmjmipaaGreatDoor.Law
