import Derived.Test.YtjkenehiojbmiaaGreatDoorSteps
import Derived.Test.YtjkenehiojbmiaaGreatDoorOpen
namespace Go.Proofs.YtjkenehiojbmiaaGreatDoor.Law
open Go.RowKit Mdl Msg

/-- Bytes that hold no message, in whatever pieces. -/
def FedB (l : List UInt8) : Prop := noKey l ∨ ∃ t, l = Sums.line t ++ [10] ∧ (readL t).2 = false ∧ ∀ c ∈ t, c ≠ 10

theorem wf_range {n : Int} (h : (Lit.int .i64 n).wf = true) : -9223372036854775808 ≤ n ∧ n ≤ 9223372036854775807 := by
  simp only [Lit.wf, Bool.and_eq_true, decide_eq_true_eq] at h
  exact h
theorem linv_start {w : World} (S : Sim FedB w.heap.size w) : Hid (∃ ds ls prs nls ys, LInv S w.heap.size ds ls prs nls ys 0 (w.alloc (.cells #[.slice none 0 0, .slice none 0 0, .bool false] 33)) ∧ prs.length ≤ 0 ∧ nls ≤ 0) := by
  refine ⟨.slice none 0 0, .slice none 0 0, [], 0, [], ⟨heap_alloc_new w _, (Below.refl _ _).alloc (Nat.le_refl _) _, by simp, World.ownsRow_nil _ _ _ _, World.ownsRow_nil _ _ _ _, Nat.le_refl _, ?_, ?_, ?_, ?_, ?_, ?_⟩, Nat.le_refl _, Nat.le_refl _⟩
  · simp [Value.ownBlock]
  · simp [Value.ownBlock]
  · intro b h; simp [Value.ownBlock] at h
  · intro i h; simp at h
  · intro i h; simp at h
  · intro i j h; simp at h

theorem step2_any {base : Nat} {w00 : World} (S : Sim FedB base w00) (p n : Nat) (ds ls : Value) (prs : List Pr) (nls : Nat) (ys : List Value) (x : Opr) (w : World) (hI : LInv S p ds ls prs nls ys n w) (hn : n ≤ 1048576) (h1 : prs.length ≤ n) (h2 : nls ≤ n) (hs : x.s.size ≤ 1048576) (hx : Plays2 x) (hf : x.fits) :
    Calls Tryz.prog 12 #[.pointer (some ⟨p, 0, none⟩), .agg x.cs] w (StepPost S p n w) := by
  have ha : -9223372036854775808 ≤ x.a ∧ x.a ≤ 9223372036854775807 := wf_range hf.2.1
  rcases hx with hx | ⟨hx, h⟩ | ⟨hx, h, h'⟩
  · exact stepNew_any S p n ds ls prs nls ys x w hI hn h1 h2 hx
  · exact stepFeed_any S p n ds ls prs nls ys x w hI hn h1 h2 hx hs (Or.inl h) ha hf.2.2.1
  · exact stepSay_any S p n ds ls prs nls ys x w hI hn h1 h2 hx hs (Or.inr ⟨_, rfl, h, h'⟩) ha hf.2.2.1

set_option maxHeartbeats 4000000 in
set_option maxRecDepth 100000 in
theorem upto2_any (HRD : ReadSaid) (ao : Option Addr) (b off len cap : Nat) (ops : Nat → Opr) (w : World) (S : Sim FedB w.heap.size w) (hao : 0 < len → ao = some ⟨b, off, none⟩) (hS : Scr w b off len ops) (hb : 0 < len → b < w.heap.size) (hlen : len ≤ 1048576) (hstr : ∀ i, i < len → (ops i).s.size ≤ 1048576) (hfit : ∀ i, i < len → (ops i).fits) :
    Calls Tryz.prog 10 #[.slice ao len cap, .int .i64 2] w fun e w' => e = .returned (.int .i64 (-1)) ∧ Below w.heap.size w w' := by
  go_enter Tryz.func10, Tryz.ntmps10
  go_wp2
  go_loopw [13] (fun i wr => ∃ k : Nat, k ≤ len ∧ i = .int .i64 k ∧ Hid (∃ ds ls prs nls ys, LInv S w.heap.size ds ls prs nls ys k wr ∧ prs.length ≤ k ∧ nls ≤ k)) (fun i _ => len - (intOf i).toNat)
  case atStart => exact ⟨0, Nat.zero_le _, rfl, linv_start S⟩
  case round =>
    obtain ⟨k, hk, rfl, HL⟩ := hrel
    obtain ⟨ds, ls, prs, nls, ys, hI, h1, h2⟩ := HL.out
    have hB := hI.old
    have hsz := hI.blk.lt
    have HI : Hid (LInv S w.heap.size ds ls prs nls ys k wr) := hI
    clear hI HL
    by_cases hlt : k < len
    · obtain rfl := hao (by omega)
      have hs1 := hstr k hlt
      have hf1 := hfit k hlt
      obtain ⟨c0, c1, c2, c3, c4, c5, c6, c7, c8⟩ := (hS.below hB (hb (by omega))).cells hlt
      have hpl := fun w => played2_any HRD (ops k) w hs1
      generalize hx : ops k = x at *
      clear hx hS hao hstr hfit
      have HPL : Hid (∀ w, Calls Tryz.prog 11 #[.agg x.cs, .int .i64 2] w (PlayedPost x w)) := hpl
      have HST : Hid (∀ w', Below wr.heap.size wr w' → Plays2 x → Calls Tryz.prog 12 #[.pointer (some ⟨w.heap.size, 0, none⟩), .agg x.cs] w' (StepPost S w.heap.size k w')) := fun w' hb' hx => step2_any S _ k ds ls prs nls ys x w' (HI.out.below hb') (by omega) h1 h2 hs1 hx hf1
      clear hpl
      go_wp2_with fail
      refine (HPL.out _).mono ?_
      rintro e w1 ⟨r, rfl, hr, hb1⟩
      have hz1 := hb1.size
      simp only [World.size_alloc] at hz1
      have hB1 : Below wr.heap.size wr w1 := ((Below.refl _ _).alloc (Nat.le_refl _) _).trans (hb1.mono (by simp))
      cases r
      · clear hr
        have HL1 : Hid (∃ ds ls prs nls ys, LInv S w.heap.size ds ls prs nls ys (k + 1) w1 ∧ prs.length ≤ k + 1 ∧ nls ≤ k + 1) := ⟨ds, ls, prs, nls, ys, (HI.out.below hB1).up (Nat.le_succ k), by omega, by omega⟩
        go_wp2
        go_roundw
        case rel => exact ⟨k + 1, by omega, by go_num, HL1⟩
        case measure => simp [intOf]; omega
      · have HPX : Hid (Plays2 x) := hr rfl
        clear hr
        obtain ⟨hc, hf⟩ := bcell hb1
        simp only [World.size_alloc] at hc hf
        have hk7 : (x.k == 7) = false := by
          rw [beq_eq_false_iff_ne]
          rcases HPX.out with h | ⟨h, _⟩ | ⟨h, _⟩ <;> omega
        go_wp2_with fail
        refine (HST.out _ hB1 HPX.out).mono ?_
        rintro e w2 ⟨rfl, hl2, ho2⟩
        have HL2 : Hid (∃ ds ls prs nls ys, LInv S w.heap.size ds ls prs nls ys (k + 1) w2 ∧ prs.length ≤ k + 1 ∧ nls ≤ k + 1) := hl2
        clear hl2
        go_wp2
        go_roundw
        case rel => exact ⟨k + 1, by omega, by go_num, HL2⟩
        case measure => simp [intOf]; omega
    · go_wp2
      go_ret
      exact ⟨rfl, hB⟩
end Go.Proofs.YtjkenehiojbmiaaGreatDoor.Law
