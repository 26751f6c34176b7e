import Derived.Test.YtjkenehiojbmiaaGreatDoorSealedB
import Derived.Test.YtjkenehiojbmiaaGreatDoorReadAll
namespace Go.Proofs.YtjkenehiojbmiaaGreatDoor.Law
open Go.RowKit Mdl Msg

/-- What is played of lines that are no messages. -/
def Plays2 (x : Opr) : Prop := x.k = 1 ∨ (x.k = 4 ∧ noKey x.s.data.toList) ∨ (x.k = 3 ∧ (readL x.s.data.toList).2 = false ∧ ∀ c ∈ x.s.data.toList, c ≠ 10)
def PlayedPost (x : Opr) (w : World) (e : Ending) (w' : World) : Prop := ∃ r : Bool, e = .returned (.bool r) ∧ (r = true → Plays2 x) ∧ Below w.heap.size w w'
theorem noLf_step (s : ByteArray) (j : Nat) (h : j < s.size) (hn : ∀ c ∈ s.data.toList.take j, c ≠ 10) (hc : ((s[j].toNat : Int) == 10) = false) : ∀ c ∈ s.data.toList.take (j + 1), c ≠ 10 := by
  intro c hm
  rw [take_snoc s j h] at hm
  rcases List.mem_append.1 hm with h' | h'
  · exact hn c h'
  · have := List.mem_singleton.1 h'; subst this; intro e; rw [e] at hc; simp at hc

theorem two_ops {w w2 : World} {o : Obj} {v0 v1 v2 v3 v4 v5 v6 v7 v8 : Value} (hb : Below ((w.alloc (.cells #[v0, v1, v2, v3, v4, v5, v6, v7, v8] 28)).alloc o).heap.size ((w.alloc (.cells #[v0, v1, v2, v3, v4, v5, v6, v7, v8] 28)).alloc o) w2) :
    w2.cell? ⟨w.heap.size, 0, none⟩ = some v0 ∧ w2.cell? ⟨w.heap.size, 8, none⟩ = some v8 := by
  have h : w2.heap[w.heap.size]? = some (.cells #[v0, v1, v2, v3, v4, v5, v6, v7, v8] 28 (0, 0)) := by
    rw [hb.block _ (by simp only [World.size_alloc]; omega), Below.heap_alloc _ _ _ (by simp)]
    exact heap_alloc_new w _
  simp only [World.cell?, h]; simp
theorem played_say {k a b le re ca bo he : Int} {s : ByteArray} {mg : Mg} {rb r : Bool} {w w2 : World} {o o' : Obj} {vs : Array Value} (hn : ∀ c ∈ s.data.toList, c ≠ 10) (hr : readL s.data.toList = (mg, rb)) (hb : Below ((w.alloc o).alloc o').heap.size ((w.alloc o).alloc o') w2) (hk : k = 3) (he' : r = !rb) :
    PlayedPost ⟨k, a, b, le, re, ca, bo, he, s⟩ w (.returned (.bool r)) (w2.alloc (.cells vs 39)) := by
  have hz := hb.size
  simp only [World.size_alloc] at hz
  refine ⟨r, rfl, fun h => Or.inr (Or.inr ⟨hk, ?_, hn⟩), ?_⟩
  · rw [hr]; rw [h] at he'; cases rb
    · rfl
    · cases he'
  · exact ((((Below.refl _ _).alloc (Nat.le_refl _) _).alloc (by simp) _).trans (hb.mono (by simp; omega))).alloc (by omega) _

theorem played_else {x : Opr} {r : Bool} {w w2 : World} {o o' : Obj} {vs : Array Value} (hb : Below ((w.alloc o).alloc o').heap.size ((w.alloc o).alloc o') w2) (h : r = true → Plays2 x) :
    PlayedPost x w (.returned (.bool r)) (w2.alloc (.cells vs 39)) := by
  have hz := hb.size
  simp only [World.size_alloc] at hz
  exact ⟨r, rfl, h, ((((Below.refl _ _).alloc (Nat.le_refl _) _).alloc (by simp) _).trans (hb.mono (by simp; omega))).alloc (by omega) _⟩
theorem three_ops {w2 w3 : World} {b : Nat} {o : Obj} {v : Value} (hb : Below (w2.alloc o).heap.size (w2.alloc o) w3) (hlt : b < w2.heap.size) (h : w2.cell? ⟨b, 0, none⟩ = some v) : w3.cell? ⟨b, 0, none⟩ = some v := by
  rw [hb.cell (p := ⟨b, 0, none⟩) (by simp only [World.size_alloc]; omega), World.cell?_alloc_past _ _ _ hlt]; exact h
theorem played_feed {k a b le re ca bo he : Int} {s : ByteArray} {r r' : Bool} {w w2 w3 : World} {o o' o'' : Obj} (hr : r = false → noKey s.data.toList) (hb : Below ((w.alloc o).alloc o').heap.size ((w.alloc o).alloc o') w2) (hb3 : Below (w2.alloc o'').heap.size (w2.alloc o'') w3) (hk : k = 4) (he' : r' = !r) :
    PlayedPost ⟨k, a, b, le, re, ca, bo, he, s⟩ w (.returned (.bool r')) w3 := by
  have hz := hb.size
  simp only [World.size_alloc] at hz
  refine ⟨r', rfl, fun h => Or.inr (Or.inl ⟨hk, hr ?_⟩), ?_⟩
  · rw [h] at he'; cases r
    · rfl
    · cases he'
  · exact (((((Below.refl _ _).alloc (Nat.le_refl _) _).alloc (by simp) _).trans (hb.mono (by simp; omega))).alloc (by omega) _).trans (hb3.mono (by simp; omega))

set_option maxHeartbeats 8000000 in
set_option maxRecDepth 100000 in
theorem played2_any (HRD : ReadSaid) (x : Opr) (w : World) (hs : x.s.size ≤ 1048576) :
    Calls Tryz.prog 11 #[.agg x.cs, .int .i64 2] w (PlayedPost x w) := by
  have HH : Hid (∀ w, Calls Tryz.prog 14 #[.agg x.cs] w fun e w' => e = .returned (.string ⟨(hdOf x).toArray⟩) ∧ w' = w.alloc (.cells x.cs 28)) := fun w => head_any x w hs
  have hR : ∀ w, Calls Tryz.prog 15 #[.string x.s] w (ReadPost x.s.data.toList w) := fun w => HRD x.s w (by omega)
  unfold ReadPost at hR
  have HSE : Hid (∀ w, Calls Tryz.prog 16 #[.string x.s] w (SealedPost x.s w)) := fun w => sealedB_any x.s w (by omega)
  generalize hdOf x = h at *
  generalize hrd : readL x.s.data.toList = rd at *
  obtain ⟨⟨m0, m1, m2, m3, m4⟩, rb⟩ := rd
  simp only [Mg.cs] at hR
  have HR : Hid (∀ w, Calls Tryz.prog 15 #[.string x.s] w fun e w' => e = .returned (.tuple #[.agg #[.string ⟨m0.toArray⟩, .int .i64 m1, .int .i64 m2, .string ⟨m3.toArray⟩, .string ⟨m4.toArray⟩], .bool rb]) ∧ Below w.heap.size w w') := hR
  clear hR
  obtain ⟨k, a, b, le, re, ca, bo, he, s⟩ := x
  have HRE : Hid (readL s.data.toList = (⟨m0, m1, m2, m3, m4⟩, rb)) := hrd
  clear hrd
  simp only at hs
  by_cases hk : k = 3
  · subst hk
    simp only [Opr.cs] at *
    go_enter Tryz.func11, Tryz.ntmps11
    go_wp2_with fail
    refine (HH.out _).mono ?_
    rintro e w1 ⟨rfl, rfl⟩
    go_wp2_with fail
    go_loop [6] (fun i => ∃ j : Nat, j ≤ s.size ∧ i = .int .i64 j ∧ Hid (∀ c ∈ s.data.toList.take j, c ≠ 10)) (fun i => s.size - (intOf i).toNat)
    case atStart => exact ⟨0, Nat.zero_le _, rfl, by intro c hc; simp at hc⟩
    case round =>
      obtain ⟨j, hj, rfl, HN⟩ := hrel
      by_cases hlt : j < s.size
      · cases hq : ((s[j].toNat : Int) == 10)
        · have HN2 : Hid (∀ c ∈ s.data.toList.take (j + 1), c ≠ 10) := noLf_step s j hlt HN.out hq
          clear HN
          go_wp2
          go_round
          case rel => exact ⟨j + 1, by omega, by go_num, HN2⟩
          case measure => simp [intOf]; omega
        · go_wp2
          go_ret
          exact ⟨false, rfl, (fun h => by cases h), ((Below.refl _ _).alloc (Nat.le_refl _) _).alloc (by simp) _⟩
      · obtain rfl : j = s.size := by omega
        have HN2 : Hid (∀ c ∈ s.data.toList, c ≠ 10) := by
          have h := HN.out
          rw [take_all] at h
          exact h
        clear HN
        go_wp2_with fail
        all_goals
          refine (HR.out _).mono ?_
          rintro e w2 ⟨rfl, hb2⟩
          obtain ⟨e0, e8⟩ := two_ops hb2
          have hz := hb2.size
          simp only [World.size_alloc] at hz
          have hwl : w.heap.size < w2.heap.size := by omega
          go_wp2
          go_ret
          exact played_say HN2.out HRE.out hb2 rfl (by cases rb <;> rfl)
  · have hk3 : (k == 3) = false := by rw [beq_eq_false_iff_ne]; exact hk
    clear hk
    by_cases hk : k = 4
    · subst hk
      simp only [Opr.cs] at *
      go_enter Tryz.func11, Tryz.ntmps11
      go_wp2_with fail
      refine (HH.out _).mono ?_
      rintro e w1 ⟨rfl, rfl⟩
      go_wp2_with fail
      all_goals
        refine (HR.out _).mono ?_
        rintro e w2 ⟨rfl, hb2⟩
        obtain ⟨e0, e8⟩ := two_ops hb2
        have hz := hb2.size
        simp only [World.size_alloc] at hz
        have hwl : w.heap.size < w2.heap.size := by omega
        go_wp2_with fail
        refine (HSE.out _).mono ?_
        rintro e w3 ⟨r, rfl, hr, hb3⟩
        have e0' := three_ops hb3 hwl e0
        have HRR : Hid (r = false → noKey s.data.toList) := hr
        clear hr
        cases r
        · go_wp2
          go_ret
          exact played_feed (r := false) (fun _ => HRR.out trivial) hb2 hb3 rfl rfl
        · go_wp2
          go_ret
          exact played_feed (r := true) (fun h => by cases h) hb2 hb3 rfl rfl
    · have hk4 : (k == 4) = false := by rw [beq_eq_false_iff_ne]; exact hk
      clear hk
      by_cases hk : k = 1
      · subst hk
        simp only [Opr.cs] at *
        go_enter Tryz.func11, Tryz.ntmps11
        go_wp2_with fail
        refine (HH.out _).mono ?_
        rintro e w1 ⟨rfl, rfl⟩
        go_wp2_with fail
        all_goals
          refine (HR.out _).mono ?_
          rintro e w2 ⟨rfl, hb2⟩
          obtain ⟨e0, e8⟩ := two_ops hb2
          have hz := hb2.size
          simp only [World.size_alloc] at hz
          have hwl : w.heap.size < w2.heap.size := by omega
          go_wp2
          go_ret
          exact played_else (r := true) hb2 (fun _ => Or.inl rfl)
      · have hk1 : (k == 1) = false := by rw [beq_eq_false_iff_ne]; exact hk
        clear hk
        simp only [Opr.cs] at *
        go_enter Tryz.func11, Tryz.ntmps11
        go_wp2_with fail
        refine (HH.out _).mono ?_
        rintro e w1 ⟨rfl, rfl⟩
        go_wp2_with fail
        all_goals
          refine (HR.out _).mono ?_
          rintro e w2 ⟨rfl, hb2⟩
          obtain ⟨e0, e8⟩ := two_ops hb2
          have hz := hb2.size
          simp only [World.size_alloc] at hz
          have hwl : w.heap.size < w2.heap.size := by omega
          go_wp2
          go_ret
          exact played_else (r := false) hb2 (fun h => by cases h)
end Go.Proofs.YtjkenehiojbmiaaGreatDoor.Law
