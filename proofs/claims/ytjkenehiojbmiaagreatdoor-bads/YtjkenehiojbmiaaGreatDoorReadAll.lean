import Derived.Test.YtjkenehiojbmiaaGreatDoorReadDef
namespace Go.Proofs.YtjkenehiojbmiaaGreatDoor.Msg
open Go.RowKit

set_option maxHeartbeats 8000000 in
set_option maxRecDepth 100000 in
theorem read1_pull (_HLT : LettersSaid) (s : ByteArray) (w : World) (hs : s.size ≤ 4194304) (k : List UInt8) (hw : cutL 32 s.data.toList = [k]) (hpull : (k == [112, 117, 108, 108]) = true) :
    Calls Tryz.prog 15 #[.string s] w (ReadPost s.data.toList w) := by
  have HR : Hid (readL s.data.toList = readW [k]) := congrArg readW hw
  have hsm := cut_small (c := 32) hs
  rw [hw] at hsm
  have HCUT : Hid (∀ w : World, Calls Tryz.prog 32 #[.string s, .int .u8 32] w fun e w' => ∃ g cap, e = .returned (.slice (some ⟨g, 0, none⟩) 1 cap) ∧ w.heap.size ≤ g ∧
      w'.ownsRow w.heap.size 9 1 (.slice (some ⟨g, 0, none⟩) 1 cap) 1 (strs [k]) ∧ Below w.heap.size w w') := by
    intro w
    have h := cut_any s 32 w hs
    rw [hw] at h
    exact h
  clear hw hsm
  go_enter Tryz.func15, Tryz.ntmps15
  go_wp2_with fail
  refine (HCUT.out _).mono ?_
  rintro e w1 ⟨g, cap, rfl, hg, hown, hb1⟩
  have c0 : w1.cell? ⟨g, 0, none⟩ = some (.string ⟨k.toArray⟩) := str_cell hown (k := 0) (by simp) rfl
  have hgl : g < w1.heap.size := (hown.lt g rfl).2
  have hz1 := hb1.size
  simp only [World.size_alloc] at hz1 hg
  have hwl : w.heap.size < w1.heap.size := by omega
  have hne : w.heap.size ≠ g := by omega
  clear hz1
  have r0 : w1.cell? ⟨w.heap.size, 0, none⟩ = some (.string ⟨#[]⟩) := by rw [hb1.cell (p := ⟨w.heap.size, 0, none⟩) (by simp), World.cell?_alloc_at _ _ _ _ rfl]; rfl
  have r1 : w1.cell? ⟨w.heap.size, 1, none⟩ = some (.int .i64 0) := by rw [hb1.cell (p := ⟨w.heap.size, 1, none⟩) (by simp), World.cell?_alloc_at _ _ _ _ rfl]; rfl
  have r2 : w1.cell? ⟨w.heap.size, 2, none⟩ = some (.int .i64 0) := by rw [hb1.cell (p := ⟨w.heap.size, 2, none⟩) (by simp), World.cell?_alloc_at _ _ _ _ rfl]; rfl
  have r3 : w1.cell? ⟨w.heap.size, 3, none⟩ = some (.string ⟨#[]⟩) := by rw [hb1.cell (p := ⟨w.heap.size, 3, none⟩) (by simp), World.cell?_alloc_at _ _ _ _ rfl]; rfl
  have r4 : w1.cell? ⟨w.heap.size, 4, none⟩ = some (.string ⟨#[]⟩) := by rw [hb1.cell (p := ⟨w.heap.size, 4, none⟩) (by simp), World.cell?_alloc_at _ _ _ _ rfl]; rfl
  have f0 : w1.frozen? ⟨w.heap.size, 0, none⟩ = false := by rw [hb1.frozen (p := ⟨w.heap.size, 0, none⟩) (by simp), World.frozen?_alloc_at _ _ _ _ rfl]
  have f1 : w1.frozen? ⟨w.heap.size, 1, none⟩ = false := by rw [hb1.frozen (p := ⟨w.heap.size, 1, none⟩) (by simp), World.frozen?_alloc_at _ _ _ _ rfl]
  have f2 : w1.frozen? ⟨w.heap.size, 2, none⟩ = false := by rw [hb1.frozen (p := ⟨w.heap.size, 2, none⟩) (by simp), World.frozen?_alloc_at _ _ _ _ rfl]
  have f3 : w1.frozen? ⟨w.heap.size, 3, none⟩ = false := by rw [hb1.frozen (p := ⟨w.heap.size, 3, none⟩) (by simp), World.frozen?_alloc_at _ _ _ _ rfl]
  have f4 : w1.frozen? ⟨w.heap.size, 4, none⟩ = false := by rw [hb1.frozen (p := ⟨w.heap.size, 4, none⟩) (by simp), World.frozen?_alloc_at _ _ _ _ rfl]
  have HB : Hid (Below w.heap.size w w1) := ((Below.refl _ _).alloc (Nat.le_refl _) _).trans (hb1.mono (by simp))
  clear hown hb1 hg
  go_wp2
  refine bodyPost_ret (v := .tuple #[.agg (Mg.cs ⟨k, 0, 0, [], []⟩), .bool true]) (by simp [results, Tryz.results15, go_sem, Mg.cs, *]) rfl ⟨ret_read (by rw [HR.out]; simp [readW, kPull, hpull]), ?_⟩
  exact below_read HB.out (by omega) _ _ _ _ _ _

set_option maxHeartbeats 8000000 in
set_option maxRecDepth 100000 in
theorem read1_beat (_HLT : LettersSaid) (s : ByteArray) (w : World) (hs : s.size ≤ 4194304) (k : List UInt8) (hw : cutL 32 s.data.toList = [k]) (hpull : (k == [112, 117, 108, 108]) = false) (hbeat : (k == [98, 101, 97, 116]) = true) :
    Calls Tryz.prog 15 #[.string s] w (ReadPost s.data.toList w) := by
  have HR : Hid (readL s.data.toList = readW [k]) := congrArg readW hw
  have hsm := cut_small (c := 32) hs
  rw [hw] at hsm
  have HCUT : Hid (∀ w : World, Calls Tryz.prog 32 #[.string s, .int .u8 32] w fun e w' => ∃ g cap, e = .returned (.slice (some ⟨g, 0, none⟩) 1 cap) ∧ w.heap.size ≤ g ∧
      w'.ownsRow w.heap.size 9 1 (.slice (some ⟨g, 0, none⟩) 1 cap) 1 (strs [k]) ∧ Below w.heap.size w w') := by
    intro w
    have h := cut_any s 32 w hs
    rw [hw] at h
    exact h
  clear hw hsm
  go_enter Tryz.func15, Tryz.ntmps15
  go_wp2_with fail
  refine (HCUT.out _).mono ?_
  rintro e w1 ⟨g, cap, rfl, hg, hown, hb1⟩
  have c0 : w1.cell? ⟨g, 0, none⟩ = some (.string ⟨k.toArray⟩) := str_cell hown (k := 0) (by simp) rfl
  have hgl : g < w1.heap.size := (hown.lt g rfl).2
  have hz1 := hb1.size
  simp only [World.size_alloc] at hz1 hg
  have hwl : w.heap.size < w1.heap.size := by omega
  have hne : w.heap.size ≠ g := by omega
  clear hz1
  have r0 : w1.cell? ⟨w.heap.size, 0, none⟩ = some (.string ⟨#[]⟩) := by rw [hb1.cell (p := ⟨w.heap.size, 0, none⟩) (by simp), World.cell?_alloc_at _ _ _ _ rfl]; rfl
  have r1 : w1.cell? ⟨w.heap.size, 1, none⟩ = some (.int .i64 0) := by rw [hb1.cell (p := ⟨w.heap.size, 1, none⟩) (by simp), World.cell?_alloc_at _ _ _ _ rfl]; rfl
  have r2 : w1.cell? ⟨w.heap.size, 2, none⟩ = some (.int .i64 0) := by rw [hb1.cell (p := ⟨w.heap.size, 2, none⟩) (by simp), World.cell?_alloc_at _ _ _ _ rfl]; rfl
  have r3 : w1.cell? ⟨w.heap.size, 3, none⟩ = some (.string ⟨#[]⟩) := by rw [hb1.cell (p := ⟨w.heap.size, 3, none⟩) (by simp), World.cell?_alloc_at _ _ _ _ rfl]; rfl
  have r4 : w1.cell? ⟨w.heap.size, 4, none⟩ = some (.string ⟨#[]⟩) := by rw [hb1.cell (p := ⟨w.heap.size, 4, none⟩) (by simp), World.cell?_alloc_at _ _ _ _ rfl]; rfl
  have f0 : w1.frozen? ⟨w.heap.size, 0, none⟩ = false := by rw [hb1.frozen (p := ⟨w.heap.size, 0, none⟩) (by simp), World.frozen?_alloc_at _ _ _ _ rfl]
  have f1 : w1.frozen? ⟨w.heap.size, 1, none⟩ = false := by rw [hb1.frozen (p := ⟨w.heap.size, 1, none⟩) (by simp), World.frozen?_alloc_at _ _ _ _ rfl]
  have f2 : w1.frozen? ⟨w.heap.size, 2, none⟩ = false := by rw [hb1.frozen (p := ⟨w.heap.size, 2, none⟩) (by simp), World.frozen?_alloc_at _ _ _ _ rfl]
  have f3 : w1.frozen? ⟨w.heap.size, 3, none⟩ = false := by rw [hb1.frozen (p := ⟨w.heap.size, 3, none⟩) (by simp), World.frozen?_alloc_at _ _ _ _ rfl]
  have f4 : w1.frozen? ⟨w.heap.size, 4, none⟩ = false := by rw [hb1.frozen (p := ⟨w.heap.size, 4, none⟩) (by simp), World.frozen?_alloc_at _ _ _ _ rfl]
  have HB : Hid (Below w.heap.size w w1) := ((Below.refl _ _).alloc (Nat.le_refl _) _).trans (hb1.mono (by simp))
  clear hown hb1 hg
  go_wp2
  refine bodyPost_ret (v := .tuple #[.agg (Mg.cs ⟨k, 0, 0, [], []⟩), .bool true]) (by simp [results, Tryz.results15, go_sem, Mg.cs, *]) rfl ⟨ret_read (by rw [HR.out]; simp [readW, kBeat, hbeat]), ?_⟩
  exact below_read HB.out (by omega) _ _ _ _ _ _

set_option maxHeartbeats 8000000 in
set_option maxRecDepth 100000 in
theorem read1_drain (_HLT : LettersSaid) (s : ByteArray) (w : World) (hs : s.size ≤ 4194304) (k : List UInt8) (hw : cutL 32 s.data.toList = [k]) (hpull : (k == [112, 117, 108, 108]) = false) (hbeat : (k == [98, 101, 97, 116]) = false) (hdrain : (k == [100, 114, 97, 105, 110]) = true) :
    Calls Tryz.prog 15 #[.string s] w (ReadPost s.data.toList w) := by
  have HR : Hid (readL s.data.toList = readW [k]) := congrArg readW hw
  have hsm := cut_small (c := 32) hs
  rw [hw] at hsm
  have HCUT : Hid (∀ w : World, Calls Tryz.prog 32 #[.string s, .int .u8 32] w fun e w' => ∃ g cap, e = .returned (.slice (some ⟨g, 0, none⟩) 1 cap) ∧ w.heap.size ≤ g ∧
      w'.ownsRow w.heap.size 9 1 (.slice (some ⟨g, 0, none⟩) 1 cap) 1 (strs [k]) ∧ Below w.heap.size w w') := by
    intro w
    have h := cut_any s 32 w hs
    rw [hw] at h
    exact h
  clear hw hsm
  go_enter Tryz.func15, Tryz.ntmps15
  go_wp2_with fail
  refine (HCUT.out _).mono ?_
  rintro e w1 ⟨g, cap, rfl, hg, hown, hb1⟩
  have c0 : w1.cell? ⟨g, 0, none⟩ = some (.string ⟨k.toArray⟩) := str_cell hown (k := 0) (by simp) rfl
  have hgl : g < w1.heap.size := (hown.lt g rfl).2
  have hz1 := hb1.size
  simp only [World.size_alloc] at hz1 hg
  have hwl : w.heap.size < w1.heap.size := by omega
  have hne : w.heap.size ≠ g := by omega
  clear hz1
  have r0 : w1.cell? ⟨w.heap.size, 0, none⟩ = some (.string ⟨#[]⟩) := by rw [hb1.cell (p := ⟨w.heap.size, 0, none⟩) (by simp), World.cell?_alloc_at _ _ _ _ rfl]; rfl
  have r1 : w1.cell? ⟨w.heap.size, 1, none⟩ = some (.int .i64 0) := by rw [hb1.cell (p := ⟨w.heap.size, 1, none⟩) (by simp), World.cell?_alloc_at _ _ _ _ rfl]; rfl
  have r2 : w1.cell? ⟨w.heap.size, 2, none⟩ = some (.int .i64 0) := by rw [hb1.cell (p := ⟨w.heap.size, 2, none⟩) (by simp), World.cell?_alloc_at _ _ _ _ rfl]; rfl
  have r3 : w1.cell? ⟨w.heap.size, 3, none⟩ = some (.string ⟨#[]⟩) := by rw [hb1.cell (p := ⟨w.heap.size, 3, none⟩) (by simp), World.cell?_alloc_at _ _ _ _ rfl]; rfl
  have r4 : w1.cell? ⟨w.heap.size, 4, none⟩ = some (.string ⟨#[]⟩) := by rw [hb1.cell (p := ⟨w.heap.size, 4, none⟩) (by simp), World.cell?_alloc_at _ _ _ _ rfl]; rfl
  have f0 : w1.frozen? ⟨w.heap.size, 0, none⟩ = false := by rw [hb1.frozen (p := ⟨w.heap.size, 0, none⟩) (by simp), World.frozen?_alloc_at _ _ _ _ rfl]
  have f1 : w1.frozen? ⟨w.heap.size, 1, none⟩ = false := by rw [hb1.frozen (p := ⟨w.heap.size, 1, none⟩) (by simp), World.frozen?_alloc_at _ _ _ _ rfl]
  have f2 : w1.frozen? ⟨w.heap.size, 2, none⟩ = false := by rw [hb1.frozen (p := ⟨w.heap.size, 2, none⟩) (by simp), World.frozen?_alloc_at _ _ _ _ rfl]
  have f3 : w1.frozen? ⟨w.heap.size, 3, none⟩ = false := by rw [hb1.frozen (p := ⟨w.heap.size, 3, none⟩) (by simp), World.frozen?_alloc_at _ _ _ _ rfl]
  have f4 : w1.frozen? ⟨w.heap.size, 4, none⟩ = false := by rw [hb1.frozen (p := ⟨w.heap.size, 4, none⟩) (by simp), World.frozen?_alloc_at _ _ _ _ rfl]
  have HB : Hid (Below w.heap.size w w1) := ((Below.refl _ _).alloc (Nat.le_refl _) _).trans (hb1.mono (by simp))
  clear hown hb1 hg
  go_wp2
  refine bodyPost_ret (v := .tuple #[.agg (Mg.cs ⟨k, 0, 0, [], []⟩), .bool true]) (by simp [results, Tryz.results15, go_sem, Mg.cs, *]) rfl ⟨ret_read (by rw [HR.out]; simp [readW, kDrain, hdrain]), ?_⟩
  exact below_read HB.out (by omega) _ _ _ _ _ _

set_option maxHeartbeats 8000000 in
set_option maxRecDepth 100000 in
theorem read1_other (_HLT : LettersSaid) (s : ByteArray) (w : World) (hs : s.size ≤ 4194304) (k : List UInt8) (hw : cutL 32 s.data.toList = [k]) (hpull : (k == [112, 117, 108, 108]) = false) (hbeat : (k == [98, 101, 97, 116]) = false) (hdrain : (k == [100, 114, 97, 105, 110]) = false) :
    Calls Tryz.prog 15 #[.string s] w (ReadPost s.data.toList w) := by
  have HR : Hid (readL s.data.toList = readW [k]) := congrArg readW hw
  have hsm := cut_small (c := 32) hs
  rw [hw] at hsm
  have HCUT : Hid (∀ w : World, Calls Tryz.prog 32 #[.string s, .int .u8 32] w fun e w' => ∃ g cap, e = .returned (.slice (some ⟨g, 0, none⟩) 1 cap) ∧ w.heap.size ≤ g ∧
      w'.ownsRow w.heap.size 9 1 (.slice (some ⟨g, 0, none⟩) 1 cap) 1 (strs [k]) ∧ Below w.heap.size w w') := by
    intro w
    have h := cut_any s 32 w hs
    rw [hw] at h
    exact h
  clear hw hsm
  go_enter Tryz.func15, Tryz.ntmps15
  go_wp2_with fail
  refine (HCUT.out _).mono ?_
  rintro e w1 ⟨g, cap, rfl, hg, hown, hb1⟩
  have c0 : w1.cell? ⟨g, 0, none⟩ = some (.string ⟨k.toArray⟩) := str_cell hown (k := 0) (by simp) rfl
  have hgl : g < w1.heap.size := (hown.lt g rfl).2
  have hz1 := hb1.size
  simp only [World.size_alloc] at hz1 hg
  have hwl : w.heap.size < w1.heap.size := by omega
  have hne : w.heap.size ≠ g := by omega
  clear hz1
  have r0 : w1.cell? ⟨w.heap.size, 0, none⟩ = some (.string ⟨#[]⟩) := by rw [hb1.cell (p := ⟨w.heap.size, 0, none⟩) (by simp), World.cell?_alloc_at _ _ _ _ rfl]; rfl
  have r1 : w1.cell? ⟨w.heap.size, 1, none⟩ = some (.int .i64 0) := by rw [hb1.cell (p := ⟨w.heap.size, 1, none⟩) (by simp), World.cell?_alloc_at _ _ _ _ rfl]; rfl
  have r2 : w1.cell? ⟨w.heap.size, 2, none⟩ = some (.int .i64 0) := by rw [hb1.cell (p := ⟨w.heap.size, 2, none⟩) (by simp), World.cell?_alloc_at _ _ _ _ rfl]; rfl
  have r3 : w1.cell? ⟨w.heap.size, 3, none⟩ = some (.string ⟨#[]⟩) := by rw [hb1.cell (p := ⟨w.heap.size, 3, none⟩) (by simp), World.cell?_alloc_at _ _ _ _ rfl]; rfl
  have r4 : w1.cell? ⟨w.heap.size, 4, none⟩ = some (.string ⟨#[]⟩) := by rw [hb1.cell (p := ⟨w.heap.size, 4, none⟩) (by simp), World.cell?_alloc_at _ _ _ _ rfl]; rfl
  have f0 : w1.frozen? ⟨w.heap.size, 0, none⟩ = false := by rw [hb1.frozen (p := ⟨w.heap.size, 0, none⟩) (by simp), World.frozen?_alloc_at _ _ _ _ rfl]
  have f1 : w1.frozen? ⟨w.heap.size, 1, none⟩ = false := by rw [hb1.frozen (p := ⟨w.heap.size, 1, none⟩) (by simp), World.frozen?_alloc_at _ _ _ _ rfl]
  have f2 : w1.frozen? ⟨w.heap.size, 2, none⟩ = false := by rw [hb1.frozen (p := ⟨w.heap.size, 2, none⟩) (by simp), World.frozen?_alloc_at _ _ _ _ rfl]
  have f3 : w1.frozen? ⟨w.heap.size, 3, none⟩ = false := by rw [hb1.frozen (p := ⟨w.heap.size, 3, none⟩) (by simp), World.frozen?_alloc_at _ _ _ _ rfl]
  have f4 : w1.frozen? ⟨w.heap.size, 4, none⟩ = false := by rw [hb1.frozen (p := ⟨w.heap.size, 4, none⟩) (by simp), World.frozen?_alloc_at _ _ _ _ rfl]
  have HB : Hid (Below w.heap.size w w1) := ((Below.refl _ _).alloc (Nat.le_refl _) _).trans (hb1.mono (by simp))
  clear hown hb1 hg
  go_wp2
  refine bodyPost_ret (v := .tuple #[.agg (Mg.cs ⟨k, 0, 0, [], []⟩), .bool false]) (by simp [results, Tryz.results15, go_sem, Mg.cs, *]) rfl ⟨ret_read (by rw [HR.out]; simp [readW, kPull, kBeat, kDrain, hpull, hbeat, hdrain]), ?_⟩
  exact below_read HB.out (by omega) _ _ _ _ _ _
end Go.Proofs.YtjkenehiojbmiaaGreatDoor.Msg
namespace Go.Proofs.YtjkenehiojbmiaaGreatDoor.Msg
open Go.RowKit

set_option maxHeartbeats 8000000 in
set_option maxRecDepth 100000 in
theorem read2_can (_HLT : LettersSaid) (s : ByteArray) (w : World) (hs : s.size ≤ 4194304) (k a : List UInt8) (hw : cutL 32 s.data.toList = [k, a]) (hcan : (k == [99, 97, 110]) = true) :
    Calls Tryz.prog 15 #[.string s] w (ReadPost s.data.toList w) := by
  have HR : Hid (readL s.data.toList = readW [k, a]) := congrArg readW hw
  have hsm := cut_small (c := 32) hs
  rw [hw] at hsm
  have la : (⟨a.toArray⟩ : ByteArray).size ≤ 4194304 := hsm a (by simp)
  have HCUT : Hid (∀ w : World, Calls Tryz.prog 32 #[.string s, .int .u8 32] w fun e w' => ∃ g cap, e = .returned (.slice (some ⟨g, 0, none⟩) 2 cap) ∧ w.heap.size ≤ g ∧
      w'.ownsRow w.heap.size 9 1 (.slice (some ⟨g, 0, none⟩) 2 cap) 2 (strs [k, a]) ∧ Below w.heap.size w w') := by
    intro w
    have h := cut_any s 32 w hs
    rw [hw] at h
    exact h
  clear hw hsm
  obtain ⟨na, ba, hna⟩ : ∃ nn xx, numL a = (nn, xx) := ⟨_, _, rfl⟩
  have HNa : Hid (numL a = (na, ba)) := hna
  have HCa : Hid (∀ w : World, Calls Tryz.prog 33 #[.string ⟨a.toArray⟩] w fun e w' => e = .returned (.tuple #[.int .i64 na, .bool ba]) ∧ w' = w) := by
    intro w
    have h := number_any ⟨a.toArray⟩ w la
    have e : (⟨a.toArray⟩ : ByteArray).data.toList = a := rfl
    rw [e, hna] at h
    exact h
  clear hna
  go_enter Tryz.func15, Tryz.ntmps15
  go_wp2_with fail
  refine (HCUT.out _).mono ?_
  rintro e w1 ⟨g, cap, rfl, hg, hown, hb1⟩
  have c0 : w1.cell? ⟨g, 0, none⟩ = some (.string ⟨k.toArray⟩) := str_cell hown (k := 0) (by simp) rfl
  have c1 : w1.cell? ⟨g, 1, none⟩ = some (.string ⟨a.toArray⟩) := str_cell hown (k := 1) (by simp) rfl
  have hgl : g < w1.heap.size := (hown.lt g rfl).2
  have hz1 := hb1.size
  simp only [World.size_alloc] at hz1 hg
  have hwl : w.heap.size < w1.heap.size := by omega
  have hne : w.heap.size ≠ g := by omega
  clear hz1
  have r0 : w1.cell? ⟨w.heap.size, 0, none⟩ = some (.string ⟨#[]⟩) := by rw [hb1.cell (p := ⟨w.heap.size, 0, none⟩) (by simp), World.cell?_alloc_at _ _ _ _ rfl]; rfl
  have r1 : w1.cell? ⟨w.heap.size, 1, none⟩ = some (.int .i64 0) := by rw [hb1.cell (p := ⟨w.heap.size, 1, none⟩) (by simp), World.cell?_alloc_at _ _ _ _ rfl]; rfl
  have r2 : w1.cell? ⟨w.heap.size, 2, none⟩ = some (.int .i64 0) := by rw [hb1.cell (p := ⟨w.heap.size, 2, none⟩) (by simp), World.cell?_alloc_at _ _ _ _ rfl]; rfl
  have r3 : w1.cell? ⟨w.heap.size, 3, none⟩ = some (.string ⟨#[]⟩) := by rw [hb1.cell (p := ⟨w.heap.size, 3, none⟩) (by simp), World.cell?_alloc_at _ _ _ _ rfl]; rfl
  have r4 : w1.cell? ⟨w.heap.size, 4, none⟩ = some (.string ⟨#[]⟩) := by rw [hb1.cell (p := ⟨w.heap.size, 4, none⟩) (by simp), World.cell?_alloc_at _ _ _ _ rfl]; rfl
  have f0 : w1.frozen? ⟨w.heap.size, 0, none⟩ = false := by rw [hb1.frozen (p := ⟨w.heap.size, 0, none⟩) (by simp), World.frozen?_alloc_at _ _ _ _ rfl]
  have f1 : w1.frozen? ⟨w.heap.size, 1, none⟩ = false := by rw [hb1.frozen (p := ⟨w.heap.size, 1, none⟩) (by simp), World.frozen?_alloc_at _ _ _ _ rfl]
  have f2 : w1.frozen? ⟨w.heap.size, 2, none⟩ = false := by rw [hb1.frozen (p := ⟨w.heap.size, 2, none⟩) (by simp), World.frozen?_alloc_at _ _ _ _ rfl]
  have f3 : w1.frozen? ⟨w.heap.size, 3, none⟩ = false := by rw [hb1.frozen (p := ⟨w.heap.size, 3, none⟩) (by simp), World.frozen?_alloc_at _ _ _ _ rfl]
  have f4 : w1.frozen? ⟨w.heap.size, 4, none⟩ = false := by rw [hb1.frozen (p := ⟨w.heap.size, 4, none⟩) (by simp), World.frozen?_alloc_at _ _ _ _ rfl]
  have HB : Hid (Below w.heap.size w w1) := ((Below.refl _ _).alloc (Nat.le_refl _) _).trans (hb1.mono (by simp))
  clear hown hb1 hg
  go_wp2_with fail
  refine (HCa.out _).mono ?_
  rintro e w' ⟨rfl, rfl⟩
  go_wp2
  refine bodyPost_ret (v := .tuple #[.agg (Mg.cs ⟨k, na, 0, [], []⟩), .bool ba]) (by simp [results, Tryz.results15, go_sem, Mg.cs, *]) rfl ⟨ret_read (by rw [HR.out]; rw [readW, if_pos (show k = kCan from by simpa [kCan] using hcan), HNa.out]), ?_⟩
  exact below_read HB.out (by omega) _ _ _ _ _ _

set_option maxHeartbeats 8000000 in
set_option maxRecDepth 100000 in
theorem read2_other (_HLT : LettersSaid) (s : ByteArray) (w : World) (hs : s.size ≤ 4194304) (k a : List UInt8) (hw : cutL 32 s.data.toList = [k, a]) (hcan : (k == [99, 97, 110]) = false) :
    Calls Tryz.prog 15 #[.string s] w (ReadPost s.data.toList w) := by
  have HR : Hid (readL s.data.toList = readW [k, a]) := congrArg readW hw
  have hsm := cut_small (c := 32) hs
  rw [hw] at hsm
  have la : (⟨a.toArray⟩ : ByteArray).size ≤ 4194304 := hsm a (by simp)
  have HCUT : Hid (∀ w : World, Calls Tryz.prog 32 #[.string s, .int .u8 32] w fun e w' => ∃ g cap, e = .returned (.slice (some ⟨g, 0, none⟩) 2 cap) ∧ w.heap.size ≤ g ∧
      w'.ownsRow w.heap.size 9 1 (.slice (some ⟨g, 0, none⟩) 2 cap) 2 (strs [k, a]) ∧ Below w.heap.size w w') := by
    intro w
    have h := cut_any s 32 w hs
    rw [hw] at h
    exact h
  clear hw hsm
  go_enter Tryz.func15, Tryz.ntmps15
  go_wp2_with fail
  refine (HCUT.out _).mono ?_
  rintro e w1 ⟨g, cap, rfl, hg, hown, hb1⟩
  have c0 : w1.cell? ⟨g, 0, none⟩ = some (.string ⟨k.toArray⟩) := str_cell hown (k := 0) (by simp) rfl
  have c1 : w1.cell? ⟨g, 1, none⟩ = some (.string ⟨a.toArray⟩) := str_cell hown (k := 1) (by simp) rfl
  have hgl : g < w1.heap.size := (hown.lt g rfl).2
  have hz1 := hb1.size
  simp only [World.size_alloc] at hz1 hg
  have hwl : w.heap.size < w1.heap.size := by omega
  have hne : w.heap.size ≠ g := by omega
  clear hz1
  have r0 : w1.cell? ⟨w.heap.size, 0, none⟩ = some (.string ⟨#[]⟩) := by rw [hb1.cell (p := ⟨w.heap.size, 0, none⟩) (by simp), World.cell?_alloc_at _ _ _ _ rfl]; rfl
  have r1 : w1.cell? ⟨w.heap.size, 1, none⟩ = some (.int .i64 0) := by rw [hb1.cell (p := ⟨w.heap.size, 1, none⟩) (by simp), World.cell?_alloc_at _ _ _ _ rfl]; rfl
  have r2 : w1.cell? ⟨w.heap.size, 2, none⟩ = some (.int .i64 0) := by rw [hb1.cell (p := ⟨w.heap.size, 2, none⟩) (by simp), World.cell?_alloc_at _ _ _ _ rfl]; rfl
  have r3 : w1.cell? ⟨w.heap.size, 3, none⟩ = some (.string ⟨#[]⟩) := by rw [hb1.cell (p := ⟨w.heap.size, 3, none⟩) (by simp), World.cell?_alloc_at _ _ _ _ rfl]; rfl
  have r4 : w1.cell? ⟨w.heap.size, 4, none⟩ = some (.string ⟨#[]⟩) := by rw [hb1.cell (p := ⟨w.heap.size, 4, none⟩) (by simp), World.cell?_alloc_at _ _ _ _ rfl]; rfl
  have f0 : w1.frozen? ⟨w.heap.size, 0, none⟩ = false := by rw [hb1.frozen (p := ⟨w.heap.size, 0, none⟩) (by simp), World.frozen?_alloc_at _ _ _ _ rfl]
  have f1 : w1.frozen? ⟨w.heap.size, 1, none⟩ = false := by rw [hb1.frozen (p := ⟨w.heap.size, 1, none⟩) (by simp), World.frozen?_alloc_at _ _ _ _ rfl]
  have f2 : w1.frozen? ⟨w.heap.size, 2, none⟩ = false := by rw [hb1.frozen (p := ⟨w.heap.size, 2, none⟩) (by simp), World.frozen?_alloc_at _ _ _ _ rfl]
  have f3 : w1.frozen? ⟨w.heap.size, 3, none⟩ = false := by rw [hb1.frozen (p := ⟨w.heap.size, 3, none⟩) (by simp), World.frozen?_alloc_at _ _ _ _ rfl]
  have f4 : w1.frozen? ⟨w.heap.size, 4, none⟩ = false := by rw [hb1.frozen (p := ⟨w.heap.size, 4, none⟩) (by simp), World.frozen?_alloc_at _ _ _ _ rfl]
  have HB : Hid (Below w.heap.size w w1) := ((Below.refl _ _).alloc (Nat.le_refl _) _).trans (hb1.mono (by simp))
  clear hown hb1 hg
  go_wp2
  refine bodyPost_ret (v := .tuple #[.agg (Mg.cs ⟨k, 0, 0, [], []⟩), .bool false]) (by simp [results, Tryz.results15, go_sem, Mg.cs, *]) rfl ⟨ret_read (by rw [HR.out]; rw [readW, if_neg (show ¬ k = kCan from by simpa [kCan] using hcan)]), ?_⟩
  exact below_read HB.out (by omega) _ _ _ _ _ _

set_option maxHeartbeats 8000000 in
set_option maxRecDepth 100000 in
theorem read3_other (_HLT : LettersSaid) (s : ByteArray) (w : World) (hs : s.size ≤ 4194304) (k a b : List UInt8) (hw : cutL 32 s.data.toList = [k, a, b]) (hfail : (k == [102, 97, 105, 108]) = false) :
    Calls Tryz.prog 15 #[.string s] w (ReadPost s.data.toList w) := by
  have HR : Hid (readL s.data.toList = readW [k, a, b]) := congrArg readW hw
  have hsm := cut_small (c := 32) hs
  rw [hw] at hsm
  have la : (⟨a.toArray⟩ : ByteArray).size ≤ 4194304 := hsm a (by simp)
  have lb : (⟨b.toArray⟩ : ByteArray).size ≤ 4194304 := hsm b (by simp)
  have HCUT : Hid (∀ w : World, Calls Tryz.prog 32 #[.string s, .int .u8 32] w fun e w' => ∃ g cap, e = .returned (.slice (some ⟨g, 0, none⟩) 3 cap) ∧ w.heap.size ≤ g ∧
      w'.ownsRow w.heap.size 9 1 (.slice (some ⟨g, 0, none⟩) 3 cap) 3 (strs [k, a, b]) ∧ Below w.heap.size w w') := by
    intro w
    have h := cut_any s 32 w hs
    rw [hw] at h
    exact h
  clear hw hsm
  go_enter Tryz.func15, Tryz.ntmps15
  go_wp2_with fail
  refine (HCUT.out _).mono ?_
  rintro e w1 ⟨g, cap, rfl, hg, hown, hb1⟩
  have c0 : w1.cell? ⟨g, 0, none⟩ = some (.string ⟨k.toArray⟩) := str_cell hown (k := 0) (by simp) rfl
  have c1 : w1.cell? ⟨g, 1, none⟩ = some (.string ⟨a.toArray⟩) := str_cell hown (k := 1) (by simp) rfl
  have c2 : w1.cell? ⟨g, 2, none⟩ = some (.string ⟨b.toArray⟩) := str_cell hown (k := 2) (by simp) rfl
  have hgl : g < w1.heap.size := (hown.lt g rfl).2
  have hz1 := hb1.size
  simp only [World.size_alloc] at hz1 hg
  have hwl : w.heap.size < w1.heap.size := by omega
  have hne : w.heap.size ≠ g := by omega
  clear hz1
  have r0 : w1.cell? ⟨w.heap.size, 0, none⟩ = some (.string ⟨#[]⟩) := by rw [hb1.cell (p := ⟨w.heap.size, 0, none⟩) (by simp), World.cell?_alloc_at _ _ _ _ rfl]; rfl
  have r1 : w1.cell? ⟨w.heap.size, 1, none⟩ = some (.int .i64 0) := by rw [hb1.cell (p := ⟨w.heap.size, 1, none⟩) (by simp), World.cell?_alloc_at _ _ _ _ rfl]; rfl
  have r2 : w1.cell? ⟨w.heap.size, 2, none⟩ = some (.int .i64 0) := by rw [hb1.cell (p := ⟨w.heap.size, 2, none⟩) (by simp), World.cell?_alloc_at _ _ _ _ rfl]; rfl
  have r3 : w1.cell? ⟨w.heap.size, 3, none⟩ = some (.string ⟨#[]⟩) := by rw [hb1.cell (p := ⟨w.heap.size, 3, none⟩) (by simp), World.cell?_alloc_at _ _ _ _ rfl]; rfl
  have r4 : w1.cell? ⟨w.heap.size, 4, none⟩ = some (.string ⟨#[]⟩) := by rw [hb1.cell (p := ⟨w.heap.size, 4, none⟩) (by simp), World.cell?_alloc_at _ _ _ _ rfl]; rfl
  have f0 : w1.frozen? ⟨w.heap.size, 0, none⟩ = false := by rw [hb1.frozen (p := ⟨w.heap.size, 0, none⟩) (by simp), World.frozen?_alloc_at _ _ _ _ rfl]
  have f1 : w1.frozen? ⟨w.heap.size, 1, none⟩ = false := by rw [hb1.frozen (p := ⟨w.heap.size, 1, none⟩) (by simp), World.frozen?_alloc_at _ _ _ _ rfl]
  have f2 : w1.frozen? ⟨w.heap.size, 2, none⟩ = false := by rw [hb1.frozen (p := ⟨w.heap.size, 2, none⟩) (by simp), World.frozen?_alloc_at _ _ _ _ rfl]
  have f3 : w1.frozen? ⟨w.heap.size, 3, none⟩ = false := by rw [hb1.frozen (p := ⟨w.heap.size, 3, none⟩) (by simp), World.frozen?_alloc_at _ _ _ _ rfl]
  have f4 : w1.frozen? ⟨w.heap.size, 4, none⟩ = false := by rw [hb1.frozen (p := ⟨w.heap.size, 4, none⟩) (by simp), World.frozen?_alloc_at _ _ _ _ rfl]
  have HB : Hid (Below w.heap.size w w1) := ((Below.refl _ _).alloc (Nat.le_refl _) _).trans (hb1.mono (by simp))
  clear hown hb1 hg
  go_wp2
  refine bodyPost_ret (v := .tuple #[.agg (Mg.cs ⟨k, 0, 0, [], []⟩), .bool false]) (by simp [results, Tryz.results15, go_sem, Mg.cs, *]) rfl ⟨ret_read (by rw [HR.out]; rw [readW, if_neg (show ¬ k = kFail from by simpa [kFail] using hfail)]), ?_⟩
  exact below_read HB.out (by omega) _ _ _ _ _ _

set_option maxHeartbeats 8000000 in
set_option maxRecDepth 100000 in
theorem read4_other (_HLT : LettersSaid) (s : ByteArray) (w : World) (hs : s.size ≤ 4194304) (k a b t : List UInt8) (hw : cutL 32 s.data.toList = [k, a, b, t]) (hdone : (k == [100, 111, 110, 101]) = false) (hsub : (k == [115, 117, 98]) = false) :
    Calls Tryz.prog 15 #[.string s] w (ReadPost s.data.toList w) := by
  have HR : Hid (readL s.data.toList = readW [k, a, b, t]) := congrArg readW hw
  have hsm := cut_small (c := 32) hs
  rw [hw] at hsm
  have la : (⟨a.toArray⟩ : ByteArray).size ≤ 4194304 := hsm a (by simp)
  have lb : (⟨b.toArray⟩ : ByteArray).size ≤ 4194304 := hsm b (by simp)
  have lt : (⟨t.toArray⟩ : ByteArray).size ≤ 4194304 := hsm t (by simp)
  have HCUT : Hid (∀ w : World, Calls Tryz.prog 32 #[.string s, .int .u8 32] w fun e w' => ∃ g cap, e = .returned (.slice (some ⟨g, 0, none⟩) 4 cap) ∧ w.heap.size ≤ g ∧
      w'.ownsRow w.heap.size 9 1 (.slice (some ⟨g, 0, none⟩) 4 cap) 4 (strs [k, a, b, t]) ∧ Below w.heap.size w w') := by
    intro w
    have h := cut_any s 32 w hs
    rw [hw] at h
    exact h
  clear hw hsm
  go_enter Tryz.func15, Tryz.ntmps15
  go_wp2_with fail
  refine (HCUT.out _).mono ?_
  rintro e w1 ⟨g, cap, rfl, hg, hown, hb1⟩
  have c0 : w1.cell? ⟨g, 0, none⟩ = some (.string ⟨k.toArray⟩) := str_cell hown (k := 0) (by simp) rfl
  have c1 : w1.cell? ⟨g, 1, none⟩ = some (.string ⟨a.toArray⟩) := str_cell hown (k := 1) (by simp) rfl
  have c2 : w1.cell? ⟨g, 2, none⟩ = some (.string ⟨b.toArray⟩) := str_cell hown (k := 2) (by simp) rfl
  have c3 : w1.cell? ⟨g, 3, none⟩ = some (.string ⟨t.toArray⟩) := str_cell hown (k := 3) (by simp) rfl
  have hgl : g < w1.heap.size := (hown.lt g rfl).2
  have hz1 := hb1.size
  simp only [World.size_alloc] at hz1 hg
  have hwl : w.heap.size < w1.heap.size := by omega
  have hne : w.heap.size ≠ g := by omega
  clear hz1
  have r0 : w1.cell? ⟨w.heap.size, 0, none⟩ = some (.string ⟨#[]⟩) := by rw [hb1.cell (p := ⟨w.heap.size, 0, none⟩) (by simp), World.cell?_alloc_at _ _ _ _ rfl]; rfl
  have r1 : w1.cell? ⟨w.heap.size, 1, none⟩ = some (.int .i64 0) := by rw [hb1.cell (p := ⟨w.heap.size, 1, none⟩) (by simp), World.cell?_alloc_at _ _ _ _ rfl]; rfl
  have r2 : w1.cell? ⟨w.heap.size, 2, none⟩ = some (.int .i64 0) := by rw [hb1.cell (p := ⟨w.heap.size, 2, none⟩) (by simp), World.cell?_alloc_at _ _ _ _ rfl]; rfl
  have r3 : w1.cell? ⟨w.heap.size, 3, none⟩ = some (.string ⟨#[]⟩) := by rw [hb1.cell (p := ⟨w.heap.size, 3, none⟩) (by simp), World.cell?_alloc_at _ _ _ _ rfl]; rfl
  have r4 : w1.cell? ⟨w.heap.size, 4, none⟩ = some (.string ⟨#[]⟩) := by rw [hb1.cell (p := ⟨w.heap.size, 4, none⟩) (by simp), World.cell?_alloc_at _ _ _ _ rfl]; rfl
  have f0 : w1.frozen? ⟨w.heap.size, 0, none⟩ = false := by rw [hb1.frozen (p := ⟨w.heap.size, 0, none⟩) (by simp), World.frozen?_alloc_at _ _ _ _ rfl]
  have f1 : w1.frozen? ⟨w.heap.size, 1, none⟩ = false := by rw [hb1.frozen (p := ⟨w.heap.size, 1, none⟩) (by simp), World.frozen?_alloc_at _ _ _ _ rfl]
  have f2 : w1.frozen? ⟨w.heap.size, 2, none⟩ = false := by rw [hb1.frozen (p := ⟨w.heap.size, 2, none⟩) (by simp), World.frozen?_alloc_at _ _ _ _ rfl]
  have f3 : w1.frozen? ⟨w.heap.size, 3, none⟩ = false := by rw [hb1.frozen (p := ⟨w.heap.size, 3, none⟩) (by simp), World.frozen?_alloc_at _ _ _ _ rfl]
  have f4 : w1.frozen? ⟨w.heap.size, 4, none⟩ = false := by rw [hb1.frozen (p := ⟨w.heap.size, 4, none⟩) (by simp), World.frozen?_alloc_at _ _ _ _ rfl]
  have HB : Hid (Below w.heap.size w w1) := ((Below.refl _ _).alloc (Nat.le_refl _) _).trans (hb1.mono (by simp))
  clear hown hb1 hg
  go_wp2
  refine bodyPost_ret (v := .tuple #[.agg (Mg.cs ⟨k, 0, 0, [], []⟩), .bool false]) (by simp [results, Tryz.results15, go_sem, Mg.cs, *]) rfl ⟨ret_read (by rw [HR.out]; rw [readW, if_neg (show ¬ k = kDone from by simpa [kDone] using hdone), if_neg (show ¬ k = kSub from by simpa [kSub] using hsub)]), ?_⟩
  exact below_read HB.out (by omega) _ _ _ _ _ _

set_option maxHeartbeats 8000000 in
set_option maxRecDepth 100000 in
theorem read3_fail (_HLT : LettersSaid) (s : ByteArray) (w : World) (hs : s.size ≤ 4194304) (k a b : List UInt8) (hw : cutL 32 s.data.toList = [k, a, b]) (hfail : (k == [102, 97, 105, 108]) = true) :
    Calls Tryz.prog 15 #[.string s] w (ReadPost s.data.toList w) := by
  have HR : Hid (readL s.data.toList = readW [k, a, b]) := congrArg readW hw
  have hsm := cut_small (c := 32) hs
  rw [hw] at hsm
  have la : (⟨a.toArray⟩ : ByteArray).size ≤ 4194304 := hsm a (by simp)
  have lb : (⟨b.toArray⟩ : ByteArray).size ≤ 4194304 := hsm b (by simp)
  have HCUT : Hid (∀ w : World, Calls Tryz.prog 32 #[.string s, .int .u8 32] w fun e w' => ∃ g cap, e = .returned (.slice (some ⟨g, 0, none⟩) 3 cap) ∧ w.heap.size ≤ g ∧
      w'.ownsRow w.heap.size 9 1 (.slice (some ⟨g, 0, none⟩) 3 cap) 3 (strs [k, a, b]) ∧ Below w.heap.size w w') := by
    intro w
    have h := cut_any s 32 w hs
    rw [hw] at h
    exact h
  clear hw hsm
  obtain ⟨na, ba, hna⟩ : ∃ nn xx, numL a = (nn, xx) := ⟨_, _, rfl⟩
  have HNa : Hid (numL a = (na, ba)) := hna
  have HCa : Hid (∀ w : World, Calls Tryz.prog 33 #[.string ⟨a.toArray⟩] w fun e w' => e = .returned (.tuple #[.int .i64 na, .bool ba]) ∧ w' = w) := by
    intro w
    have h := number_any ⟨a.toArray⟩ w la
    have e : (⟨a.toArray⟩ : ByteArray).data.toList = a := rfl
    rw [e, hna] at h
    exact h
  clear hna
  obtain ⟨nb, bb, hnb⟩ : ∃ nn xx, numL b = (nn, xx) := ⟨_, _, rfl⟩
  have HNb : Hid (numL b = (nb, bb)) := hnb
  have HCb : Hid (∀ w : World, Calls Tryz.prog 33 #[.string ⟨b.toArray⟩] w fun e w' => e = .returned (.tuple #[.int .i64 nb, .bool bb]) ∧ w' = w) := by
    intro w
    have h := number_any ⟨b.toArray⟩ w lb
    have e : (⟨b.toArray⟩ : ByteArray).data.toList = b := rfl
    rw [e, hnb] at h
    exact h
  clear hnb
  go_enter Tryz.func15, Tryz.ntmps15
  go_wp2_with fail
  refine (HCUT.out _).mono ?_
  rintro e w1 ⟨g, cap, rfl, hg, hown, hb1⟩
  have c0 : w1.cell? ⟨g, 0, none⟩ = some (.string ⟨k.toArray⟩) := str_cell hown (k := 0) (by simp) rfl
  have c1 : w1.cell? ⟨g, 1, none⟩ = some (.string ⟨a.toArray⟩) := str_cell hown (k := 1) (by simp) rfl
  have c2 : w1.cell? ⟨g, 2, none⟩ = some (.string ⟨b.toArray⟩) := str_cell hown (k := 2) (by simp) rfl
  have hgl : g < w1.heap.size := (hown.lt g rfl).2
  have hz1 := hb1.size
  simp only [World.size_alloc] at hz1 hg
  have hwl : w.heap.size < w1.heap.size := by omega
  have hne : w.heap.size ≠ g := by omega
  clear hz1
  have r0 : w1.cell? ⟨w.heap.size, 0, none⟩ = some (.string ⟨#[]⟩) := by rw [hb1.cell (p := ⟨w.heap.size, 0, none⟩) (by simp), World.cell?_alloc_at _ _ _ _ rfl]; rfl
  have r1 : w1.cell? ⟨w.heap.size, 1, none⟩ = some (.int .i64 0) := by rw [hb1.cell (p := ⟨w.heap.size, 1, none⟩) (by simp), World.cell?_alloc_at _ _ _ _ rfl]; rfl
  have r2 : w1.cell? ⟨w.heap.size, 2, none⟩ = some (.int .i64 0) := by rw [hb1.cell (p := ⟨w.heap.size, 2, none⟩) (by simp), World.cell?_alloc_at _ _ _ _ rfl]; rfl
  have r3 : w1.cell? ⟨w.heap.size, 3, none⟩ = some (.string ⟨#[]⟩) := by rw [hb1.cell (p := ⟨w.heap.size, 3, none⟩) (by simp), World.cell?_alloc_at _ _ _ _ rfl]; rfl
  have r4 : w1.cell? ⟨w.heap.size, 4, none⟩ = some (.string ⟨#[]⟩) := by rw [hb1.cell (p := ⟨w.heap.size, 4, none⟩) (by simp), World.cell?_alloc_at _ _ _ _ rfl]; rfl
  have f0 : w1.frozen? ⟨w.heap.size, 0, none⟩ = false := by rw [hb1.frozen (p := ⟨w.heap.size, 0, none⟩) (by simp), World.frozen?_alloc_at _ _ _ _ rfl]
  have f1 : w1.frozen? ⟨w.heap.size, 1, none⟩ = false := by rw [hb1.frozen (p := ⟨w.heap.size, 1, none⟩) (by simp), World.frozen?_alloc_at _ _ _ _ rfl]
  have f2 : w1.frozen? ⟨w.heap.size, 2, none⟩ = false := by rw [hb1.frozen (p := ⟨w.heap.size, 2, none⟩) (by simp), World.frozen?_alloc_at _ _ _ _ rfl]
  have f3 : w1.frozen? ⟨w.heap.size, 3, none⟩ = false := by rw [hb1.frozen (p := ⟨w.heap.size, 3, none⟩) (by simp), World.frozen?_alloc_at _ _ _ _ rfl]
  have f4 : w1.frozen? ⟨w.heap.size, 4, none⟩ = false := by rw [hb1.frozen (p := ⟨w.heap.size, 4, none⟩) (by simp), World.frozen?_alloc_at _ _ _ _ rfl]
  have HB : Hid (Below w.heap.size w w1) := ((Below.refl _ _).alloc (Nat.le_refl _) _).trans (hb1.mono (by simp))
  clear hown hb1 hg
  go_wp2_with fail
  refine (HCa.out _).mono ?_
  rintro e w' ⟨rfl, rfl⟩
  go_wp2_with fail
  refine (HCb.out _).mono ?_
  rintro e w' ⟨rfl, rfl⟩
  cases ba
  · go_wp2
    refine bodyPost_ret (v := .tuple #[.agg (Mg.cs ⟨k, na, nb, [], []⟩), .bool false]) (by simp [results, Tryz.results15, go_sem, Mg.cs, *]) rfl ⟨ret_read (by rw [HR.out]; rw [readW, if_pos (show k = kFail from by simpa [kFail] using hfail), HNa.out, HNb.out]; rfl), ?_⟩
    exact below_read HB.out (by omega) _ _ _ _ _ _
  · go_wp2
    refine bodyPost_ret (v := .tuple #[.agg (Mg.cs ⟨k, na, nb, [], []⟩), .bool bb]) (by simp [results, Tryz.results15, go_sem, Mg.cs, *]) rfl ⟨ret_read (by rw [HR.out]; rw [readW, if_pos (show k = kFail from by simpa [kFail] using hfail), HNa.out, HNb.out]; rfl), ?_⟩
    exact below_read HB.out (by omega) _ _ _ _ _ _
end Go.Proofs.YtjkenehiojbmiaaGreatDoor.Msg
namespace Go.Proofs.YtjkenehiojbmiaaGreatDoor.Msg
open Go.RowKit

set_option maxHeartbeats 8000000 in
set_option maxRecDepth 100000 in
theorem read4_done (HLT : LettersSaid) (s : ByteArray) (w : World) (hs : s.size ≤ 4194304) (k a b t : List UInt8) (hw : cutL 32 s.data.toList = [k, a, b, t]) (hdone : (k == [100, 111, 110, 101]) = true) :
    Calls Tryz.prog 15 #[.string s] w (ReadPost s.data.toList w) := by
  have HR : Hid (readL s.data.toList = readW [k, a, b, t]) := congrArg readW hw
  have hsm := cut_small (c := 32) hs
  rw [hw] at hsm
  have la : (⟨a.toArray⟩ : ByteArray).size ≤ 4194304 := hsm a (by simp)
  have lb : (⟨b.toArray⟩ : ByteArray).size ≤ 4194304 := hsm b (by simp)
  have lt : (⟨t.toArray⟩ : ByteArray).size ≤ 4194304 := hsm t (by simp)
  have HCUT : Hid (∀ w : World, Calls Tryz.prog 32 #[.string s, .int .u8 32] w fun e w' => ∃ g cap, e = .returned (.slice (some ⟨g, 0, none⟩) 4 cap) ∧ w.heap.size ≤ g ∧
      w'.ownsRow w.heap.size 9 1 (.slice (some ⟨g, 0, none⟩) 4 cap) 4 (strs [k, a, b, t]) ∧ Below w.heap.size w w') := by
    intro w
    have h := cut_any s 32 w hs
    rw [hw] at h
    exact h
  clear hw hsm
  obtain ⟨na, ba, hna⟩ : ∃ nn xx, numL a = (nn, xx) := ⟨_, _, rfl⟩
  have HNa : Hid (numL a = (na, ba)) := hna
  have HCa : Hid (∀ w : World, Calls Tryz.prog 33 #[.string ⟨a.toArray⟩] w fun e w' => e = .returned (.tuple #[.int .i64 na, .bool ba]) ∧ w' = w) := by
    intro w
    have h := number_any ⟨a.toArray⟩ w la
    have e : (⟨a.toArray⟩ : ByteArray).data.toList = a := rfl
    rw [e, hna] at h
    exact h
  clear hna
  obtain ⟨nb, bb, hnb⟩ : ∃ nn xx, numL b = (nn, xx) := ⟨_, _, rfl⟩
  have HNb : Hid (numL b = (nb, bb)) := hnb
  have HCb : Hid (∀ w : World, Calls Tryz.prog 33 #[.string ⟨b.toArray⟩] w fun e w' => e = .returned (.tuple #[.int .i64 nb, .bool bb]) ∧ w' = w) := by
    intro w
    have h := number_any ⟨b.toArray⟩ w lb
    have e : (⟨b.toArray⟩ : ByteArray).data.toList = b := rfl
    rw [e, hnb] at h
    exact h
  clear hnb
  obtain ⟨tt, htt⟩ : ∃ x, txtL t = x := ⟨_, rfl⟩
  have HTt : Hid (txtL t = tt) := htt
  have HWt : Hid (∀ w : World, Calls Tryz.prog 34 #[.string ⟨t.toArray⟩] w fun e w' => e = .returned (.bool tt) ∧ Below w.heap.size w w') := by
    intro w
    have h := text_any HLT ⟨t.toArray⟩ w lt
    have e : (⟨t.toArray⟩ : ByteArray).data.toList = t := rfl
    rw [e, htt] at h
    exact h
  clear htt
  go_enter Tryz.func15, Tryz.ntmps15
  go_wp2_with fail
  refine (HCUT.out _).mono ?_
  rintro e w1 ⟨g, cap, rfl, hg, hown, hb1⟩
  have c0 : w1.cell? ⟨g, 0, none⟩ = some (.string ⟨k.toArray⟩) := str_cell hown (k := 0) (by simp) rfl
  have c1 : w1.cell? ⟨g, 1, none⟩ = some (.string ⟨a.toArray⟩) := str_cell hown (k := 1) (by simp) rfl
  have c2 : w1.cell? ⟨g, 2, none⟩ = some (.string ⟨b.toArray⟩) := str_cell hown (k := 2) (by simp) rfl
  have c3 : w1.cell? ⟨g, 3, none⟩ = some (.string ⟨t.toArray⟩) := str_cell hown (k := 3) (by simp) rfl
  have hgl : g < w1.heap.size := (hown.lt g rfl).2
  have hz1 := hb1.size
  simp only [World.size_alloc] at hz1 hg
  have hwl : w.heap.size < w1.heap.size := by omega
  have hne : w.heap.size ≠ g := by omega
  clear hz1
  have r0 : w1.cell? ⟨w.heap.size, 0, none⟩ = some (.string ⟨#[]⟩) := by rw [hb1.cell (p := ⟨w.heap.size, 0, none⟩) (by simp), World.cell?_alloc_at _ _ _ _ rfl]; rfl
  have r1 : w1.cell? ⟨w.heap.size, 1, none⟩ = some (.int .i64 0) := by rw [hb1.cell (p := ⟨w.heap.size, 1, none⟩) (by simp), World.cell?_alloc_at _ _ _ _ rfl]; rfl
  have r2 : w1.cell? ⟨w.heap.size, 2, none⟩ = some (.int .i64 0) := by rw [hb1.cell (p := ⟨w.heap.size, 2, none⟩) (by simp), World.cell?_alloc_at _ _ _ _ rfl]; rfl
  have r3 : w1.cell? ⟨w.heap.size, 3, none⟩ = some (.string ⟨#[]⟩) := by rw [hb1.cell (p := ⟨w.heap.size, 3, none⟩) (by simp), World.cell?_alloc_at _ _ _ _ rfl]; rfl
  have r4 : w1.cell? ⟨w.heap.size, 4, none⟩ = some (.string ⟨#[]⟩) := by rw [hb1.cell (p := ⟨w.heap.size, 4, none⟩) (by simp), World.cell?_alloc_at _ _ _ _ rfl]; rfl
  have f0 : w1.frozen? ⟨w.heap.size, 0, none⟩ = false := by rw [hb1.frozen (p := ⟨w.heap.size, 0, none⟩) (by simp), World.frozen?_alloc_at _ _ _ _ rfl]
  have f1 : w1.frozen? ⟨w.heap.size, 1, none⟩ = false := by rw [hb1.frozen (p := ⟨w.heap.size, 1, none⟩) (by simp), World.frozen?_alloc_at _ _ _ _ rfl]
  have f2 : w1.frozen? ⟨w.heap.size, 2, none⟩ = false := by rw [hb1.frozen (p := ⟨w.heap.size, 2, none⟩) (by simp), World.frozen?_alloc_at _ _ _ _ rfl]
  have f3 : w1.frozen? ⟨w.heap.size, 3, none⟩ = false := by rw [hb1.frozen (p := ⟨w.heap.size, 3, none⟩) (by simp), World.frozen?_alloc_at _ _ _ _ rfl]
  have f4 : w1.frozen? ⟨w.heap.size, 4, none⟩ = false := by rw [hb1.frozen (p := ⟨w.heap.size, 4, none⟩) (by simp), World.frozen?_alloc_at _ _ _ _ rfl]
  have HB : Hid (Below w.heap.size w w1) := ((Below.refl _ _).alloc (Nat.le_refl _) _).trans (hb1.mono (by simp))
  clear hown hb1 hg
  go_wp2_with fail
  refine (HCa.out _).mono ?_
  rintro e w' ⟨rfl, rfl⟩
  go_wp2_with fail
  refine (HCb.out _).mono ?_
  rintro e w' ⟨rfl, rfl⟩
  cases ba
  · go_wp2
    refine bodyPost_ret (v := .tuple #[.agg (Mg.cs ⟨k, na, nb, [], t⟩), .bool false]) (by simp [results, Tryz.results15, go_sem, Mg.cs, *]) rfl ⟨ret_read (by rw [HR.out]; rw [readW, if_pos (show k = kDone from by simpa [kDone] using hdone), HNa.out, HNb.out, HTt.out]; rfl), ?_⟩
    exact below_read HB.out (by omega) _ _ _ _ _ _
  cases bb
  · go_wp2
    refine bodyPost_ret (v := .tuple #[.agg (Mg.cs ⟨k, na, nb, [], t⟩), .bool false]) (by simp [results, Tryz.results15, go_sem, Mg.cs, *]) rfl ⟨ret_read (by rw [HR.out]; rw [readW, if_pos (show k = kDone from by simpa [kDone] using hdone), HNa.out, HNb.out, HTt.out]; rfl), ?_⟩
    exact below_read HB.out (by omega) _ _ _ _ _ _
  go_wp2_with fail
  refine (HWt.out _).mono ?_
  rintro e w2 ⟨rfl, hb2⟩
  obtain ⟨hc2, hf2⟩ := bcell hb2
  have hz2 := hb2.size
  try simp only [World.size_alloc] at hc2 hf2 hz2
  have hwl2 : w.heap.size < w2.heap.size := by omega
  have hgl2 : g < w2.heap.size := by omega
  have hml2 : w1.heap.size < w2.heap.size := by omega
  have hwl2' : w.heap.size < w1.heap.size + 1 := by omega
  have hgl2' : g < w1.heap.size + 1 := by omega
  have hml2' : w1.heap.size < w1.heap.size + 1 := by omega
  go_wp2
  refine bodyPost_ret (v := .tuple #[.agg (Mg.cs ⟨k, na, nb, [], t⟩), .bool tt]) (by simp [results, Tryz.results15, go_sem, Mg.cs, *]) rfl ⟨ret_read (by rw [HR.out]; rw [readW, if_pos (show k = kDone from by simpa [kDone] using hdone), HNa.out, HNb.out, HTt.out]; rfl), ?_⟩
  exact below_read2 (HB.out.alloc (by omega) _ |>.trans (hb2.mono (by simp; omega))) _ _ _ _ _

set_option maxHeartbeats 8000000 in
set_option maxRecDepth 100000 in
theorem read4_sub (HLT : LettersSaid) (s : ByteArray) (w : World) (hs : s.size ≤ 4194304) (k a b t : List UInt8) (hw : cutL 32 s.data.toList = [k, a, b, t]) (hdone : (k == [100, 111, 110, 101]) = false) (hsub : (k == [115, 117, 98]) = true) :
    Calls Tryz.prog 15 #[.string s] w (ReadPost s.data.toList w) := by
  have HR : Hid (readL s.data.toList = readW [k, a, b, t]) := congrArg readW hw
  have hsm := cut_small (c := 32) hs
  rw [hw] at hsm
  have la : (⟨a.toArray⟩ : ByteArray).size ≤ 4194304 := hsm a (by simp)
  have lb : (⟨b.toArray⟩ : ByteArray).size ≤ 4194304 := hsm b (by simp)
  have lt : (⟨t.toArray⟩ : ByteArray).size ≤ 4194304 := hsm t (by simp)
  have HCUT : Hid (∀ w : World, Calls Tryz.prog 32 #[.string s, .int .u8 32] w fun e w' => ∃ g cap, e = .returned (.slice (some ⟨g, 0, none⟩) 4 cap) ∧ w.heap.size ≤ g ∧
      w'.ownsRow w.heap.size 9 1 (.slice (some ⟨g, 0, none⟩) 4 cap) 4 (strs [k, a, b, t]) ∧ Below w.heap.size w w') := by
    intro w
    have h := cut_any s 32 w hs
    rw [hw] at h
    exact h
  clear hw hsm
  obtain ⟨na, ba, hna⟩ : ∃ nn xx, numL a = (nn, xx) := ⟨_, _, rfl⟩
  have HNa : Hid (numL a = (na, ba)) := hna
  have HCa : Hid (∀ w : World, Calls Tryz.prog 33 #[.string ⟨a.toArray⟩] w fun e w' => e = .returned (.tuple #[.int .i64 na, .bool ba]) ∧ w' = w) := by
    intro w
    have h := number_any ⟨a.toArray⟩ w la
    have e : (⟨a.toArray⟩ : ByteArray).data.toList = a := rfl
    rw [e, hna] at h
    exact h
  clear hna
  obtain ⟨tb, htb⟩ : ∃ x, tenL b = x := ⟨_, rfl⟩
  have HTb : Hid (tenL b = tb) := htb
  have HWb : Hid (∀ w : World, Calls Tryz.prog 35 #[.string ⟨b.toArray⟩] w fun e w' => e = .returned (.bool tb) ∧ Below w.heap.size w w') := by
    intro w
    have h := tenant_any HLT ⟨b.toArray⟩ w lb
    have e : (⟨b.toArray⟩ : ByteArray).data.toList = b := rfl
    rw [e, htb] at h
    exact h
  clear htb
  obtain ⟨tt, htt⟩ : ∃ x, txtL t = x := ⟨_, rfl⟩
  have HTt : Hid (txtL t = tt) := htt
  have HWt : Hid (∀ w : World, Calls Tryz.prog 34 #[.string ⟨t.toArray⟩] w fun e w' => e = .returned (.bool tt) ∧ Below w.heap.size w w') := by
    intro w
    have h := text_any HLT ⟨t.toArray⟩ w lt
    have e : (⟨t.toArray⟩ : ByteArray).data.toList = t := rfl
    rw [e, htt] at h
    exact h
  clear htt
  go_enter Tryz.func15, Tryz.ntmps15
  go_wp2_with fail
  refine (HCUT.out _).mono ?_
  rintro e w1 ⟨g, cap, rfl, hg, hown, hb1⟩
  have c0 : w1.cell? ⟨g, 0, none⟩ = some (.string ⟨k.toArray⟩) := str_cell hown (k := 0) (by simp) rfl
  have c1 : w1.cell? ⟨g, 1, none⟩ = some (.string ⟨a.toArray⟩) := str_cell hown (k := 1) (by simp) rfl
  have c2 : w1.cell? ⟨g, 2, none⟩ = some (.string ⟨b.toArray⟩) := str_cell hown (k := 2) (by simp) rfl
  have c3 : w1.cell? ⟨g, 3, none⟩ = some (.string ⟨t.toArray⟩) := str_cell hown (k := 3) (by simp) rfl
  have hgl : g < w1.heap.size := (hown.lt g rfl).2
  have hz1 := hb1.size
  simp only [World.size_alloc] at hz1 hg
  have hwl : w.heap.size < w1.heap.size := by omega
  have hne : w.heap.size ≠ g := by omega
  clear hz1
  have r0 : w1.cell? ⟨w.heap.size, 0, none⟩ = some (.string ⟨#[]⟩) := by rw [hb1.cell (p := ⟨w.heap.size, 0, none⟩) (by simp), World.cell?_alloc_at _ _ _ _ rfl]; rfl
  have r1 : w1.cell? ⟨w.heap.size, 1, none⟩ = some (.int .i64 0) := by rw [hb1.cell (p := ⟨w.heap.size, 1, none⟩) (by simp), World.cell?_alloc_at _ _ _ _ rfl]; rfl
  have r2 : w1.cell? ⟨w.heap.size, 2, none⟩ = some (.int .i64 0) := by rw [hb1.cell (p := ⟨w.heap.size, 2, none⟩) (by simp), World.cell?_alloc_at _ _ _ _ rfl]; rfl
  have r3 : w1.cell? ⟨w.heap.size, 3, none⟩ = some (.string ⟨#[]⟩) := by rw [hb1.cell (p := ⟨w.heap.size, 3, none⟩) (by simp), World.cell?_alloc_at _ _ _ _ rfl]; rfl
  have r4 : w1.cell? ⟨w.heap.size, 4, none⟩ = some (.string ⟨#[]⟩) := by rw [hb1.cell (p := ⟨w.heap.size, 4, none⟩) (by simp), World.cell?_alloc_at _ _ _ _ rfl]; rfl
  have f0 : w1.frozen? ⟨w.heap.size, 0, none⟩ = false := by rw [hb1.frozen (p := ⟨w.heap.size, 0, none⟩) (by simp), World.frozen?_alloc_at _ _ _ _ rfl]
  have f1 : w1.frozen? ⟨w.heap.size, 1, none⟩ = false := by rw [hb1.frozen (p := ⟨w.heap.size, 1, none⟩) (by simp), World.frozen?_alloc_at _ _ _ _ rfl]
  have f2 : w1.frozen? ⟨w.heap.size, 2, none⟩ = false := by rw [hb1.frozen (p := ⟨w.heap.size, 2, none⟩) (by simp), World.frozen?_alloc_at _ _ _ _ rfl]
  have f3 : w1.frozen? ⟨w.heap.size, 3, none⟩ = false := by rw [hb1.frozen (p := ⟨w.heap.size, 3, none⟩) (by simp), World.frozen?_alloc_at _ _ _ _ rfl]
  have f4 : w1.frozen? ⟨w.heap.size, 4, none⟩ = false := by rw [hb1.frozen (p := ⟨w.heap.size, 4, none⟩) (by simp), World.frozen?_alloc_at _ _ _ _ rfl]
  have HB : Hid (Below w.heap.size w w1) := ((Below.refl _ _).alloc (Nat.le_refl _) _).trans (hb1.mono (by simp))
  clear hown hb1 hg
  go_wp2_with fail
  refine (HCa.out _).mono ?_
  rintro e w' ⟨rfl, rfl⟩
  cases ba
  · go_wp2
    refine bodyPost_ret (v := .tuple #[.agg (Mg.cs ⟨k, na, 0, b, t⟩), .bool false]) (by simp [results, Tryz.results15, go_sem, Mg.cs, *]) rfl ⟨ret_read (by rw [HR.out]; rw [readW, if_neg (show ¬ k = kDone from by simpa [kDone] using hdone), if_pos (show k = kSub from by simpa [kSub] using hsub), HNa.out, HTb.out, HTt.out]; rfl), ?_⟩
    exact below_read HB.out (by omega) _ _ _ _ _ _
  go_wp2_with fail
  refine (HWb.out _).mono ?_
  rintro e w2 ⟨rfl, hb2⟩
  obtain ⟨hc2, hf2⟩ := bcell hb2
  have hz2 := hb2.size
  try simp only [World.size_alloc] at hc2 hf2 hz2
  have hwl2 : w.heap.size < w2.heap.size := by omega
  have hgl2 : g < w2.heap.size := by omega
  have hml2 : w1.heap.size < w2.heap.size := by omega
  have hwl2' : w.heap.size < w1.heap.size + 1 := by omega
  have hgl2' : g < w1.heap.size + 1 := by omega
  have hml2' : w1.heap.size < w1.heap.size + 1 := by omega
  cases tb
  · go_wp2
    refine bodyPost_ret (v := .tuple #[.agg (Mg.cs ⟨k, na, 0, b, t⟩), .bool false]) (by simp [results, Tryz.results15, go_sem, Mg.cs, *]) rfl ⟨ret_read (by rw [HR.out]; rw [readW, if_neg (show ¬ k = kDone from by simpa [kDone] using hdone), if_pos (show k = kSub from by simpa [kSub] using hsub), HNa.out, HTb.out, HTt.out]; rfl), ?_⟩
    exact below_read2 (HB.out.alloc (by omega) _ |>.trans (hb2.mono (by simp; omega))) _ _ _ _ _
  go_wp2_with fail
  refine (HWt.out _).mono ?_
  rintro e w3 ⟨rfl, hb3⟩
  obtain ⟨hc3, hf3⟩ := bcell hb3
  have hz3 := hb3.size
  try simp only [World.size_alloc] at hc3 hf3 hz3
  have hwl3 : w.heap.size < w3.heap.size := by omega
  have hgl3 : g < w3.heap.size := by omega
  have hml3 : w1.heap.size < w3.heap.size := by omega
  have hwl3' : w.heap.size < w1.heap.size + 1 := by omega
  have hgl3' : g < w1.heap.size + 1 := by omega
  have hml3' : w1.heap.size < w1.heap.size + 1 := by omega
  go_wp2
  refine bodyPost_ret (v := .tuple #[.agg (Mg.cs ⟨k, na, 0, b, t⟩), .bool tt]) (by simp [results, Tryz.results15, go_sem, Mg.cs, *]) rfl ⟨ret_read (by rw [HR.out]; rw [readW, if_neg (show ¬ k = kDone from by simpa [kDone] using hdone), if_pos (show k = kSub from by simpa [kSub] using hsub), HNa.out, HTb.out, HTt.out]; rfl), ?_⟩
  exact below_read2 ((HB.out.alloc (by omega) _ |>.trans (hb2.mono (by simp; omega))).trans (hb3.mono (by omega))) _ _ _ _ _
end Go.Proofs.YtjkenehiojbmiaaGreatDoor.Msg
namespace Go.Proofs.YtjkenehiojbmiaaGreatDoor.Msg
open Go.RowKit

set_option maxHeartbeats 8000000 in
set_option maxRecDepth 100000 in
theorem read5 (s : ByteArray) (w : World) (hs : s.size ≤ 4194304) (k a b c d : List UInt8) (r : List (List UInt8)) (hw : cutL 32 s.data.toList = k :: a :: b :: c :: d :: r) :
    Calls Tryz.prog 15 #[.string s] w (ReadPost s.data.toList w) := by
  have HR : Hid (readL s.data.toList = readW (k :: a :: b :: c :: d :: r)) := congrArg readW hw
  obtain ⟨n, hn⟩ : ∃ n, (cutL 32 s.data.toList).length = n := ⟨_, rfl⟩
  have hn5 : 5 ≤ n := by rw [← hn, hw]; simp
  have HCUT : Hid (∀ w : World, Calls Tryz.prog 32 #[.string s, .int .u8 32] w fun e w' => ∃ g cap, e = .returned (.slice (some ⟨g, 0, none⟩) n cap) ∧ w.heap.size ≤ g ∧
      w'.ownsRow w.heap.size 9 1 (.slice (some ⟨g, 0, none⟩) n cap) n (strs (k :: a :: b :: c :: d :: r)) ∧ Below w.heap.size w w') := by
    intro w
    have h := cut_any s 32 w hs
    rw [hn, hw] at h
    exact h
  have hlen : n = (k :: a :: b :: c :: d :: r).length := by rw [← hn, hw]
  have HLN : Hid (n = (k :: a :: b :: c :: d :: r).length) := hlen
  clear hw hn hlen
  have q1 : ((n : Int) == 1) = false := by rw [beq_eq_false_iff_ne]; omega
  have q2 : ((n : Int) == 2) = false := by rw [beq_eq_false_iff_ne]; omega
  have q3 : ((n : Int) == 3) = false := by rw [beq_eq_false_iff_ne]; omega
  have q4 : ((n : Int) == 4) = false := by rw [beq_eq_false_iff_ne]; omega
  go_enter Tryz.func15, Tryz.ntmps15
  go_wp2_with fail
  refine (HCUT.out _).mono ?_
  rintro e w1 ⟨g, cap, rfl, hg, hown, hb1⟩
  have c0 : w1.cell? ⟨g, 0, none⟩ = some (.string ⟨k.toArray⟩) := str_cell hown (k := 0) (by simp) HLN.out
  have hgl : g < w1.heap.size := (hown.lt g rfl).2
  have hz1 := hb1.size
  simp only [World.size_alloc] at hz1 hg
  have hwl : w.heap.size < w1.heap.size := by omega
  have hne : w.heap.size ≠ g := by omega
  clear hz1
  have r0 : w1.cell? ⟨w.heap.size, 0, none⟩ = some (.string ⟨#[]⟩) := by rw [hb1.cell (p := ⟨w.heap.size, 0, none⟩) (by simp), World.cell?_alloc_at _ _ _ _ rfl]; rfl
  have r1 : w1.cell? ⟨w.heap.size, 1, none⟩ = some (.int .i64 0) := by rw [hb1.cell (p := ⟨w.heap.size, 1, none⟩) (by simp), World.cell?_alloc_at _ _ _ _ rfl]; rfl
  have r2 : w1.cell? ⟨w.heap.size, 2, none⟩ = some (.int .i64 0) := by rw [hb1.cell (p := ⟨w.heap.size, 2, none⟩) (by simp), World.cell?_alloc_at _ _ _ _ rfl]; rfl
  have r3 : w1.cell? ⟨w.heap.size, 3, none⟩ = some (.string ⟨#[]⟩) := by rw [hb1.cell (p := ⟨w.heap.size, 3, none⟩) (by simp), World.cell?_alloc_at _ _ _ _ rfl]; rfl
  have r4 : w1.cell? ⟨w.heap.size, 4, none⟩ = some (.string ⟨#[]⟩) := by rw [hb1.cell (p := ⟨w.heap.size, 4, none⟩) (by simp), World.cell?_alloc_at _ _ _ _ rfl]; rfl
  have f0 : w1.frozen? ⟨w.heap.size, 0, none⟩ = false := by rw [hb1.frozen (p := ⟨w.heap.size, 0, none⟩) (by simp), World.frozen?_alloc_at _ _ _ _ rfl]
  have f1 : w1.frozen? ⟨w.heap.size, 1, none⟩ = false := by rw [hb1.frozen (p := ⟨w.heap.size, 1, none⟩) (by simp), World.frozen?_alloc_at _ _ _ _ rfl]
  have f2 : w1.frozen? ⟨w.heap.size, 2, none⟩ = false := by rw [hb1.frozen (p := ⟨w.heap.size, 2, none⟩) (by simp), World.frozen?_alloc_at _ _ _ _ rfl]
  have f3 : w1.frozen? ⟨w.heap.size, 3, none⟩ = false := by rw [hb1.frozen (p := ⟨w.heap.size, 3, none⟩) (by simp), World.frozen?_alloc_at _ _ _ _ rfl]
  have f4 : w1.frozen? ⟨w.heap.size, 4, none⟩ = false := by rw [hb1.frozen (p := ⟨w.heap.size, 4, none⟩) (by simp), World.frozen?_alloc_at _ _ _ _ rfl]
  have HB : Hid (Below w.heap.size w w1) := ((Below.refl _ _).alloc (Nat.le_refl _) _).trans (hb1.mono (by simp))
  clear hown hb1 hg
  go_wp2
  refine bodyPost_ret (v := .tuple #[.agg (Mg.cs ⟨k, 0, 0, [], []⟩), .bool false]) (by simp [results, Tryz.results15, go_sem, Mg.cs, *]) rfl ⟨ret_read (by rw [HR.out]; rfl), ?_⟩
  exact below_read HB.out (by omega) _ _ _ _ _ _
end Go.Proofs.YtjkenehiojbmiaaGreatDoor.Msg
namespace Go.Proofs.YtjkenehiojbmiaaGreatDoor.Msg
open Go.RowKit

theorem read_any (HLT : LettersSaid) (s : ByteArray) (w : World) (hs : s.size ≤ 4194304) :
    Calls Tryz.prog 15 #[.string s] w (ReadPost s.data.toList w) := by
  rcases hw : cutL 32 s.data.toList with _ | ⟨k, _ | ⟨a, _ | ⟨b, _ | ⟨t, _ | ⟨d, r⟩⟩⟩⟩⟩
  · exact absurd hw (cut_ne _ _)
  · cases h1 : (k == [112, 117, 108, 108])
    · cases h2 : (k == [98, 101, 97, 116])
      · cases h3 : (k == [100, 114, 97, 105, 110])
        · exact read1_other HLT s w hs k hw h1 h2 h3
        · exact read1_drain HLT s w hs k hw h1 h2 h3
      · exact read1_beat HLT s w hs k hw h1 h2
    · exact read1_pull HLT s w hs k hw h1
  · cases h1 : (k == [99, 97, 110])
    · exact read2_other HLT s w hs k a hw h1
    · exact read2_can HLT s w hs k a hw h1
  · cases h1 : (k == [102, 97, 105, 108])
    · exact read3_other HLT s w hs k a b hw h1
    · exact read3_fail HLT s w hs k a b hw h1
  · cases h1 : (k == [100, 111, 110, 101])
    · cases h2 : (k == [115, 117, 98])
      · exact read4_other HLT s w hs k a b t hw h1 h2
      · exact read4_sub HLT s w hs k a b t hw h1 h2
    · exact read4_done HLT s w hs k a b t hw h1
  · exact read5 s w hs k a b t d r hw
end Go.Proofs.YtjkenehiojbmiaaGreatDoor.Msg
