import Derived.Test.YtjkenehiojbmiaaGreatDoorOnly
import Derived.Test.YtjkenehiojbmiaaGreatDoorCut
namespace Go.Proofs.YtjkenehiojbmiaaGreatDoor.Mdl
open Go.RowKit Msg
attribute [local go_sem] Sums.setCell_drewN
attribute [local go_sem] Sums.alloc_drewN

/-- A connection, in the document's answer. -/
structure Cn where
  n : Int
  rest : List UInt8
  drains : Bool
  gone : Bool
def Cn.cs (c : Cn) : List Value := [.int .i64 c.n, .string ⟨c.rest.toArray⟩, .bool c.drains, .bool c.gone]
def cnRow (l : List Cn) : List Value := l.flatMap Cn.cs
theorem cnRow_len (l : List Cn) : (cnRow l).length = l.length * 4 := by
  induction l with
  | nil => rfl
  | cons c l ih => rw [cnRow, List.flatMap_cons, List.length_append]; show 4 + (cnRow l).length = _; rw [ih, List.length_cons]; omega
theorem cnRow_snoc (l : List Cn) (c : Cn) : cnRow (l ++ [c]) = cnRow l ++ c.cs := by simp [cnRow]
theorem cnRow_at (l : List Cn) (k j : Nat) (hk : k < l.length) (hj : j < 4) : (cnRow l)[k * 4 + j]? = (l[k]'hk).cs[j]? := by
  induction l generalizing k with
  | nil => simp at hk
  | cons c l ih =>
    rw [cnRow, List.flatMap_cons]
    match k with
    | 0 => rw [List.getElem?_append_left (by show 0 * 4 + j < 4; omega)]; simp
    | k + 1 =>
      rw [List.getElem?_append_right (by show 4 ≤ (k + 1) * 4 + j; omega)]
      have e : (k + 1) * 4 + j - c.cs.length = k * 4 + j := by show (k + 1) * 4 + j - 4 = _; omega
      rw [e]
      exact ih k (by simpa using hk)

/-- The model's block: ten cells of other things, the connections, what is said. -/
structure MV where
  c0 : Value
  c1 : Value
  c2 : Value
  c3 : Value
  c4 : Value
  c5 : Value
  c6 : Value
  c7 : Value
  c8 : Value
  c9 : Value
  cv : Value
  ov : Value
def MV.cs (m : MV) : Array Value := #[m.c0, m.c1, m.c2, m.c3, m.c4, m.c5, m.c6, m.c7, m.c8, m.c9, m.cv, m.ov]
def MBlk (w : World) (p : Nat) (m : MV) : Prop := w.heap[p]? = some (.cells m.cs 80 (0, 0))
theorem MBlk.cell {w : World} {p : Nat} {m : MV} (h : MBlk w p m) (j : Nat) : w.cell? ⟨p, j, none⟩ = m.cs[j]? := by
  unfold MBlk at h; simp only [World.cell?, h]; rfl
theorem MBlk.frozen {w : World} {p : Nat} {m : MV} (h : MBlk w p m) (j : Nat) : w.frozen? ⟨p, j, none⟩ = false := by
  unfold MBlk at h; simp only [World.frozen?, h]; simp
theorem MBlk.lt {w : World} {p : Nat} {m : MV} (h : MBlk w p m) : p < w.heap.size := (Array.getElem?_eq_some_iff.1 h).1
theorem MBlk.setCv {w : World} {p : Nat} {m : MV} (h : MBlk w p m) (v : Value) : MBlk (w.setCell ⟨p, 10, none⟩ v) p { m with cv := v } :=
  heap_setCell_same w p 10 m.cs _ v h
theorem MBlk.setOv {w : World} {p : Nat} {m : MV} (h : MBlk w p m) (v : Value) : MBlk (w.setCell ⟨p, 11, none⟩ v) p { m with ov := v } :=
  heap_setCell_same w p 11 m.cs _ v h
theorem MBlk.only {w w' : World} {p : Nat} {m : MV} {S : Nat → Prop} (h : MBlk w p m) (ho : Only S w w') (hn : ¬ S p) : MBlk w' p m := by
  unfold MBlk; rw [ho.block p h.lt hn]; exact h

/-- The first connection of that number. -/
def ixOf (c : Int) (l : List Cn) : Nat := l.findIdx (fun x => x.n == c)
/-- With it, made if need be. -/
def withC (c : Int) (l : List Cn) : List Cn := if ixOf c l < l.length then l else l ++ [⟨c, [], false, false⟩]

theorem infoCn : (Tryz.prog.info? 99).map (fun i => (i.zero, i.size, i.bytes)) = some (some (.agg #[.int .i64 0, .string ⟨#[]⟩, .bool false, .bool false]), 4, 32) := by kernel_rfl

theorem cn_cell {w : World} {base g cap n : Nat} {l : List Cn} (h : w.ownsRow base 99 4 (.slice (some ⟨g, 0, none⟩) n cap) n (cnRow l)) {k j : Nat} (hk : k < l.length) (hj : j < 4) (hn : n = l.length) :
    w.cell? ⟨g, k * 4 + j, none⟩ = (l[k]'hk).cs[j]? := by
  subst hn
  rw [h.cellAt (k * 4 + j) (by omega), cnRow_at l k j hk hj]

theorem ix_hit {c : Int} {l : List Cn} {k : Nat} (hk : k < l.length) (hq : ((l[k]'hk).n == c) = true) (hi : k ≤ ixOf c l) : ixOf c l = k ∧ withC c l = l := by
  have e : ixOf c l = k := by
    rcases Nat.lt_or_eq_of_le hi with h | h
    · exact absurd hq (by simpa using List.not_of_lt_findIdx h)
    · exact h.symm
  exact ⟨e, by unfold withC; rw [e, if_pos hk]⟩
theorem ix_miss {c : Int} {l : List Cn} {k : Nat} (hk : k < l.length) (hq : ((l[k]'hk).n == c) = false) (hi : k ≤ ixOf c l) : k + 1 ≤ ixOf c l := by
  rcases Nat.lt_or_eq_of_le hi with h | h
  · exact h
  · exfalso
    have hlt : List.findIdx (fun x : Cn => x.n == c) l < l.length := by show ixOf c l < _; omega
    have h2 := List.findIdx_getElem (w := hlt)
    have h3 : ((l[ixOf c l]'hlt).n == c) = true := h2
    simp only [← h] at h3
    rw [hq] at h3
    cases h3
theorem ix_end {c : Int} {l : List Cn} (hi : l.length ≤ ixOf c l) : ixOf c l = l.length ∧ withC c l = l ++ [⟨c, [], false, false⟩] := by
  have h : ixOf c l ≤ l.length := List.findIdx_le_length
  exact ⟨by omega, by unfold withC; rw [if_neg (by omega)]⟩

theorem ret_ptr {g a b : Nat} (h : a = b) : Ending.returned (.pointer (some ⟨g, a, none⟩)) = .returned (.pointer (some ⟨g, b, none⟩)) := by rw [h]
/-- What conn leaves. -/
def ConnPost (p : Nat) (c : Int) (m : MV) (l : List Cn) (w : World) (e : Ending) (w' : World) : Prop :=
  ∃ g cap, e = .returned (.pointer (some ⟨g, ixOf c l * 4, none⟩)) ∧
      MBlk w' p { m with cv := .slice (some ⟨g, 0, none⟩) (withC c l).length cap } ∧ w'.ownsRow 0 99 4 (.slice (some ⟨g, 0, none⟩) (withC c l).length cap) (withC c l).length (cnRow (withC c l)) ∧
      (m.cv.ownBlock = some g ∨ w.heap.size ≤ g) ∧ Only (fun b => b = p ∨ m.cv.ownBlock = some b) w w'

set_option maxHeartbeats 1000000 in
theorem conn_any (p : Nat) (c : Int) (m : MV) (l : List Cn) (w : World) (hm : MBlk w p m) (hown : w.ownsRow 0 99 4 m.cv l.length (cnRow l)) (hne : m.cv.ownBlock ≠ some p) (hlen : l.length ≤ 4194304) :
    Calls Tryz.prog 46 #[.pointer (some ⟨p, 0, none⟩), .int .i64 c] w (ConnPost p c m l w) := by
  obtain ⟨i0, hi, hz0, hz1, hz2⟩ := info_parts infoCn
  have c10 : w.cell? ⟨p, 10, none⟩ = some m.cv := hm.cell 10
  have f10 : w.frozen? ⟨p, 10, none⟩ = false := hm.frozen 10
  have hplt := hm.lt
  obtain ⟨ao, cap, hcv, hao⟩ : ∃ ao cap, m.cv = .slice ao l.length cap ∧ (0 < l.length → ∃ g, ao = some ⟨g, 0, none⟩) := by
    rcases hown.2 with ⟨h, h0⟩ | ⟨g, cap, cur, h, _⟩
    · exact ⟨none, 0, by rw [h, h0], fun hh => absurd hh (by omega)⟩
    · exact ⟨_, cap, h, fun _ => ⟨g, rfl⟩⟩
  rw [hcv] at c10 hown
  have HM : Hid (MBlk w p m) := hm
  have HCV : Hid (m.cv = .slice ao l.length cap) := hcv
  have HAO : Hid (0 < l.length → ∃ g, ao = some ⟨g, 0, none⟩) := hao
  have HNE : Hid (m.cv.ownBlock ≠ some p) := hne
  clear hm hcv hao hne
  go_enter Tryz.func46, Tryz.ntmps46
  go_wp2
  go_loop [11] (fun i => ∃ k : Nat, k ≤ l.length ∧ i = .int .i64 k ∧ Hid (k ≤ ixOf c l)) (fun i => l.length - (intOf i).toNat)
  case atStart => exact ⟨0, Nat.zero_le _, rfl, Nat.zero_le _⟩
  case round =>
    obtain ⟨k, hk, rfl, HI⟩ := hrel
    by_cases hlt : k < l.length
    · obtain ⟨g, rfl⟩ := HAO.out (by omega)
      have hc := cn_cell hown (k := k) (j := 0) hlt (by omega) rfl
      have hc' : w.cell? ⟨g, k * 4, none⟩ = some (.int .i64 (l[k]'hlt).n) := hc
      clear hc
      cases hq : ((l[k]'hlt).n == c)
      · have HI' : Hid (k + 1 ≤ ixOf c l) := ix_miss hlt hq HI.out
        go_wp2
        go_round
        case rel => exact ⟨k + 1, by omega, by go_num, HI'⟩
        case measure => simp [intOf]; omega
      · have HX : Hid (ixOf c l = k ∧ withC c l = l) := ix_hit hlt hq HI.out
        go_wp2
        go_ret
        obtain ⟨e1, e2⟩ := HX.out
        refine ⟨g, cap, ret_ptr (by rw [e1]), ?_, by rw [e2]; exact hown, Or.inl (by rw [HCV.out]; rfl), Only.refl _ _⟩
        rw [e2, ← HCV.out]
        exact HM.out
    · obtain rfl : k = l.length := by omega
      have HX : Hid (ixOf c l = l.length ∧ withC c l = l ++ [⟨c, [], false, false⟩]) := ix_end HI.out
      go_wp2_with (at_builtin; go_must (refine wpList_append_lies _ rfl _ _ 78 rfl 0 99 i0 (.agg #[.int .i64 0, .string ⟨#[]⟩, .bool false, .bool false]) 4 32 Tryz.underlying78 hi hz0 hz1 hz2 rfl (by decide) _ _ _ rfl (hown.alloc _) ⟨w.heap.size, 0, none⟩ 1 1 [.int .i64 c, .string ⟨#[]⟩, .bool false, .bool false] rfl rfl ?c1 ?c2 (by decide) ?c3 ?c4 ?c5 (w.heap.size + 1) (by simp) ?main))
      case c2 => exact ⟨rfl, rfl, rfl⟩
      case c3 => unfold maxLen; omega
      case c4 => omega
      case main =>
        intro g1 cap1 w1 hown1 hgrow hat hlt1
        have O1 : Only (fun b => b = p ∨ m.cv.ownBlock = some b) w w1 := ((Only.refl _ w).alloc _).grown hgrow (fun k _ e => Or.inr (by rw [HCV.out]; exact e))
        have M1 : MBlk w1 p m := by
          have h0 : Only (fun b => m.cv.ownBlock = some b) w w1 := ((Only.refl _ w).alloc _).grown hgrow (fun k _ e => by rw [HCV.out]; exact e)
          exact HM.out.only h0 HNE.out
        have c10' := M1.cell 10
        have f10' := M1.frozen 10
        have c10'' : w1.cell? ⟨p, 10, none⟩ = some (.slice ao l.length cap) := by rw [c10', ← HCV.out]; rfl
        have cn : (w1.setCell ⟨p, 10, none⟩ (.slice (some ⟨g1, 0, none⟩) (l.length + 1) cap1)).cell? ⟨p, 10, none⟩ = some (.slice (some ⟨g1, 0, none⟩) (l.length + 1) cap1) := World.cell?_setCell_same _ _ _ c10''
        have hgp : g1 ≠ p := by
          rcases hat with h | h
          · intro e; subst e; exact HNE.out (by rw [HCV.out]; exact h)
          · omega
        have M2 : Hid (MBlk (w1.setCell ⟨p, 10, none⟩ (.slice (some ⟨g1, 0, none⟩) (l.length + 1) cap1)) p { m with cv := .slice (some ⟨g1, 0, none⟩) (l.length + 1) cap1 }) := M1.setCv _
        have R2 : Hid ((w1.setCell ⟨p, 10, none⟩ (.slice (some ⟨g1, 0, none⟩) (l.length + 1) cap1)).ownsRow 0 99 4 (.slice (some ⟨g1, 0, none⟩) (l.length + 1) cap1) (l.length + 1) (cnRow l ++ [.int .i64 c, .string ⟨#[]⟩, .bool false, .bool false])) := by
          have o : Only (fun b => b = p) w1 (w1.setCell ⟨p, 10, none⟩ (.slice (some ⟨g1, 0, none⟩) (l.length + 1) cap1)) := (Only.refl _ _).setCell _ _ (fun _ => rfl)
          exact o.row hown1 (fun k e => by cases e; exact hgp)
        have O2 : Hid (Only (fun b => b = p ∨ m.cv.ownBlock = some b) w (w1.setCell ⟨p, 10, none⟩ (.slice (some ⟨g1, 0, none⟩) (l.length + 1) cap1))) := O1.setCell _ _ (fun _ => Or.inl rfl)
        have HAT : Hid ((Value.slice ao l.length cap).ownBlock = some g1 ∨ g1 = w.heap.size + 1) := hat
        clear O1 M1 c10' hown1 hgrow hat hown c10
        go_wp2
        go_quiet (fail)
        go_wp2
        go_ret
        obtain ⟨e1, e2⟩ := HX.out
        refine ⟨g1, cap1, ret_ptr (by rw [e1]), ?_, ?_, ?_, O2.out.drewN _⟩
        · rw [e2, List.length_append]; exact M2.out
        · rw [e2, List.length_append, cnRow_snoc]; exact R2.out
        · rcases HAT.out with h | h
          · left; rw [HCV.out]; exact h
          · right; omega
end Go.Proofs.YtjkenehiojbmiaaGreatDoor.Mdl
