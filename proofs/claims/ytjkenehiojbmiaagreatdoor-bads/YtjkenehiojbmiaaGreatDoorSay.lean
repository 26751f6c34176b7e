import Derived.Test.YtjkenehiojbmiaaGreatDoorConn
import Derived.Deep.RegionWith
import Derived.Deep.RegionLaw
namespace Go.Proofs.YtjkenehiojbmiaaGreatDoor.Mdl
open Go.RowKit Msg
attribute [local go_sem] Sums.setCell_drewN
attribute [local go_sem] Sums.alloc_drewN

/-- What is said: to whom, a line. -/
def outRow (l : List (Int × List UInt8)) : List Value := l.flatMap fun x => [.int .i64 x.1, .string ⟨x.2.toArray⟩]
theorem outRow_len (l : List (Int × List UInt8)) : (outRow l).length = l.length * 2 := by
  induction l with
  | nil => rfl
  | cons c l ih => rw [outRow, List.flatMap_cons, List.length_append]; show 2 + (outRow l).length = _; rw [ih, List.length_cons]; omega
theorem outRow_snoc (l : List (Int × List UInt8)) (x : Int × List UInt8) : outRow (l ++ [x]) = outRow l ++ [.int .i64 x.1, .string ⟨x.2.toArray⟩] := by simp [outRow]
theorem infoOut : (Tryz.prog.info? 64).map (fun i => (i.zero, i.size, i.bytes)) = some (some (.agg #[.int .i64 0, .string ⟨#[]⟩]), 2, 24) := by kernel_rfl

def SayPost (p : Nat) (m : MV) (l : List (Int × List UInt8)) (x : Int × List UInt8) (w : World) (e : Ending) (w' : World) : Prop :=
  ∃ g cap, e = .returned (.tuple #[]) ∧ MBlk w' p { m with ov := .slice (some ⟨g, 0, none⟩) (l.length + 1) cap } ∧
    w'.ownsRow 0 64 2 (.slice (some ⟨g, 0, none⟩) (l.length + 1) cap) (l.length + 1) (outRow (l ++ [x])) ∧ (m.ov.ownBlock = some g ∨ w.heap.size ≤ g) ∧ Only (fun b => b = p ∨ m.ov.ownBlock = some b) w w'

theorem say_fin {p g1 cap1 : Nat} {m : MV} {l : List (Int × List UInt8)} {x : Int × List UInt8} {w w1 w2 : World} {ov : Value} {o : Obj} (hm : MBlk w p m) (hov : m.ov = ov) (hne : ov.ownBlock ≠ some p) (hb1 : Below w.drew.heap.size w.drew w1)
    (hown2 : w2.ownsRow 0 64 2 (.slice (some ⟨g1, 0, none⟩) (l.length + 1) cap1) (l.length + 1) (outRow l ++ [.int .i64 x.1, .string ⟨x.2.toArray⟩])) (hgrow : (w1.alloc o).grownBy w2 ov.ownBlock) (hat : ov.ownBlock = some g1 ∨ g1 = w1.heap.size + 1) :
    SayPost p m l x w (.returned (.tuple #[])) (w2.setCell ⟨p, 11, none⟩ (.slice (some ⟨g1, 0, none⟩) (l.length + 1) cap1)) := by
  subst hov
  have hplt := hm.lt
  have hz1 : w.heap.size ≤ w1.heap.size := hb1.size
  have O1 : Only (fun b => m.ov.ownBlock = some b) w w2 := ((((Only.refl _ w).drew).below hb1).alloc _).grown hgrow (fun k _ e => e)
  have M1 : MBlk w2 p m := hm.only O1 hne
  have hgp : g1 ≠ p := by
    rcases hat with h | h
    · intro e; subst e; exact hne h
    · omega
  have o : Only (fun b => b = p) w2 (w2.setCell ⟨p, 11, none⟩ (.slice (some ⟨g1, 0, none⟩) (l.length + 1) cap1)) := (Only.refl _ _).setCell _ _ (fun _ => rfl)
  refine ⟨g1, cap1, rfl, M1.setOv _, ?_, ?_, ?_⟩
  · rw [outRow_snoc]; exact o.row hown2 (fun k e => by cases e; exact hgp)
  · rcases hat with h | h
    · exact Or.inl h
    · right; omega
  · exact (O1.mono (fun k _ h => Or.inr h)).setCell _ _ (fun _ => Or.inl rfl)

set_option maxHeartbeats 4000000 in
set_option maxRecDepth 100000 in
theorem say_any (p : Nat) (c : Int) (s : ByteArray) (m : MV) (l : List (Int × List UInt8)) (w : World) (hm : MBlk w p m) (hown : w.ownsRow 0 64 2 m.ov l.length (outRow l)) (hne : m.ov.ownBlock ≠ some p) (hlen : l.length ≤ 4194304) (hs : s.size ≤ 1048576) :
    Calls Tryz.prog 50 #[.pointer (some ⟨p, 0, none⟩), .int .i64 c, .string s] w (SayPost p m l (c, Sums.line s.data.toList) w) := by
  obtain ⟨i0, hi, hz0, hz1, hz2⟩ := info_parts infoOut
  have c11 : w.cell? ⟨p, 11, none⟩ = some m.ov := hm.cell 11
  have f11 : w.frozen? ⟨p, 11, none⟩ = false := hm.frozen 11
  have hplt := hm.lt
  have HM : Hid (MBlk w p m) := hm
  have HNE : Hid (m.ov.ownBlock ≠ some p) := hne
  clear hm hne
  generalize hov : m.ov = ov at *
  have HOV : Hid (m.ov = ov) := hov
  clear hov
  have HSL : Hid ((Sums.line s.data.toList) = (Sums.line s.data.toList)) := rfl
  go_enter Tryz.func50, Tryz.ntmps50
  go_wp2_with fail
  go_region_law (first
      | (refine step_append_lies _ (by rfl) _ _ _ (by rfl) 0 64 i0 _ 2 24 Tryz.underlying54 hi hz0 hz1 hz2 rfl (by omega) ov l.length (outRow l) (by rfl) (((show Only (fun _ => False) w.drew w1 from (Only.refl _ w.drew).below hb1).row hown.drew (fun _ _ h => h)).alloc _)
          ⟨w1.heap.size, 0, none⟩ 1 1 [.int .i64 c, .string ⟨(Sums.line s.data.toList).toArray⟩] (by rfl) (by rfl) (World.news_of_block (cs := #[.int .i64 c, .string ⟨(Sums.line s.data.toList).toArray⟩]) (t := 64) (fr := (0, 0)) (heap_alloc_new w1 _)) (by simp [Value.oneCell'])
          (by omega) (by unfold maxLen; omega) (by omega) (by simp) (w1.heap.size + 1) (by simp) ?_; intro g1 cap1 w2 hown2 hgrow hat hlt2; have hc2 : w2.cell? ⟨p, 11, none⟩ = some ov := (by rw [hgrow.cell_far _ (by simp; omega) (Ne.symm HNE.out), World.cell?_alloc_past _ _ _ hpl1]; exact hc1); have hf2 : w2.frozen? ⟨p, 11, none⟩ = false := (by rw [hgrow.frozen_far _ (by simp; omega) (Ne.symm HNE.out), World.frozen?_alloc_past _ _ _ hpl1]; exact hf1))
      | (go_simp; go_at_call 20; refine (Sums.sealed_any s _ hs).mono ?_; rintro e w1 ⟨rfl, hb1⟩; have hpl1 : p < w1.heap.size := Nat.lt_of_lt_of_le hplt hb1.size; have hc1 : w1.cell? ⟨p, 11, none⟩ = some ov := (by rw [hb1.cell (p := ⟨p, 11, none⟩) hplt]; exact c11); have hf1 : w1.frozen? ⟨p, 11, none⟩ = false := (by rw [hb1.frozen (p := ⟨p, 11, none⟩) hplt]; exact f11)))
  all_goals
    go_end0
    exact say_fin HM.out HOV.out HNE.out hb1 hown2 hgrow hat
end Go.Proofs.YtjkenehiojbmiaaGreatDoor.Mdl
