import Derived.Test.YtjkenehiojbmiaaGreatDoorSayX
import Derived.Test.YtjkenehiojbmiaaGreatDoorOpenX
import Derived.Test.YtjkenehiojbmiaaGreatDoorFitting
namespace Go.Proofs.YtjkenehiojbmiaaGreatDoor.Sums
open Go.RowKit Msg Mdl
attribute [local go_sem] setCell_drewN
attribute [local go_sem] alloc_drewN

theorem part_cell (w : World) (t : TypeId) : (w.alloc (.cells #[.iface 9 (.string ⟨#[98, 97, 100]⟩)] t)).cell? ⟨w.heap.size, 0, none⟩ = some (.iface 9 (.string ⟨#[98, 97, 100]⟩)) := by rw [cell_new]; rfl

set_option maxHeartbeats 4000000 in
set_option maxRecDepth 100000 in
/-- A line that is no message is told as bad. -/
theorem handle_bad {base : Nat} {w00 : World} (L : LibAt base w00) (q : Nat) (c : Int) (s : ByteArray) (l : List (Int × List UInt8)) (v : Value) (w : World) (hb : Below base w00 w) (hB : base ≤ w.heap.size) (hs : s.size ≤ 4194304) (ht : TBlk w q v) (hown : w.ownsRow 0 64 2 v l.length (outRow l)) (hne : v.ownBlock ≠ some q) (hlen : l.length ≤ 4194304) (hno : isMsg s.data.toList = false) :
    Calls Tryz.prog 43 #[.pointer (some ⟨q, 0, none⟩), .int .i64 c, .string s] w (SayXPost q l (c, bad) v w) := by
  have HOP := openX_any s w hs
  have hol := open_len hs
  unfold isMsg at hno
  have HS : Hid (∀ w1 pb, Below w.heap.size w w1 → w1.cell? ⟨pb, 0, none⟩ = some (.iface 9 (.string ⟨#[98, 97, 100]⟩)) → pb < w1.heap.size → Calls Tryz.prog 69 #[.pointer (some ⟨q, 0, none⟩), .int .i64 c, .slice (some ⟨pb, 0, none⟩) 1 1] w1 (SayXPost q l (c, bad) v w)) := fun w1 pb hb1 hc hl => by
    have o : Only (fun _ => False) w w1 := (Only.refl _ w).below hb1
    refine (sayX_any q pb c l v w1 (ht.only o (fun h => h)) (o.row hown (fun _ _ h => h)) hne hlen hc hl).mono ?_
    rintro e w' ⟨g, cap, rfl, h1, h2, h3, h4⟩
    have := hb1.size
    exact ⟨g, cap, rfl, h1, h2, h3.elim Or.inl (fun h => Or.inr (by omega)), (o.mono (fun _ _ h => h.elim)).trans h4 (fun _ _ h => h)⟩
  have HI : Hid (∀ w1, Below w.heap.size w w1 → Calls Tryz.prog 68 #[.string ⟨(openS s.data.toList).toArray⟩] w1 (IsPost (openS s.data.toList) w1)) := fun w1 hb1 => by
    have := is_any L ⟨(openS s.data.toList).toArray⟩ w1 (by simpa [ByteArray.size] using hol) (hb.trans (hb1.mono hB)) (by have := hb1.size; omega)
    simpa using this
  have HNO : Hid ((openB s.data.toList && (readL (openS s.data.toList)).2) = false) := hno
  clear hno ht hown hne
  go_enter Tryz.func43, Tryz.ntmps43
  go_wp2_with fail
  refine HOP.mono ?_
  rintro e w1 ⟨rfl, hb1⟩
  clear HOP hol
  have hz1 := hb1.size
  generalize openS s.data.toList = t at *
  generalize openB s.data.toList = b at *
  cases b
  · clear HI HNO
    go_wp2_with fail
    refine (HS.out _ _ (hb1.alloc hz1 _) (part_cell _ _) (by simp)).mono ?_
    rintro e w2 ⟨g, cap, rfl, h1, h2, h3, h4⟩
    have HF : Hid (SayXPost q l (c, bad) v w (.returned (.tuple #[])) w2) := ⟨g, cap, rfl, h1, h2, h3, h4⟩
    clear h1 h2 h3 h4 HS
    go_wp2
    go_end0
    exact HF.out
  · go_wp2_with fail
    refine (HI.out _ hb1).mono ?_
    rintro e w2 ⟨r, rfl, hr, hb2⟩
    have : r = false := by
      cases r
      · rfl
      · have := HNO.out; rw [hr rfl] at this; cases this
    subst this
    go_wp2_with fail
    have hB2 : Below w.heap.size w w2 := hb1.trans (hb2.mono hz1)
    refine (HS.out _ _ (hB2.alloc hB2.size _) (part_cell _ _) (by simp)).mono ?_
    rintro e w3 ⟨g, cap, rfl, h1, h2, h3, h4⟩
    have HF : Hid (SayXPost q l (c, bad) v w (.returned (.tuple #[])) w3) := ⟨g, cap, rfl, h1, h2, h3, h4⟩
    clear h1 h2 h3 h4 HS HI HNO
    go_wp2
    go_end0
    exact HF.out
end Go.Proofs.YtjkenehiojbmiaaGreatDoor.Sums
