import Derived.Test.YtjkenehiojbmiaaGreatDoorCons
import Derived.Test.YtjkenehiojbmiaaGreatDoorShelfB
import Derived.Test.YtjkenehiojbmiaaGreatDoorShelfC
import Derived.Test.YtjkenehiojbmiaaGreatDoorRows
import Derived.Shelf.Vars
import Derived.MakeChecks
namespace Go.Proofs.YtjkenehiojbmiaaGreatDoor.Msg
open Go.RowKit Go.Lib

theorem first_eq : (Rows.laid_unicode_utf8_first : DataW Unit) = firstData := by kernel_rfl
theorem accept_eq : (Rows.laid_unicode_utf8_acceptRanges : DataW Unit) = acceptData := by kernel_rfl
theorem below_tabs {B : Nat} {w w' : World} (h : Lib.Utf8Tabs 1 2 w) (hb : Below B w w') (hB : 2 < B) : Lib.Utf8Tabs 1 2 w' :=
  ⟨fun c hc => by rw [hb.cell (p := ⟨1, c, none⟩) (by show 1 < B; omega)]; exact h.1 c hc, fun i hi => ⟨by rw [hb.cell (p := ⟨2, 2 * i, none⟩) hB]; exact (h.2 i hi).1, by rw [hb.cell (p := ⟨2, 2 * i + 1, none⟩) hB]; exact (h.2 i hi).2⟩⟩
theorem cell_lt {w : World} {a : Addr} {v : Value} (h : w.cell? a = some v) : a.block < w.heap.size := by
  unfold World.cell? at h
  split at h
  · rename_i hb; exact (Array.getElem?_eq_some_iff.1 hb).1
  · cases h
/-- What the library answers in the law's world. -/
theorem libAt {W : World} (hL : laidMetH Tryz.prog Rows.badsRow.laid W) (hsh : W.ShapedOpen Tryz.prog) : LibAt W.heap.size W := by
  have hL' : laidMet Tryz.prog Rows.badsRow.laid W := by
    rw [← Go.MakeChecks.laidMetH_plain Tryz.prog _ W (by kernel_rfl)]; exact hL
  have hT : Lib.Utf8Tabs 1 2 W := by
    refine utf8Tabs_of_readsT (U8Types.of196 Tryz.lays196) ⟨by kernel_rfl, by kernel_rfl, by kernel_rfl, by kernel_rfl, by kernel_rfl, by kernel_rfl, by kernel_rfl⟩ ?_ ?_
    · rw [← first_eq]; exact laidMet.reads hL' (by simp [Rows.badsRow])
    · rw [← accept_eq]; exact laidMet.reads hL' (by simp [Rows.badsRow])
  obtain ⟨m, hm⟩ := cell_of_shapedOpen_int (P := Tryz.prog) (g := 0) (t := 3) (zero := #[.int .i64 0]) hsh (of_decide_eq_true (by kernel_rfl)) (by kernel_rfl) rfl (by kernel_rfl) (by kernel_rfl) Tryz.underlying3
  have h2 : 2 < W.heap.size := cell_lt (hT.2 0 (by omega)).1
  have hm' : ∀ w, Below W.heap.size W w → w.cell? ⟨0, 0, none⟩ = some (.int .i64 m) := fun w hb => by rw [hb.cell (p := ⟨0, 0, none⟩) (by show 0 < W.heap.size; omega)]; exact hm
  refine ⟨fun s w hs hb => Tryz.utf8_ValidString s w (by omega) (below_tabs hT hb h2), fun s w hs hb => ?_, fun s w hs hb => ?_⟩
  · refine (Tryz.strings_Split s ⟨#[32]⟩ m w (by omega) (hm' w hb) (by decide)).mono ?_
    rintro e w' ⟨rfl, rfl⟩
    obtain ⟨e1, e2⟩ := splitB_cut 32 s
    rw [e1, e2]
    exact ⟨rfl, rfl⟩
  · exact Tryz.strings_Cut s ⟨#[10]⟩ m w (by omega) (hm' w hb)
end Go.Proofs.YtjkenehiojbmiaaGreatDoor.Msg
