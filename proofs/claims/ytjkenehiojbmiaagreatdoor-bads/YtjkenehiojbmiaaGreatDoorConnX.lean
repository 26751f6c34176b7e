import Derived.Test.YtjkenehiojbmiaaGreatDoorMapI
import Derived.Test.YtjkenehiojbmiaaGreatDoorNews
import Derived.Test.YtjkenehiojbmiaaGreatDoorPend
namespace Go.Proofs.YtjkenehiojbmiaaGreatDoor.Law
open Go.RowKit Mdl Msg Sums
attribute [local go_sem] Sums.setCell_drewN
attribute [local go_sem] Sums.alloc_drewN

def DBlk (w : World) (x mb : Nat) : Prop := w.heap[x]? = some (.cells #[.map (some mb)] 72 (0, 0))
theorem DBlk.cell {w : World} {x mb : Nat} (h : DBlk w x mb) : w.cell? ⟨x, 0, none⟩ = some (.map (some mb)) := by
  unfold World.cell?; rw [h]; rfl
theorem DBlk.lt {w : World} {x mb : Nat} (h : DBlk w x mb) : x < w.heap.size := (Array.getElem?_eq_some_iff.1 h).1
theorem DBlk.block {w w' : World} {x mb : Nat} (h : DBlk w x mb) (hb : w'.heap[x]? = w.heap[x]?) : DBlk w' x mb := by
  unfold DBlk; rw [hb]; exact h

set_option maxRecDepth 100000 in
theorem made_any (x mb : Nat) (w : World) (h : DBlk w x mb) : Calls Tryz.prog 39 #[.pointer (some ⟨x, 0, none⟩)] w fun e w' => e = .returned (.bool true) ∧ w' = w := by
  have c0 := h.cell
  have hnn : ∀ w : World, (binOp .neq 70 (.map (some mb)) (.map none)).run Tryz.prog w = .ok (.bool true) w := fun w => run_neq_map_nil w _ _ _ _ Tryz.underlying70
  go_enter Tryz.func39, Tryz.ntmps39
  go_wp2
  go_ret
  exact ⟨rfl, rfl⟩

set_option maxRecDepth 100000 in
theorem conn_old (x mb n q : Nat) (c : Int) (f : Int → Value) (w : World) (h : DBlk w x mb) (hM : MapIs w mb n f) (hc : (kInt c).wf = true) (hf : f c = .pointer (some ⟨q, 0, none⟩)) :
    Calls Tryz.prog 40 #[.pointer (some ⟨x, 0, none⟩), .int .i64 c] w fun e w' => e = .returned (.pointer (some ⟨q, 0, none⟩)) ∧ w' = w := by
  have c0 := h.cell
  have hlk := hM.look Tryz.underlying70 (by kernel_rfl) c hc
  rw [hf] at hlk
  clear hM hf
  go_enter Tryz.func40, Tryz.ntmps40
  go_wp2
  go_ret
  exact ⟨rfl, rfl⟩

def ConnNew (mb n : Nat) (c : Int) (f : Int → Value) (w : World) (e : Ending) (w' : World) : Prop :=
  e = .returned (.pointer (some ⟨w.heap.size, 0, none⟩)) ∧ w.heap.size < w'.heap.size ∧ PBlk w' w.heap.size (.slice none 0 0) ∧ MapIs w' mb (n + 1) (fun d => if d = c then .pointer (some ⟨w.heap.size, 0, none⟩) else f d) ∧ Only (fun k => k = mb) w w'
set_option maxHeartbeats 1000000 in
set_option maxRecDepth 100000 in
theorem conn_new (x mb n : Nat) (c : Int) (f : Int → Value) (w : World) (h : DBlk w x mb) (hM : MapIs w mb n f) (hn : n ≤ 1048577) (hc : (kInt c).wf = true) (hf : f c = .pointer none) :
    Calls Tryz.prog 40 #[.pointer (some ⟨x, 0, none⟩), .int .i64 c] w (ConnNew mb n c f w) := by
  have c0 := h.cell
  have hx := h.lt
  have hmb := hM.lt
  have hlk := hM.look Tryz.underlying70 (by kernel_rfl) c hc
  rw [hf] at hlk
  have hM1 : MapIs (w.alloc (.cells #[.slice none 0 0] 92)) mb n f := hM.block (Below.heap_alloc _ _ _ hmb)
  obtain ⟨w', hrun, hM2, hturn⟩ := hM1.put Tryz.underlying70 (by unfold maxLen; omega) c hc (.pointer (some ⟨w.heap.size, 0, none⟩))
  have ho := turned_only hturn
  have HP : Hid (ConnNew mb n c f w (.returned (.pointer (some ⟨w.heap.size, 0, none⟩))) w') := by
    have hz := ho.size
    simp at hz
    refine ⟨rfl, by omega, ?_, hM2, ((Only.refl _ w).alloc _).trans ho (fun _ _ h => h)⟩
    unfold PBlk
    rw [ho.block w.heap.size (by simp) (by omega)]
    exact heap_alloc_new w _
  clear hM hM1 hM2 hturn ho hf
  go_enter Tryz.func40, Tryz.ntmps40
  go_wp2
  go_ret
  exact HP.out
end Go.Proofs.YtjkenehiojbmiaaGreatDoor.Law
