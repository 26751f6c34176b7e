import Derived.Test.YtjkenehiojbmiaaGreatDoorWords
namespace Go.Proofs.YtjkenehiojbmiaaGreatDoor.Msg
open Go.RowKit

/-- A message as it is read. -/
structure Mg where
  kind : List UInt8
  id : Int
  att : Int
  ten : List UInt8
  txt : List UInt8
def Mg.cs (m : Mg) : Array Value := #[.string ⟨m.kind.toArray⟩, .int .i64 m.id, .int .i64 m.att, .string ⟨m.ten.toArray⟩, .string ⟨m.txt.toArray⟩]
def kPull : List UInt8 := [112, 117, 108, 108]
def kBeat : List UInt8 := [98, 101, 97, 116]
def kDrain : List UInt8 := [100, 114, 97, 105, 110]
def kCan : List UInt8 := [99, 97, 110]
def kFail : List UInt8 := [102, 97, 105, 108]
def kDone : List UInt8 := [100, 111, 110, 101]
def kSub : List UInt8 := [115, 117, 98]
/-- The message of words; false: it is none. -/
def readW : List (List UInt8) → Mg × Bool
  | [] => (⟨[], 0, 0, [], []⟩, false)
  | [k] => (⟨k, 0, 0, [], []⟩, k == kPull || k == kBeat || k == kDrain)
  | [k, a] => if k = kCan then (⟨k, (numL a).1, 0, [], []⟩, (numL a).2) else (⟨k, 0, 0, [], []⟩, false)
  | [k, a, b] => if k = kFail then (⟨k, (numL a).1, (numL b).1, [], []⟩, (numL a).2 && (numL b).2) else (⟨k, 0, 0, [], []⟩, false)
  | [k, a, b, t] => if k = kDone then (⟨k, (numL a).1, (numL b).1, [], t⟩, (numL a).2 && (numL b).2 && txtL t)
      else if k = kSub then (⟨k, (numL a).1, 0, b, t⟩, (numL a).2 && tenL b && txtL t) else (⟨k, 0, 0, [], []⟩, false)
  | k :: _ => (⟨k, 0, 0, [], []⟩, false)
def readL (l : List UInt8) : Mg × Bool := readW (cutL 32 l)

theorem str_cell {w : World} {base g cap n : Nat} {ws : List (List UInt8)} (h : w.ownsRow base 9 1 (.slice (some ⟨g, 0, none⟩) n cap) n (strs ws)) {k : Nat} (hk : k < ws.length) (hn : n = ws.length) :
    w.cell? ⟨g, k, none⟩ = some (.string ⟨(ws[k]'hk).toArray⟩) := by
  subst hn
  rw [h.cellAt k (by omega), strs, List.getElem?_map, List.getElem?_eq_getElem hk]
  rfl
theorem cut_small {s : ByteArray} {c : UInt8} (hs : s.size ≤ 4194304) : ∀ x ∈ cutL c s.data.toList, x.length ≤ 4194304 := by
  have h := cutP_len c s.data.toList
  rw [show s.data.toList.length = s.size from by simp] at h
  intro x hx
  unfold cutL at hx
  rw [List.mem_append] at hx
  rcases hx with hx | hx
  · have := h.2.2 x hx; omega
  · simp at hx; subst hx; have := h.2.1; omega
theorem cut_ne (c : UInt8) (l : List UInt8) : cutL c l ≠ [] := by unfold cutL; simp

theorem bcell {W w1 : World} (hb : Below W.heap.size W w1) : (∀ b o, b < W.heap.size → w1.cell? ⟨b, o, none⟩ = W.cell? ⟨b, o, none⟩) ∧ (∀ b o, b < W.heap.size → w1.frozen? ⟨b, o, none⟩ = W.frozen? ⟨b, o, none⟩) :=
  ⟨fun b o h => hb.cell (p := ⟨b, o, none⟩) h, fun b o h => hb.frozen (p := ⟨b, o, none⟩) h⟩
theorem ret_read {l : List UInt8} {m : Mg} {b : Bool} (h : readL l = (m, b)) : Ending.returned (.tuple #[.agg m.cs, .bool b]) = .returned (.tuple #[.agg (readL l).1.cs, .bool (readL l).2]) := by rw [h]
theorem below_read2 {w w1 : World} (h : Below w.heap.size w w1) (v0 v1 v2 v3 v4 : Value) :
    Below w.heap.size w (((((w1.setCell ⟨w.heap.size, 0, none⟩ v0).setCell ⟨w.heap.size, 1, none⟩ v1).setCell ⟨w.heap.size, 2, none⟩ v2).setCell ⟨w.heap.size, 3, none⟩ v3).setCell ⟨w.heap.size, 4, none⟩ v4) :=
  ((((h.setCell (Nat.le_refl _) _).setCell (Nat.le_refl _) _).setCell (Nat.le_refl _) _).setCell (Nat.le_refl _) _).setCell (Nat.le_refl _) _
theorem below_read {w w1 : World} (h : Below w.heap.size w w1) (hz : w.heap.size ≤ w1.heap.size) (v0 v1 v2 v3 v4 : Value) (o : Obj) :
    Below w.heap.size w ((((((w1.setCell ⟨w.heap.size, 0, none⟩ v0).setCell ⟨w.heap.size, 1, none⟩ v1).setCell ⟨w.heap.size, 2, none⟩ v2).setCell ⟨w.heap.size, 3, none⟩ v3).setCell ⟨w.heap.size, 4, none⟩ v4).alloc o) :=
  (below_read2 h v0 v1 v2 v3 v4).alloc (by simpa [World.setCell] using hz) o
def ReadPost (l : List UInt8) (w : World) (e : Ending) (w' : World) : Prop := e = .returned (.tuple #[.agg (readL l).1.cs, .bool (readL l).2]) ∧ Below w.heap.size w w'
end Go.Proofs.YtjkenehiojbmiaaGreatDoor.Msg
