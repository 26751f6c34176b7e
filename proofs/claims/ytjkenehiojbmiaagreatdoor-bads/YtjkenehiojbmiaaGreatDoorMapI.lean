import Derived.Test.YtjkenehiojbmiaaGreatDoorSim
import Derived.Maps.OwnSet
namespace Go.Proofs.YtjkenehiojbmiaaGreatDoor.Law
open Go.RowKit Mdl Msg Go.Maps

/-- An element as it stands. -/
def asIs (v : Value) : Option (DataW Value × List MemPlace) := some (.held v, [])
def kInt (c : Int) : Lit := .int .i64 c
theorem keyedInt : Keyed Tryz.prog 3 := int_keyed Tryz.underlying3

/-- Block b is a map of at most n entries: at c it holds f c. -/
def MapIs (w : World) (b n : Nat) (f : Int → Value) : Prop := ∃ D : DataW Value, w.ownsMap Tryz.prog 3 asIs b n D ∧ ∀ c, (kInt c).wf = true → D.atKey (kInt c) (.held (.pointer none)) = .held (f c)

theorem MapIs.made (w : World) : MapIs (w.alloc (.map #[] 0)) w.heap.size 0 (fun _ => .pointer none) := ⟨.map [], World.ownsMap_made w _ _ _, fun _ _ => rfl⟩
theorem MapIs.lt {w : World} {b n : Nat} {f : Int → Value} (h : MapIs w b n f) : b < w.heap.size := by obtain ⟨D, h, _⟩ := h; exact h.lt
theorem MapIs.block {w w' : World} {b n : Nat} {f : Int → Value} (h : MapIs w b n f) (hb : w'.heap[b]? = w.heap[b]?) : MapIs w' b n f := by
  obtain ⟨D, ⟨es, clock, h1, h2⟩, h3⟩ := h
  exact ⟨D, ⟨es, clock, hb.trans h1, h2⟩, h3⟩
theorem MapIs.up {w : World} {b n n' : Nat} {f : Int → Value} (h : MapIs w b n f) (hn : n ≤ n') : MapIs w b n' f := by
  obtain ⟨D, h, h3⟩ := h
  exact ⟨D, h.mono hn, h3⟩
theorem MapIs.look {w : World} {b n : Nat} {f : Int → Value} (h : MapIs w b n f) {t e : TypeId} (ht : Tryz.prog.underlying t = some (.map 3 e)) (hz : (zeroValue e).run Tryz.prog w = .ok (.pointer none) w) (c : Int) (hc : (kInt c).wf = true) :
    (Instr.lookup t (.map (some b)) (.int .i64 c) false).run Tryz.prog w = .ok (f c) w := by
  obtain ⟨D, hD, hf⟩ := h
  obtain ⟨v, ps, hrun, hv⟩ := hD.lookup keyedInt ht hz (zd := .held (.pointer none)) (zp := []) rfl (keyOf_int_mk Tryz.underlying3 hc)
  rw [hrun]
  have e1 : DataW.held v = .held (f c) := by
    have := congrArg (fun o => o.map Prod.fst) hv
    simp only [asIs, Option.map_some] at this
    rw [Option.some.injEq] at this
    rw [this]; exact hf c hc
  cases e1
  rfl
theorem kInt_ne {c d : Int} (h : c ≠ d) : kInt c ≠ kInt d := fun e => h (by cases e; rfl)
theorem MapIs.put {w : World} {b n : Nat} {f : Int → Value} (h : MapIs w b n f) {t e : TypeId} (ht : Tryz.prog.underlying t = some (.map 3 e)) (hn : n < maxLen) (c : Int) (hc : (kInt c).wf = true) (v : Value) :
    ∃ w', (Instr.mapUpdate t (.map (some b)) (.int .i64 c) v).run Tryz.prog w = .ok () w' ∧ MapIs w' b (n + 1) (fun d => if d = c then v else f d) ∧ w.mapTurned w' b := by
  obtain ⟨D, hD, hf⟩ := h
  obtain ⟨w', hrun, hown, hturn⟩ := hD.store keyedInt ht hn (keyOf_int_mk Tryz.underlying3 hc) (val := v) (d := .held v) (ps := []) rfl
  refine ⟨w', hrun, ⟨_, hown, fun d hd => ?_⟩, hturn⟩
  show _ = DataW.held (if d = c then v else f d)
  by_cases hdc : d = c
  · subst hdc
    rw [if_pos rfl]
    exact atKey_put_same (k := kInt d) hD.isMap (show WideAt.IsKeyLit (.int .i64 d) from trivial) _ _
  · rw [if_neg hdc]
    exact (atKey_put_other (kInt_ne hdc) _ _).trans (hf d hd)
theorem MapIs.del {w : World} {b n : Nat} {f : Int → Value} (h : MapIs w b n f) {t e : TypeId} (ht : Tryz.prog.underlying t = some (.map 3 e)) (ty : TypeId) (c : Int) (hc : (kInt c).wf = true) :
    ∃ w', (Builtin.delete_ #[t, 3] ty #[.map (some b), .int .i64 c]).run Tryz.prog w = .ok (.tuple #[]) w' ∧ MapIs w' b n (fun d => if d = c then .pointer none else f d) ∧ w.mapTurned w' b := by
  obtain ⟨D, hD, hf⟩ := h
  obtain ⟨w', hrun, hown, hturn⟩ := hD.drop keyedInt ht (keyOf_int_mk Tryz.underlying3 hc) ty
  refine ⟨w', hrun, ⟨_, hown, fun d hd => ?_⟩, hturn⟩
  show _ = DataW.held (if d = c then .pointer none else f d)
  by_cases hdc : d = c
  · subst hdc
    rw [if_pos rfl]
    exact atKey_del_same _
  · rw [if_neg hdc]
    exact (atKey_del_other (kInt_ne hdc) _).trans (hf d hd)
theorem turned_only {w w' : World} {b : Nat} (h : w.mapTurned w' b) : Only (fun k => k = b) w w' := by
  have hg := h.grown
  exact ⟨hg.os, hg.tape, hg.output, hg.size, fun k hk hn => hg.block k hk (fun e => hn (Option.some.inj e))⟩
end Go.Proofs.YtjkenehiojbmiaaGreatDoor.Law
