import Derived.Test.YtjkenehiojbmiaaGreatDoorFeedM
import Derived.Test.YtjkenehiojbmiaaGreatDoorSeal
import Derived.LoopN
import Derived.Laws.MakeOwn
namespace Go.Proofs.YtjkenehiojbmiaaGreatDoor.Sums
open Go.RowKit Msg Mdl
attribute [local go_sem] setCell_drewN
attribute [local go_sem] alloc_drewN

/-- A talk: what has been said. -/
def TBlk (w : World) (q : Nat) (v : Value) : Prop := w.heap[q]? = some (.cells #[v] 82 (0, 0))
theorem TBlk.cell {w : World} {q : Nat} {v : Value} (h : TBlk w q v) : w.cell? ⟨q, 0, none⟩ = some v := by
  unfold World.cell?; rw [h]; rfl
theorem TBlk.frozen {w : World} {q : Nat} {v : Value} (h : TBlk w q v) : w.frozen? ⟨q, 0, none⟩ = false := by
  unfold World.frozen?; rw [h]; rfl
theorem TBlk.lt {w : World} {q : Nat} {v : Value} (h : TBlk w q v) : q < w.heap.size := (Array.getElem?_eq_some_iff.1 h).1
theorem TBlk.set {w : World} {q : Nat} {v : Value} (h : TBlk w q v) (v' : Value) : TBlk (w.setCell ⟨q, 0, none⟩ v') q v' := heap_setCell_same w q 0 _ _ v' h
theorem TBlk.only {w w' : World} {q : Nat} {v : Value} {S : Nat → Prop} (h : TBlk w q v) (ho : Only S w w') (hn : ¬ S q) : TBlk w' q v := by
  unfold TBlk; rw [ho.block q h.lt hn]; exact h

theorem join1_any (g cap : Nat) (x sep : ByteArray) (w : World) (hc : w.cell? ⟨g, 0, none⟩ = some (.string x)) :
    Calls Tryz.prog 85 #[.slice (some ⟨g, 0, none⟩) 1 cap, .string sep] w fun e w' => e = .returned (.string x) ∧ w' = w := by
  go_enter Tryz.func85, Tryz.ntmps85
  go_wp2
  go_ret
  exact ⟨rfl, rfl⟩

theorem bad_line (w : World) : Calls Tryz.prog 38 #[.string ⟨#[98, 97, 100]⟩] w fun e w' => e = .returned (.string ⟨bad.toArray⟩) ∧ Below w.heap.size w w' := wireSeal_any ⟨#[98, 97, 100]⟩ w (by decide)
theorem assertStr (b : ByteArray) (xT : TypeId) (w : World) : (Instr.typeAssert (.iface 9 (.string b)) xT 9 true).run Tryz.prog w = .ok (.tuple #[.string b, .bool true]) w := by
  simp [Instr.typeAssert, run_underlying Tryz.underlying9]
def SayXPost (q : Nat) (l : List (Int × List UInt8)) (x : Int × List UInt8) (v : Value) (w : World) (e : Ending) (w' : World) : Prop :=
  ∃ g cap, e = .returned (.tuple #[]) ∧ TBlk w' q (.slice (some ⟨g, 0, none⟩) (l.length + 1) cap) ∧
    w'.ownsRow 0 64 2 (.slice (some ⟨g, 0, none⟩) (l.length + 1) cap) (l.length + 1) (outRow (l ++ [x])) ∧ (v.ownBlock = some g ∨ w.heap.size ≤ g) ∧ Only (fun b => b = q ∨ v.ownBlock = some b) w w'

theorem sayX_fin {q g1 cap1 : Nat} {l : List (Int × List UInt8)} {x : Int × List UInt8} {v : Value} {w w3 w4 : World} {o : Obj} (ht : TBlk w q v) (hne : v.ownBlock ≠ some q) (hB3 : Below w.heap.size w w3)
    (hown : w4.ownsRow 0 64 2 (.slice (some ⟨g1, 0, none⟩) (l.length + 1) cap1) (l.length + 1) (outRow l ++ [.int .i64 x.1, .string ⟨x.2.toArray⟩])) (hgrow : (w3.alloc o).grownBy w4 v.ownBlock) (hat : v.ownBlock = some g1 ∨ g1 = w3.heap.size + 1) :
    SayXPost q l x v w (.returned (.tuple #[])) (w4.setCell ⟨q, 0, none⟩ (.slice (some ⟨g1, 0, none⟩) (l.length + 1) cap1)) := by
  have hq := ht.lt
  have hz := hB3.size
  have O4 : Only (fun b => v.ownBlock = some b) w w4 := (((Only.refl _ w).below hB3).alloc _).grown hgrow (fun k _ e => e)
  have T4 : TBlk w4 q v := ht.only O4 hne
  have hgq : g1 ≠ q := by
    rcases hat with h | h
    · intro e; subst e; exact hne h
    · omega
  have o : Only (fun b => b = q) w4 (w4.setCell ⟨q, 0, none⟩ (.slice (some ⟨g1, 0, none⟩) (l.length + 1) cap1)) := (Only.refl _ _).setCell _ _ (fun _ => rfl)
  refine ⟨g1, cap1, rfl, T4.set _, ?_, ?_, ?_⟩
  · rw [outRow_snoc]; exact o.row hown (fun k e => by cases e; exact hgq)
  · rcases hat with h | h
    · exact Or.inl h
    · right; omega
  · exact (O4.mono (fun k _ h => Or.inr h)).setCell _ _ (fun _ => Or.inl rfl)

set_option maxHeartbeats 4000000 in
set_option maxRecDepth 100000 in
theorem sayX_any (q pb : Nat) (c : Int) (l : List (Int × List UInt8)) (v : Value) (w : World) (ht : TBlk w q v) (hown : w.ownsRow 0 64 2 v l.length (outRow l)) (hne : v.ownBlock ≠ some q) (hlen : l.length ≤ 4194304)
    (hp : w.cell? ⟨pb, 0, none⟩ = some (.iface 9 (.string ⟨#[98, 97, 100]⟩))) (hpl : pb < w.heap.size) :
    Calls Tryz.prog 69 #[.pointer (some ⟨q, 0, none⟩), .int .i64 c, .slice (some ⟨pb, 0, none⟩) 1 1] w (SayXPost q l (c, bad) v w) := by
  obtain ⟨j0, hj, jz0, jz1, jz2⟩ := info_parts infoStr
  obtain ⟨i0, hi, hz0, hz1, hz2⟩ := info_parts infoOut
  obtain ⟨W0, hmk, hown0, hg0⟩ := run_make_own (P := Tryz.prog) w w.heap.size 65 9 j0 _ 1 Tryz.underlying65 hj jz0 jz1 .i64 .i64 1 (by rw [jz2]; decide) (by unfold maxLen; decide) (Nat.le_refl _)
  have HT : Hid (TBlk w q v) := ht
  have HO : Hid (w.ownsRow 0 64 2 v l.length (outRow l)) := hown
  have HNE : Hid (v.ownBlock ≠ some q) := hne
  have hb0 : Below w.heap.size w W0 := (Below.refl _ w).grown hg0 (Nat.le_refl _) (fun k hk => by cases hk)
  have hp0 : W0.cell? ⟨pb, 0, none⟩ = some (.iface 9 (.string ⟨#[98, 97, 100]⟩)) := by rw [hb0.cell (p := ⟨pb, 0, none⟩) hpl]; exact hp
  have hz0' := hb0.size
  rw [show ((1 : Nat) : Int) = 1 from rfl] at hmk
  clear ht hown hne hp
  go_enter Tryz.func69, Tryz.ntmps69
  go_wp2
  refine wp_loop_rounds 2 ?_
  rw [rounds_succ]
  have hta := assertStr ⟨#[98, 97, 100]⟩
  go_wp2_with (at_builtin; go_must (refine wpList_append_lies _ rfl _ _ 65 rfl w.heap.size 9 j0 (.string ⟨#[]⟩) 1 16 Tryz.underlying65 hj jz0 jz1 jz2 rfl (by decide) _ _ _ rfl (hown0.alloc _) ⟨W0.heap.size, 0, none⟩ 1 1 [.string ⟨#[98, 97, 100]⟩] rfl rfl ?c1 ?c2 (by decide) ?c3 ?c4 ?c5 (W0.heap.size + 1) (by simp) ?main))
  case c1 => exact cell_one_new _ _ _
  case c2 => intro u hu; simp at hu; subst hu; rfl
  case c3 => unfold maxLen; omega
  case c4 => omega
  case c5 => simp; omega
  case main =>
    intro g1 cap1 w1 hown1 hgrow hat hlt1
    have hB1 : Below w.heap.size w w1 := (hb0.alloc hz0' _).grown hgrow (by simp; omega) (fun k hk => by simp [Value.ownBlock] at hk; omega)
    have hc1 : w1.cell? ⟨g1, 0, none⟩ = some (.string ⟨#[98, 97, 100]⟩) := by rw [hown1.cellAt 0 (by omega)]; rfl
    have HJ : Hid (∀ sep, Calls Tryz.prog 85 #[.slice (some ⟨g1, 0, none⟩) 1 cap1, .string sep] w1 fun e w' => e = .returned (.string ⟨#[98, 97, 100]⟩) ∧ w' = w1) := fun sep => join1_any g1 cap1 _ sep w1 hc1
    clear hown1 hgrow hat hc1 hlt1 hown0 hp0 hmk hg0 hta hb0 hz0'
    go_wp2
    rw [rounds_succ]
    go_wp2_with fail
    refine (HJ.out _).mono ?_
    rintro e w2 ⟨rfl, rfl⟩
    clear HJ
    go_wp2_with fail
    refine (bad_line _).mono ?_
    rintro e w3 ⟨rfl, hb3⟩
    have hB3 : Below w.heap.size w w3 := hB1.trans (hb3.mono hB1.size)
    have o3 : Only (fun _ => False) w w3 := (Only.refl _ w).below hB3
    have T3 : TBlk w3 q v := HT.out.only o3 (fun h => h)
    have R3 : w3.ownsRow 0 64 2 v l.length (outRow l) := o3.row HO.out (fun _ _ h => h)
    have c0 := T3.cell
    have hq3 := T3.lt
    clear hb3 hB1
    generalize bad = bl at *
    go_wp2_with (at_builtin; go_must (refine wpList_append_lies _ rfl _ _ 54 rfl 0 64 i0 (.agg #[.int .i64 0, .string ⟨#[]⟩]) 2 24 Tryz.underlying54 hi hz0 hz1 hz2 rfl (by decide) _ _ _ rfl (R3.alloc _) ⟨w3.heap.size, 0, none⟩ 1 1 [.int .i64 c, .string ⟨bl.toArray⟩] rfl rfl ?d1 ?d2 (by decide) ?d3 ?d4 ?d5 (w3.heap.size + 1) (by simp) ?main2))
    case main2 =>
      intro g2 cap2 w4 hown4 hgrow4 hat4 hlt4
      have HF : Hid (SayXPost q l (c, bl) v w (.returned (.tuple #[])) (w4.setCell ⟨q, 0, none⟩ (.slice (some ⟨g2, 0, none⟩) (l.length + 1) cap2))) := sayX_fin HT.out HNE.out hB3 hown4 hgrow4 hat4
      have T4 : TBlk w4 q v := T3.only (S := fun b => v.ownBlock = some b) (((Only.refl _ _).alloc _).grown hgrow4 (fun k _ e => e)) HNE.out
      have c4 := T4.cell
      have f4 := T4.frozen
      clear hown4 hgrow4 hat4 T4 T3 R3
      go_wp2
      go_end0
      exact HF.out
    case d1 => exact World.news_of_block (cs := #[.int .i64 c, .string ⟨bl.toArray⟩]) (t := 64) (fr := (0, 0)) (heap_alloc_new w3 _)
    case d2 => intro u hu; simp at hu; rcases hu with rfl | rfl <;> rfl
    case d3 => unfold maxLen; omega
    case d4 => omega
    case d5 => omega
end Go.Proofs.YtjkenehiojbmiaaGreatDoor.Sums
