import Derived.Test.YtjkenehiojbmiaaGreatDoorAppS
namespace Go.Proofs.YtjkenehiojbmiaaGreatDoor.Law
open Go.RowKit Mdl Msg Go.Lib
attribute [local go_sem] Sums.setCell_drewN
attribute [local go_sem] Sums.alloc_drewN

/-- The block of a connection: what is pending. -/
def PBlk (w : World) (q : Nat) (v : Value) : Prop := w.heap[q]? = some (.cells #[v] 92 (0, 0))
theorem PBlk.cell {w : World} {q : Nat} {v : Value} (h : PBlk w q v) : w.cell? ⟨q, 0, none⟩ = some v := by
  unfold PBlk at h; simp only [World.cell?, h]; rfl
theorem PBlk.frozen {w : World} {q : Nat} {v : Value} (h : PBlk w q v) : w.frozen? ⟨q, 0, none⟩ = false := by
  unfold PBlk at h; simp only [World.frozen?, h]; simp
theorem PBlk.lt {w : World} {q : Nat} {v : Value} (h : PBlk w q v) : q < w.heap.size := (Array.getElem?_eq_some_iff.1 h).1
theorem PBlk.set {w : World} {q : Nat} {v : Value} (h : PBlk w q v) (v' : Value) : PBlk (w.setCell ⟨q, 0, none⟩ v') q v' := heap_setCell_same w q 0 _ _ v' h
theorem PBlk.only {w w' : World} {q : Nat} {v : Value} {S : Nat → Prop} (h : PBlk w q v) (ho : Only S w w') (hn : ¬ S q) : PBlk w' q v := by
  unfold PBlk; rw [ho.block q h.lt hn]; exact h

def AddPost (q : Nat) (v : Value) (r s : List UInt8) (w : World) (e : Ending) (w' : World) : Prop :=
  ∃ v', e = .returned (.tuple #[]) ∧ PBlk w' q v' ∧ w'.ownsRow 0 5 1 v' ((r ++ s).take 81).length (bcells ((r ++ s).take 81)) ∧ v'.ownBlock ≠ some q ∧ (v'.ownBlock = v.ownBlock ∨ ∀ g, v'.ownBlock = some g → w.heap.size ≤ g) ∧ Only (fun b => b = q ∨ v.ownBlock = some b) w w'

theorem add_fin {q : Nat} {v v' : Value} {r s : List UInt8} {t : ByteArray} {w w1 : World} {n : Nat} (hn : t.size = n) (hp : PBlk w q v) (hne : v.ownBlock ≠ some q) (ht : r ++ t.data.toList = (r ++ s).take 81)
    (hown : w1.ownsRow 0 5 1 v' (r.length + n) (bcells r ++ strCells t)) (hgrow0 : w.drew.grownBy w1 v.ownBlock) (hat : v'.ownBlock = v.ownBlock ∨ v'.ownBlock = some w.heap.size) :
    AddPost q v r s w (.returned (.tuple #[])) (w1.setCell ⟨q, 0, none⟩ v') := by
  have hpl := hp.lt
  have hgrow : w.grownBy w1 v.ownBlock := ⟨hgrow0.os, hgrow0.tape, hgrow0.output, hgrow0.size, hgrow0.block⟩
  have O1 : Only (fun b => v.ownBlock = some b) w w1 := (Only.refl _ w).grown hgrow (fun _ _ h => h)
  have P1 := hp.only O1 hne
  have hv'q : v'.ownBlock ≠ some q := fun e => by
    rcases hat with h | h
    · exact hne (h.symm.trans e)
    · rw [h] at e; have := Option.some.inj e; omega
  have o2 : Only (fun b => b = q) w1 (w1.setCell ⟨q, 0, none⟩ v') := (Only.refl _ _).setCell _ _ (fun _ => rfl)
  refine ⟨v', rfl, P1.set _, ?_, hv'q, ?_, ?_⟩
  · rw [← ht, bcells_append, List.length_append]
    have e1 : t.data.toList.length = t.size := by simp
    rw [e1, hn]
    exact o2.row hown (fun b hb e => hv'q (e ▸ hb))
  · rcases hat with h | h
    · exact Or.inl h
    · right; intro g hg; rw [h] at hg; have := Option.some.inj hg; omega
  · exact (O1.mono (fun _ _ h => Or.inr h)).setCell _ _ (fun _ => Or.inl rfl)

theorem add_take (r : List UInt8) (s : ByteArray) {k : Nat} (hr : r.length ≤ 81) (hk : min (81 - r.length) s.size = k) : r ++ (s.extract 0 k).data.toList = (r ++ s.data.toList).take 81 := by
  rw [cut_head]
  show r ++ s.data.toList.take k = _
  rw [List.take_append, List.take_of_length_le hr]
  congr 1
  have e : s.data.toList.length = s.size := by simp
  by_cases h : 81 - r.length ≤ s.size
  · rw [← hk, Nat.min_eq_left h]
  · rw [← hk, Nat.min_eq_right (by omega), List.take_of_length_le (by omega), List.take_of_length_le (by omega)]

set_option maxHeartbeats 4000000 in
set_option maxRecDepth 100000 in
theorem add_any (q : Nat) (v : Value) (r : List UInt8) (s : ByteArray) (w : World) (hp : PBlk w q v) (hown : w.ownsRow 0 5 1 v r.length (bcells r)) (hne : v.ownBlock ≠ some q) (hr : r.length ≤ 81) (hs : s.size ≤ 4194304) :
    Calls Tryz.prog 42 #[.pointer (some ⟨q, 0, none⟩), .string s] w (AddPost q v r s.data.toList w) := by
  obtain ⟨i0, hi, hz0, hz1, hz2⟩ := info_parts infoByte
  obtain ⟨ao, cp, hv, hcp, _⟩ := row_form hown
  have c0 := hp.cell
  have f0 := hp.frozen
  have hpl := hp.lt
  have HP : Hid (PBlk w q v) := hp
  have HN : Hid (v.ownBlock ≠ some q) := hne
  rw [hv] at c0 hown
  have HV : Hid (v = .slice ao r.length cp) := hv
  clear hp hne hv
  obtain ⟨k, hk⟩ : ∃ k, min (81 - r.length) s.size = k := ⟨_, rfl⟩
  have hmin : (if (s.size : Int) < 81 - (r.length : Int) then (s.size : Int) else 81 - (r.length : Int)) = (k : Int) := by
    split <;> omega
  have hks : k ≤ s.size := by omega
  have hksi : (k : Int) ≤ (s.size : Int) := by omega
  have hk0 : 0 ≤ (k : Int) := by omega
  have hkt : (k : Int).toNat = k := rfl
  have HT : Hid (r ++ (s.extract 0 k).data.toList = (r ++ s.data.toList).take 81) := add_take r s hr hk
  have hts : (s.extract 0 k).size ≤ 4194304 := by simp; omega
  clear hk
  go_enter Tryz.func42, Tryz.ntmps42
  go_wp2_with fail
  go_region_law (refine step_append_string (by rfl) _ _ 88 9 (by rfl) 0 5 i0 Tryz.underlying88 Tryz.underlying9 hi hz0 hz1 hz2 (.slice ao r.length cp) r.length (bcells r) (by rfl) hown.drew (s.extract 0 k) (by rfl) (by unfold maxLen; omega) (by omega) (Nat.zero_le _) ?_; intro v' w1 hown1 hgrow hat; obtain ⟨ao1, cp1, rfl, _, _⟩ := row_form hown1; have c1 : w1.cell? ⟨q, 0, none⟩ = some (.slice ao r.length cp) := (by rw [hgrow.cell_far _ (by simpa using hpl) (fun e => HN.out (by rw [HV.out]; exact e.symm))]; exact c0); have f1 : w1.frozen? ⟨q, 0, none⟩ = false := (by rw [hgrow.frozen_far _ (by simpa using hpl) (fun e => HN.out (by rw [HV.out]; exact e.symm))]; exact f0))
  all_goals
    go_end0
    have hsz : (s.extract 0 k).size = k := by simp; omega
    rw [hsz] at hown1 hat
    exact add_fin hsz HP.out HN.out HT.out hown1 (by rw [HV.out]; exact hgrow) (by rw [HV.out]; exact hat)

theorem row_empty {w : World} {base : Nat} {e : TypeId} {ao : Option Addr} {n cap : Nat} {xs : List Value} (h : w.ownsRow base e 1 (.slice ao n cap) n xs) : w.ownsRow base e 1 (.slice ao 0 cap) 0 [] := by
  refine ⟨rfl, ?_⟩
  rcases h.2 with ⟨h1, h0⟩ | ⟨g, cap', cur, h1, hb, hg, hn, hm, hs, ht⟩
  · cases h1; exact Or.inl ⟨rfl, rfl⟩
  · cases h1; exact Or.inr ⟨g, _, cur, rfl, hb, hg, Nat.zero_le _, hm, hs, by simp⟩
/-- Bytes of an owned row, read as a string. -/
def EndPost (q : Nat) (v : Value) (r : List UInt8) (w : World) (e : Ending) (w' : World) : Prop :=
  ∃ v', e = .returned (.string ⟨r.toArray⟩) ∧ PBlk w' q v' ∧ w'.ownsRow 0 5 1 v' 0 [] ∧ v'.ownBlock = v.ownBlock ∧ Only (fun b => b = q) w w'

set_option maxHeartbeats 4000000 in
set_option maxRecDepth 100000 in
theorem end_any (q : Nat) (v : Value) (r : List UInt8) (w : World) (hp : PBlk w q v) (hown : w.ownsRow 0 5 1 v r.length (bcells r)) (hne : v.ownBlock ≠ some q) (hr : r.length ≤ 81) :
    Calls Tryz.prog 44 #[.pointer (some ⟨q, 0, none⟩)] w (EndPost q v r w) := by
  obtain ⟨ao, cp, hv, hcp, hao⟩ := row_form hown
  have c0 := hp.cell
  have f0 := hp.frozen
  have hpl := hp.lt
  have HP : Hid (PBlk w q v) := hp
  have HN : Hid (v.ownBlock ≠ some q) := hne
  rw [hv] at c0 hown
  have HV : Hid (v = .slice ao r.length cp) := hv
  have hconv : (convert 88 9 (.slice ao r.length cp)).run Tryz.prog w = .ok (.string ⟨r.toArray⟩) w := by
    rcases Nat.eq_zero_or_pos r.length with h0 | h0
    · have hr0 : r = [] := List.eq_nil_of_length_eq_zero h0
      subst hr0
      rcases hown.2 with ⟨h, _⟩ | ⟨g, cap, cur, h, _⟩
      · rw [h]
        rw [run_convert_bytes_string w _ _ _ none 0 0 Tryz.underlying88 Tryz.underlying5 Tryz.underlying9]
        rfl
      · rw [h]
        exact run_convert_bytes_back w _ _ _ ⟨g, 0, none⟩ cap [] Tryz.underlying88 Tryz.underlying5 Tryz.underlying9 (fun j hj => absurd hj (by simp))
    · obtain ⟨g, rfl⟩ := hao h0
      refine run_convert_bytes_back w _ _ _ ⟨g, 0, none⟩ cp r Tryz.underlying88 Tryz.underlying5 Tryz.underlying9 (fun j hj => ?_)
      have h := hown.cells (g := g) rfl j (.int .u8 (r[j].toNat : Int)) (by simp [bcells, List.getElem?_eq_getElem hj])
      exact h
  have hcpi : (r.length : Int) ≤ (cp : Int) := by omega
  have HF : Hid (EndPost q v r w (.returned (.string ⟨r.toArray⟩)) (w.setCell ⟨q, 0, none⟩ (.slice ao 0 cp))) := by
    have o2 : Only (fun b => b = q) w (w.setCell ⟨q, 0, none⟩ (.slice ao 0 cp)) := (Only.refl _ _).setCell _ _ (fun _ => rfl)
    have hob : (Value.slice ao 0 cp).ownBlock = (Value.slice ao r.length cp).ownBlock := by cases ao <;> rfl
    refine ⟨.slice ao 0 cp, rfl, hp.set _, o2.row (row_empty hown) (fun b hb e => hne ?_), by rw [HV.out]; exact hob, o2⟩
    rw [HV.out, ← e, ← hob]; exact hb
  clear hp hne hv hown hao
  go_enter Tryz.func44, Tryz.ntmps44
  go_wp2
  go_ret
  exact HF.out

set_option maxHeartbeats 1000000 in
theorem empty_any (q : Nat) (v : Value) (r : List UInt8) (w : World) (hp : PBlk w q v) (hown : w.ownsRow 0 5 1 v r.length (bcells r)) (hr : r.length ≤ 81) :
    Calls Tryz.prog 45 #[.pointer (some ⟨q, 0, none⟩)] w fun e w' => e = .returned (.bool (decide (r = []))) ∧ w' = w := by
  obtain ⟨ao, cp, hv, hcp, hao⟩ := row_form hown
  have c0 := hp.cell
  rw [hv] at c0
  have HB : Hid (((r.length : Int) == 0) = decide (r = [])) := by
    show _ = _
    cases r with
    | nil => rfl
    | cons a l => simp; omega
  clear hp hown hv hao
  go_enter Tryz.func45, Tryz.ntmps45
  go_wp2
  go_ret
  exact ⟨ret_bool HB.out, rfl⟩
end Go.Proofs.YtjkenehiojbmiaaGreatDoor.Law
