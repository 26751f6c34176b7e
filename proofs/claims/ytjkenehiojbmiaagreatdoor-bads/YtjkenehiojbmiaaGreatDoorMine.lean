import Derived.Test.YtjkenehiojbmiaaGreatDoorSame
namespace Go.Proofs.YtjkenehiojbmiaaGreatDoor.Law
open Go.RowKit Mdl
attribute [local go_sem] Sums.setCell_drewN
attribute [local go_sem] Sums.alloc_drewN

/-- The law's own block: the pairs, the lists, the flag. -/
def WBlk (w : World) (p : Nat) (ds ls : Value) (lack : Bool) : Prop := w.heap[p]? = some (.cells #[ds, ls, .bool lack] 33 (0, 0))
theorem WBlk.cell {w : World} {p : Nat} {ds ls : Value} {lack : Bool} (h : WBlk w p ds ls lack) (j : Nat) : w.cell? ⟨p, j, none⟩ = (#[ds, ls, .bool lack])[j]? := by
  unfold WBlk at h; simp only [World.cell?, h]; rfl
theorem WBlk.frozen {w : World} {p : Nat} {ds ls : Value} {lack : Bool} (h : WBlk w p ds ls lack) (j : Nat) : w.frozen? ⟨p, j, none⟩ = false := by
  unfold WBlk at h; simp only [World.frozen?, h]; simp
theorem WBlk.lt {w : World} {p : Nat} {ds ls : Value} {lack : Bool} (h : WBlk w p ds ls lack) : p < w.heap.size := (Array.getElem?_eq_some_iff.1 h).1
theorem WBlk.setLs {w : World} {p : Nat} {ds ls : Value} {lack : Bool} (h : WBlk w p ds ls lack) (v : Value) : WBlk (w.setCell ⟨p, 1, none⟩ v) p ds v lack := heap_setCell_same w p 1 _ _ v h
theorem WBlk.setDs {w : World} {p : Nat} {ds ls : Value} {lack : Bool} (h : WBlk w p ds ls lack) (v : Value) : WBlk (w.setCell ⟨p, 0, none⟩ v) p v ls lack := heap_setCell_same w p 0 _ _ v h
theorem WBlk.only {w w' : World} {p : Nat} {ds ls : Value} {lack : Bool} {S : Nat → Prop} (h : WBlk w p ds ls lack) (ho : Only S w w') (hn : ¬ S p) : WBlk w' p ds ls lack := by
  unfold WBlk; rw [ho.block p h.lt hn]; exact h
theorem infoLs : (Tryz.prog.info? 54).map (fun i => (i.zero, i.size, i.bytes)) = some (some (.slice none 0 0), 1, 24) := by kernel_rfl

theorem blk2 {w : World} {b : Nat} {v0 v1 : Value} {t : TypeId} (h : w.heap[b]? = some (.cells #[v0, v1] t (0, 0))) : w.cell? ⟨b, 0, none⟩ = some v0 ∧ w.cell? ⟨b, 1, none⟩ = some v1 ∧ w.frozen? ⟨b, 0, none⟩ = false := by
  simp only [World.cell?, World.frozen?, h]; simp
theorem row2 {w : World} {base : Nat} {e : TypeId} {g n cap : Nat} {xs : List Value} (h : w.ownsRow base e 2 (.slice (some ⟨g, 0, none⟩) n cap) n xs) {k : Nat} (hk : k < n) :
    ∃ v0 v1, w.cell? ⟨g, k * 2, none⟩ = some v0 ∧ w.cell? ⟨g, k * 2 + 1, none⟩ = some v1 := by
  have hl : xs.length = n * 2 := h.1
  rw [h.cellAt (k * 2) (by omega), h.cellAt (k * 2 + 1) (by omega)]
  exact ⟨xs[k * 2]'(by omega), xs[k * 2 + 1]'(by omega), List.getElem?_eq_getElem _, List.getElem?_eq_getElem _⟩
def MinePost (p : Nat) (ds ls : Value) (lack : Bool) (n : Nat) (a : Value) (w : World) (e : Ending) (w' : World) : Prop :=
  ∃ ls' ys', e = .returned (.tuple #[]) ∧ WBlk w' p ds ls' lack ∧ w'.ownsRow 0 54 1 ls' (n + 1) ys' ∧ (ls.ownBlock = ls'.ownBlock ∨ ∀ g, ls'.ownBlock = some g → w.heap.size ≤ g) ∧
    Only (fun b => b = p ∨ a.ownBlock = some b ∨ ls.ownBlock = some b) w w'

set_option maxHeartbeats 4000000 in
set_option maxRecDepth 100000 in
theorem mine_any (p : Nat) (ds ls : Value) (lack : Bool) (n : Nat) (ys : List Value) (a : Value) (m : Nat) (xs : List Value) (w : World) (hw : WBlk w p ds ls lack) (hls : w.ownsRow 0 54 1 ls n ys) (ha : w.ownsRow 0 64 2 a m xs)
    (hlp : ls.ownBlock ≠ some p) (hap : a.ownBlock ≠ some p) (hla : ∀ b, ls.ownBlock = some b → a.ownBlock ≠ some b) (hn : n ≤ 4194304) (hm : m ≤ 4194304) :
    Calls Tryz.prog 31 #[.pointer (some ⟨p, 0, none⟩), a] w (MinePost p ds ls lack n a w) := by
  obtain ⟨i0, hi, hz0, hz1, hz2⟩ := info_parts infoOut
  obtain ⟨j0, hj, hy0, hy1, hy2⟩ := info_parts infoLs
  have c1 : w.cell? ⟨p, 1, none⟩ = some ls := hw.cell 1
  have hplt := hw.lt
  obtain ⟨lo, cl, hlse, hcl, hlo⟩ := row_form hls
  obtain ⟨ao, ca, hae, hca, hao⟩ := row_form ha
  have HW : Hid (WBlk w p ds ls lack) := hw
  have HL : Hid (w.ownsRow 0 54 1 ls n ys) := hls
  have HAR : Hid (w.ownsRow 0 64 2 a m xs) := ha
  have HLP : Hid (ls.ownBlock ≠ some p) := hlp
  have HAP : Hid (a.ownBlock ≠ some p) := hap
  have HLA : Hid (∀ b, ls.ownBlock = some b → a.ownBlock ≠ some b) := hla
  have HLE : Hid (ls = .slice lo n cl) := hlse
  have HAE : Hid (a = .slice ao m ca) := hae
  have HAO : Hid (0 < m → ∃ g, ao = some ⟨g, 0, none⟩) := hao
  clear hw hls ha hlp hap hla hlo hao
  subst hae
  rw [hlse] at c1
  clear hlse
  go_enter Tryz.func31, Tryz.ntmps31
  go_wp2
  go_loopw [16] (fun i wr => ∃ k : Nat, k ≤ m ∧ i = .int .i64 k ∧ Hid (∃ xs', wr.ownsRow 0 64 2 (.slice ao m ca) m xs') ∧ Hid (wr.heap[w.heap.size]? = some (.cells #[.int .i64 (-1 - ↑n), .string ⟨#[109, 105, 110, 101]⟩] 64 (0, 0))) ∧ Hid (Only (fun b => (Value.slice ao m ca).ownBlock = some b) w wr)) (fun i _ => m - (intOf i).toNat)
  case atStart => exact ⟨0, Nat.zero_le _, rfl, Exists.intro xs (HAR.out.alloc _), heap_alloc_new w _, (Only.refl _ w).alloc _⟩
  case round =>
    obtain ⟨k, hk, rfl, HX, HMB, HO⟩ := hrel
    obtain ⟨m1, m2, mf⟩ := blk2 HMB.out
    by_cases hlt : k < m
    · obtain ⟨ga, rfl⟩ := HAO.out (by omega)
      obtain ⟨xs', hx⟩ := HX.out
      obtain ⟨v0, v1, x0, x1⟩ := row2 hx hlt
      have f0 := hx.frozenAt (k * 2)
      have f1 := hx.frozenAt (k * 2 + 1)
      have HX2 : Hid (∃ xs', ((wr.setCell ⟨ga, k * 2, none⟩ (.int .i64 (-1 - ↑n))).setCell ⟨ga, k * 2 + 1, none⟩ (.string ⟨#[109, 105, 110, 101]⟩)).ownsRow 0 64 2 (.slice (some ⟨ga, 0, none⟩) m ca) m xs') := Exists.intro _ ((hx.stored (k * 2) (.int .i64 (-1 - ↑n))).1.stored (k * 2 + 1) (.string ⟨#[109, 105, 110, 101]⟩)).1
      have hgw : ga < w.heap.size := (HAR.out.lt ga rfl).2
      have o2 : Only (fun b => (Value.slice (some ⟨ga, 0, none⟩) m ca).ownBlock = some b) wr ((wr.setCell ⟨ga, k * 2, none⟩ (.int .i64 (-1 - ↑n))).setCell ⟨ga, k * 2 + 1, none⟩ (.string ⟨#[109, 105, 110, 101]⟩)) := ((Only.refl (fun b => (Value.slice (some ⟨ga, 0, none⟩) m ca).ownBlock = some b) wr).setCell ⟨ga, k * 2, none⟩ _ (fun _ => rfl)).setCell ⟨ga, k * 2 + 1, none⟩ _ (fun _ => rfl)
      have HO2 : Hid (Only (fun b => (Value.slice (some ⟨ga, 0, none⟩) m ca).ownBlock = some b) w ((wr.setCell ⟨ga, k * 2, none⟩ (.int .i64 (-1 - ↑n))).setCell ⟨ga, k * 2 + 1, none⟩ (.string ⟨#[109, 105, 110, 101]⟩))) := HO.out.trans o2 (fun _ _ h => h)
      have HMB2 : Hid (((wr.setCell ⟨ga, k * 2, none⟩ (.int .i64 (-1 - ↑n))).setCell ⟨ga, k * 2 + 1, none⟩ (.string ⟨#[109, 105, 110, 101]⟩)).heap[w.heap.size]? = some (.cells #[.int .i64 (-1 - ↑n), .string ⟨#[109, 105, 110, 101]⟩] 64 (0, 0))) := by
        show _ = _
        rw [o2.block w.heap.size (Array.getElem?_eq_some_iff.1 HMB.out).1 (fun e => by have e' : ga = w.heap.size := Option.some.inj e; omega)]
        exact HMB.out
      clear hx HX HO HMB o2
      go_wp2
      go_roundw
      case rel => exact ⟨k + 1, by omega, by go_num, HX2, HMB2, HO2⟩
      case measure => simp [intOf]; omega
    · obtain rfl : k = m := by omega
      obtain ⟨xs', hx⟩ := HX.out
      have hwr := HO.out.size
      go_wp2_with (at_builtin; go_must (refine wpList_append_lies _ rfl _ _ 54 rfl 0 64 i0 (.agg #[.int .i64 0, .string ⟨#[]⟩]) 2 24 Tryz.underlying54 hi hz0 hz1 hz2 rfl (by decide) _ _ _ rfl (hx.alloc _) ⟨wr.heap.size, 0, none⟩ 2 2 [.int .i64 (-1 - ↑n), .string ⟨#[109, 105, 110, 101]⟩, .int .i64 (-1 - ↑n), .string ⟨#[109, 105, 110, 101]⟩] rfl rfl ?c1 ?c2 (by decide) ?c3 ?c4 ?c5 (wr.heap.size + 1) (by simp) ?main))
      case c1 => exact World.news_of_block (t := 64) (fr := (0, 0)) (cs := #[.int .i64 (-1 - ↑n), .string ⟨#[109, 105, 110, 101]⟩, .int .i64 (-1 - ↑n), .string ⟨#[109, 105, 110, 101]⟩]) (heap_alloc_new wr _)
      case c2 => intro u hu; simp only [List.mem_cons, List.not_mem_nil, or_false] at hu; rcases hu with rfl | rfl | rfl | rfl <;> rfl
      case c3 => unfold maxLen; omega
      case c4 => omega
      case c5 => exact Nat.zero_le _
      case main =>
        intro g1 cap1 w1 hown1 hgrow hat hlt1
        have O1 : Only (fun b => (Value.slice ao k ca).ownBlock = some b) w w1 := (HO.out.alloc _).grown hgrow (fun _ _ h => h)
        have W1 : WBlk w1 p ds ls lack := HW.out.only O1 HAP.out
        have R1 : w1.ownsRow 0 54 1 ls n ys := O1.row HL.out HLA.out
        have c1' : w1.cell? ⟨p, 1, none⟩ = some (.slice lo n cl) := by rw [W1.cell 1, ← HLE.out]; rfl
        rw [HLE.out] at R1
        have hw1 := O1.size
        clear hx hown1 hgrow c1
        go_wp2_with (at_builtin; go_must (refine wpList_append_lies _ rfl _ _ 31 rfl 0 54 j0 (.slice none 0 0) 1 24 Tryz.underlying31 hj hy0 hy1 hy2 rfl (by decide) _ _ _ rfl (R1.alloc _) ⟨w1.heap.size, 0, none⟩ 1 1 [.slice (some ⟨g1, 0, none⟩) (k + 2) cap1] rfl rfl ?d1 ?d2 (by decide) ?d3 ?d4 ?d5 (w1.heap.size + 1) (by simp) ?maind))
        case d1 => exact World.news_of_block (t := 54) (fr := (0, 0)) (cs := #[.slice (some ⟨g1, 0, none⟩) (k + 2) cap1]) (heap_alloc_new w1 _)
        case d2 => intro u hu; simp only [List.mem_cons, List.not_mem_nil, or_false] at hu; subst hu; rfl
        case d3 => unfold maxLen; omega
        case d4 => omega
        case d5 => exact Nat.zero_le _
        case maind =>
          intro g2 cap2 w2 hown2 hgrow2 hat2 hlt2
          have O2 : Only (fun b => ls.ownBlock = some b) w1 w2 := ((Only.refl _ w1).alloc _).grown hgrow2 (fun _ _ h => by rw [HLE.out]; exact h)
          have W2 : WBlk w2 p ds ls lack := W1.only O2 HLP.out
          have c2' : w2.cell? ⟨p, 1, none⟩ = some (.slice lo n cl) := by rw [W2.cell 1, ← HLE.out]; rfl
          have f2' : w2.frozen? ⟨p, 1, none⟩ = false := W2.frozen 1
          have HF : Hid (MinePost p ds ls lack n (.slice ao k ca) w (.returned (.tuple #[])) (w2.setCell ⟨p, 1, none⟩ (.slice (some ⟨g2, 0, none⟩) (n + 1) cap2))) := by
            have hgp : g2 ≠ p := by
              rcases hat2 with h | h
              · intro e; subst e; exact HLP.out (by rw [HLE.out]; exact h)
              · omega
            refine ⟨_, _, rfl, W2.setLs _, ((Only.refl (fun b => b = p) w2).setCell _ _ (fun _ => rfl)).row hown2 (fun b hb e => hgp ((Option.some.inj hb : g2 = b).trans e)), ?_, ?_⟩
            · rcases hat2 with h | h
              · left; rw [HLE.out]; exact h
              · right; intro b hb; have e : g2 = b := Option.some.inj hb; omega
            · refine ((O1.mono (S' := fun b => b = p ∨ (Value.slice ao k ca).ownBlock = some b ∨ ls.ownBlock = some b) (fun _ _ h => Or.inr (Or.inl h))).trans O2 (fun _ _ h => Or.inr (Or.inr h))).setCell _ _ (fun _ => Or.inl rfl)
          clear hown2 hgrow2 R1 O1 O2 W1 W2 c1'
          go_wp2
          go_end0
          exact HF.out
end Go.Proofs.YtjkenehiojbmiaaGreatDoor.Law
