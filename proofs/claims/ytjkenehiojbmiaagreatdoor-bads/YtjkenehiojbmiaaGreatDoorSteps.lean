import Derived.Test.YtjkenehiojbmiaaGreatDoorSim
import Derived.Deep.RegionWith
import Derived.Deep.RegionHeld3
namespace Go.Proofs.YtjkenehiojbmiaaGreatDoor.Law
open Go.RowKit Mdl Msg
attribute [local go_sem] Sums.setCell_drewN
attribute [local go_sem] Sums.alloc_drewN

theorem infoPr : (Tryz.prog.info? 51).map (fun i => (i.zero, i.size, i.bytes)) = some (some (.agg #[.pointer none, .pointer none]), 2, 16) := by kernel_rfl

theorem op_cells {w w1 : World} {v0 v1 v2 v3 v4 v5 v6 v7 v8 : Value} (hb : Below (w.alloc (.cells #[v0, v1, v2, v3, v4, v5, v6, v7, v8] 28)).heap.size (w.alloc (.cells #[v0, v1, v2, v3, v4, v5, v6, v7, v8] 28)) w1) :
    w1.cell? ⟨w.heap.size, 0, none⟩ = some v0 ∧ w1.cell? ⟨w.heap.size, 1, none⟩ = some v1 ∧ w1.cell? ⟨w.heap.size, 2, none⟩ = some v2 ∧ w1.cell? ⟨w.heap.size, 3, none⟩ = some v3 ∧ w1.cell? ⟨w.heap.size, 4, none⟩ = some v4 ∧ w1.cell? ⟨w.heap.size, 5, none⟩ = some v5 ∧ w1.cell? ⟨w.heap.size, 6, none⟩ = some v6 ∧ w1.cell? ⟨w.heap.size, 7, none⟩ = some v7 ∧ w1.cell? ⟨w.heap.size, 8, none⟩ = some v8 := by
  have h : w1.heap[w.heap.size]? = some (.cells #[v0, v1, v2, v3, v4, v5, v6, v7, v8] 28 (0, 0)) := by
    rw [hb.block _ (by simp only [World.size_alloc]; omega)]
    exact heap_alloc_new w _
  simp only [World.cell?, h]; simp

/-- What a step leaves. -/
def StepPost {Fed : List UInt8 → Prop} {base : Nat} {w00 : World} (S : Sim Fed base w00) (p n : Nat) (w : World) (e : Ending) (w' : World) : Prop :=
  e = .returned (.bool true) ∧ (∃ ds ls prs nls ys, LInv S p ds ls prs nls ys (n + 1) w' ∧ prs.length ≤ n + 1 ∧ nls ≤ n + 1) ∧ Only (fun b => base ≤ b) w w'

set_option maxHeartbeats 8000000 in
set_option maxRecDepth 100000 in
theorem stepNew_any {Fed : List UInt8 → Prop} {base : Nat} {w00 : World} (S : Sim Fed base w00) (p n : Nat) (ds ls : Value) (prs : List Pr) (nls : Nat) (ys : List Value) (x : Opr) (w : World) (hI : LInv S p ds ls prs nls ys n w) (hn : n ≤ 1048576) (h1 : prs.length ≤ n) (h2 : nls ≤ n) (hx : x.k = 1) :
    Calls Tryz.prog 12 #[.pointer (some ⟨p, 0, none⟩), .agg x.cs] w (StepPost S p n w) := by
  obtain ⟨i0, hi, hz0, hz1, hz2⟩ := info_parts infoPr
  have HN : Hid (∀ w', Below w.heap.size w w' → Calls Tryz.prog 17 #[x.cfg] w' (NewX S.P x w')) := fun w' h => S.new w' x (Nat.le_trans hI.big h.size) (hI.old.trans (h.mono hI.big))
  obtain ⟨k, a, b, le, re, ca, bo, he, s⟩ := x
  simp only at hx
  subst hx
  simp only [Opr.cs, Opr.cfg] at *
  have HI : Hid (LInv S p ds ls prs nls ys n w) := hI
  have hpl := hI.blk.lt
  have hbase := hI.big
  clear hI
  go_enter Tryz.func12, Tryz.ntmps12
  go_wp2_with fail
  refine (HN.out _ ((Below.refl _ _).alloc (Nat.le_refl _) _)).mono ?_
  rintro e w1 ⟨hb1, h⟩
  obtain ⟨e0, e1, e2, e3, e4, e5, e6, e7, e8⟩ := op_cells hb1
  have hz := hb1.size
  simp only [World.size_alloc] at hz
  have hwl : w.heap.size < w1.heap.size := by omega
  have hB1 : Below w.heap.size w w1 := ((Below.refl _ _).alloc (Nat.le_refl _) _).trans (hb1.mono (by simp))
  rcases h with ⟨rfl, hm⟩ | ⟨x, rfl, hm⟩
  · have HM : Hid (Calls Tryz.prog 18 #[.agg #[.int .i64 le, .int .i64 re, .int .i64 ca, .int .i64 bo, .int .i64 he]] w1 fun e w2 => e = .returned (.tuple #[.pointer none, .bool false]) ∧ Below w1.heap.size w1 w2) := hm
    clear hm
    go_wp2_with fail
    refine HM.out.mono ?_
    rintro e w2 ⟨rfl, hb2⟩
    go_wp2
    go_ret
    have hB2 : Below w.heap.size w w2 := hB1.trans (hb2.mono (by omega))
    exact ⟨rfl, ⟨ds, ls, prs, nls, ys, (HI.out.below hB2).up (Nat.le_succ n), by omega, by omega⟩, ((Only.refl _ w).below hB2)⟩
  · have HM : Hid (Calls Tryz.prog 18 #[.agg #[.int .i64 le, .int .i64 re, .int .i64 ca, .int .i64 bo, .int .i64 he]] w1 (NewM S.P x (w.alloc (.cells #[.int .i64 1, .int .i64 a, .int .i64 b, .int .i64 le, .int .i64 re, .int .i64 ca, .int .i64 bo, .int .i64 he, .string s] 28)) w1)) := hm
    clear hm
    go_wp2_with fail
    refine HM.out.mono ?_
    rintro e w2 ⟨m, F, rfl, hb2, hP, hF⟩
    have hB2 : Below w.heap.size w w2 := hB1.trans (hb2.mono (by omega))
    have HI2 := HI.out.below hB2
    have hzz := hb2.size
    obtain ⟨ao, cp, hds, hcp, hao⟩ := row_form HI2.dsr
    have c0 : w2.cell? ⟨p, 0, none⟩ = some (.slice ao prs.length cp) := by rw [HI2.blk.cell 0, ← hds]; rfl
    have R2 := HI2.dsr
    rw [hds] at R2
    have HPP : Hid (S.P w2 x m F 0 ∧ ∀ k, F k → w.heap.size ≤ k) := And.intro hP (fun k hk => by have := hF k hk; simp only [World.size_alloc] at this; omega)
    have HDS : Hid (ds = .slice ao prs.length cp) := hds
    have HI2' : Hid (LInv S p ds ls prs nls ys n w2) := HI2
    clear hP hF HI2 hds hao
    go_wp2_with (at_builtin; go_must (refine wpList_append_lies _ rfl _ _ 30 rfl base 51 i0 (.agg #[.pointer none, .pointer none]) 2 16 Tryz.underlying30 hi hz0 hz1 hz2 rfl (by decide) _ _ _ rfl (R2.alloc _) ⟨w2.heap.size, 0, none⟩ 1 1 [.pointer (some ⟨x, 0, none⟩), .pointer (some ⟨m, 0, none⟩)] rfl rfl ?c1 ?c2 (by decide) ?c3 ?c4 ?c5 (w2.heap.size + 1) (by simp) ?main))
    case c1 => exact World.news_of_block (t := 51) (fr := (0, 0)) (cs := #[.pointer (some ⟨x, 0, none⟩), .pointer (some ⟨m, 0, none⟩)]) (heap_alloc_new w2 _)
    case c2 => intro u hu; simp only [List.mem_cons, List.not_mem_nil, or_false] at hu; rcases hu with rfl | rfl <;> rfl
    case c3 => unfold maxLen; omega
    case c4 => omega
    case c5 => simp only [World.size_alloc]; omega
    case main =>
      intro g cap w3 hown3 hgrow hat hlt3
      have O3 : Only (fun b => ds.ownBlock = some b) w2 w3 := ((Only.refl _ w2).alloc _).grown hgrow (fun _ _ h => by rw [HDS.out]; exact h)
      have B3 := HI2'.out.blk.only O3 HI2'.out.dp
      have c3 : w3.cell? ⟨p, 0, none⟩ = some (.slice ao prs.length cp) := by rw [B3.cell 0, ← HDS.out]; rfl
      have f3 := B3.frozen 0
      have HF : Hid (StepPost S p n w (.returned (.bool true)) (w3.setCell ⟨p, 0, none⟩ (.slice (some ⟨g, 0, none⟩) (prs.length + 1) cap))) := by
        refine ⟨rfl, ⟨_, _, _, _, _, HI.out.made hB2 HPP.out.1 HPP.out.2 hown3 (hat.imp (fun h => by rw [HDS.out]; exact h) (fun h => by omega)) O3, by simp; omega, by omega⟩, ?_⟩
        refine (((Only.refl _ w).below hB2).trans O3 (fun b hb h => (HI.out.dsr.lt b h).1)).setCell _ _ (fun _ => HI.out.hp)
      clear hown3 hgrow O3 B3 R2 c0
      go_wp2
      go_ret
      exact HF.out
end Go.Proofs.YtjkenehiojbmiaaGreatDoor.Law
namespace Go.Proofs.YtjkenehiojbmiaaGreatDoor.Law
open Go.RowKit Mdl Msg
attribute [local go_sem] Sums.setCell_drewN
attribute [local go_sem] Sums.alloc_drewN

theorem op_cells0 {w1 : World} {b : Nat} {v0 v1 v2 v3 v4 v5 v6 v7 v8 : Value} (h : w1.heap[b]? = some (.cells #[v0, v1, v2, v3, v4, v5, v6, v7, v8] 28 (0, 0))) :
    w1.cell? ⟨b, 0, none⟩ = some v0 ∧ w1.cell? ⟨b, 2, none⟩ = some v2 ∧ w1.cell? ⟨b, 8, none⟩ = some v8 := by
  simp only [World.cell?, h]; simp
theorem two_blocks (w : World) (a b : Array Value) : ∃ w0, ((w.alloc (.cells a 28)).alloc (.cells b 51)).drew = w0 ∧ (Below w.heap.size w w0 ∧ w0.heap.size = w.heap.size + 2) ∧ w0.heap[w.heap.size]? = some (.cells a 28 (0, 0)) ∧ w0.heap[w.heap.size + 1]? = some (.cells b 51 (0, 0)) := by
  refine ⟨_, rfl, ⟨?_, by simp⟩, ?_, ?_⟩
  · exact (((Below.refl _ _).alloc (Nat.le_refl _) _).alloc (by simp) _).drew
  · show ((w.alloc (.cells a 28)).alloc (.cells b 51)).heap[w.heap.size]? = _
    rw [Below.heap_alloc _ _ _ (by simp)]; exact heap_alloc_new w _
  · have h := heap_alloc_new (w.alloc (.cells a 28)) (.cells b 51)
    rw [World.size_alloc] at h
    exact h

theorem mine_step {Fed : List UInt8 → Prop} {base : Nat} {w00 : World} {S : Sim Fed base w00} {p n : Nat} {ds ls : Value} {prs : List Pr} {nls : Nat} {ys : List Value} {w w0 w1 w2 w3 : World} {v : Value} {L : List (Int × List UInt8)} {F' : Foot} {i : Nat}
    (hI : LInv S p ds ls prs nls ys n w) (hb : Below w.heap.size w w0) (h : LInv S p ds ls prs nls ys n w0) (hi : i < prs.length) (hn : n ≤ 4194304) (h1 : prs.length ≤ n) (h2 : nls ≤ n) (hL : L.length ≤ 4194304)
    (O1 : Only (prs[i]'hi).F w0 w1) (hv : w1.ownsRow w0.heap.size 64 2 v L.length (outRow L)) (O2 : Only (prs[i]'hi).F w1 w2) (hP : S.P w2 (prs[i]'hi).x (prs[i]'hi).m F' (n + 1)) (hF : ∀ k, F' k → (prs[i]'hi).F k ∨ w0.heap.size ≤ k) (hvF : ∀ k, v.ownBlock = some k → ¬ F' k)
    (hv2 : w2.ownsRow w0.heap.size 64 2 v L.length (outRow L)) (hb3 : Below w2.heap.size w2 w3) :
    Calls Tryz.prog 31 #[.pointer (some ⟨p, 0, none⟩), v] w3 fun e w4 => e = .returned (.tuple #[]) ∧ StepPost S p n w (.returned (.bool true)) w4 := by
  have O3 : Only (prs[i]'hi).F w1 w3 := O2.below hb3
  have of : Only (fun _ => False) w2 w3 := (Only.refl _ w2).below hb3
  have O : Only (prs[i]'hi).F w0 w3 := O1.trans O3 (fun _ _ h => h)
  have far := h.far i hi
  have b3 := h.blk.only O (fun hf => (far p hf).2.1 rfl)
  have l3 := O.row h.lsr (fun k hk hf => (far k hf).2.2.2 hk)
  have v3 := of.row hv2 (fun _ _ h => h)
  have hpl := h.blk.lt
  have hbase := h.big
  have hvl : ∀ k, v.ownBlock = some k → w0.heap.size ≤ k := fun k hk => (hv.lt k hk).1
  refine (mine_any p ds ls false nls ys v L.length (outRow L) w3 b3 (row_base l3 (fun _ _ => Nat.zero_le _)) (row_base v3 (fun _ _ => Nat.zero_le _)) h.lp (fun e => by have := hvl p e; omega) (fun b hb' e => by have := hvl b e; have := (h.lsr.lt b hb').2; omega) (by omega) hL).mono ?_
  rintro e w4 ⟨ls', ys', rfl, b4, r4, hl, o4⟩
  have hP3 : S.P w3 (prs[i]'hi).x (prs[i]'hi).m F' (n + 1) := S.keep hP of.size (fun k hk => of.block k (S.lt hP k hk) id)
  refine ⟨rfl, rfl, ⟨_, _, _, _, _, h.fed hi O1 hv O3 hP3 hF hvF b4 r4 hl o4, by simp; omega, by omega⟩, ?_⟩
  have hz := hb.size
  refine (((Only.refl (fun b => base ≤ b) w).below hb).trans O (fun k _ hk => (far k hk).1)).trans o4 (fun k hk e => ?_)
  rcases e with e | e | e
  · rw [e]; exact h.hp
  · have := hvl k e; omega
  · exact (hI.lsr.lt k e).1

set_option maxHeartbeats 8000000 in
set_option maxRecDepth 100000 in
theorem stepFeed_any {Fed : List UInt8 → Prop} {base : Nat} {w00 : World} (S : Sim Fed base w00) (p n : Nat) (ds ls : Value) (prs : List Pr) (nls : Nat) (ys : List Value) (x : Opr) (w : World) (hI : LInv S p ds ls prs nls ys n w) (hn : n ≤ 1048576) (h1 : prs.length ≤ n) (h2 : nls ≤ n) (hx : x.k = 4) (hs : x.s.size ≤ 1048576) (hf : Fed x.s.data.toList) (hxf : -9223372036854775808 ≤ x.a ∧ x.a ≤ 9223372036854775807) (hbf : (Lit.int .i64 x.b).wf = true) :
    Calls Tryz.prog 12 #[.pointer (some ⟨p, 0, none⟩), .agg x.cs] w (StepPost S p n w) := by
  obtain ⟨k, a, b, le, re, ca, bo, he, s⟩ := x
  simp only at hx hs hf hxf hbf
  subst hx
  simp only [Opr.cs] at *
  have HI : Hid (LInv S p ds ls prs nls ys n w) := hI
  have hpl := hI.blk.lt
  have hbase := hI.big
  obtain ⟨ao, cp, hds, hcp, hao⟩ := row_form hI.dsr
  have c0 : w.cell? ⟨p, 0, none⟩ = some (.slice ao prs.length cp) := by rw [hI.blk.cell 0, ← hds]; rfl
  by_cases h0 : prs.length = 0
  · rw [h0] at c0
    clear hI hds hao
    go_enter Tryz.func12, Tryz.ntmps12
    go_wp2
    go_ret
    have hB : ∀ o, Below w.heap.size w (w.alloc o) := fun o => (Below.refl _ _).alloc (Nat.le_refl _) _
    exact ⟨rfl, ⟨ds, ls, prs, nls, ys, (HI.out.below (hB _)).up (Nat.le_succ n), by omega, by omega⟩, (Only.refl _ w).below (hB _)⟩
  have hpos : 0 < prs.length := by omega
  obtain ⟨g, rfl⟩ := hao hpos
  have HDS : Hid (ds = .slice (some ⟨g, 0, none⟩) prs.length cp) := hds
  obtain ⟨i, hii⟩ : ∃ i, pickI a prs.length = i := ⟨_, rfl⟩
  have hil : i < prs.length := hii ▸ pickI_lt a prs.length hpos
  have HPK : Hid (∀ w, Calls Tryz.prog 21 #[.int .i64 a, .int .i64 prs.length] w fun e w' => e = .returned (.int .i64 (i : Int)) ∧ w' = w) := fun w => hii ▸ pick_any a prs.length w hpos (by omega) hxf
  have hgl : g < w.heap.size := (hI.dsr.lt g (by rw [hds]; rfl)).2
  obtain ⟨q0, q1⟩ := hI.cells hds hil
  have hn1 : p ≠ w.heap.size + 1 := by omega
  have hn2 : g ≠ w.heap.size + 1 := by omega
  have hn3 : w.heap.size ≠ w.heap.size + 1 := by omega
  clear hI hds hao hii
  go_enter Tryz.func12, Tryz.ntmps12
  go_wp2_with fail
  go_region_held3 (fun w' => w'.cell? ⟨p, 0, none⟩ = some (.slice (some ⟨g, 0, none⟩) prs.length cp) ∧ w'.cell? ⟨w.heap.size, 1, none⟩ = some (.int .i64 a) ∧ w'.cell? ⟨g, i * 2, none⟩ = some (.pointer (some ⟨(prs[i]'hil).x, 0, none⟩)) ∧ w'.cell? ⟨g, i * 2 + 1, none⟩ = some (.pointer (some ⟨(prs[i]'hil).m, 0, none⟩))) (go_keep)
    (first | (go_at_call 21; refine (HPK.out _).mono ?_; rintro e w1 ⟨rfl, rfl⟩))
  all_goals
    clear q0 q1 c0 hn1 hn2 hn3
    obtain ⟨w0, hw0, hb0, hop, hpr⟩ := two_blocks w #[.int .i64 4, .int .i64 a, .int .i64 b, .int .i64 le, .int .i64 re, .int .i64 ca, .int .i64 bo, .int .i64 he, .string s] #[.pointer (some ⟨(prs[i]'hil).x, 0, none⟩), .pointer (some ⟨(prs[i]'hil).m, 0, none⟩)]
    rw [hw0]
    clear hw0
    have hz0 := hb0.1.size
    have hzz0 := hb0.2
    have HI0 := HI.out.below hb0.1
    obtain ⟨o0, o2, o8⟩ := op_cells0 hop
    obtain ⟨r0, r1, _⟩ := blk2 hpr
    have HOP : Hid (w0.heap[w.heap.size]? = some (.cells #[.int .i64 4, .int .i64 a, .int .i64 b, .int .i64 le, .int .i64 re, .int .i64 ca, .int .i64 bo, .int .i64 he, .string s] 28 (0, 0))) := hop
    have HPR : Hid (w0.heap[w.heap.size + 1]? = some (.cells #[.pointer (some ⟨(prs[i]'hil).x, 0, none⟩), .pointer (some ⟨(prs[i]'hil).m, 0, none⟩)] 51 (0, 0))) := hpr
    have HFX : Hid (Calls Tryz.prog 22 #[.pointer (some ⟨(prs[i]'hil).x, 0, none⟩), .int .i64 b, .string s] w0 (FedX S.P (prs[i]'hil).x (prs[i]'hil).m (prs[i]'hil).F n b s w0)) := S.feed w0 _ _ _ n b s HI0.big HI0.old hn hbf (HI0.sim i hil) hf (by omega)
    have HI0' : Hid (LInv S p ds ls prs nls ys n w0) := HI0
    have HFL : Hid (∀ k, (prs[i]'hil).F k → k < w.heap.size) := S.lt (HI.out.sim i hil)
    clear hop hpr HI0
    go_wp2_with fail
    refine HFX.out.mono ?_
    rintro e w1 ⟨v, L, rfl, hL, hv, O1, hm⟩
    have HM : Hid (Calls Tryz.prog 23 #[.pointer (some ⟨(prs[i]'hil).m, 0, none⟩), .int .i64 b, .string s] w1 (FedM S.P (prs[i]'hil).x (prs[i]'hil).m (prs[i]'hil).F n w0 v L w1)) := hm
    have hop1 : w1.heap[w.heap.size]? = some (.cells #[.int .i64 4, .int .i64 a, .int .i64 b, .int .i64 le, .int .i64 re, .int .i64 ca, .int .i64 bo, .int .i64 he, .string s] 28 (0, 0)) := by
      rw [O1.block _ (by omega) (fun h => by have := HFL.out _ h; omega)]; exact HOP.out
    have hpr1 : w1.heap[w.heap.size + 1]? = some (.cells #[.pointer (some ⟨(prs[i]'hil).x, 0, none⟩), .pointer (some ⟨(prs[i]'hil).m, 0, none⟩)] 51 (0, 0)) := by
      rw [O1.block _ (by omega) (fun h => by have := HFL.out _ h; omega)]; exact HPR.out
    obtain ⟨o0', o2', o8'⟩ := op_cells0 hop1
    obtain ⟨r0', r1', _⟩ := blk2 hpr1
    have hz1 := O1.size
    have HV : Hid (w1.ownsRow w0.heap.size 64 2 v L.length (outRow L)) := hv
    have HO1 : Hid (Only (prs[i]'hil).F w0 w1) := O1
    clear hm hop1 hpr1 hv O1 o0 o2 o8 r0 r1
    go_wp2_with fail
    refine HM.out.mono ?_
    rintro e w2 ⟨v2, F', rfl, hv2, O2, hP, hF', hvF⟩
    have hV2 : w2.ownsRow w0.heap.size 64 2 v L.length (outRow L) := O2.row HV.out (fun k hk h => by have := HFL.out k h; have := (HV.out.lt k hk).1; omega)
    have HSA : Hid (Calls Tryz.prog 30 #[v, v2] w2 fun e w' => e = .returned (.bool true) ∧ Below w2.heap.size w2 w') := same_any v v2 _ _ L w2 hV2 hv2 (by omega)
    have HREST : Hid (Only (prs[i]'hil).F w1 w2 ∧ S.P w2 (prs[i]'hil).x (prs[i]'hil).m F' (n + 1) ∧ (∀ k, F' k → (prs[i]'hil).F k ∨ w0.heap.size ≤ k) ∧ (∀ k, v.ownBlock = some k → ¬ F' k) ∧ w2.ownsRow w0.heap.size 64 2 v L.length (outRow L)) := And.intro O2 (And.intro hP (And.intro hF' (And.intro hvF hV2)))
    clear hv2 O2 hP hF' hvF hV2
    go_wp2_with fail
    refine HSA.out.mono ?_
    rintro e w3 ⟨rfl, hb3⟩
    have HMI : Hid (Calls Tryz.prog 31 #[.pointer (some ⟨p, 0, none⟩), v] w3 fun e w4 => e = .returned (.tuple #[]) ∧ StepPost S p n w (.returned (.bool true)) w4) := mine_step HI.out hb0.1 HI0'.out hil (by omega) h1 h2 (by omega) HO1.out HV.out HREST.out.1 HREST.out.2.1 HREST.out.2.2.1 HREST.out.2.2.2.1 HREST.out.2.2.2.2 hb3
    clear HREST HI HI0' HO1 HV hb3
    go_wp2_with fail
    refine HMI.out.mono ?_
    rintro e w4 ⟨rfl, h⟩
    have HF : Hid (StepPost S p n w (.returned (.bool true)) w4) := h
    clear h
    go_wp2
    go_ret
    exact HF.out
end Go.Proofs.YtjkenehiojbmiaaGreatDoor.Law
namespace Go.Proofs.YtjkenehiojbmiaaGreatDoor.Law
open Go.RowKit Mdl Msg
attribute [local go_sem] Sums.setCell_drewN
attribute [local go_sem] Sums.alloc_drewN

theorem hex_len (l : List UInt8) : (Sums.hex l).length = 8 := by simp [Sums.hex, Sums.two]
theorem line_len (l : List UInt8) : (Sums.line l).length = l.length + 9 := by simp [Sums.line, hex_len]

set_option maxHeartbeats 8000000 in
set_option maxRecDepth 100000 in
theorem stepSay_any {Fed : List UInt8 → Prop} {base : Nat} {w00 : World} (S : Sim Fed base w00) (p n : Nat) (ds ls : Value) (prs : List Pr) (nls : Nat) (ys : List Value) (x : Opr) (w : World) (hI : LInv S p ds ls prs nls ys n w) (hn : n ≤ 1048576) (h1 : prs.length ≤ n) (h2 : nls ≤ n) (hx : x.k = 3) (hs : x.s.size ≤ 1048576) (hf : Fed (Sums.line x.s.data.toList ++ [10])) (hxf : -9223372036854775808 ≤ x.a ∧ x.a ≤ 9223372036854775807) (hbf : (Lit.int .i64 x.b).wf = true) :
    Calls Tryz.prog 12 #[.pointer (some ⟨p, 0, none⟩), .agg x.cs] w (StepPost S p n w) := by
  obtain ⟨k, a, b, le, re, ca, bo, he, s⟩ := x
  simp only at hx hs hf hxf hbf
  subst hx
  simp only [Opr.cs] at *
  have HI : Hid (LInv S p ds ls prs nls ys n w) := hI
  have hpl := hI.blk.lt
  have hbase := hI.big
  obtain ⟨ao, cp, hds, hcp, hao⟩ := row_form hI.dsr
  have c0 : w.cell? ⟨p, 0, none⟩ = some (.slice ao prs.length cp) := by rw [hI.blk.cell 0, ← hds]; rfl
  have HSE : Hid (∀ w, Calls Tryz.prog 20 #[.string s] w fun e w' => e = .returned (.string ⟨(Sums.line s.data.toList).toArray⟩) ∧ Below w.heap.size w w') := fun w => Sums.sealed_any s w hs
  have hll : (Sums.line s.data.toList).length = s.size + 9 := by
    rw [line_len]; simp
  obtain ⟨l, hl⟩ : ∃ l, Sums.line s.data.toList = l := ⟨_, rfl⟩
  rw [hl] at HSE hll hf
  clear hl
  have hls : (⟨l.toArray⟩ : ByteArray).size ≤ 1048585 := by show l.length ≤ _; omega
  obtain ⟨t, ht⟩ : ∃ t : ByteArray, (⟨l.toArray⟩ : ByteArray) ++ (⟨#[10]⟩ : ByteArray) = t := ⟨_, rfl⟩
  have HT : Hid ((⟨l.toArray⟩ : ByteArray) ++ (⟨#[10]⟩ : ByteArray) = t) := ht
  have htt : t = ⟨(l ++ [10]).toArray⟩ := by rw [← ht]; exact Sums.ba_append l [10]
  have hts : t.size ≤ 1048600 := by
    rw [htt]; show (l ++ [10]).length ≤ _; simp; omega
  have HFT : Hid (Fed t.data.toList) := by rw [htt]; exact hf
  clear hf ht htt
  by_cases h0 : prs.length = 0
  · rw [h0] at c0
    clear hI hds hao
    go_enter Tryz.func12, Tryz.ntmps12
    go_wp2
    go_ret
    have hB : ∀ o, Below w.heap.size w (w.alloc o) := fun o => (Below.refl _ _).alloc (Nat.le_refl _) _
    exact ⟨rfl, ⟨ds, ls, prs, nls, ys, (HI.out.below (hB _)).up (Nat.le_succ n), by omega, by omega⟩, (Only.refl _ w).below (hB _)⟩
  have hpos : 0 < prs.length := by omega
  obtain ⟨g, rfl⟩ := hao hpos
  have HDS : Hid (ds = .slice (some ⟨g, 0, none⟩) prs.length cp) := hds
  obtain ⟨i, hii⟩ : ∃ i, pickI a prs.length = i := ⟨_, rfl⟩
  have hil : i < prs.length := hii ▸ pickI_lt a prs.length hpos
  have HPK : Hid (∀ w, Calls Tryz.prog 21 #[.int .i64 a, .int .i64 prs.length] w fun e w' => e = .returned (.int .i64 (i : Int)) ∧ w' = w) := fun w => hii ▸ pick_any a prs.length w hpos (by omega) hxf
  have hgl : g < w.heap.size := (hI.dsr.lt g (by rw [hds]; rfl)).2
  obtain ⟨q0, q1⟩ := hI.cells hds hil
  have hn1 : p ≠ w.heap.size + 1 := by omega
  have hn2 : g ≠ w.heap.size + 1 := by omega
  have hn3 : w.heap.size ≠ w.heap.size + 1 := by omega
  clear hI hds hao hii
  go_enter Tryz.func12, Tryz.ntmps12
  go_wp2_with fail
  go_region_held3 (fun w' => w'.cell? ⟨p, 0, none⟩ = some (.slice (some ⟨g, 0, none⟩) prs.length cp) ∧ w'.cell? ⟨w.heap.size, 1, none⟩ = some (.int .i64 a) ∧ w'.cell? ⟨g, i * 2, none⟩ = some (.pointer (some ⟨(prs[i]'hil).x, 0, none⟩)) ∧ w'.cell? ⟨g, i * 2 + 1, none⟩ = some (.pointer (some ⟨(prs[i]'hil).m, 0, none⟩))) (go_keep)
    (first | (go_at_call 21; refine (HPK.out _).mono ?_; rintro e w1 ⟨rfl, rfl⟩))
  all_goals
    clear q0 q1 c0 hn1 hn2 hn3
    obtain ⟨w00, hw0, hb00, hop, hpr⟩ := two_blocks w #[.int .i64 3, .int .i64 a, .int .i64 b, .int .i64 le, .int .i64 re, .int .i64 ca, .int .i64 bo, .int .i64 he, .string s] #[.pointer (some ⟨(prs[i]'hil).x, 0, none⟩), .pointer (some ⟨(prs[i]'hil).m, 0, none⟩)]
    rw [hw0]
    clear hw0
    have hz00 := hb00.2
    obtain ⟨o0, o2, o8⟩ := op_cells0 hop
    go_wp2_with fail
    refine (HSE.out _).mono ?_
    rintro e w0 ⟨rfl, hbz⟩
    clear o0 o2 o8
    have hzz := hbz.size
    have hb0 : Below w.heap.size w w0 ∧ w.heap.size + 2 ≤ w0.heap.size := And.intro (hb00.1.trans (hbz.mono (by omega))) (by omega)
    rw [← hbz.block _ (by omega)] at hop
    rw [← hbz.block _ (by omega)] at hpr
    clear hbz hb00 hz00 hzz
    have hz0 := hb0.1.size
    have hzz0 := hb0.2
    have HI0 := HI.out.below hb0.1
    obtain ⟨o0, o2, o8⟩ := op_cells0 hop
    obtain ⟨r0, r1, _⟩ := blk2 hpr
    have HOP : Hid (w0.heap[w.heap.size]? = some (.cells #[.int .i64 3, .int .i64 a, .int .i64 b, .int .i64 le, .int .i64 re, .int .i64 ca, .int .i64 bo, .int .i64 he, .string s] 28 (0, 0))) := hop
    have HPR : Hid (w0.heap[w.heap.size + 1]? = some (.cells #[.pointer (some ⟨(prs[i]'hil).x, 0, none⟩), .pointer (some ⟨(prs[i]'hil).m, 0, none⟩)] 51 (0, 0))) := hpr
    have HFX : Hid (Calls Tryz.prog 22 #[.pointer (some ⟨(prs[i]'hil).x, 0, none⟩), .int .i64 b, .string t] w0 (FedX S.P (prs[i]'hil).x (prs[i]'hil).m (prs[i]'hil).F n b t w0)) := S.feed w0 _ _ _ n b t HI0.big HI0.old hn hbf (HI0.sim i hil) HFT.out (by omega)
    have HI0' : Hid (LInv S p ds ls prs nls ys n w0) := HI0
    have HFL : Hid (∀ k, (prs[i]'hil).F k → k < w.heap.size) := S.lt (HI.out.sim i hil)
    clear hop hpr HI0
    go_wp2_with fail
    rw [HT.out]
    refine HFX.out.mono ?_
    rintro e w1 ⟨v, L, rfl, hL, hv, O1, hm⟩
    have HM : Hid (Calls Tryz.prog 23 #[.pointer (some ⟨(prs[i]'hil).m, 0, none⟩), .int .i64 b, .string t] w1 (FedM S.P (prs[i]'hil).x (prs[i]'hil).m (prs[i]'hil).F n w0 v L w1)) := hm
    have hop1 : w1.heap[w.heap.size]? = some (.cells #[.int .i64 3, .int .i64 a, .int .i64 b, .int .i64 le, .int .i64 re, .int .i64 ca, .int .i64 bo, .int .i64 he, .string s] 28 (0, 0)) := by
      rw [O1.block _ (by omega) (fun h => by have := HFL.out _ h; omega)]; exact HOP.out
    have hpr1 : w1.heap[w.heap.size + 1]? = some (.cells #[.pointer (some ⟨(prs[i]'hil).x, 0, none⟩), .pointer (some ⟨(prs[i]'hil).m, 0, none⟩)] 51 (0, 0)) := by
      rw [O1.block _ (by omega) (fun h => by have := HFL.out _ h; omega)]; exact HPR.out
    obtain ⟨o0', o2', o8'⟩ := op_cells0 hop1
    obtain ⟨r0', r1', _⟩ := blk2 hpr1
    have hz1 := O1.size
    have HV : Hid (w1.ownsRow w0.heap.size 64 2 v L.length (outRow L)) := hv
    have HO1 : Hid (Only (prs[i]'hil).F w0 w1) := O1
    clear hm hop1 hpr1 hv O1 o0 o2 o8 r0 r1
    go_wp2_with fail
    refine HM.out.mono ?_
    rintro e w2 ⟨v2, F', rfl, hv2, O2, hP, hF', hvF⟩
    have hV2 : w2.ownsRow w0.heap.size 64 2 v L.length (outRow L) := O2.row HV.out (fun k hk h => by have := HFL.out k h; have := (HV.out.lt k hk).1; omega)
    have HSA : Hid (Calls Tryz.prog 30 #[v, v2] w2 fun e w' => e = .returned (.bool true) ∧ Below w2.heap.size w2 w') := same_any v v2 _ _ L w2 hV2 hv2 (by omega)
    have HREST : Hid (Only (prs[i]'hil).F w1 w2 ∧ S.P w2 (prs[i]'hil).x (prs[i]'hil).m F' (n + 1) ∧ (∀ k, F' k → (prs[i]'hil).F k ∨ w0.heap.size ≤ k) ∧ (∀ k, v.ownBlock = some k → ¬ F' k) ∧ w2.ownsRow w0.heap.size 64 2 v L.length (outRow L)) := And.intro O2 (And.intro hP (And.intro hF' (And.intro hvF hV2)))
    clear hv2 O2 hP hF' hvF hV2
    go_wp2_with fail
    refine HSA.out.mono ?_
    rintro e w3 ⟨rfl, hb3⟩
    have HMI : Hid (Calls Tryz.prog 31 #[.pointer (some ⟨p, 0, none⟩), v] w3 fun e w4 => e = .returned (.tuple #[]) ∧ StepPost S p n w (.returned (.bool true)) w4) := mine_step HI.out hb0.1 HI0'.out hil (by omega) h1 h2 (by omega) HO1.out HV.out HREST.out.1 HREST.out.2.1 HREST.out.2.2.1 HREST.out.2.2.2.1 HREST.out.2.2.2.2 hb3
    clear HREST HI HI0' HO1 HV hb3
    go_wp2_with fail
    refine HMI.out.mono ?_
    rintro e w4 ⟨rfl, h⟩
    have HF : Hid (StepPost S p n w (.returned (.bool true)) w4) := h
    clear h
    go_wp2
    go_ret
    exact HF.out
end Go.Proofs.YtjkenehiojbmiaaGreatDoor.Law
