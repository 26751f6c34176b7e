import Derived.Test.YtffamlbkmjmipaaGreatDoorCards
import Derived.Test.YtffamlbkmjmipaaGreatDoorTie
import Derived.Test.YtffamlbkmjmipaaGreatDoorClosed
import Derived.Test.YtffamlbkmjmipaaGreatDoorSeals
import Derived.Test.YtffamlbkmjmipaaGreatDoorFrame
namespace Go.Proofs.YtffamlbkmjmipaaGreatDoor.Law
open Go.RowKit Go.Deep Go.ChangeShapes Go.WideShapes Go.ChangeAt

set_option maxHeartbeats 1000000 in
/-- The law: nothing in it hangs on what the script holds, once it is small. -/
theorem seals_walk (ao : Option Addr) (b off len cap : Nat) (ops : Nat → Opr) (w : World) (hao : 0 < len → ao = some ⟨b, off, none⟩) (hS : Scr w b off len ops) (hb : 0 < len → b < w.heap.size) (hlen : len ≤ 1000000000000000) (hstr : ∀ i, i < len → (ops i).s.size ≤ 1000000000000000) :
    Calls Tryz.prog 3 #[.slice ao len cap] w fun e w' => e = .returned (.bool true) ∧ Below w.heap.size w w' := by
  have HS : Hid (Scr w b off len ops) := hS
  have HO : Hid (0 < len → ao = some ⟨b, off, none⟩) := hao
  have HB : Hid (0 < len → b < w.heap.size) := hb
  have HT : Hid (∀ i, i < len → (ops i).s.size ≤ 1000000000000000) := hstr
  clear hS hao hb hstr
  go_enter Tryz.func3, Tryz.ntmps3
  go_wp2_with fail
  refine (small_any ao b off len cap ops _ HO.out HS.out HB.out hlen HT.out).mono ?_
  rintro e w1 ⟨r, rfl, hr, hb1⟩
  cases r
  · clear hr
    go_wp2
    go_ret
    exact ⟨rfl, hb1⟩
  · have ht := hr rfl
    have HR : Hid (tot len ops len ≤ 1048576) := ht
    clear hr ht
    go_wp2_with fail
    have h1 := tot_len len ops len
    have h2 := HR.out
    have h3 := hb1.size
    refine (upto1_any ao b off len cap ops _ HO.out (fun i hi j hj => by rw [hb1.cell (p := ⟨b, off + i * 9 + j, none⟩) (HB.out (by omega))]; exact HS.out i hi j hj) (fun h => Nat.lt_of_lt_of_le (HB.out h) h3) (by omega) (fun i hi => by have := tot_str len ops i len hi; omega)).mono ?_
    rintro e w2 ⟨rfl, hb2⟩
    clear h1 h2
    go_wp2
    go_ret
    exact ⟨rfl, hb1.trans (hb2.mono h3)⟩

set_option maxRecDepth 100000 in
theorem seals_contract (H : Type) (enc : TypeId × Value → H) (W : World) (base : Nat) (args : Array Value) (ds gs : List (DataW H)) (before : List MemPlace)
    (hval : ∀ (j : Nat) t v, Tryz.f3.params[j]? = some t → args[j]? = some v → Value.okWide Tryz.prog W .any base t v)
    (hW : DataW.Whole enc Tryz.prog Tryz.f3.params.toList Rows.sealsSpec.vars false W args.toList ds gs before)
    (hsz : (DataW.weightsEach Tryz.prog (Tryz.f3.params.toList ++ (OpenSpec.ofChange Rows.sealsSpec).bare.plain.varTypes Tryz.prog) (ds ++ gs)).all (· ≤ reachBytes) = true) :
    Calls Tryz.prog 3 args W fun e W' => ∃ v, e = .returned v ∧ Rows.sealsSpec.post enc Tryz.prog Tryz.f3 false true false false W args v W' := by
  have hW' := hW
  obtain ⟨p, q, hA0, hV, rfl, hfz, hnd⟩ := hW
  have hA : DataW.TrodAll enc Tryz.prog W 0 (fun _ => true) true Tryz.f3.params.toList args.toList ds p := hA0
  rw [Tryz.params3] at hA hval
  obtain ⟨v0, vs0, d0, ds0, p0, q0, hargs, rfl, rfl, h0, r0⟩ := trodAll_cons hA
  obtain ⟨rfl, rfl, rfl⟩ := trodAll_nil r0
  obtain rfl : args = #[v0] := by cases args; simp_all
  obtain ⟨rfl, rfl⟩ := trodVars_none hV
  obtain ⟨a0, len0, cap0, rfl⟩ := okWide_slice Tryz.underlying22 (hval 0 22 v0 rfl rfl)
  have h0' := h0
  obtain ⟨fuel, hf⟩ := h0
  obtain ⟨ao, b, off, len, cap, ops, hcs, hao, hS, hb, _, hd⟩ := open_script hf
  simp only [Value.cells, List.cons.injEq, Value.slice.injEq, and_true] at hcs
  obtain ⟨rfl, rfl, rfl⟩ := hcs
  have hz : (DataW.weightsEach Tryz.prog [22] [d0]).all (· ≤ reachBytes) = true := hsz
  obtain ⟨hlen, hstr⟩ := reach (ops := ops) hz hd
  have hlt : ∀ x ∈ p0 ++ [], x.block < W.heap.size := fun x hx => hW'.lt x (by simpa using hx)
  clear hA0
  simp only [List.append_nil] at hW' hlt
  refine (seals_walk a0 b off len0 cap0 ops W hao hS hb hlen hstr).mono fun e W' ⟨he, hg⟩ => ?_
  subst he
  refine ⟨_, rfl, [d0], [], p0, [], p0, [], hW', ?_, ?_, rfl, hg.frame _, fun h => by cases h⟩
  · exact trodAll_cons_mk (shut_bool Tryz.underlying4 _) trodAll_mk0
  · have := trodAll_cons_mk (Below.trod laidOut readScript rowScript h0' hg hlt) trodAll_mk0
    rw [List.append_nil] at this
    exact this

set_option maxHeartbeats 4000000 in
set_option maxRecDepth 100000 in
theorem seals_lifted (os : Os) (started : os.Started) (H : Type) (enc : TypeId × Value → H) (F : Stop.Interp) :
    ReturnsInHanded {} Tryz.checked os 3 .any ((OpenSpec.ofChange Rows.sealsSpec).preRow enc Tryz.prog Tryz.f3 Rows.sealsRow.domain false Rows.sealsRow.laid) (((OpenSpec.ofChange Rows.sealsSpec).at F).post enc Tryz.prog Tryz.f3 false true false false) := by
  obtain ⟨W0, hW0⟩ : ∃ W0, IsLaid os W0 := ⟨_, rfl⟩
  obtain ⟨places, hx⟩ := reads os W0 hW0 enc
  have hmet := laid_met os W0 hW0
  refine returnsInHanded_of_row (C := Tryz.checked) (s := OpenSpec.ofChange Rows.sealsSpec) own started (by kernel_rfl) Tryz.func3
    (witness_row_at (enc := enc) (C := Tryz.checked) false W0 #[.slice none 0 0] (by cases hW0; rfl) (by cases hW0; kernel_rfl) (by cases hW0; kernel_rfl) (by cases hW0; kernel_rfl)
      (OpenSpec.preRow_of_cond 8 hx (by kernel_rfl) (fun k hk => by cases hk) (by kernel_rfl) hmet)) ?_
  intro W base args ds gs before hval hW _ _ hsz _ _ _
  exact seals_contract H enc W base args ds gs before hval hW hsz

set_option maxRecDepth 100000 in
set_option maxHeartbeats 4000000 in
/-- The row's closed facts, one by one. -/
theorem seals_facts : joinedFacts Tryz.checked.prog 3 Tryz.f3 (OpenSpec.ofChange Rows.sealsSpec).bare Rows.sealsRow = true := by
  unfold joinedFacts
  refine and_mk (and_mk (and_mk (and_mk (and_mk (and_mk (and_mk (and_mk (and_mk (and_mk (and_mk (and_mk (and_mk (and_mk (and_mk (and_mk (and_mk (and_mk (and_mk (and_mk (and_mk (and_mk (and_mk (and_mk (and_mk (and_mk (and_mk (and_mk (and_mk (and_mk (and_mk (?c1) ?c2) ?c3) ?c4) ?c5) ?c6) ?c7) ?c8) ?c9) ?c10) ?c11) ?c12) ?c13) ?c14) ?c15) ?c16) ?c17) ?c18) ?c19) ?c20) ?c21) ?c22) ?c23) ?c24) ?c25) ?c26) ?c27) ?c28) ?c29) ?c30) ?c31) ?c32
  case c1 => as_aux_lemma => kernel_rfl
  case c2 => exact closed_laid
  case c3 => exact closed_rowed
  case c4 => as_aux_lemma => kernel_rfl
  case c5 => as_aux_lemma => kernel_rfl
  case c6 => as_aux_lemma => kernel_rfl
  case c7 => as_aux_lemma => kernel_rfl
  case c8 => as_aux_lemma => kernel_rfl
  case c9 => as_aux_lemma => kernel_rfl
  case c10 => as_aux_lemma => kernel_rfl
  case c11 => as_aux_lemma => kernel_rfl
  case c12 => as_aux_lemma => kernel_rfl
  case c13 => as_aux_lemma => kernel_rfl
  case c14 => as_aux_lemma => kernel_rfl
  case c15 => as_aux_lemma => kernel_rfl
  case c16 => as_aux_lemma => kernel_rfl
  case c17 => as_aux_lemma => kernel_rfl
  case c18 => as_aux_lemma => kernel_rfl
  case c19 => as_aux_lemma => kernel_rfl
  case c20 => as_aux_lemma => kernel_rfl
  case c21 => as_aux_lemma => kernel_rfl
  case c22 => as_aux_lemma => kernel_rfl
  case c23 => exact beq_mk (by kernel_rfl) closed_plain
  case c24 => as_aux_lemma => kernel_rfl
  case c25 => exact closed_heard
  case c26 => exact closed_enter
  case c27 => as_aux_lemma => kernel_rfl
  case c28 => as_aux_lemma => kernel_rfl
  case c29 => as_aux_lemma => kernel_rfl
  case c30 => as_aux_lemma => kernel_rfl
  case c31 => as_aux_lemma => kernel_rfl
  case c32 => as_aux_lemma => kernel_rfl

theorem seals_said : Rows.SealsSaid :=
  OpenClaim.holds_of_cond 3 Tryz.f3 rfl rfl rfl rfl rfl rfl rfl ⟨rfl, rfl, rfl, rfl, rfl⟩ rfl rfl rfl rfl rfl (by kernel_rfl) Tryz.func3 seals_facts
    (of_decide_eq_true (by kernel_rfl)) (by unfold Func.isWrapper; first | (rw [if_pos (by decide +kernel)]; kernel_rfl) | (rw [if_neg (by decide +kernel)]; exact ⟨rfl, rfl⟩))
    (fun os started H enc _ F => by rw [OpenClaim.pre_eq_preRow]; exact seals_lifted os started H enc F)

theorem seals_plain (f : FuncId) (fn : Func) (hf : Tryz.pinned.checked.prog.funcNamed Tryz.f3.name = some f) (hfn : Tryz.pinned.checked.prog.funcs[f]? = some fn) :
    true = Tryz.pinned.checked.prog.looks [] ∧ ∀ (j : Nat) t, fn.params[j]? = some t → Tryz.pinned.checked.prog.wantsStandIn t = false := by
  obtain rfl : f = 3 := Option.some.inj ((show Tryz.prog.funcNamed Tryz.f3.name = some 3 by kernel_rfl).symm.trans hf) |>.symm
  obtain rfl : fn = Tryz.f3 := (Option.some.inj (Tryz.func3.symm.trans hfn)).symm
  refine ⟨by kernel_rfl, fun j t ht => ?_⟩
  rw [Tryz.params3] at ht
  obtain rfl : t = 22 := by simpa using Array.mem_of_getElem? ht
  exact (show Tryz.prog.wantsStandIn 22 = false by kernel_rfl)

theorem seals_card : Rows.SealsCardSaid :=
  Claim7.holds_tied_plain_at .later [] _ _ _ _ seals_said (fun _ h => by cases h) (by kernel_rfl) (fun _ h => by cases h) seals_row_tie rfl ⟨rfl, rfl⟩ (by kernel_rfl) rfl seals_plain (by kernel_rfl)
end Go.Proofs.YtffamlbkmjmipaaGreatDoor.Law
namespace Go.Proofs.YtffamlbkmjmipaaGreatDoor
theorem seals_holds : Rows.SealsCardSaid := Law.seals_card
end Go.Proofs.YtffamlbkmjmipaaGreatDoor
