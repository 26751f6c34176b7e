import Derived.Test.YtjkenehiojbmiaaGreatDoorFeeds
import Derived.Test.YtjkenehiojbmiaaGreatDoorUpTo2
namespace Go.Proofs.YtjkenehiojbmiaaGreatDoor.Law
open Go.RowKit Mdl Msg Sums

/-- The first word begins the text. -/
theorem cut_first (c : UInt8) (l : List UInt8) : ∃ k r z, cutL c l = k :: r ∧ l = k ++ z := by
  rcases cut_cut c l with ⟨_, h, _⟩ | ⟨a, b, _, h, _, h'⟩
  · exact ⟨l, [], [], h, by simp⟩
  · exact ⟨a, _, _, h, h'⟩
theorem cut_mem (c : UInt8) : ∀ (n : Nat) (l : List UInt8), l.length ≤ n → ∀ y ∈ cutL c l, ∀ b ∈ y, b ∈ l
  | n, l, hn, y, hy, b, hb => by
    rcases cut_cut c l with ⟨_, h, _⟩ | ⟨a, b', _, h, _, h'⟩
    · rw [h] at hy
      obtain rfl := List.mem_singleton.1 hy
      exact hb
    · rw [h] at hy
      rcases List.mem_cons.1 hy with rfl | hy
      · rw [h']; exact List.mem_append_left _ hb
      · match n, hn with
        | 0, hn => rw [h'] at hn; simp at hn
        | n + 1, hn =>
          have := cut_mem c n b' (by rw [h'] at hn; simp at hn; omega) y hy b hb
          rw [h']; exact List.mem_append_right _ (List.mem_cons_of_mem _ this)
theorem readW_key {k : List UInt8} {r : List (List UInt8)} (h : (readW (k :: r)).2 = true) : k = kPull ∨ k = kBeat ∨ k = kDrain ∨ k = kCan ∨ k = kFail ∨ k = kDone ∨ k = kSub := by
  match r, h with
  | [], h => simp [readW] at h; rcases h with (h | h) | h <;> simp [h]
  | [a], h =>
    by_cases hk : k = kCan
    · simp [hk]
    · simp [readW, hk] at h
  | [a, b], h =>
    by_cases hk : k = kFail
    · simp [hk]
    · simp [readW, hk] at h
  | [a, b, d], h =>
    by_cases hk : k = kDone
    · simp [hk]
    · by_cases hk2 : k = kSub
      · simp [hk2]
      · simp [readW, hk, hk2] at h
  | a :: b :: d :: e :: r, h => simp [readW] at h
/-- A message begins with a letter of a word. -/
theorem read_key {l : List UInt8} (h : (readL l).2 = true) : ∃ b z, l = b :: z ∧ b ∈ keyL := by
  obtain ⟨k, r, z, hc, hl⟩ := cut_first 32 l
  unfold readL at h
  rw [hc] at h
  rcases readW_key h with e | e | e | e | e | e | e <;> (subst e; rw [hl]; exact ⟨_, _, rfl, by decide⟩)
theorem open_prefix {y : List UInt8} (h : openB y = true) : openS y = y.take (y.length - 9) ∧ 9 ≤ y.length ∧ y.length ≤ 80 ∧ Sums.line (y.take (y.length - 9)) = y := by
  by_cases hh : 9 ≤ y.length ∧ y.length ≤ 80 ∧ Sums.line (y.take (y.length - 9)) = y
  · exact ⟨(open_yes hh).1, hh⟩
  · rw [(open_no hh).2] at h; cases h
theorem msg_key {y : List UInt8} (h : isMsg y = true) : ∃ b z, y = b :: z ∧ b ∈ keyL := by
  unfold isMsg at h
  rw [Bool.and_eq_true] at h
  obtain ⟨b, z, hb, hk⟩ := read_key h.2
  rw [(open_prefix h.1).1] at hb
  refine ⟨b, z ++ y.drop (y.length - 9), ?_, hk⟩
  rw [← List.cons_append, ← hb, List.take_append_drop]
theorem msg_noKey {y : List UInt8} (h : ∀ b z, y = b :: z → b ∉ keyL) : isMsg y = false := by
  cases hm : isMsg y
  · rfl
  · obtain ⟨b, z, e, hk⟩ := msg_key hm
    exact absurd hk (h b z e)
theorem two_no10 (n : Int) (h0 : 0 ≤ n) (h1 : n ≤ 255) : (10 : UInt8) ∉ two n := by
  have h : ∀ n : Fin 256, (10 : UInt8) ∉ two (n.val : Int) := by decide +kernel
  have := h ⟨n.toNat, by omega⟩
  simpa [Int.toNat_of_nonneg h0] using this
theorem hex_no10 (t : List UInt8) : (10 : UInt8) ∉ hex t := by
  have b0 := sm_bd t t.length 0
  have b1 := sm_bd t t.length 1
  have b2 := sm_bd t t.length 2
  have b3 := sm_bd t t.length 3
  unfold hex
  simp only [List.mem_append, not_or]
  exact ⟨⟨⟨two_no10 _ (by omega) (by omega), two_no10 _ (by omega) (by omega)⟩, two_no10 _ (by omega) (by omega)⟩, two_no10 _ (by omega) (by omega)⟩
theorem line_no10 {t : List UInt8} (h : ∀ c ∈ t, c ≠ 10) : (10 : UInt8) ∉ Sums.line t := by
  unfold Sums.line
  simp only [List.mem_append, not_or]
  exact ⟨⟨fun e => h 10 e rfl, by decide⟩, hex_no10 t⟩
theorem line_len' (t : List UInt8) : (Sums.line t).length = t.length + 9 := by
  unfold Sums.line hex two; simp
theorem open_line (t : List UInt8) (h : openB (Sums.line t) = true) : openS (Sums.line t) = t := by
  rw [(open_prefix h).1, line_len']
  unfold Sums.line
  rw [List.append_assoc, List.take_left' (by omega)]

/-- Bytes that hold no message: no line is one, and what is left has no letter of a word. -/
theorem fed_no {r s : List UInt8} (hr : noKey r) (hs : FedB s) : (∀ y ∈ (withRest r (cutL 10 s)).dropLast, isMsg y = false) ∧ noKey (endOf r s) := by
  rcases hs with hs | ⟨t, rfl, ht, h10⟩
  · have hall : ∀ y ∈ withRest r (cutL 10 s), noKey y := fun y hy b hb => by
      obtain ⟨k, ws, z, hc, _⟩ := cut_first 10 s
      have hm : ∀ y ∈ cutL 10 s, noKey y := fun y hy b hb => hs b (cut_mem 10 _ s (Nat.le_refl _) y hy b hb)
      rw [hc] at hy hm
      rcases List.mem_cons.1 hy with rfl | hy
      · rcases List.mem_append.1 hb with h | h
        · exact hr b h
        · exact hm k (List.mem_cons_self ..) b h
      · exact hm y (List.mem_cons_of_mem _ hy) b hb
    refine ⟨fun y hy => msg_noKey (fun b z e => ?_), fun b hb => ?_⟩
    · exact hall y (List.dropLast_subset _ hy) b (by rw [e]; exact List.mem_cons_self ..)
    · have hb' := List.mem_of_mem_take hb
      rw [List.getLastD_eq_getLast?] at hb'
      cases hl : (withRest r (cutL 10 s)).getLast? with
      | none => rw [hl] at hb'; simp at hb'
      | some y => rw [hl] at hb'; exact hall y (List.mem_of_getLast? hl) b hb'
  · have hc : cutL 10 (Sums.line t ++ [10]) = [Sums.line t, []] := by
      rw [show Sums.line t ++ [10] = Sums.line t ++ 10 :: [] from rfl, cutL_at (line_no10 h10), cutL_free (by simp)]
    unfold endOf
    rw [hc]
    refine ⟨fun y hy => ?_, fun b hb => by simp [withRest] at hb⟩
    have hy' : y = r ++ Sums.line t := by simpa [withRest] using hy
    subst hy'
    cases r with
    | nil =>
      cases hm : isMsg ([] ++ Sums.line t)
      · rfl
      · unfold isMsg at hm
        rw [List.nil_append, Bool.and_eq_true] at hm
        rw [open_line t hm.1, ht] at hm
        cases hm.2
    | cons b r =>
      refine msg_noKey (fun b' z e => ?_)
      have : b = b' := by simpa using (List.cons.inj e).1
      subst this
      exact hr b (List.mem_cons_self ..)
theorem endOf_len (r s : List UInt8) : (endOf r s).length ≤ 81 := by unfold endOf; simp; omega

/-! ### the model's connections -/
def restR (c : Int) : List Cn → List UInt8
  | [] => []
  | x :: l => if x.n == c then x.rest else restR c l
def setR (c : Int) (r : List UInt8) : List Cn → List Cn
  | [] => [⟨c, r, false, false⟩]
  | x :: l => if x.n == c then { x with rest := r } :: l else x :: setR c r l
theorem rest_R (c : Int) (l : List Cn) (r : List UInt8) : restOf c l = restR c l ∧ setRest c l r = setR c r l := by
  induction l with
  | nil => exact ⟨rfl, rfl⟩
  | cons x l ih =>
    cases hx : (x.n == c)
    · have hi : ixOf c (x :: l) = ixOf c l + 1 := by unfold ixOf; simp [List.findIdx_cons, hx]
      have hw : withC c (x :: l) = x :: withC c l := by
        unfold withC
        rw [hi]
        by_cases h : ixOf c l < l.length
        · rw [if_pos h, if_pos (by simp; omega)]
        · rw [if_neg h, if_neg (by simp; omega)]; rfl
      unfold restOf setRest at *
      rw [hw, hi]
      refine ⟨?_, ?_⟩
      · simp only [List.getElem?_cons_succ, restR, hx]; exact ih.1
      · simp only [List.modify_succ_cons, setR, hx]; rw [ih.2]; rfl
    · have hi : ixOf c (x :: l) = 0 := by unfold ixOf; simp [List.findIdx_cons, hx]
      have hw : withC c (x :: l) = x :: l := by unfold withC; rw [hi, if_pos (by simp)]
      unfold restOf setRest
      rw [hw, hi]
      refine ⟨?_, ?_⟩
      · simp [restR, hx]
      · simp [setR, hx]
theorem rest_set_same (c : Int) (l : List Cn) (r : List UInt8) : restOf c (setRest c l r) = r := by
  rw [(rest_R c l r).2, (rest_R c _ []).1]
  induction l with
  | nil => simp [setR, restR]
  | cons x l ih =>
    cases hx : (x.n == c)
    · simp [setR, hx, restR, ih]
    · simp [setR, hx, restR]
theorem rest_set_other {c d : Int} (l : List Cn) (r : List UInt8) (h : d ≠ c) : restOf d (setRest c l r) = restOf d l := by
  rw [(rest_R c l r).2, (rest_R d _ []).1, (rest_R d l []).1]
  induction l with
  | nil => simp [setR, restR, Ne.symm h]
  | cons x l ih =>
    cases hx : (x.n == c)
    · simp only [setR, hx, restR]; rw [← ih]; rfl
    · have hxd : (x.n == d) = false := by rw [beq_iff_eq] at hx; rw [beq_eq_false_iff_ne]; omega
      simp [setR, hx, restR, hxd]
theorem set_len (c : Int) (l : List Cn) (r : List UInt8) : (setRest c l r).length = (withC c l).length := by unfold setRest; simp
end Go.Proofs.YtjkenehiojbmiaaGreatDoor.Law
namespace Go.Proofs.YtjkenehiojbmiaaGreatDoor.Law
open Go.RowKit Mdl Msg Sums

/-- A dispatcher of the program, and the model's, that have been told the same, and no message. -/
structure Both (base : Nat) (w : World) (x m : Nat) (F : Foot) (n mb : Nat) (g : Int → Option PV) (mv : MV) (l : List Cn) : Prop where
  dx : DX base w x mb n g
  mo : MBlk w m mv
  ov : mv.ov = .slice none 0 0
  row : w.ownsRow 0 99 4 mv.cv l.length (cnRow l)
  ne : mv.cv.ownBlock ≠ some m
  len : l.length ≤ n
  same : ∀ c, restG g c = restOf c l
  key : ∀ c, noKey (restOf c l)
  most : ∀ c, (restOf c l).length ≤ 81
  hm : base ≤ m
  hc : ∀ b, mv.cv.ownBlock = some b → base ≤ b
  far : ∀ k, footX x mb g k → k ≠ m ∧ mv.cv.ownBlock ≠ some k
  foot : ∀ k, F k ↔ footX x mb g k ∨ k = m ∨ mv.cv.ownBlock = some k
def PB (base : Nat) (w : World) (x m : Nat) (F : Foot) (n : Nat) : Prop := ∃ mb g mv l, Both base w x m F n mb g mv l

section
variable {base : Nat} {w w' : World} {x m : Nat} {F : Foot} {n n' : Nat}
theorem PB.lt (h : PB base w x m F n) (k : Nat) (hk : F k) : k < w.heap.size := by
  obtain ⟨mb, g, mv, l, h⟩ := h
  rcases (h.foot k).1 hk with h' | h' | h'
  · exact h.dx.lt h'
  · rw [h']; exact h.mo.lt
  · exact (h.row.lt k h').2
theorem PB.keep (h : PB base w x m F n) (hk : ∀ k, F k → w'.heap[k]? = w.heap[k]?) : PB base w' x m F n := by
  obtain ⟨mb, g, mv, l, h⟩ := h
  have hk' := fun k hf => hk k ((h.foot k).2 hf)
  refine ⟨mb, g, mv, l, h.dx.keep (fun k hf => hk' k (Or.inl hf)), ?_, h.ov, row_keep h.row (fun k e => hk' k (Or.inr (Or.inr e))), h.ne, h.len, h.same, h.key, h.most, h.hm, h.hc, h.far, h.foot⟩
  unfold MBlk
  rw [hk' m (Or.inr (Or.inl rfl))]; exact h.mo
theorem PB.up (h : PB base w x m F n) (hn : n ≤ n') : PB base w x m F n' := by
  obtain ⟨mb, g, mv, l, h⟩ := h
  exact ⟨mb, g, mv, l, h.dx.up hn, h.mo, h.ov, h.row, h.ne, Nat.le_trans h.len hn, h.same, h.key, h.most, h.hm, h.hc, h.far, h.foot⟩
end

theorem feedB {base : Nat} {w00 : World} (L : LibAt base w00) (HRD : ReadSaid) (w : World) (x m : Nat) (F : Foot) (n : Nat) (c : Int) (s : ByteArray) (hB : base ≤ w.heap.size) (hb : Below base w00 w) (hn : n ≤ 1048576) (hc : (Lit.int .i64 c).wf = true) (hP : PB base w x m F n) (hs : FedB s.data.toList) (hz : s.size ≤ 1048600) :
    Calls Tryz.prog 22 #[.pointer (some ⟨x, 0, none⟩), .int .i64 c, .string s] w (FedX (PB base) x m F n c s w) := by
  obtain ⟨mb, g, mv, l, h⟩ := hP
  obtain ⟨hno, hkey⟩ := fed_no (r := restOf c l) (h.key c) hs
  have hml := h.mo.lt
  have hcl : ∀ b, mv.cv.ownBlock = some b → b < w.heap.size := fun b hb => (h.row.lt b hb).2
  have htl : (cutL 10 s.data.toList).length ≤ 1048601 := by
    have h := (cutP_len 10 s.data.toList).1
    have e : s.data.toList.length = s.size := by simp
    unfold cutL; simp; omega
  refine (feedX_bad L h.dx c s hn hc hB hb (by omega) (by rw [h.same c]; exact hno)).mono ?_
  rintro e w1 ⟨a, g', rfl, hD', hoth, hrest, hrow, haf, hfoot, ho⟩
  have z1 := ho.size
  have hnf : ∀ k, k = m ∨ mv.cv.ownBlock = some k → ¬ footX x mb g k := fun k hk hf => by
    rcases hk with hk | hk
    · exact (h.far k hf).1 hk
    · exact (h.far k hf).2 hk
  have M1 : MBlk w1 m mv := h.mo.only ho (hnf m (Or.inl rfl))
  have R1 := ho.row h.row (fun k hk => hnf k (Or.inr hk))
  refine ⟨a, List.replicate ((cutL 10 s.data.toList).length - 1) (c, bad), rfl, by rw [List.length_replicate]; omega, by rw [List.length_replicate]; exact hrow, ho.mono (fun k _ hk => (h.foot k).2 (Or.inl hk)), ?_⟩
  refine (feed_bad HRD m c s mv l w1 M1 h.ov R1 h.ne (by have := h.len; omega) (by omega) (h.most c) hno).mono ?_
  rintro e w2 ⟨b, cv, rfl, M2, R2, hcv, hout, hbc, ho2⟩
  have z2 := ho2.size
  have hcl2 : ∀ b, cv.ownBlock = some b → b < w2.heap.size := fun b hb => (R2.lt b hb).2
  have hf1 : ∀ k, footX x mb g' k → k ≠ m ∧ mv.cv.ownBlock ≠ some k := fun k hk => by
    rcases hfoot k hk with h' | h'
    · exact h.far k h'
    · exact ⟨by omega, fun e => by have := hcl k e; omega⟩
  have hf2 : ∀ k, footX x mb g' k → k ≠ m ∧ cv.ownBlock ≠ some k := fun k hk => by
    refine ⟨(hf1 k hk).1, fun e => ?_⟩
    rcases hcv with h' | h'
    · exact (hf1 k hk).2 (h'.trans e)
    · have := h' k e; have := hD'.lt hk; omega
  have D2 : DX base w2 x mb (n + 1) g' := hD'.keep (fun k hk => ho2.block k (hD'.lt hk) (fun e => by
    rcases e with e | e
    · exact (hf1 k hk).1 e
    · exact (hf1 k hk).2 e))
  have hlen := set_len c l (endOf (restOf c l) s.data.toList)
  have hnecv : cv.ownBlock ≠ some m := fun e => by
    rcases hcv with h' | h'
    · exact h.ne (h'.trans e)
    · have := h' m e; omega
  have hF2 : ∀ k, cv.ownBlock = some k → mv.cv.ownBlock = some k ∨ w1.heap.size ≤ k := fun k e => hcv.elim (fun h' => Or.inl (h'.trans e)) (fun h' => Or.inr (h' k e))
  refine ⟨b, fun k => footX x mb g' k ∨ k = m ∨ cv.ownBlock = some k, rfl, by rw [List.length_replicate]; exact hout, ho2.mono (fun k _ hk => (h.foot k).2 (Or.inr hk)), ?_, fun k hk => ?_, fun k hk hk' => ?_⟩
  · refine ⟨mb, g', { mv with cv := cv, ov := .slice none 0 0 }, setRest c l (endOf (restOf c l) s.data.toList), D2, M2, rfl, by rw [hlen]; exact R2, hnecv, ?_, fun d => ?_, fun d => ?_, fun d => ?_, h.hm, fun k hk => ?_, hf2, fun k => Iff.rfl⟩
    · rw [hlen]; have := withC_len c l; have := h.len; omega
    · by_cases hd : d = c
      · subst hd; rw [rest_set_same, hrest, h.same]
      · rw [rest_set_other _ _ hd, ← h.same d]; unfold restG; rw [hoth d hd]
    · by_cases hd : d = c
      · subst hd; rw [rest_set_same]; exact hkey
      · rw [rest_set_other _ _ hd]; exact h.key d
    · by_cases hd : d = c
      · subst hd; rw [rest_set_same]; exact endOf_len _ _
      · rw [rest_set_other _ _ hd]; exact h.most d
    · rcases hF2 k hk with h' | h'
      · exact h.hc k h'
      · omega
  · rcases hk with hk | hk | hk
    · rcases hfoot k hk with h' | h'
      · exact Or.inl ((h.foot k).2 (Or.inl h'))
      · exact Or.inr h'
    · exact Or.inl ((h.foot k).2 (Or.inr (Or.inl hk)))
    · rcases hF2 k hk with h' | h'
      · exact Or.inl ((h.foot k).2 (Or.inr (Or.inr h')))
      · right; omega
  · have hal := hrow.lt k hk
    rcases hk' with h' | h' | h'
    · exact haf k hk h'
    · omega
    · rcases hF2 k h' with h'' | h''
      · have := hcl k h''; omega
      · omega

theorem newB {base : Nat} {w00 : World} (w : World) (o : Opr) (hB : base ≤ w.heap.size) (_hb : Below base w00 w) : Calls Tryz.prog 17 #[o.cfg] w (NewX (PB base) o w) := by
  refine (newX_any o w).mono ?_
  rintro e w1 (⟨hok, rfl, hb1⟩ | ⟨hok, w0, hb0, rfl, rfl⟩)
  · refine ⟨hb1, Or.inl ⟨rfl, ?_⟩⟩
    refine (newM_any o w1).mono ?_
    rintro e w2 (⟨_, rfl, hb2⟩ | ⟨hok', _⟩)
    · exact ⟨rfl, hb2⟩
    · rw [hok] at hok'; cases hok'
  · have z0 := hb0.size
    refine ⟨(hb0.alloc z0 _).alloc (by simp; omega) _, Or.inr ⟨w0.heap.size + 1, rfl, ?_⟩⟩
    refine (newM_any o _).mono ?_
    rintro e w2 (⟨hok', _⟩ | ⟨_, ob, rfl, rfl⟩)
    · rw [hok] at hok'; cases hok'
    · obtain ⟨W1, e1⟩ : ∃ W1, w0.alloc (.map #[] 0) = W1 := ⟨_, rfl⟩
      have s1 : W1.heap.size = w0.heap.size + 1 := by rw [← e1]; simp
      have m1 : MapIs W1 w0.heap.size 0 (fun _ => .pointer none) := by rw [← e1]; exact MapIs.made w0
      rw [e1]
      obtain ⟨W2, e2⟩ : ∃ W2, W1.alloc (.cells #[.map (some w0.heap.size)] 72) = W2 := ⟨_, rfl⟩
      have s2 : W2.heap.size = w0.heap.size + 2 := by rw [← e2]; simp; omega
      have m2 : MapIs W2 w0.heap.size 0 (fun _ => .pointer none) := m1.block (by rw [← e2]; exact Below.heap_alloc _ _ _ (by omega))
      have d2 : DBlk W2 (w0.heap.size + 1) w0.heap.size := by unfold DBlk; rw [← e2, ← s1]; exact heap_alloc_new W1 _
      rw [e2]
      obtain ⟨W3, e3⟩ : ∃ W3, W2.alloc ob = W3 := ⟨_, rfl⟩
      have s3 : W3.heap.size = w0.heap.size + 3 := by rw [← e3]; simp; omega
      have b3 : Below W2.heap.size W2 W3 := by rw [← e3]; exact (Below.refl _ _).alloc (Nat.le_refl _) _
      rw [e3]
      obtain ⟨W4, e4⟩ : ∃ W4, W3.alloc (.cells (mv0 o).cs 80) = W4 := ⟨_, rfl⟩
      have s4 : W4.heap.size = w0.heap.size + 4 := by rw [← e4]; simp; omega
      have b4 : Below W2.heap.size W2 W4 := by rw [← e4]; exact b3.alloc b3.size _
      have k4 : MBlk W4 (w0.heap.size + 3) (mv0 o) := by unfold MBlk; rw [← e4, ← s3]; exact heap_alloc_new W3 _
      have m4 : MapIs W4 w0.heap.size 0 (fun _ => .pointer none) := m2.block (b4.block _ (by omega))
      have d4 : DBlk W4 (w0.heap.size + 1) w0.heap.size := d2.block (b4.block _ (by omega))
      rw [e4]
      have em : W2.heap.size + 1 = w0.heap.size + 3 := by omega
      rw [em]
      have hfx : ∀ k, footX (w0.heap.size + 1) w0.heap.size (fun _ => none) k → k = w0.heap.size + 1 ∨ k = w0.heap.size := fun k hk => by
        rcases hk with h | h | ⟨c, t, h, _⟩
        · exact Or.inl h
        · exact Or.inr h
        · cases h
      refine ⟨w0.heap.size + 3, fun k => footX (w0.heap.size + 1) w0.heap.size (fun _ => none) k ∨ k = w0.heap.size + 3 ∨ (mv0 o).cv.ownBlock = some k, rfl, b4, ?_, fun k hk => ?_⟩
      · refine ⟨w0.heap.size, fun _ => none, mv0 o, [], ⟨d4, m4, by omega, by omega, by omega, (fun c t h => by cases h), (fun c t h => by cases h), (fun c d t u _ h => by cases h)⟩, k4, rfl, World.ownsRow_nil _ _ _ _, (fun e => by cases e), Nat.zero_le _, fun c => rfl, (fun c b hb => by cases hb), (fun c => by show ([] : List UInt8).length ≤ 81; simp), by omega, (fun b hb => by cases hb), fun k hk => ⟨?_, fun e => by cases e⟩, fun k => Iff.rfl⟩
        have := hfx k hk; omega
      · rcases hk with hk | hk | hk
        · have := hfx k hk; omega
        · omega
        · cases hk

def simB {base : Nat} {w00 : World} (L : LibAt base w00) (HRD : ReadSaid) : Sim FedB base w00 where
  P := PB base
  lt := fun h => h.lt
  keep := fun h _ hk => h.keep hk
  up := fun h hn => h.up hn
  feed := fun w x m F n c s hB hb hn hc hP hs hz => feedB L HRD w x m F n c s hB hb hn hc hP hs hz
  new := fun w o hB hb => newB w o hB hb
end Go.Proofs.YtjkenehiojbmiaaGreatDoor.Law
