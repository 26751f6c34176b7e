import Derived.Test.YtjkenehiojbmiaaGreatDoorConnX
import Derived.Test.YtjkenehiojbmiaaGreatDoorHandle
namespace Go.Proofs.YtjkenehiojbmiaaGreatDoor.Law
open Go.RowKit Mdl Msg Sums

/-- What of a connection the program keeps: where, the slice, its bytes. -/
structure PV where
  q : Nat
  v : Value
  r : List UInt8
def pt (o : Option PV) : Value := .pointer (o.map fun t => ⟨t.q, 0, none⟩)
def PV.ok (w : World) (t : PV) : Prop := PBlk w t.q t.v ∧ w.ownsRow 0 5 1 t.v t.r.length (bcells t.r) ∧ t.v.ownBlock ≠ some t.q ∧ t.r.length ≤ 81
def PV.on (t : PV) (k : Nat) : Prop := k = t.q ∨ t.v.ownBlock = some k
theorem row_keep {w w' : World} {base : Nat} {e : TypeId} {size : Nat} {v : Value} {n : Nat} {xs : List Value} (ho : w.ownsRow base e size v n xs) (h : ∀ k, v.ownBlock = some k → w'.heap[k]? = w.heap[k]?) : w'.ownsRow base e size v n xs := by
  refine ⟨ho.1, ?_⟩
  rcases ho.2 with h0 | ⟨g, cap, cur, hv, hb, hg, hr⟩
  · exact Or.inl h0
  · refine Or.inr ⟨g, cap, cur, hv, hb, ?_, hr⟩
    rw [h g (by rw [hv]; rfl)]; exact hg
theorem PV.ok.keep {w w' : World} {t : PV} (h : t.ok w) (hk : ∀ k, t.on k → w'.heap[k]? = w.heap[k]?) : t.ok w' :=
  ⟨by unfold PBlk; rw [hk t.q (Or.inl rfl)]; exact h.1, row_keep h.2.1 (fun k e => hk k (Or.inr e)), h.2.2⟩
theorem PV.ok.lt {w : World} {t : PV} (h : t.ok w) {k : Nat} (hk : t.on k) : k < w.heap.size := by
  rcases hk with rfl | hk
  · exact h.1.lt
  · exact (h.2.1.lt k hk).2

/-- A dispatcher of the program. -/
structure DX (base : Nat) (w : World) (x mb n : Nat) (g : Int → Option PV) : Prop where
  blk : DBlk w x mb
  map : MapIs w mb n (fun c => pt (g c))
  ne : x ≠ mb
  hx : base ≤ x
  hm : base ≤ mb
  ok : ∀ c t, g c = some t → t.ok w
  far : ∀ c t, g c = some t → ∀ k, t.on k → base ≤ k ∧ k ≠ x ∧ k ≠ mb
  dis : ∀ c d t u, c ≠ d → g c = some t → g d = some u → ∀ k, t.on k → ¬ u.on k
def restG (g : Int → Option PV) (c : Int) : List UInt8 := ((g c).map (·.r)).getD []
def footX (x mb : Nat) (g : Int → Option PV) (k : Nat) : Prop := k = x ∨ k = mb ∨ ∃ c t, g c = some t ∧ t.on k
def putG (g : Int → Option PV) (c : Int) (o : Option PV) (d : Int) : Option PV := if d = c then o else g d

theorem DX.lt {base : Nat} {w : World} {x mb n : Nat} {g : Int → Option PV} (h : DX base w x mb n g) {k : Nat} (hk : footX x mb g k) : k < w.heap.size := by
  rcases hk with rfl | rfl | ⟨c, t, hg, hk⟩
  · exact h.blk.lt
  · exact h.map.lt
  · exact (h.ok c t hg).lt hk
theorem DX.low {base : Nat} {w : World} {x mb n : Nat} {g : Int → Option PV} (h : DX base w x mb n g) {k : Nat} (hk : footX x mb g k) : base ≤ k := by
  rcases hk with rfl | rfl | ⟨c, t, hg, hk⟩
  · exact h.hx
  · exact h.hm
  · exact (h.far c t hg k hk).1
theorem DX.keep {base : Nat} {w w' : World} {x mb n : Nat} {g : Int → Option PV} (h : DX base w x mb n g) (hk : ∀ k, footX x mb g k → w'.heap[k]? = w.heap[k]?) : DX base w' x mb n g :=
  ⟨h.blk.block (hk x (Or.inl rfl)), h.map.block (hk mb (Or.inr (Or.inl rfl))), h.ne, h.hx, h.hm, fun c t hg => (h.ok c t hg).keep (fun k ho => hk k (Or.inr (Or.inr ⟨c, t, hg, ho⟩))), h.far, h.dis⟩
theorem DX.up {base : Nat} {w : World} {x mb n n' : Nat} {g : Int → Option PV} (h : DX base w x mb n g) (hn : n ≤ n') : DX base w x mb n' g :=
  ⟨h.blk, h.map.up hn, h.ne, h.hx, h.hm, h.ok, h.far, h.dis⟩
theorem putG_same (g : Int → Option PV) (c : Int) (o : Option PV) : putG g c o c = o := if_pos rfl
theorem putG_other (g : Int → Option PV) {c d : Int} (o : Option PV) (h : d ≠ c) : putG g c o d = g d := if_neg h
theorem pt_put (g : Int → Option PV) (c : Int) (o : Option PV) : (fun d => if d = c then pt o else pt (g d)) = fun d => pt (putG g c o d) := by
  funext d; unfold putG; split <;> rfl

/-- One connection is otherwise. -/
theorem DX.put {base : Nat} {w w' : World} {x mb n n' : Nat} {g : Int → Option PV} (h : DX base w x mb n g) (c : Int) (o : Option PV) (hM : MapIs w' mb n' (fun d => pt (putG g c o d))) (hx : w'.heap[x]? = w.heap[x]?)
    (hk : ∀ d t, d ≠ c → g d = some t → ∀ k, t.on k → w'.heap[k]? = w.heap[k]?) (ho : ∀ t, o = some t → t.ok w' ∧ ∀ k, t.on k → (∃ u, g c = some u ∧ u.on k) ∨ w.heap.size ≤ k) (hB : base ≤ w.heap.size) : DX base w' x mb n' (putG g c o) := by
  have hxl := h.blk.lt
  have hml := h.map.lt
  refine ⟨h.blk.block hx, hM, h.ne, h.hx, h.hm, fun d t hg => ?_, fun d t hg k hk' => ?_, fun d e t u hde hg hg' k hk1 hk2 => ?_⟩
  · by_cases hd : d = c
    · subst hd; rw [putG_same] at hg; exact (ho t hg).1
    · rw [putG_other _ _ hd] at hg; exact (h.ok d t hg).keep (hk d t hd hg)
  · by_cases hd : d = c
    · subst hd; rw [putG_same] at hg
      rcases (ho t hg).2 k hk' with ⟨u, hu, hk2⟩ | h'
      · exact h.far _ u hu k hk2
      · exact ⟨by omega, by omega, by omega⟩
    · rw [putG_other _ _ hd] at hg; exact h.far d t hg k hk'
  · by_cases hd : d = c
    · subst hd
      rw [putG_same] at hg
      rw [putG_other _ _ (fun e' => hde e'.symm)] at hg'
      have hkl := (h.ok e u hg').lt hk2
      rcases (ho t hg).2 k hk1 with ⟨u', hu', hk3⟩ | h'
      · exact h.dis _ e u' u hde hu' hg' k hk3 hk2
      · omega
    · rw [putG_other _ _ hd] at hg
      by_cases he : e = c
      · subst he
        rw [putG_same] at hg'
        have hkl := (h.ok d t hg).lt hk1
        rcases (ho u hg').2 k hk2 with ⟨u', hu', hk3⟩ | h'
        · exact h.dis d _ t u' hde hg hu' k hk1 hk3
        · omega
      · rw [putG_other _ _ he] at hg'
        exact h.dis d e t u hde hg hg' k hk1 hk2

/-- What connection leaves. -/
def ConnXPost (base x mb n : Nat) (g : Int → Option PV) (c : Int) (w : World) (e : Ending) (W : World) : Prop :=
  ∃ q v, e = .returned (.pointer (some ⟨q, 0, none⟩)) ∧ DX base W x mb (n + 1) (putG g c (some ⟨q, v, restG g c⟩)) ∧ (∀ k, PV.on ⟨q, v, restG g c⟩ k → (∃ t, g c = some t ∧ t.on k) ∨ w.heap.size ≤ k) ∧ Only (fun k => k = mb) w W
theorem connX_any {base x mb n : Nat} {g : Int → Option PV} {w : World} (h : DX base w x mb n g) (c : Int) (hn : n ≤ 1048577) (hc : (kInt c).wf = true) (hB : base ≤ w.heap.size) :
    Calls Tryz.prog 40 #[.pointer (some ⟨x, 0, none⟩), .int .i64 c] w (ConnXPost base x mb n g c w) := by
  cases hg : g c with
  | some t =>
    refine (conn_old x mb n t.q c _ w h.blk h.map hc (by show pt (g c) = _; rw [hg]; rfl)).mono ?_
    rintro e w' ⟨rfl, rfl⟩
    have hr : restG g c = t.r := by unfold restG; rw [hg]; rfl
    have hp : putG g c (some ⟨t.q, t.v, restG g c⟩) = g := by
      funext d; unfold putG
      split
      · rename_i hd; subst hd; rw [hr, hg]
      · rfl
    refine ⟨t.q, t.v, rfl, by rw [hp]; exact h.up (Nat.le_succ n), fun k hk => Or.inl ⟨t, hg, hk⟩, Only.refl _ _⟩
  | none =>
    refine (conn_new x mb n c _ w h.blk h.map hn hc (by show pt (g c) = _; rw [hg]; rfl)).mono ?_
    rintro e w' ⟨rfl, hz, hp, hM, ho⟩
    have hr : restG g c = [] := by unfold restG; rw [hg]; rfl
    have hml := h.map.lt
    have hxl := h.blk.lt
    have hon : ∀ k, PV.on ⟨w.heap.size, .slice none 0 0, restG g c⟩ k → w.heap.size ≤ k := fun k hk => by
      rcases hk with rfl | hk
      · exact Nat.le_refl _
      · cases hk
    refine ⟨w.heap.size, .slice none 0 0, rfl, ?_, fun k hk => Or.inr (hon k hk), ho⟩
    refine h.put c _ (by rw [← pt_put]; exact hM) (ho.block x hxl h.ne) (fun d t hd hgd k hk => ho.block k ((h.ok d t hgd).lt hk) (h.far d t hgd k hk).2.2) (fun t ht => ?_) hB
    obtain rfl := Option.some.inj ht
    refine ⟨⟨hp, ?_, by simp [Value.ownBlock], by rw [hr]; simp⟩, fun k hk => Or.inr (hon k hk)⟩
    rw [hr]
    exact World.ownsRow_nil _ _ _ _

/-! ### what the loop keeps -/
structure FC (t : PV) (tq : Nat) (W : World) : Prop where
  hq : tq < W.heap.size
  hp : t.q < W.heap.size
  ne : tq ≠ t.q
  nv : t.v.ownBlock ≠ some tq
structure FW (c : Int) (t : PV) (tq : Nat) (W wr : World) (k : Nat) (v ov : Value) (r : List UInt8) : Prop where
  pb : PBlk wr t.q v
  pr : wr.ownsRow 0 5 1 v r.length (bcells r)
  vq : v.ownBlock ≠ some t.q
  rl : r.length ≤ 81
  vn : ∀ b, v.ownBlock = some b → t.v.ownBlock = some b ∨ W.heap.size ≤ b
  tb : TBlk wr tq ov
  tr : wr.ownsRow 0 64 2 ov k (outRow (List.replicate k (c, bad)))
  on : ∀ b, ov.ownBlock = some b → W.heap.size ≤ b ∧ v.ownBlock ≠ some b
  o : Only (fun b => t.on b ∨ b = tq) W wr
namespace FW
variable {c : Int} {t : PV} {tq : Nat} {W wr w' : World} {k : Nat} {v ov v' : Value} {r r' : List UInt8}
theorem drewN (h : FW c t tq W wr k v ov r) (n : Nat) : FW c t tq W (wr.drewN n) k v ov r := ⟨h.pb, h.pr, h.vq, h.rl, h.vn, h.tb, h.tr, h.on, h.o.drewN n⟩
theorem vtq (h : FW c t tq W wr k v ov r) (C : FC t tq W) : v.ownBlock ≠ some tq := fun e => by
  rcases h.vn tq e with h' | h'
  · exact C.nv h'
  · have := C.hq; omega
theorem ovq (h : FW c t tq W wr k v ov r) (C : FC t tq W) : ov.ownBlock ≠ some tq := fun e => by
  have := (h.on tq e).1; have := C.hq; omega
theorem pend (h : FW c t tq W wr k v ov r) (C : FC t tq W) (hp : PBlk w' t.q v') (hr : w'.ownsRow 0 5 1 v' r'.length (bcells r')) (hl : r'.length ≤ 81) (hv : v'.ownBlock ≠ some t.q)
    (hn : v'.ownBlock = v.ownBlock ∨ ∀ g, v'.ownBlock = some g → wr.heap.size ≤ g) (ho : Only (fun b => b = t.q ∨ v.ownBlock = some b) wr w') : FW c t tq W w' k v' ov r' := by
  have hz := h.o.size
  have hC := C.hp
  have hol : ∀ b, ov.ownBlock = some b → b < wr.heap.size := fun b hb => (h.tr.lt b hb).2
  refine ⟨hp, hr, hv, hl, fun b hb => ?_, h.tb.only ho (fun e => ?_), ho.row h.tr (fun b hb e => ?_), fun b hb => ⟨(h.on b hb).1, fun e => ?_⟩, h.o.trans ho (fun b hb e => ?_)⟩
  · rcases hn with h' | h'
    · exact h.vn b (h' ▸ hb)
    · have := h' b hb; right; omega
  · rcases e with e | e
    · exact C.ne e
    · exact h.vtq C e
  · rcases e with e | e
    · have := (h.on b hb).1; omega
    · exact (h.on b hb).2 e
  · rcases hn with h' | h'
    · exact (h.on b hb).2 (h' ▸ e)
    · have := h' b e; have := hol b hb; omega
  · rcases e with e | e
    · exact Or.inl (Or.inl e)
    · rcases h.vn b e with h' | h'
      · exact Or.inl (Or.inr h')
      · omega
theorem say (h : FW c t tq W wr k v ov r) (C : FC t tq W) {g cap : Nat} (ht : TBlk w' tq (.slice (some ⟨g, 0, none⟩) (k + 1) cap)) (hr : w'.ownsRow 0 64 2 (.slice (some ⟨g, 0, none⟩) (k + 1) cap) (k + 1) (outRow (List.replicate k (c, bad) ++ [(c, bad)])))
    (hg : ov.ownBlock = some g ∨ wr.heap.size ≤ g) (ho : Only (fun b => b = tq ∨ ov.ownBlock = some b) wr w') : FW c t tq W w' (k + 1) v (.slice (some ⟨g, 0, none⟩) (k + 1) cap) r := by
  have hz := h.o.size
  have hC := C.hp
  have hvl : ∀ b, v.ownBlock = some b → b < wr.heap.size := fun b hb => (h.pr.lt b hb).2
  have hpq : ¬ (t.q = tq ∨ ov.ownBlock = some t.q) := fun e => by
    rcases e with e | e
    · exact C.ne e.symm
    · have := (h.on _ e).1; omega
  refine ⟨h.pb.only ho hpq, ho.row h.pr (fun b hb e => ?_), h.vq, h.rl, h.vn, ht, by rw [← rep_succ]; exact hr, fun b hb => ?_, h.o.trans ho (fun b hb e => ?_)⟩
  · rcases e with e | e
    · exact h.vtq C (e ▸ hb)
    · exact (h.on b e).2 hb
  · have e : g = b := Option.some.inj hb
    subst e
    rcases hg with h' | h'
    · exact h.on g h'
    · exact ⟨by omega, fun e => by have := hvl g e; omega⟩
  · rcases e with e | e
    · exact Or.inr e
    · have := (h.on b e).1; omega
end FW

/-! ### lines -/
theorem msg_take {l : List UInt8} (h : isMsg l = false) : isMsg (l.take 81) = false := by
  by_cases hl : l.length ≤ 81
  · rw [List.take_of_length_le hl]; exact h
  · unfold isMsg
    rw [(open_no (l := l.take 81) (fun e => by have := e.2.1; simp at this; omega)).2]; rfl
def FL (tgt : List UInt8) (total k : Nat) (rem r : List UInt8) : Prop :=
  (∀ y ∈ (withRest r (cutL 10 rem)).dropLast, isMsg y = false) ∧ ((withRest r (cutL 10 rem)).getLastD []).take 81 = tgt ∧ k + (cutL 10 rem).length = total
theorem withRest_nil (ws : List (List UInt8)) : withRest [] ws = ws := by cases ws <;> rfl
theorem FL.next {tgt : List UInt8} {total k : Nat} {rem r a b : List UInt8} (h : FL tgt total k rem r) (hc : cutL 10 rem = a :: cutL 10 b) : isMsg ((r ++ a).take 81) = false ∧ FL tgt total (k + 1) b [] := by
  obtain ⟨h1, h2, h3⟩ := h
  rw [hc] at h1 h2 h3
  obtain ⟨y, ys, hy⟩ : ∃ y ys, cutL 10 b = y :: ys := by
    cases hb : cutL 10 b with
    | nil => exact absurd hb (cut_ne _ _)
    | cons y ys => exact ⟨y, ys, rfl⟩
  refine ⟨msg_take (h1 _ ?_), fun z hz => h1 z ?_, ?_, by simp only [List.length_cons] at h3; omega⟩
  · rw [hy]; simp [withRest]
  · rw [withRest_nil] at hz
    rw [hy] at hz ⊢
    simp only [withRest, List.dropLast_cons_cons]
    exact List.mem_cons_of_mem _ hz
  · rw [withRest_nil]
    rw [hy] at h2 ⊢
    simpa [withRest, List.getLastD_cons] using h2
theorem FL.done {tgt : List UInt8} {total k : Nat} {rem r : List UInt8} (h : FL tgt total k rem r) (hc : cutL 10 rem = [rem]) : (r ++ rem).take 81 = tgt ∧ k + 1 = total := by
  obtain ⟨_, h2, h3⟩ := h
  rw [hc] at h2 h3
  exact ⟨by simpa [withRest] using h2, by simpa using h3⟩
end Go.Proofs.YtjkenehiojbmiaaGreatDoor.Law
namespace Go.Proofs.YtjkenehiojbmiaaGreatDoor.Law
open Go.RowKit Mdl Msg Sums
attribute [local go_sem] Sums.setCell_drewN
attribute [local go_sem] Sums.alloc_drewN

/-- What is not ended behind a Feed. -/
def endOf (r s : List UInt8) : List UInt8 := ((withRest r (cutL 10 s)).getLastD []).take 81
def FeedXPost (base x mb n : Nat) (g : Int → Option PV) (c : Int) (s : List UInt8) (w : World) (e : Ending) (w' : World) : Prop :=
  ∃ a g', e = .returned a ∧ DX base w' x mb (n + 1) g' ∧ (∀ d, d ≠ c → g' d = g d) ∧ restG g' c = endOf (restG g c) s ∧
    w'.ownsRow w.heap.size 64 2 a ((cutL 10 s).length - 1) (outRow (List.replicate ((cutL 10 s).length - 1) (c, bad))) ∧ (∀ b, a.ownBlock = some b → ¬ footX x mb g' b) ∧ (∀ k, footX x mb g' k → footX x mb g k ∨ w.heap.size ≤ k) ∧ Only (footX x mb g) w w'

theorem feedX_fin {base x mb n : Nat} {g : Int → Option PV} {c : Int} {s : List UInt8} {w W wr w' : World} {o0 : Obj} {t : PV} {k : Nat} {v ov : Value} {r : List UInt8} (hD : DX base w x mb n g) (hB : base ≤ w.heap.size)
    (DW : DX base W x mb (n + 1) (putG g c (some t))) (C : FC t w.heap.size W) (F : FW c t w.heap.size W wr k v ov r) (O0 : Only (fun j => j = mb) (w.alloc o0) W) (hon : ∀ j, t.on j → (∃ u, g c = some u ∧ u.on j) ∨ w.heap.size + 1 ≤ j)
    (o : Option PV) (ho : o = some ⟨t.q, v, r⟩ ∨ (o = none ∧ r = [])) (hM : MapIs w' mb (n + 1) (fun d => pt (putG g c o d))) (O1 : Only (fun j => j = mb) wr w') (hk : k + 1 = (cutL 10 s).length) (hr : r = endOf (restG g c) s) :
    FeedXPost base x mb n g c s w (.returned ov) w' := by
  have hxl := hD.blk.lt
  have hml := hD.map.lt
  have z0 := O0.size
  have z1 := F.o.size
  have z2 := O1.size
  rw [World.size_alloc] at z0
  have hpp : putG (putG g c (some t)) c o = putG g c o := by
    funext d; unfold putG; split <;> rfl
  have htc : putG g c (some t) c = some t := putG_same _ _ _
  have hfar := DW.far c t htc
  have hother : ∀ d, d ≠ c → putG g c (some t) d = g d := fun d hd => putG_other _ _ hd
  have hnt : ∀ j, j < w.heap.size → ¬ t.on j → j ≠ mb → w'.heap[j]? = W.heap[j]? := fun j hj hn hm => by
    rw [O1.block j (by omega) hm, F.o.block j (by omega) (fun e => by
      rcases e with e | e
      · exact hn e
      · omega)]
  have hDX : DX base w' x mb (n + 1) (putG g c o) := by
    have := DW.put (w' := w') (n' := n + 1) c o (by rw [hpp]; exact hM) (hnt x hxl (fun e => (hfar x e).2.1 rfl) hD.ne) (fun d u hd hu j hj => ?_) (fun u hu => ?_) (by omega)
    · rw [hpp] at this; exact this
    · have hu' : g d = some u := (hother d hd) ▸ hu
      exact hnt j ((hD.ok d u hu').lt hj) (fun e => DW.dis c d t u (fun e' => hd e'.symm) htc hu j e hj) (hD.far d u hu' j hj).2.2
    · rcases ho with ho | ⟨ho, _⟩
      · rw [ho] at hu
        obtain rfl := Option.some.inj hu
        have hon' : ∀ j, PV.on ⟨t.q, v, r⟩ j → (∃ u, putG g c (some t) c = some u ∧ u.on j) ∨ W.heap.size ≤ j := fun j hj => by
          rcases hj with hj | hj
          · exact Or.inl ⟨t, htc, Or.inl hj⟩
          · rcases F.vn j hj with h' | h'
            · exact Or.inl ⟨t, htc, Or.inr h'⟩
            · exact Or.inr h'
        refine ⟨PV.ok.keep (w := wr) ⟨F.pb, F.pr, F.vq, F.rl⟩ (fun j hj => ?_), hon'⟩
        have hjl : j < wr.heap.size := PV.ok.lt (w := wr) (t := ⟨t.q, v, r⟩) ⟨F.pb, F.pr, F.vq, F.rl⟩ hj
        refine O1.block j hjl (fun e => ?_)
        rcases hon' j hj with ⟨u, hu, hj'⟩ | h'
        · exact (DW.far c u hu j hj').2.2 e
        · omega
      · rw [ho] at hu; cases hu
  have hfoot : ∀ j, footX x mb (putG g c o) j → footX x mb g j ∨ w.heap.size ≤ j := fun j hj => by
    rcases hj with hj | hj | ⟨d, u, hu, hj⟩
    · exact Or.inl (Or.inl hj)
    · exact Or.inl (Or.inr (Or.inl hj))
    · by_cases hd : d = c
      · subst hd
        rw [putG_same] at hu
        rcases ho with ho | ⟨ho, _⟩
        · rw [ho] at hu
          obtain rfl := Option.some.inj hu
          have : t.on j ∨ W.heap.size ≤ j := by
            rcases hj with hj | hj
            · exact Or.inl (Or.inl hj)
            · exact (F.vn j hj).elim (fun h => Or.inl (Or.inr h)) Or.inr
          rcases this with h' | h'
          · rcases hon j h' with ⟨u, hu, hj'⟩ | h''
            · exact Or.inl (Or.inr (Or.inr ⟨_, u, hu, hj'⟩))
            · right; omega
          · right; omega
        · rw [ho] at hu; cases hu
      · rw [putG_other _ _ hd] at hu
        exact Or.inl (Or.inr (Or.inr ⟨d, u, hu, hj⟩))
  refine ⟨ov, putG g c o, rfl, hDX, fun d hd => putG_other _ _ hd, ?_, ?_, fun b hb hf => ?_, hfoot, ?_⟩
  · unfold restG
    rw [putG_same]
    rcases ho with ho | ⟨ho, h0⟩
    · rw [ho]; exact hr
    · rw [ho, ← restG, ← hr, h0]; rfl
  · have e : (cutL 10 s).length - 1 = k := by omega
    rw [e]
    exact row_base (O1.row F.tr (fun b hb e => by have := (F.on b hb).1; omega)) (fun b hb => by have := (F.on b hb).1; omega)
  · have hb' := F.on b hb
    rcases hf with hf | hf | ⟨d, u, hu, hf⟩
    · omega
    · omega
    · by_cases hd : d = c
      · subst hd
        rw [putG_same] at hu
        rcases ho with ho | ⟨ho, _⟩
        · rw [ho] at hu
          obtain rfl := Option.some.inj hu
          rcases hf with hf | hf
          · have : b = t.q := hf
            have := C.hp; omega
          · exact hb'.2 hf
        · rw [ho] at hu; cases hu
      · rw [putG_other _ _ hd] at hu
        have := (hD.ok d u hu).lt hf; omega
  · have o1 : Only (footX x mb g) w W := (((Only.refl (footX x mb g) w).alloc o0).trans O0 (fun j _ e => Or.inr (Or.inl e)))
    refine (o1.trans F.o (fun j hj e => ?_)).trans O1 (fun j _ e => Or.inr (Or.inl e))
    rcases e with e | e
    · rcases hon j e with ⟨u, hu, hj'⟩ | h''
      · exact Or.inr (Or.inr ⟨c, u, hu, hj'⟩)
      · omega
    · omega
theorem pt_same (g : Int → Option PV) (c : Int) (t : PV) (v : Value) (r : List UInt8) : (fun d => pt (putG g c (some t) d)) = fun d => pt (putG g c (some ⟨t.q, v, r⟩) d) := by
  funext d; unfold putG; split <;> rfl
theorem pt_none (g : Int → Option PV) (c : Int) (t : PV) : (fun d => if d = c then Value.pointer none else pt (putG g c (some t) d)) = fun d => pt (putG g c none d) := by
  funext d; unfold putG; split <;> rfl
theorem map_mid {base x mb n : Nat} {g : Int → Option PV} {c : Int} {w W wr : World} {t : PV} {k : Nat} {v ov : Value} {r : List UInt8} (hD : DX base w x mb n g) (hz : w.heap.size < W.heap.size)
    (DW : DX base W x mb (n + 1) (putG g c (some t))) (F : FW c t w.heap.size W wr k v ov r) : MapIs wr mb (n + 1) (fun d => pt (putG g c (some t) d)) ∧ DBlk wr x mb := by
  have hxl := hD.blk.lt
  have hml := hD.map.lt
  have hfar := DW.far c t (putG_same _ _ _)
  refine ⟨DW.map.block (F.o.block mb (by omega) (fun e => ?_)), DW.blk.block (F.o.block x (by omega) (fun e => ?_))⟩
  · rcases e with e | e
    · exact (hfar mb e).2.2 rfl
    · omega
  · rcases e with e | e
    · exact (hfar x e).2.1 rfl
    · omega
def strLen : Value → Nat
  | .string s => s.size
  | _ => 0
theorem feed_start {base x mb n : Nat} {g : Int → Option PV} {c : Int} {w W : World} {q : Nat} {v0 : Value} (hD : DX base w x mb n g)
    (DW : DX base W x mb (n + 1) (putG g c (some ⟨q, v0, restG g c⟩))) (hon : ∀ j, PV.on ⟨q, v0, restG g c⟩ j → (∃ u, g c = some u ∧ u.on j) ∨ (w.alloc (.cells #[.slice none 0 0] 82)).heap.size ≤ j) (O0 : Only (fun j => j = mb) (w.alloc (.cells #[.slice none 0 0] 82)) W) :
    FC ⟨q, v0, restG g c⟩ w.heap.size W ∧ FW c ⟨q, v0, restG g c⟩ w.heap.size W W 0 v0 (.slice none 0 0) (restG g c) := by
  have hml := hD.map.lt
  have z0 := O0.size
  rw [World.size_alloc] at z0 hon
  have htc : putG g c (some ⟨q, v0, restG g c⟩) c = some ⟨q, v0, restG g c⟩ := putG_same _ _ _
  have ok := DW.ok c _ htc
  have hnt : ¬ PV.on ⟨q, v0, restG g c⟩ w.heap.size := fun e => by
    rcases hon _ e with ⟨u, hu, hj⟩ | h
    · have := (hD.ok c u hu).lt hj; omega
    · omega
  refine ⟨⟨by omega, ok.1.lt, fun e => hnt (Or.inl e), fun e => hnt (Or.inr e)⟩, ⟨ok.1, ok.2.1, ok.2.2.1, ok.2.2.2, fun b hb => Or.inl hb, ?_, ?_, (fun b hb => by cases hb), Only.refl _ _⟩⟩
  · unfold TBlk
    rw [O0.block w.heap.size (by simp) (by omega)]
    exact heap_alloc_new w _
  · exact World.ownsRow_nil _ _ _ _

set_option maxHeartbeats 4000000 in
set_option maxRecDepth 100000 in
theorem feedX_bad {base : Nat} {w00 : World} (L : LibAt base w00) {x mb n : Nat} {g : Int → Option PV} {w : World} (hD : DX base w x mb n g) (c : Int) (s : ByteArray) (hn : n ≤ 1048576) (hc : (kInt c).wf = true) (hB : base ≤ w.heap.size) (hb : Below base w00 w) (hs : s.size ≤ 2097152)
    (hno : ∀ y ∈ (withRest (restG g c) (cutL 10 s.data.toList)).dropLast, isMsg y = false) :
    Calls Tryz.prog 22 #[.pointer (some ⟨x, 0, none⟩), .int .i64 c, .string s] w (FeedXPost base x mb n g c s.data.toList w) := by
  have HMD := made_any x mb w hD.blk
  have HDX : Hid (DX base w x mb n g) := hD
  have HCN : Hid (Calls Tryz.prog 40 #[.pointer (some ⟨x, 0, none⟩), .int .i64 c] (w.alloc (.cells #[.slice none 0 0] 82)) (ConnXPost base x mb n g c (w.alloc (.cells #[.slice none 0 0] 82)))) :=
    connX_any (hD.keep (fun k hk => Below.heap_alloc _ _ _ (hD.lt hk))) c (by omega) hc (by simp; omega)
  have FL0 : Hid (FL (endOf (restG g c) s.data.toList) (cutL 10 s.data.toList).length 0 s.data.toList (restG g c)) := ⟨hno, rfl, by omega⟩
  have htl : (cutL 10 s.data.toList).length ≤ 2097153 := by
    have h := (cutP_len 10 s.data.toList).1
    have e : s.data.toList.length = s.size := by simp
    unfold cutL; simp; omega
  have HBB : Hid (Below base w00 w) := hb
  clear hD hno hb
  generalize htot : (cutL 10 s.data.toList).length = total at *
  have HTOT : Hid ((cutL 10 s.data.toList).length = total) := htot
  generalize htg : endOf (restG g c) s.data.toList = tgt at *
  have HTG : Hid (endOf (restG g c) s.data.toList = tgt) := htg
  clear htot htg
  go_enter Tryz.func22, Tryz.ntmps22
  go_wp2_with fail
  refine HMD.mono ?_
  rintro e w1 ⟨rfl, rfl⟩
  clear HMD
  go_wp2_with fail
  refine HCN.out.mono ?_
  rintro e W ⟨q, v0, rfl, DW, hon, O0⟩
  clear HCN
  obtain ⟨C0, F0⟩ := feed_start HDX.out DW hon O0
  obtain ⟨t, ht⟩ : ∃ t, (⟨q, v0, restG g c⟩ : PV) = t := ⟨_, rfl⟩
  have hqt : t.q = q := by rw [← ht]
  rw [ht] at DW hon C0 F0
  clear ht
  have HC0 : Hid (FC t w1.heap.size W) := C0
  have HF0 : Hid (FW c t w1.heap.size W W 0 v0 (.slice none 0 0) (restG g c)) := F0
  have HDW : Hid (DX base W x mb (n + 1) (putG g c (some t))) := DW
  have HON : Hid (∀ j, t.on j → (∃ u, g c = some u ∧ u.on j) ∨ w1.heap.size + 1 ≤ j) := by
    rw [World.size_alloc] at hon; exact hon
  have HO0 : Hid (Only (fun j => j = mb) (w1.alloc (.cells #[.slice none 0 0] 82)) W) := O0
  have HQT : Hid (t.q = q) := hqt
  have HBL : Hid (∀ wr, Only (fun b => t.on b ∨ b = w1.heap.size) W wr → Below base w00 wr ∧ base ≤ wr.heap.size) := fun wr h => by
    have z0 := O0.size
    have z1 := h.size
    rw [World.size_alloc] at z0
    refine ⟨((HBB.out.alloc hB _).trans (O0.toBelow (fun j e => e ▸ DW.hm) (by simp; omega))).trans (h.toBelow (fun j e => ?_) (by omega)), by omega⟩
    rcases e with e | e
    · exact (DW.far c t (putG_same _ _ _) j e).1
    · omega
  clear DW hon O0 C0 F0 HBB hqt
  go_wp2
  go_loopw [2] (fun bs wr => ∃ (rem : ByteArray) (k : Nat) (v ov : Value) (r : List UInt8), bs = .string rem ∧ Hid (FW c t w1.heap.size W wr k v ov r) ∧ Hid (FL tgt total k rem.data.toList r) ∧ rem.size ≤ 2097152 ∧ k ≤ total) (fun bs _ => strLen bs)
  case atStart => exact ⟨s, 0, v0, .slice none 0 0, restG g c, rfl, HF0, FL0, hs, Nat.zero_le _⟩
  case round =>
    obtain ⟨rem, k, v, ov, r, rfl, HF, HL, hrs, hkt⟩ := hrel
    have HBW := HBL.out wr HF.out.o
    have HCUT : Hid (Calls Tryz.prog 41 #[.string rem, .string ⟨#[10]⟩] wr fun e w' => e = .returned (.tuple #[.string ⟨(Lib.cut rem.data.toList [10]).1.toArray⟩, .string ⟨(Lib.cut rem.data.toList [10]).2.1.toArray⟩, .bool (Lib.cut rem.data.toList [10]).2.2]) ∧ ∃ n, w' = wr.drewN n) := L.cut rem wr (by omega) HBW.1
    clear HBW FL0 HF0
    go_wp2_with fail
    refine HCUT.out.mono ?_
    rintro e w2 ⟨rfl, nd, rfl⟩
    clear HCUT
    rcases cut_cut 10 rem.data.toList with ⟨hcut, hc1, hc2⟩ | ⟨a, b, hcut, hc1, hc2, hc3⟩
    · rw [hcut]
      have HF2 : Hid (FW c t w1.heap.size W (wr.drewN nd) k v ov r) := HF.out.drewN nd
      have HADD : Hid (Calls Tryz.prog 42 #[.pointer (some ⟨q, 0, none⟩), .string ⟨rem.data⟩] (wr.drewN nd) (AddPost q v r rem.data.toList (wr.drewN nd))) := add_any q v r rem (wr.drewN nd) (HQT.out ▸ HF2.out.pb) HF2.out.pr (HQT.out ▸ HF2.out.vq) HF2.out.rl (by omega)
      have HDN := HL.out.done hc1
      have HKT : Hid (k + 1 = total) := HDN.2
      have HRT : Hid ((r ++ rem.data.toList).take 81 = tgt) := HDN.1
      clear HL HF hcut hc1 hc2 HDN
      go_wp2_with fail
      refine HADD.out.mono ?_
      rintro e w3 ⟨v', rfl, hp', hr', hv', hn', ho'⟩
      rw [HRT.out] at hr'
      have F3 : FW c t w1.heap.size W w3 k v' ov tgt := HF2.out.pend HC0.out (HQT.out.symm ▸ hp') hr' (by rw [← HRT.out]; simp; omega) (HQT.out.symm ▸ hv') hn' (HQT.out.symm ▸ ho')
      have HEM : Hid (Calls Tryz.prog 45 #[.pointer (some ⟨q, 0, none⟩)] w3 fun e w' => e = .returned (.bool (decide (tgt = []))) ∧ w' = w3) := empty_any q v' tgt w3 hp' hr' F3.rl
      obtain ⟨hM3, hD3⟩ := map_mid HDX.out HC0.out.hq HDW.out F3
      have hct := F3.tb.cell
      have hcx := hD3.cell
      have hxl := hD3.lt
      have hmtq : mb ≠ w1.heap.size := by have := HDX.out.map.lt; omega
      by_cases h0 : tgt = []
      · obtain ⟨w4, hrun, hM4, hturn⟩ := hM3.del Tryz.underlying70 0 c hc
        rw [pt_none] at hM4
        have ho4 := turned_only hturn
        have hct4 : w4.cell? ⟨w1.heap.size, 0, none⟩ = some ov := (F3.tb.only ho4 (fun e => hmtq e.symm)).cell
        have HF : Hid (FeedXPost base x mb n g c s.data.toList w1 (.returned ov) w4) := feedX_fin HDX.out hB HDW.out HC0.out F3 HO0.out HON.out none (Or.inr ⟨rfl, h0⟩) hM4 ho4 (HKT.out.trans HTOT.out.symm) HTG.out.symm
        have h0d : decide (tgt = []) = true := by simp [h0]
        rw [h0d] at HEM
        clear hp' hr' hv' hn' ho' hM3 hM4 hturn ho4 F3 HADD HF2 hD3 HBL
        go_wp2_with fail
        refine HEM.out.mono ?_
        rintro e w5 ⟨rfl, rfl⟩
        clear HEM
        go_wp2
        go_ret
        exact HF.out
      · have HF : Hid (FeedXPost base x mb n g c s.data.toList w1 (.returned ov) w3) := feedX_fin HDX.out hB HDW.out HC0.out F3 HO0.out HON.out (some ⟨t.q, v', tgt⟩) (Or.inl rfl) (by rw [← pt_same]; exact hM3) (Only.refl _ _) (HKT.out.trans HTOT.out.symm) HTG.out.symm
        have h0d : decide (tgt = []) = false := by simp [h0]
        rw [h0d] at HEM
        clear hp' hr' hv' hn' ho' hM3 F3 HADD HF2 hD3 HBL
        go_wp2_with fail
        refine HEM.out.mono ?_
        rintro e w5 ⟨rfl, rfl⟩
        clear HEM
        go_wp2
        go_ret
        exact HF.out
    · rw [hcut]
      have hl : rem.size = a.length + 1 + b.length := by
        have := congrArg List.length hc3
        simp at this; omega
      have HF2 : Hid (FW c t w1.heap.size W (wr.drewN nd) k v ov r) := HF.out.drewN nd
      have HADD : Hid (Calls Tryz.prog 42 #[.pointer (some ⟨q, 0, none⟩), .string ⟨a.toArray⟩] (wr.drewN nd) (AddPost q v r a (wr.drewN nd))) := add_any q v r ⟨a.toArray⟩ (wr.drewN nd) (HQT.out ▸ HF2.out.pb) HF2.out.pr (HQT.out ▸ HF2.out.vq) HF2.out.rl (show a.toArray.size ≤ 4194304 by simp; omega)
      obtain ⟨hno1, hfl⟩ := HL.out.next hc1
      have HFL : Hid (FL tgt total (k + 1) b []) := hfl
      have hk1 : k + 1 ≤ total := by have := hfl.2.2; omega
      clear HL HF hcut hc1 hc2 hc3 hfl
      go_wp2_with fail
      refine HADD.out.mono ?_
      rintro e w3 ⟨v', rfl, hp', hr', hv', hn', ho'⟩
      have hrl : ((r ++ a).take 81).length ≤ 81 := by simp; omega
      have F3 : FW c t w1.heap.size W w3 k v' ov ((r ++ a).take 81) := HF2.out.pend HC0.out (HQT.out.symm ▸ hp') hr' hrl (HQT.out.symm ▸ hv') hn' (HQT.out.symm ▸ ho')
      have HEND : Hid (Calls Tryz.prog 44 #[.pointer (some ⟨q, 0, none⟩)] w3 (EndPost q v' ((r ++ a).take 81) w3)) := end_any q v' _ w3 hp' hr' hv' hrl
      have HF3 : Hid (FW c t w1.heap.size W w3 k v' ov ((r ++ a).take 81)) := F3
      clear hp' hr' hv' hn' ho' F3 HADD HF2
      go_wp2_with fail
      refine HEND.out.mono ?_
      rintro e w4 ⟨v2, rfl, hp2, hr2, hv2, ho2⟩
      have F4 : FW c t w1.heap.size W w4 k v2 ov [] := HF3.out.pend HC0.out (HQT.out.symm ▸ hp2) hr2 (by simp) (by rw [hv2]; exact HF3.out.vq) (Or.inl hv2) ((HQT.out.symm ▸ ho2 : Only (fun b => b = t.q) w3 w4).mono (fun _ _ e => Or.inl e))
      have HF4 : Hid (FW c t w1.heap.size W w4 k v2 ov []) := F4
      have HBW := HBL.out w4 F4.o
      have HH : Hid (Calls Tryz.prog 43 #[.pointer (some ⟨w1.heap.size, 0, none⟩), .int .i64 c, .string ⟨((r ++ a).take 81).toArray⟩] w4 (SayXPost w1.heap.size (List.replicate k (c, bad)) (c, bad) ov w4)) :=
        handle_bad L w1.heap.size c ⟨((r ++ a).take 81).toArray⟩ (List.replicate k (c, bad)) ov w4 HBW.1 HBW.2 (show ((r ++ a).take 81).toArray.size ≤ 4194304 by simp; omega) F4.tb (by rw [List.length_replicate]; exact F4.tr) (F4.ovq HC0.out) (by rw [List.length_replicate]; omega) (by simpa using hno1)
      clear HEND HF3 F4 hp2 hr2 hv2 ho2 hno1 HBW
      go_wp2_with fail
      refine HH.out.mono ?_
      rintro e w5 ⟨g5, cap5, rfl, ht5, hr5, hg5, ho5⟩
      rw [List.length_replicate] at ht5 hr5
      have HF5 : Hid (FW c t w1.heap.size W w5 (k + 1) v2 (.slice (some ⟨g5, 0, none⟩) (k + 1) cap5) []) := HF4.out.say HC0.out ht5 hr5 hg5 ho5
      clear ht5 hr5 hg5 ho5 HH HF4 HBL
      go_wp2
      go_roundw
      case rel => exact ⟨⟨b.toArray⟩, k + 1, v2, _, [], rfl, HF5, by simpa using HFL, (show b.toArray.size ≤ 2097152 by simp; omega), hk1⟩
      case measure => show b.toArray.size < rem.size; simp; omega
end Go.Proofs.YtjkenehiojbmiaaGreatDoor.Law
