import Derived.Test.YtjkenehiojbmiaaGreatDoorPlayed2
import Derived.Test.YtjkenehiojbmiaaGreatDoorFeedM
namespace Go.Proofs.YtjkenehiojbmiaaGreatDoor.Law
open Go.RowKit Mdl Msg

def Foot : Type := Nat → Prop
def Opr.cfg (x : Opr) : Value := .agg #[.int .i64 x.le, .int .i64 x.re, .int .i64 x.ca, .int .i64 x.bo, .int .i64 x.he]

/-- Behind the second of two Feeds: the same list, and the pair goes on. -/
def FedM (P : World → Nat → Nat → Foot → Nat → Prop) (x m : Nat) (F : Foot) (n : Nat) (w : World) (a : Value) (L : List (Int × List UInt8)) (w1 : World) (e : Ending) (w2 : World) : Prop :=
  ∃ b F', e = .returned b ∧ w2.ownsRow w1.heap.size 64 2 b L.length (outRow L) ∧ Only F w1 w2 ∧ P w2 x m F' (n + 1) ∧ (∀ k, F' k → F k ∨ w.heap.size ≤ k) ∧ (∀ k, a.ownBlock = some k → ¬ F' k)
/-- Behind the first. -/
def FedX (P : World → Nat → Nat → Foot → Nat → Prop) (x m : Nat) (F : Foot) (n : Nat) (c : Int) (s : ByteArray) (w : World) (e : Ending) (w1 : World) : Prop :=
  ∃ a L, e = .returned a ∧ L.length ≤ 2097152 ∧ w1.ownsRow w.heap.size 64 2 a L.length (outRow L) ∧ Only F w w1 ∧
    Calls Tryz.prog 23 #[.pointer (some ⟨m, 0, none⟩), .int .i64 c, .string s] w1 (FedM P x m F n w a L w1)
def NewM (P : World → Nat → Nat → Foot → Nat → Prop) (x : Nat) (w w1 : World) (e : Ending) (w2 : World) : Prop :=
  ∃ m F, e = .returned (.tuple #[.pointer (some ⟨m, 0, none⟩), .bool true]) ∧ Below w1.heap.size w1 w2 ∧ P w2 x m F 0 ∧ ∀ k, F k → w.heap.size ≤ k
def NewX (P : World → Nat → Nat → Foot → Nat → Prop) (o : Opr) (w : World) (e : Ending) (w1 : World) : Prop :=
  Below w.heap.size w w1 ∧
    ((e = .returned (.tuple #[.pointer none, .int .i64 1]) ∧ Calls Tryz.prog 18 #[o.cfg] w1 fun e w2 => e = .returned (.tuple #[.pointer none, .bool false]) ∧ Below w1.heap.size w1 w2) ∨
     (∃ x, e = .returned (.tuple #[.pointer (some ⟨x, 0, none⟩), .int .i64 0]) ∧ Calls Tryz.prog 18 #[o.cfg] w1 (NewM P x w w1)))

/-- Pairs that answer alike. -/
structure Sim (Fed : List UInt8 → Prop) (base : Nat) (w00 : World) where
  P : World → Nat → Nat → Foot → Nat → Prop
  lt : ∀ {w : World} {x m : Nat} {F : Foot} {n : Nat}, P w x m F n → ∀ k, F k → k < w.heap.size
  keep : ∀ {w w' : World} {x m : Nat} {F : Foot} {n : Nat}, P w x m F n → w.heap.size ≤ w'.heap.size → (∀ k, F k → w'.heap[k]? = w.heap[k]?) → P w' x m F n
  up : ∀ {w : World} {x m : Nat} {F : Foot} {n n' : Nat}, P w x m F n → n ≤ n' → P w x m F n'
  feed : ∀ (w : World) (x m : Nat) (F : Foot) (n : Nat) (c : Int) (s : ByteArray), base ≤ w.heap.size → Below base w00 w → n ≤ 1048576 → (Lit.int .i64 c).wf = true → P w x m F n → Fed s.data.toList → s.size ≤ 1048600 → Calls Tryz.prog 22 #[.pointer (some ⟨x, 0, none⟩), .int .i64 c, .string s] w (FedX P x m F n c s w)
  new : ∀ (w : World) (o : Opr), base ≤ w.heap.size → Below base w00 w → Calls Tryz.prog 17 #[o.cfg] w (NewX P o w)

/-- A pair, and what it stands on. -/
structure Pr where
  x : Nat
  m : Nat
  F : Foot
def Pr.on (p : Pr) (F : Foot) : Pr := ⟨p.x, p.m, F⟩
def Pr.cs (p : Pr) : List Value := [.pointer (some ⟨p.x, 0, none⟩), .pointer (some ⟨p.m, 0, none⟩)]
def prRow (l : List Pr) : List Value := l.flatMap Pr.cs
theorem prRow_snoc (l : List Pr) (p : Pr) : prRow (l ++ [p]) = prRow l ++ p.cs := by simp [prRow]
theorem prRow_at (l : List Pr) (k : Nat) (hk : k < l.length) : (prRow l)[k * 2]? = some (.pointer (some ⟨(l[k]'hk).x, 0, none⟩)) ∧ (prRow l)[k * 2 + 1]? = some (.pointer (some ⟨(l[k]'hk).m, 0, none⟩)) := by
  induction l generalizing k with
  | nil => simp at hk
  | cons c l ih =>
    rw [prRow, List.flatMap_cons]
    match k with
    | 0 => exact ⟨rfl, rfl⟩
    | k + 1 =>
      have := ih k (by simpa using hk)
      have e1 : (k + 1) * 2 = k * 2 + 2 := by omega
      rw [e1]
      exact this
theorem prRow_set (l : List Pr) (k : Nat) (hk : k < l.length) (F : Foot) : prRow (l.set k ((l[k]'hk).on F)) = prRow l := by
  induction l generalizing k with
  | nil => simp at hk
  | cons c l ih =>
    match k with
    | 0 => rfl
    | k + 1 =>
      have := ih k (by simpa using hk)
      simp only [List.set_cons_succ, prRow, List.flatMap_cons] at *
      show c.cs ++ _ = c.cs ++ _
      rw [← this]
      rfl

/-- What the law's world holds: dispatchers, and lists that were handed out. -/
structure LInv {Fed : List UInt8 → Prop} {base : Nat} {w00 : World} (S : Sim Fed base w00) (p : Nat) (ds ls : Value) (prs : List Pr) (nls : Nat) (ys : List Value) (n : Nat) (w : World) : Prop where
  blk : WBlk w p ds ls false
  old : Below base w00 w
  big : base ≤ w.heap.size
  dsr : w.ownsRow base 51 2 ds prs.length (prRow prs)
  lsr : w.ownsRow base 54 1 ls nls ys
  hp : base ≤ p
  dp : ds.ownBlock ≠ some p
  lp : ls.ownBlock ≠ some p
  dl : ∀ b, ds.ownBlock = some b → ls.ownBlock ≠ some b
  sim : ∀ i (h : i < prs.length), S.P w (prs[i]'h).x (prs[i]'h).m (prs[i]'h).F n
  far : ∀ i (h : i < prs.length) k, (prs[i]'h).F k → base ≤ k ∧ k ≠ p ∧ ds.ownBlock ≠ some k ∧ ls.ownBlock ≠ some k
  dis : ∀ i j (hi : i < prs.length) (hj : j < prs.length), i ≠ j → ∀ k, (prs[i]'hi).F k → ¬ (prs[j]'hj).F k

namespace LInv
variable {Fed : List UInt8 → Prop} {base : Nat} {w00 : World} {S : Sim Fed base w00} {p : Nat} {ds ls : Value} {prs : List Pr} {nls : Nat} {ys : List Value} {n : Nat} {w w' : World}
theorem below (h : LInv S p ds ls prs nls ys n w) (hb : Below w.heap.size w w') : LInv S p ds ls prs nls ys n w' := by
  have o : Only (fun _ => False) w w' := (Only.refl _ w).below hb
  refine ⟨h.blk.only o id, h.old.trans (hb.mono h.big), Nat.le_trans h.big hb.size, o.row h.dsr (fun _ _ h => h), o.row h.lsr (fun _ _ h => h), h.hp, h.dp, h.lp, h.dl, fun i hi => ?_, h.far, h.dis⟩
  exact S.keep (h.sim i hi) o.size (fun k hk => o.block k (S.lt (h.sim i hi) k hk) id)
theorem cells (h : LInv S p ds ls prs nls ys n w) {g cap : Nat} (hd : ds = .slice (some ⟨g, 0, none⟩) prs.length cap) {k : Nat} (hk : k < prs.length) :
    w.cell? ⟨g, k * 2, none⟩ = some (.pointer (some ⟨(prs[k]'hk).x, 0, none⟩)) ∧ w.cell? ⟨g, k * 2 + 1, none⟩ = some (.pointer (some ⟨(prs[k]'hk).m, 0, none⟩)) := by
  have hr := h.dsr
  rw [hd] at hr
  rw [hr.cellAt (k * 2) (by omega), hr.cellAt (k * 2 + 1) (by omega)]
  exact prRow_at prs k hk

theorem up (h : LInv S p ds ls prs nls ys n w) {n' : Nat} (hn : n ≤ n') : LInv S p ds ls prs nls ys n' w :=
  ⟨h.blk, h.old, h.big, h.dsr, h.lsr, h.hp, h.dp, h.lp, h.dl, fun i hi => S.up (h.sim i hi) hn, h.far, h.dis⟩
/-- One pair has been fed, and its list has been handed out. -/
theorem fed (h : LInv S p ds ls prs nls ys n w) {k : Nat} (hk : k < prs.length) {w1 w2 w3 : World} {a : Value} {L : List (Int × List UInt8)} {F' : Foot}
    (o1 : Only (prs[k]'hk).F w w1) (ha : w1.ownsRow w.heap.size 64 2 a L.length (outRow L)) (o2 : Only (prs[k]'hk).F w1 w2) (hP : S.P w2 (prs[k]'hk).x (prs[k]'hk).m F' (n + 1))
    (hF : ∀ j, F' j → (prs[k]'hk).F j ∨ w.heap.size ≤ j) (haF : ∀ j, a.ownBlock = some j → ¬ F' j) {ls' : Value} {ys' : List Value}
    (b3 : WBlk w3 p ds ls' false) (r3 : w3.ownsRow 0 54 1 ls' (nls + 1) ys') (hl : ls.ownBlock = ls'.ownBlock ∨ ∀ g, ls'.ownBlock = some g → w2.heap.size ≤ g)
    (o3 : Only (fun b => b = p ∨ a.ownBlock = some b ∨ ls.ownBlock = some b) w2 w3) :
    LInv S p ds ls' (prs.set k ((prs[k]'hk).on F')) (nls + 1) ys' (n + 1) w3 := by
  have hpl := h.blk.lt
  have hbase := h.big
  have z1 := o1.size
  have z2 := o2.size
  have z3 := o3.size
  have hal : ∀ b, a.ownBlock = some b → w.heap.size ≤ b ∧ b < w1.heap.size := fun b hb => ha.lt b hb
  have hdl : ∀ b, ds.ownBlock = some b → b < w.heap.size := fun b hb => (h.dsr.lt b hb).2
  have hll : ∀ b, ls.ownBlock = some b → base ≤ b ∧ b < w.heap.size := fun b hb => h.lsr.lt b hb
  have hFl := S.lt (h.sim k hk)
  have hlen : (prs.set k ((prs[k]'hk).on F')).length = prs.length := List.length_set
  have far' := h.far k hk
  -- what is not in the pair's foot is as it was, but for p, a, ls
  have same : ∀ j, j < w.heap.size → ¬ (prs[k]'hk).F j → j ≠ p → ls.ownBlock ≠ some j → w3.heap[j]? = w.heap[j]? := fun j hj hn h1 h2 => by
    rw [o3.block j (by omega) (fun e => by
      rcases e with e | e | e
      · exact h1 e
      · have := hal j e; omega
      · exact h2 e), o2.block j (by omega) hn, o1.block j hj hn]
  have keepOld : Below base w w3 := by
    refine Only.toBelow (S := fun b => base ≤ b) ((((o1.mono (fun j _ hj => (far' j hj).1)).trans o2 (fun j _ hj => (far' j hj).1))).trans o3 (fun j hj e => ?_)) (fun _ h => h) hbase
    rcases e with e | e | e
    · rw [e]; exact h.hp
    · have := hal j e; omega
    · exact (hll j e).1
  refine ⟨b3, h.old.trans keepOld, by omega, ?_, row_base r3 (fun g hg => ?_), h.hp, h.dp, fun e => ?_, fun b hb e => ?_, fun i hi => ?_, fun i hi j hj => ?_, fun i j hi hj hij q hq hq' => ?_⟩
  · rw [prRow_set, hlen]
    refine ⟨h.dsr.1, ?_⟩
    rcases h.dsr.2 with h0 | ⟨g, cap, cur, hd, hb, hg, hr⟩
    · exact Or.inl h0
    · have hgl : g < w.heap.size := (Array.getElem?_eq_some_iff.1 hg).1
      have hdg : ds.ownBlock = some g := by rw [hd]; rfl
      refine Or.inr ⟨g, cap, cur, hd, hb, ?_, hr⟩
      rw [same g hgl (fun hf => (far' g hf).2.2.1 hdg) (fun e => h.dp (e ▸ hdg)) (h.dl g hdg)]
      exact hg
  · rcases hl with hl | hl
    · exact (hll g (hl.trans hg)).1
    · have := hl g hg; omega
  · rcases hl with hl | hl
    · exact h.lp (hl.trans e)
    · have := hl p e; omega
  · rcases hl with hl | hl
    · exact h.dl b hb (hl.trans e)
    · have := hl b e; have := hdl b hb; omega
  · have hi' : i < prs.length := hlen ▸ hi
    by_cases hik : i = k
    · subst hik
      simp only [List.getElem_set_self]
      have hlt2 := S.lt hP
      refine S.keep hP (by omega) (fun j hj => ?_)
      refine o3.block j (hlt2 j hj) (fun e => ?_)
      rcases e with e | e | e
      · rcases hF j hj with h' | h'
        · exact (far' j h').2.1 e
        · omega
      · exact haF j e hj
      · rcases hF j hj with h' | h'
        · exact (far' j h').2.2.2 e
        · have := hll j e; omega
    · rw [List.getElem_set_ne (Ne.symm hik)]
      have hlt := S.lt (h.sim i hi')
      refine S.keep (S.up (h.sim i hi') (Nat.le_succ n)) (by omega) (fun j hj => ?_)
      exact same j (hlt j hj) (h.dis i k hi' hk hik j hj) (h.far i hi' j hj).2.1 (h.far i hi' j hj).2.2.2
  · have hi' : i < prs.length := hlen ▸ hi
    by_cases hik : i = k
    · subst hik
      simp only [List.getElem_set_self] at hj
      rcases hF j hj with h' | h'
      · obtain ⟨f1, f2, f3, f4⟩ := far' j h'
        refine ⟨f1, f2, f3, fun e => ?_⟩
        rcases hl with hl | hl
        · exact f4 (hl.trans e)
        · have := hl j e; have := hFl j h'; omega
      · refine ⟨by omega, by omega, fun e => by have := hdl j e; omega, fun e => ?_⟩
        rcases hl with hl | hl
        · have := hll j (hl.trans e); omega
        · have := hl j e; have := S.lt hP j hj; omega
    · rw [List.getElem_set_ne (Ne.symm hik)] at hj
      obtain ⟨f1, f2, f3, f4⟩ := h.far i hi' j hj
      refine ⟨f1, f2, f3, fun e => ?_⟩
      rcases hl with hl | hl
      · exact f4 (hl.trans e)
      · have := hl j e; have := S.lt (h.sim i hi') j hj; omega
  · have hi' : i < prs.length := hlen ▸ hi
    have hj' : j < prs.length := hlen ▸ hj
    by_cases hik : i = k
    · subst hik
      rw [List.getElem_set_ne hij] at hq'
      simp only [List.getElem_set_self] at hq
      rcases hF q hq with h' | h'
      · exact h.dis i j hi' hj' hij q h' hq'
      · have := S.lt (h.sim j hj') q hq'; omega
    · rw [List.getElem_set_ne (Ne.symm hik)] at hq
      by_cases hjk : j = k
      · subst hjk
        simp only [List.getElem_set_self] at hq'
        rcases hF q hq' with h' | h'
        · exact h.dis i j hi' hj' hij q hq h'
        · have := S.lt (h.sim i hi') q hq; omega
      · rw [List.getElem_set_ne (Ne.symm hjk)] at hq'
        exact h.dis i j hi' hj' hij q hq hq'

/-- One more pair. -/
theorem made (h : LInv S p ds ls prs nls ys n w) {w2 w3 : World} {x m g cap : Nat} {F : Foot} (hb : Below w.heap.size w w2) (hP : S.P w2 x m F 0) (hF : ∀ k, F k → w.heap.size ≤ k)
    (r3 : w3.ownsRow base 51 2 (.slice (some ⟨g, 0, none⟩) (prs.length + 1) cap) (prs.length + 1) (prRow prs ++ (Pr.mk x m F).cs)) (hg : ds.ownBlock = some g ∨ w2.heap.size ≤ g) (o3 : Only (fun b => ds.ownBlock = some b) w2 w3) :
    LInv S p (.slice (some ⟨g, 0, none⟩) (prs.length + 1) cap) ls (prs ++ [⟨x, m, F⟩]) nls ys (n + 1) (w3.setCell ⟨p, 0, none⟩ (.slice (some ⟨g, 0, none⟩) (prs.length + 1) cap)) := by
  have hpl := h.blk.lt
  have hbase := h.big
  have h2 := h.below hb
  have z := hb.size
  have z3 := o3.size
  have hdl : ∀ b, ds.ownBlock = some b → b < w.heap.size := fun b hb => (h.dsr.lt b hb).2
  have hll : ∀ b, ls.ownBlock = some b → base ≤ b ∧ b < w.heap.size := fun b hb => h.lsr.lt b hb
  have hgp : g ≠ p := by
    rcases hg with h' | h'
    · intro e; subst e; exact h.dp h'
    · omega
  have hlg : ls.ownBlock ≠ some g := fun e => by
    rcases hg with h' | h'
    · exact h.dl g h' e
    · have := hll g e; omega
  have ow : Only (fun b => b = p) w3 (w3.setCell ⟨p, 0, none⟩ (.slice (some ⟨g, 0, none⟩) (prs.length + 1) cap)) := (Only.refl _ _).setCell _ _ (fun _ => rfl)
  have zw := ow.size
  have b3 := h2.blk.only o3 h.dp
  have keep : ∀ {x m : Nat} {F : Foot} {n' : Nat}, S.P w2 x m F n' → n' ≤ n + 1 → (∀ k, F k → k ≠ p ∧ ds.ownBlock ≠ some k) → S.P (w3.setCell ⟨p, 0, none⟩ (.slice (some ⟨g, 0, none⟩) (prs.length + 1) cap)) x m F (n + 1) := fun {x m F n'} hq hn hk =>
    S.keep (S.up hq hn) (by omega) (fun k hF => by rw [ow.block k (by have := S.lt hq k hF; omega) (hk k hF).1, o3.block k (S.lt hq k hF) (hk k hF).2])
  have newF : ∀ k, F k → base ≤ k ∧ k ≠ p ∧ ds.ownBlock ≠ some k ∧ ls.ownBlock ≠ some k := fun k hk => by
    have := hF k hk
    exact ⟨by omega, by omega, fun e => by have := hdl k e; omega, fun e => by have := hll k e; omega⟩
  have oldF : ∀ k, (∃ i, ∃ h : i < prs.length, (prs[i]'h).F k) → k < w.heap.size := fun k ⟨i, hi, hk⟩ => S.lt (h.sim i hi) k hk
  have snoc : ∀ i (hi : i < (prs ++ [(⟨x, m, F⟩ : Pr)]).length), (∃ h : i < prs.length, (prs ++ [(⟨x, m, F⟩ : Pr)])[i]'hi = prs[i]'h) ∨ (prs.length ≤ i ∧ (prs ++ [(⟨x, m, F⟩ : Pr)])[i]'hi = ⟨x, m, F⟩) := fun i hi => by
    by_cases h' : i < prs.length
    · exact Or.inl ⟨h', List.getElem_append_left h'⟩
    · have e : i = prs.length := by simp at hi; omega
      subst e
      exact Or.inr ⟨Nat.le_refl _, by simp⟩
  have keepOld : Below base w2 (w3.setCell ⟨p, 0, none⟩ (.slice (some ⟨g, 0, none⟩) (prs.length + 1) cap)) := by
    refine Only.toBelow (S := fun b => base ≤ b) ((o3.mono (S' := fun b => base ≤ b) (fun j _ hj => (h.dsr.lt j hj).1)).trans ow (fun j _ e => ?_)) (fun _ h => h) (by omega)
    rw [e]; exact h.hp
  refine ⟨b3.setDs _, h2.old.trans keepOld, by omega, ?_, ?_, h.hp, fun e => hgp (Option.some.inj e), h.lp, fun b hb e => ?_, fun i hi => ?_, fun i hi k hk => ?_, fun i j hi hj hij k hk hk' => ?_⟩
  · rw [prRow_snoc, List.length_append]
    exact ow.row r3 (fun b hb e => hgp ((Option.some.inj hb : g = b).trans e))
  · exact ow.row (o3.row h2.lsr (fun b hb e => h.dl b e hb)) (fun b hb e => h.lp (e ▸ hb))
  · have e' : g = b := Option.some.inj hb
    exact hlg (e' ▸ e)
  · rcases snoc i hi with ⟨hi', e⟩ | ⟨_, e⟩
    · rw [e]; exact keep (h2.sim i hi') (Nat.le_succ n) (fun k hk => ⟨(h.far i hi' k hk).2.1, (h.far i hi' k hk).2.2.1⟩)
    · rw [e]; exact keep hP (Nat.zero_le _) (fun k hk => ⟨(newF k hk).2.1, (newF k hk).2.2.1⟩)
  · have hgk : ∀ k, (k < w.heap.size → ds.ownBlock ≠ some k) → k < w2.heap.size → g ≠ k := fun k h1 hk2 e => by
      subst e
      rcases hg with h' | h'
      · exact h1 (hdl _ h') h'
      · omega
    rcases snoc i hi with ⟨hi', e⟩ | ⟨_, e⟩
    · rw [e] at hk
      obtain ⟨f1, f2, f3, f4⟩ := h.far i hi' k hk
      exact ⟨f1, f2, fun e' => hgk k (fun _ => f3) (by have := S.lt (h.sim i hi') k hk; omega) (Option.some.inj e'), f4⟩
    · rw [e] at hk
      obtain ⟨f1, f2, f3, f4⟩ := newF k hk
      exact ⟨f1, f2, fun e' => hgk k (fun _ => f3) (S.lt hP k hk) (Option.some.inj e'), f4⟩
  · rcases snoc i hi with ⟨hi', e⟩ | ⟨h1, e⟩
    · rw [e] at hk
      rcases snoc j hj with ⟨hj', e'⟩ | ⟨_, e'⟩
      · rw [e'] at hk'; exact h.dis i j hi' hj' hij k hk hk'
      · rw [e'] at hk'; have := oldF k ⟨i, hi', hk⟩; have := hF k hk'; omega
    · rw [e] at hk
      rcases snoc j hj with ⟨hj', e'⟩ | ⟨h2, e'⟩
      · rw [e'] at hk'; have := oldF k ⟨j, hj', hk'⟩; have := hF k hk; omega
      · simp at hi hj; omega
end LInv
end Go.Proofs.YtjkenehiojbmiaaGreatDoor.Law
