import Derived.Test.YtjkenehiojbmiaaGreatDoorLine
namespace Go.Proofs.YtjkenehiojbmiaaGreatDoor.Mdl
open Go.RowKit Msg
attribute [local go_sem] Sums.setCell_drewN
attribute [local go_sem] Sums.alloc_drewN

/-- The lines with what was there ahead of them. -/
def withRest (rest : List UInt8) : List (List UInt8) → List (List UInt8)
  | [] => []
  | x :: r => (rest ++ x) :: r
theorem withRest_len (rest : List UInt8) (ws : List (List UInt8)) : (withRest rest ws).length = ws.length := by cases ws <;> simp [withRest]
/-- What of a connection is not ended. -/
def restOf (c : Int) (l : List Cn) : List UInt8 := ((withC c l)[ixOf c l]?.map (·.rest)).getD []
def setRest (c : Int) (l : List Cn) (r : List UInt8) : List Cn := (withC c l).modify (ixOf c l) (fun x => { x with rest := r })

theorem ix_lt (c : Int) (l : List Cn) : ixOf c l < (withC c l).length := by
  unfold withC
  split
  · assumption
  · have h : ixOf c l ≤ l.length := List.findIdx_le_length
    simp; omega
theorem strs_set (ws : List (List UInt8)) (k : Nat) (x : List UInt8) : (strs ws).set k (.string ⟨x.toArray⟩) = strs (ws.set k x) := by
  unfold strs; rw [List.map_set]
theorem rest_cell {w : World} {base g cap : Nat} {c : Int} {l : List Cn} (h : w.ownsRow base 99 4 (.slice (some ⟨g, 0, none⟩) (withC c l).length cap) (withC c l).length (cnRow (withC c l))) :
    w.cell? ⟨g, ixOf c l * 4 + 1, none⟩ = some (.string ⟨(restOf c l).toArray⟩) := by
  rw [cn_cell h (ix_lt c l) (by omega) rfl]
  unfold restOf
  rw [List.getElem?_eq_getElem (ix_lt c l)]
  rfl

theorem row_cap {w : World} {base : Nat} {e : TypeId} {size g n cap : Nat} {xs : List Value} (h : w.ownsRow base e size (.slice (some ⟨g, 0, none⟩) n cap) n xs) : n ≤ cap := by
  rcases h.2 with ⟨h', _⟩ | ⟨g', cap', cur, h', _, _, hn, _⟩
  · cases h'
  · cases h'; exact hn
theorem withC_lt {c : Int} {l : List Cn} (h : ixOf c l < l.length) : withC c l = l := by unfold withC; rw [if_pos h]
theorem ix_again (c : Int) (l : List Cn) : ixOf c (withC c l) = ixOf c l ∧ withC c (withC c l) = withC c l := by
  have h := ix_lt c l
  have e : ixOf c (withC c l) = ixOf c l := by
    by_cases hl : ixOf c l < l.length
    · unfold withC; rw [if_pos hl]
    · have hle : ixOf c l ≤ l.length := List.findIdx_le_length
      have he : ixOf c l = l.length := by omega
      unfold withC; rw [if_neg hl]
      unfold ixOf at *
      rw [List.findIdx_append, if_neg (by omega)]
      simp [List.findIdx_cons]
      omega
  exact ⟨e, withC_lt (e.symm ▸ h)⟩
theorem cnRow_rest (l : List Cn) (r : List UInt8) (k : Nat) (hk : k < l.length) : (cnRow l).set (k * 4 + 1) (.string ⟨r.toArray⟩) = cnRow (l.modify k (fun x => { x with rest := r })) := by
  induction l generalizing k with
  | nil => simp at hk
  | cons x l ih =>
    rw [cnRow, List.flatMap_cons]
    match k with
    | 0 => rfl
    | k + 1 =>
      rw [List.set_append_right _ _ (by show 4 ≤ (k + 1) * 4 + 1; omega)]
      have e : (k + 1) * 4 + 1 - x.cs.length = k * 4 + 1 := by show (k + 1) * 4 + 1 - 4 = _; omega
      rw [e]
      have := ih k (by simpa using hk)
      show x.cs ++ (cnRow l).set (k * 4 + 1) _ = _
      rw [this]
      rfl
theorem withC_len (c : Int) (l : List Cn) : (withC c l).length ≤ l.length + 1 := by unfold withC; split <;> simp
theorem cut_le (c : UInt8) (l : List UInt8) : ∀ x ∈ cutL c l, x.length ≤ l.length := by
  intro x hx
  obtain ⟨_, h2, h3⟩ := cutP_len c l
  unfold cutL at hx
  rcases List.mem_append.1 hx with h | h
  · exact h3 x h
  · have := List.mem_singleton.1 h; subst this; exact h2
theorem row_base {w : World} {b b' : Nat} {e : TypeId} {size : Nat} {v : Value} {n : Nat} {xs : List Value} (ho : w.ownsRow b e size v n xs) (hb : ∀ k, v.ownBlock = some k → b' ≤ k) : w.ownsRow b' e size v n xs := by
  refine ⟨ho.1, ?_⟩
  rcases ho.2 with h0 | ⟨g, cap, cur, rfl, _, hr⟩
  · exact Or.inl h0
  · exact Or.inr ⟨g, cap, cur, rfl, hb g rfl, hr⟩
theorem mem_dropLast {ws : List (List UInt8)} {k : Nat} (hk : k + 1 < ws.length) : ws[k]'(by omega) ∈ ws.dropLast := by
  have h : k < ws.dropLast.length := by simp; omega
  have e : ws.dropLast[k]'h = ws[k]'(by omega) := by simp
  rw [← e]; exact List.getElem_mem _
theorem rep_succ (k : Nat) (x : Int × List UInt8) : List.replicate k x ++ [x] = List.replicate (k + 1) x := by rw [List.replicate_succ']

def FeedPost (p : Nat) (c : Int) (m : MV) (l : List Cn) (s : List UInt8) (w : World) (e : Ending) (w' : World) : Prop :=
  ∃ v cv, e = .returned v ∧ MBlk w' p { m with cv := cv, ov := .slice none 0 0 } ∧
    w'.ownsRow 0 99 4 cv (withC c l).length (cnRow (setRest c l (((withRest (restOf c l) (cutL 10 s)).getLastD []).take 81))) ∧
    (m.cv.ownBlock = cv.ownBlock ∨ ∀ g, cv.ownBlock = some g → w.heap.size ≤ g) ∧
    w'.ownsRow w.heap.size 64 2 v ((cutL 10 s).length - 1) (outRow (List.replicate ((cutL 10 s).length - 1) (c, bad))) ∧ v.ownBlock ≠ cv.ownBlock ∧
    Only (fun b => b = p ∨ m.cv.ownBlock = some b) w w'

/-- conn, of a connection that is there. -/
def ConnPost' (p : Nat) (c : Int) (m : MV) (l : List Cn) (w : World) (e : Ending) (w' : World) : Prop :=
  ∃ g cap, e = .returned (.pointer (some ⟨g, ixOf c l * 4, none⟩)) ∧
      MBlk w' p { m with cv := .slice (some ⟨g, 0, none⟩) (withC c l).length cap } ∧ w'.ownsRow 0 99 4 (.slice (some ⟨g, 0, none⟩) (withC c l).length cap) (withC c l).length (cnRow (withC c l)) ∧
      (m.cv.ownBlock = some g ∨ w.heap.size ≤ g) ∧ Only (fun b => b = p ∨ m.cv.ownBlock = some b) w w'
theorem ConnPost2 (p : Nat) (c : Int) (m : MV) (l : List Cn) (w : World) : ConnPost p c m (withC c l) w = ConnPost' p c m l w := by
  obtain ⟨e1, e2⟩ := ix_again c l
  funext e w'
  unfold ConnPost ConnPost'
  rw [e1, e2]
theorem feed_fin {p : Nat} {c : Int} {m : MV} {l : List Cn} {s : List UInt8} {w wr w5 : World} {g g2 cap2 k : Nat} {ov : Value} {x : List UInt8} (hp : p < w.heap.size) (hcv : m.cv.ownBlock = some g ∨ w.heap.size ≤ g) (hgp : g ≠ p)
    (O : Only (fun b => b = p ∨ m.cv.ownBlock = some b) w wr) (hgr : g < wr.heap.size) (hcut : (cutL 10 s).length = k + 1) (hx : (withRest (restOf c l) (cutL 10 s)).getLastD [] = x)
    (RO : wr.ownsRow 0 64 2 ov k (outRow (List.replicate k (c, bad)))) (hov : ∀ b, ov.ownBlock = some b → w.heap.size ≤ b) (hovg : ov.ownBlock ≠ some g)
    (M5 : MBlk w5 p { m with cv := .slice (some ⟨g2, 0, none⟩) (withC c l).length cap2, ov := ov }) (R5 : w5.ownsRow 0 99 4 (.slice (some ⟨g2, 0, none⟩) (withC c l).length cap2) (withC c l).length (cnRow (withC c l)))
    (hg5 : some g = some g2 ∨ wr.heap.size ≤ g2) (O5 : Only (fun b => b = p ∨ some g = some b) wr w5) :
    FeedPost p c m l s w (.returned ov) ((w5.setCell ⟨g2, ixOf c l * 4 + 1, none⟩ (.string ⟨(x.take 81).toArray⟩)).setCell ⟨p, 11, none⟩ (.slice none 0 0)) := by
  have hz := O.size
  have hz5 := O5.size
  have hg2p : g2 ≠ p := by
    rcases hg5 with h | h
    · intro e; exact hgp ((Option.some.inj h).trans e)
    · omega
  have hg2l : g2 < w5.heap.size := (R5.lt g2 rfl).2
  have hovl : ∀ b, ov.ownBlock = some b → b < wr.heap.size := fun b hb => (RO.lt b hb).2
  have R6 := (R5.stored (ixOf c l * 4 + 1) (.string ⟨(x.take 81).toArray⟩)).1
  rw [cnRow_rest _ _ _ (ix_lt c l)] at R6
  have o6 : Only (fun b => b = g2) w5 (w5.setCell ⟨g2, ixOf c l * 4 + 1, none⟩ (.string ⟨(x.take 81).toArray⟩)) := (Only.refl _ _).setCell _ _ (fun _ => rfl)
  have M6 := M5.only o6 (fun e => hg2p e.symm)
  have o7 : Only (fun b => b = p) (w5.setCell ⟨g2, ixOf c l * 4 + 1, none⟩ (.string ⟨(x.take 81).toArray⟩)) ((w5.setCell ⟨g2, ixOf c l * 4 + 1, none⟩ (.string ⟨(x.take 81).toArray⟩)).setCell ⟨p, 11, none⟩ (.slice none 0 0)) := (Only.refl _ _).setCell _ _ (fun _ => rfl)
  have ovg2 : ∀ b, ov.ownBlock = some b → b ≠ g2 := fun b hb e => by
    subst e
    rcases hg5 with h | h
    · exact hovg (by rw [hb, h])
    · have := hovl _ hb; omega
  have ovp : ∀ b, ov.ownBlock = some b → b ≠ p := fun b hb e => by have := hov b hb; omega
  refine ⟨ov, .slice (some ⟨g2, 0, none⟩) (withC c l).length cap2, rfl, M6.setOv _, ?_, ?_, ?_, ?_, ?_⟩
  · rw [hx]; exact o7.row R6 (fun b hb e => hg2p ((Option.some.inj hb : g2 = b).trans e))
  · rcases hcv with h | h
    · rcases hg5 with h' | h'
      · left; rw [h, h']; rfl
      · right; intro b hb; have e : g2 = b := Option.some.inj hb; omega
    · right; intro b hb; have e : g2 = b := Option.some.inj hb
      rcases hg5 with h' | h'
      · have e2 : g = g2 := Option.some.inj h'; omega
      · omega
  · rw [hcut]
    show World.ownsRow _ _ _ _ ov k _
    refine row_base (o7.row (o6.row (O5.row RO ?_) ?_) ?_) hov
    · intro b hb e
      rcases e with e | e
      · exact ovp b hb e
      · exact hovg (hb.trans e.symm)
    · exact ovg2
    · exact ovp
  · intro e
    exact ovg2 g2 e rfl
  · refine (((O.trans O5 (fun b hb h => ?_)).trans o6 (fun b hb h => ?_)).trans o7 (fun b _ h => Or.inl h))
    · rcases h with h | h
      · exact Or.inl h
      · have e : g = b := Option.some.inj h
        rcases hcv with h' | h'
        · right; rw [h', e]
        · omega
    · have hb' : b = g2 := h
      rcases hg5 with h' | h'
      · have e : g = g2 := Option.some.inj h'
        rcases hcv with h'' | h''
        · right; rw [h'', e, hb']
        · omega
      · omega

set_option maxHeartbeats 8000000 in
set_option maxRecDepth 100000 in
theorem feed_bad (HRD : ReadSaid) (p : Nat) (c : Int) (s : ByteArray) (m : MV) (l : List Cn) (w : World) (hm : MBlk w p m) (hov : m.ov = .slice none 0 0) (hown : w.ownsRow 0 99 4 m.cv l.length (cnRow l)) (hne : m.cv.ownBlock ≠ some p) (hlen : l.length ≤ 4194303) (hs : s.size ≤ 2097152)
    (hrest : (restOf c l).length ≤ 81) (hno : ∀ x ∈ (withRest (restOf c l) (cutL 10 s.data.toList)).dropLast, isMsg x = false) :
    Calls Tryz.prog 23 #[.pointer (some ⟨p, 0, none⟩), .int .i64 c, .string s] w (FeedPost p c m l s.data.toList w) := by
  have HM : Hid (MBlk w p m) := hm
  have HOV : Hid (m.ov = .slice none 0 0) := hov
  have HO : Hid (w.ownsRow 0 99 4 m.cv l.length (cnRow l)) := hown
  have HNE : Hid (m.cv.ownBlock ≠ some p) := hne
  have HNO : Hid (∀ x ∈ (withRest (restOf c l) (cutL 10 s.data.toList)).dropLast, isMsg x = false) := hno
  have hsm : ∀ x ∈ cutL 10 s.data.toList, x.length ≤ 2097152 := fun x hx => Nat.le_trans (cut_le 10 _ x hx) (by simpa using hs)
  have hcl : (cutL 10 s.data.toList).length ≤ 2097153 := by
    have h := (cutP_len 10 s.data.toList).1
    have e : s.data.toList.length = s.size := by simp
    unfold cutL; simp; omega
  have hplt := hm.lt
  have HCUT : Hid (∀ w : World, Calls Tryz.prog 32 #[.string s, .int .u8 10] w fun e w' => ∃ g cap, e = .returned (.slice (some ⟨g, 0, none⟩) (cutL 10 s.data.toList).length cap) ∧ w.heap.size ≤ g ∧
      w'.ownsRow w.heap.size 9 1 (.slice (some ⟨g, 0, none⟩) (cutL 10 s.data.toList).length cap) (cutL 10 s.data.toList).length (strs (cutL 10 s.data.toList)) ∧ Below w.heap.size w w') := fun w => cut_any s 10 w (by omega)
  clear hm hov hown hne hno
  obtain ⟨x0, r0, hws⟩ : ∃ x0 r0, cutL 10 s.data.toList = x0 :: r0 := by
    cases h : cutL 10 s.data.toList with
    | nil => exact absurd h (cut_ne _ _)
    | cons a b => exact ⟨a, b, rfl⟩
  rw [hws] at hsm hcl
  have HWS : Hid (cutL 10 s.data.toList = x0 :: r0) := hws
  rw [hws] at HCUT HNO
  clear hws
  go_enter Tryz.func23, Tryz.ntmps23
  go_wp2_with fail
  refine (HCUT.out _).mono ?_
  rintro e w1 ⟨gl, capl, rfl, hgl, hlo, hb1⟩
  have hgl1 : gl < w1.heap.size := (hlo.lt gl rfl).2
  have hcap := row_cap hlo
  have o1 : Only (fun _ => False) w w1 := (Only.refl _ w).below hb1
  have M1 : MBlk w1 p m := HM.out.only o1 (fun h => h)
  have R1 := o1.row HO.out (fun _ _ h => h)
  have hconn := conn_any p c m l w1 M1 R1 HNE.out (by omega)
  have HCN : Hid (Calls Tryz.prog 46 #[.pointer (some ⟨p, 0, none⟩), .int .i64 c] w1 (ConnPost p c m l w1)) := hconn
  clear hconn
  go_wp2_with fail
  refine HCN.out.mono ?_
  rintro e w2 ⟨g, cap, rfl, M2, R2, hg2, o2⟩
  have hcvg : m.cv.ownBlock = some g ∨ w.heap.size ≤ g := hg2.elim Or.inl (fun h => Or.inr (by have := o1.size; omega))
  have hcvlt : ∀ b, m.cv.ownBlock = some b → b < w.heap.size := fun b hb => (HO.out.lt b hb).2
  have hlr : w2.ownsRow w.heap.size 9 1 (.slice (some ⟨gl, 0, none⟩) (x0 :: r0).length capl) (x0 :: r0).length (strs (x0 :: r0)) := o2.row hlo (fun k hk hS => by
    have hkg : gl = k := Option.some.inj hk
    subst hkg
    rcases hS with h | h
    · omega
    · have := hcvlt _ h; omega)
  have hrc := rest_cell R2
  have hl0 : w2.cell? ⟨gl, 0, none⟩ = some (.string ⟨x0.toArray⟩) := str_cell hlr (k := 0) (by simp) rfl
  have fl0 := hlr.frozenAt 0
  have hx0 : x0.length ≤ 2097152 := hsm x0 (by simp)
  have hgne : g ≠ gl := by
    rcases hg2 with h | h
    · have := hcvlt _ h; omega
    · omega
  have HE : Hid ((⟨(restOf c l).toArray⟩ : ByteArray) ++ (⟨x0.toArray⟩ : ByteArray) = ⟨(restOf c l ++ x0).toArray⟩) := Sums.ba_append _ _
  have hrl : (restOf c l).toArray.size ≤ 81 := by simpa using hrest
  go_wp2
  go_region
  rw [HE.out]
  obtain ⟨hls, hlg⟩ := hlr.stored 0 (.string ⟨(restOf c l ++ x0).toArray⟩)
  rw [strs_set] at hls
  have o3 : Only (fun b => b = gl) w2 (w2.setCell ⟨gl, 0, none⟩ (.string ⟨(restOf c l ++ x0).toArray⟩)).drew := ((Only.refl (fun b => b = gl) w2).setCell ⟨gl, 0, none⟩ _ (fun _ => rfl)).drew
  have hgp : g ≠ p := by
    rcases hg2 with h | h
    · intro e; subst e; exact HNE.out h
    · omega
  have M3 := M2.only o3 (by omega)
  have R3 := o3.row R2 (fun k hk e => hgne ((Option.some.inj hk).trans e))
  have L3 : ((w2.setCell ⟨gl, 0, none⟩ (.string ⟨(restOf c l ++ x0).toArray⟩)).drew).ownsRow w.heap.size 9 1 (.slice (some ⟨gl, 0, none⟩) (x0 :: r0).length capl) (x0 :: r0).length (strs ((x0 :: r0).set 0 (restOf c l ++ x0))) := hls.drew
  have z3 : (w2.setCell ⟨gl, 0, none⟩ (.string ⟨(restOf c l ++ x0).toArray⟩)).drew.heap.size = w2.heap.size := by simp [World.setCell]
  have O3 : Only (fun b => b = p ∨ m.cv.ownBlock = some b) w (w2.setCell ⟨gl, 0, none⟩ (.string ⟨(restOf c l ++ x0).toArray⟩)).drew := ((o1.mono (fun _ _ h => h.elim)).trans o2 (fun _ _ h => h)).trans o3 (fun k hk e => by omega)
  have hz12 : w1.heap.size ≤ w2.heap.size := o2.size
  have hg2' : g < w2.heap.size := (R2.lt g rfl).2
  generalize (w2.setCell ⟨gl, 0, none⟩ (.string ⟨(restOf c l ++ x0).toArray⟩)).drew = w3 at *
  simp only [List.set_cons_zero] at L3
  clear hls hlg hl0 fl0 hrc hlr M2 R2 o3
  have HM3 : Hid (MBlk w3 p { m with cv := .slice (some ⟨g, 0, none⟩) (withC c l).length cap }) := M3
  have HR3 : Hid (w3.ownsRow 0 99 4 (.slice (some ⟨g, 0, none⟩) (withC c l).length cap) (withC c l).length (cnRow (withC c l))) := R3
  have HL3 : Hid (w3.ownsRow w.heap.size 9 1 (.slice (some ⟨gl, 0, none⟩) (x0 :: r0).length capl) (x0 :: r0).length (strs ((restOf c l ++ x0) :: r0))) := L3
  have HO3 : Hid (Only (fun b => b = p ∨ m.cv.ownBlock = some b) w w3) := O3
  clear M3 R3 L3 O3
  simp only [List.length_cons] at *
  go_wp2
  go_loopw [33] (fun ip wr => ∃ (k : Nat) (ov : Value), k ≤ r0.length ∧ ip = .int .i64 k ∧ Hid (MBlk wr p { m with cv := .slice (some ⟨g, 0, none⟩) (withC c l).length cap, ov := ov } ∧ wr.ownsRow 0 64 2 ov k (outRow (List.replicate k (c, bad))) ∧ (∀ b, ov.ownBlock = some b → w3.heap.size ≤ b) ∧ Only (fun b => b = p) w3 wr)) (fun ip _ => r0.length - (intOf ip).toNat)
  case atStart =>
    refine ⟨0, .slice none 0 0, Nat.zero_le _, rfl, And.intro ?_ (And.intro (World.ownsRow_nil _ _ _ _) (And.intro (fun b h => ?_) (Only.refl _ _)))⟩
    · rw [← HOV.out]; exact HM3.out
    · exact absurd h (by simp [Value.ownBlock])
  case round =>
    obtain ⟨k, ov, hk, rfl, HI⟩ := hrel
    obtain ⟨MI, RI, hovb, OI⟩ := HI.out
    have hwi := OI.size
    have LI : wr.ownsRow w.heap.size 9 1 (.slice (some ⟨gl, 0, none⟩) (r0.length + 1) capl) (r0.length + 1) (strs ((restOf c l ++ x0) :: r0)) := OI.row HL3.out (fun b hb e => by have e1 : gl = b := Option.some.inj hb; omega)
    have hovp : ov.ownBlock ≠ some p := fun e => by have := hovb p e; omega
    by_cases hlt : k < r0.length
    · have hcx := str_cell LI (k := k) (by simp; omega) (by simp)
      obtain ⟨x, hx⟩ : ∃ x, ((restOf c l ++ x0) :: r0)[k]'(by simp; omega) = x := ⟨_, rfl⟩
      rw [hx] at hcx
      have hxno : isMsg x = false := by rw [← hx]; exact HNO.out _ (mem_dropLast (ws := (restOf c l ++ x0) :: r0) (by simp; omega))
      have hxl : x.length ≤ 4194304 := by
        rw [← hx]
        cases k with
        | zero => simp; omega
        | succ k => exact Nat.le_trans (hsm _ (by simp)) (by omega)
      have hline := line_bad HRD p c ⟨x.toArray⟩ { m with cv := .slice (some ⟨g, 0, none⟩) (withC c l).length cap, ov := ov } (List.replicate k (c, bad)) wr MI (by rw [List.length_replicate]; exact RI) hovp (by simp; omega) hxl hxno
      have HLN : Hid (Calls Tryz.prog 47 #[.pointer (some ⟨p, 0, none⟩), .int .i64 c, .string ⟨x.toArray⟩] wr (SayPost p { m with cv := .slice (some ⟨g, 0, none⟩) (withC c l).length cap, ov := ov } (List.replicate k (c, bad)) (c, bad) wr)) := hline
      clear hline hx hxno LI MI RI
      go_wp2_with fail
      refine HLN.out.mono ?_
      rintro e w4 ⟨g1, cap1, rfl, M4, R4, hg4, O4⟩
      rw [List.length_replicate] at M4 R4
      rw [rep_succ] at R4
      have HI4 : Hid (MBlk w4 p { m with cv := .slice (some ⟨g, 0, none⟩) (withC c l).length cap, ov := .slice (some ⟨g1, 0, none⟩) (k + 1) cap1 } ∧ w4.ownsRow 0 64 2 (.slice (some ⟨g1, 0, none⟩) (k + 1) cap1) (k + 1) (outRow (List.replicate (k + 1) (c, bad))) ∧ (∀ b, (Value.slice (some ⟨g1, 0, none⟩) (k + 1) cap1).ownBlock = some b → w3.heap.size ≤ b) ∧ Only (fun b => b = p) w3 w4) := by
        refine ⟨M4, R4, fun b hb => ?_, OI.trans O4 (fun q hq h => ?_)⟩
        · have e := Option.some.inj hb
          have e' : g1 = b := e
          rcases hg4 with h | h
          · have := hovb _ h; omega
          · omega
        · rcases h with h | h
          · exact h
          · have := hovb _ h; omega
      clear M4 R4 hg4 O4
      go_wp2
      go_roundw
      case rel => exact ⟨k + 1, .slice (some ⟨g1, 0, none⟩) (k + 1) cap1, by omega, by go_num, HI4⟩
      case measure => simp [intOf]; omega
    · obtain rfl : k = r0.length := by omega
      have hcx := str_cell LI (k := r0.length) (by simp) (by simp)
      obtain ⟨x, hx⟩ : ∃ x, ((restOf c l ++ x0) :: r0)[r0.length]'(by simp) = x := ⟨_, rfl⟩
      rw [hx] at hcx
      have HX : Hid ((withRest (restOf c l) (x0 :: r0)).getLastD [] = x) := by
        show ((restOf c l ++ x0) :: r0).getLastD [] = x
        rw [← hx, List.getLastD_eq_getLast?, List.getLast?_eq_getElem?]
        simp
      have hxl : x.length ≤ 4194304 := by
        rw [← hx]
        cases r0 with
        | nil => simp; omega
        | cons a b => exact Nat.le_trans (hsm _ (by simp)) (by omega)
      clear hx
      have RC : wr.ownsRow 0 99 4 (.slice (some ⟨g, 0, none⟩) (withC c l).length cap) (withC c l).length (cnRow (withC c l)) := OI.row HR3.out (fun b hb e => hgp ((Option.some.inj hb).trans e))
      have hlc := withC_len c l
      have hconn := conn_any p c { m with cv := .slice (some ⟨g, 0, none⟩) (withC c l).length cap, ov := ov } (withC c l) wr MI RC (by intro e; exact hgp (Option.some.inj e)) (by omega)
      rw [ConnPost2] at hconn
      have HCN2 : Hid (Calls Tryz.prog 46 #[.pointer (some ⟨p, 0, none⟩), .int .i64 c] wr (ConnPost' p c { m with cv := .slice (some ⟨g, 0, none⟩) (withC c l).length cap, ov := ov } l wr)) := hconn
      clear hconn
      have HFIN : Hid (∀ w5 g2 cap2, MBlk w5 p { m with cv := .slice (some ⟨g2, 0, none⟩) (withC c l).length cap2, ov := ov } → w5.ownsRow 0 99 4 (.slice (some ⟨g2, 0, none⟩) (withC c l).length cap2) (withC c l).length (cnRow (withC c l)) →
          (some g = some g2 ∨ wr.heap.size ≤ g2) → Only (fun b => b = p ∨ some g = some b) wr w5 → FeedPost p c m l s.data.toList w (.returned ov) ((w5.setCell ⟨g2, ixOf c l * 4 + 1, none⟩ (.string ⟨(x.take 81).toArray⟩)).setCell ⟨p, 11, none⟩ (.slice none 0 0))) := fun w5 g2 cap2 => feed_fin hplt hcvg hgp (HO3.out.trans OI (fun _ _ h => Or.inl h)) (by omega) (by rw [HWS.out]; rfl) (by rw [HWS.out]; exact HX.out) RI (fun b hb => by have := hovb b hb; omega) (fun e => by have := hovb g e; omega)
      clear MI RI LI RC OI
      have HTK : Hid ((⟨x.toArray⟩ : ByteArray).extract 0 81 = ⟨(x.take 81).toArray⟩) := by
        have h := cut_head ⟨x.toArray⟩ 81
        exact h
      by_cases hbig : 81 < x.length
      · go_wp2_with fail
        refine HCN2.out.mono ?_
        rintro e w5 ⟨g2, cap2, rfl, M5, R5, hg5, O5⟩
        have HF : Hid (FeedPost p c m l s.data.toList w (.returned ov) ((w5.setCell ⟨g2, ixOf c l * 4 + 1, none⟩ (.string ⟨(x.take 81).toArray⟩)).setCell ⟨p, 11, none⟩ (.slice none 0 0))) := HFIN.out w5 g2 cap2 M5 R5 hg5 O5
        have hg2p : g2 ≠ p := by
          rcases hg5 with h | h
          · intro e; exact hgp ((Option.some.inj h : g = g2).trans e)
          · have := HO3.out.size; omega
        have HT : Hid (∀ v, Calls Tryz.prog 48 #[.pointer (some ⟨p, 0, none⟩)] (w5.setCell ⟨g2, ixOf c l * 4 + 1, none⟩ v) fun e w' => e = .returned ov ∧ w' = (w5.setCell ⟨g2, ixOf c l * 4 + 1, none⟩ v).setCell ⟨p, 11, none⟩ (.slice none 0 0)) := fun v => told_any p _ _ (M5.only (S := fun b => b = g2) ((Only.refl _ _).setCell _ _ (fun _ => rfl)) (fun e => hg2p e.symm))
        have hrc := rest_cell R5
        have hrf := R5.frozenAt (ixOf c l * 4 + 1)
        clear O5 HFIN hcx M5 R5
        go_wp2_with fail
        refine (HT.out _).mono ?_
        rintro e w6 ⟨rfl, rfl⟩
        go_wp2
        go_ret
        rw [HTK.out]
        exact HF.out
      · have HTL : Hid (x.take 81 = x) := List.take_of_length_le (by omega)
        rw [HTL.out] at HFIN
        go_wp2_with fail
        refine HCN2.out.mono ?_
        rintro e w5 ⟨g2, cap2, rfl, M5, R5, hg5, O5⟩
        have HF : Hid (FeedPost p c m l s.data.toList w (.returned ov) ((w5.setCell ⟨g2, ixOf c l * 4 + 1, none⟩ (.string ⟨x.toArray⟩)).setCell ⟨p, 11, none⟩ (.slice none 0 0))) := HFIN.out w5 g2 cap2 M5 R5 hg5 O5
        have hg2p : g2 ≠ p := by
          rcases hg5 with h | h
          · intro e; exact hgp ((Option.some.inj h : g = g2).trans e)
          · have := HO3.out.size; omega
        have HT : Hid (∀ v, Calls Tryz.prog 48 #[.pointer (some ⟨p, 0, none⟩)] (w5.setCell ⟨g2, ixOf c l * 4 + 1, none⟩ v) fun e w' => e = .returned ov ∧ w' = (w5.setCell ⟨g2, ixOf c l * 4 + 1, none⟩ v).setCell ⟨p, 11, none⟩ (.slice none 0 0)) := fun v => told_any p _ _ (M5.only (S := fun b => b = g2) ((Only.refl _ _).setCell _ _ (fun _ => rfl)) (fun e => hg2p e.symm))
        have hrc := rest_cell R5
        have hrf := R5.frozenAt (ixOf c l * 4 + 1)
        clear O5 HFIN hcx M5 R5
        go_wp2_with fail
        refine (HT.out _).mono ?_
        rintro e w6 ⟨rfl, rfl⟩
        go_wp2
        go_ret
        exact HF.out
end Go.Proofs.YtjkenehiojbmiaaGreatDoor.Mdl
