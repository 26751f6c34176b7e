import Derived.Test.YtjkenehiojbmiaaGreatDoorNum
namespace Go.Proofs.YtjkenehiojbmiaaGreatDoor.Msg
open Go.RowKit

def byteAt (l : List UInt8) (i : Nat) : Int := ((l[i]?.getD 0).toNat : Int)
def goesOn (l : List UInt8) (i : Nat) : Bool := decide (128 ≤ byteAt l i) && decide (byteAt l i ≤ 191)
def two' (l : List UInt8) (i : Nat) : Int := 64 * (byteAt l i % 32) + byteAt l (i + 1) % 64
def three' (l : List UInt8) (i : Nat) : Int := 64 * (64 * (byteAt l i % 16) + byteAt l (i + 1) % 64) + byteAt l (i + 2) % 64
/-- The letter at place i: its number, its bytes. -/
def letAt (l : List UInt8) (i : Nat) : Option (Int × Nat) :=
  if byteAt l i < 128 then some (byteAt l i, 1)
  else if 194 ≤ byteAt l i ∧ byteAt l i < 224 then (if i + 2 ≤ l.length ∧ goesOn l (i + 1) = true then some (two' l i, 2) else none)
  else if 224 ≤ byteAt l i ∧ byteAt l i < 240 then (if i + 3 ≤ l.length ∧ goesOn l (i + 1) = true ∧ goesOn l (i + 2) = true ∧ ¬ (three' l i < 2048 ∨ 55296 ≤ three' l i ∧ three' l i < 57344) then some (three' l i, 3) else none)
  else none
def letsG (la : Nat → Option (Int × Nat)) (len : Nat) : Nat → Nat → Option (List Int)
  | 0, i => if i < len then none else some []
  | f + 1, i => if i < len then (match la i with | none => none | some (c, n) => (letsG la len f (i + n)).map (c :: ·)) else some []
section
variable {la : Nat → Option (Int × Nat)} {len : Nat}
theorem letsG_end (f i : Nat) (h : ¬ i < len) : letsG la len f i = some [] := by
  cases f <;> simp [letsG, h]
theorem letsG_none (f i : Nat) (h : i < len) (hn : la i = none) : letsG la len f i = none := by
  cases f <;> simp [letsG, h, hn]
theorem letsG_some (f i n : Nat) (c : Int) (h : i < len) (hn : la i = some (c, n)) : letsG la len (f + 1) i = (letsG la len f (i + n)).map (c :: ·) := by
  simp [letsG, h, hn]
theorem map_twice (o : Option (List Int)) (xs : List Int) (c : Int) : (o.map (c :: ·)).map (xs ++ ·) = o.map ((xs ++ [c]) ++ ·) := by
  cases o <;> simp
theorem gets_none {R : Option (List Int)} {f i : Nat} {xs : List Int} (hr : R = (letsG la len f i).map (xs ++ ·)) (h : i < len) (hn : la i = none) : R = none := by
  rw [hr, letsG_none f i h hn]; rfl
theorem gets_step {R : Option (List Int)} {f i n : Nat} {c : Int} {xs : List Int} (hr : R = (letsG la len (f + 1) i).map (xs ++ ·)) (h : i < len) (hn : la i = some (c, n)) : R = (letsG la len f (i + n)).map ((xs ++ [c]) ++ ·) := by
  rw [hr, letsG_some f i n c h hn, map_twice]
theorem gets_end {R : Option (List Int)} {f i : Nat} {xs : List Int} (hr : R = (letsG la len f i).map (xs ++ ·)) (h : ¬ i < len) : R = some xs := by
  rw [hr, letsG_end f i h]; simp
end
def letsF (l : List UInt8) (f i : Nat) : Option (List Int) := letsG (letAt l) l.length f i
/-- The letters of a text. -/
def lets (l : List UInt8) : Option (List Int) := letsF l l.length 0
theorem lets_none {l : List UInt8} {f i : Nat} {xs : List Int} (hr : lets l = (letsF l f i).map (xs ++ ·)) (h : i < l.length) (hn : letAt l i = none) : lets l = none := gets_none hr h hn
theorem lets_step {l : List UInt8} {f i n : Nat} {c : Int} {xs : List Int} (hr : lets l = (letsF l (f + 1) i).map (xs ++ ·)) (h : i < l.length) (hn : letAt l i = some (c, n)) : lets l = (letsF l f (i + n)).map ((xs ++ [c]) ++ ·) := gets_step hr h hn
theorem lets_end {l : List UInt8} {f i : Nat} {xs : List Int} (hr : lets l = (letsF l f i).map (xs ++ ·)) (h : ¬ i < l.length) : lets l = some xs := gets_end hr h

theorem letAt_one (l : List UInt8) (i : Nat) (h : byteAt l i < 128) : letAt l i = some (byteAt l i, 1) := if_pos h
theorem letAt_mid (l : List UInt8) (i : Nat) (h0 : 128 ≤ byteAt l i) (h : byteAt l i < 194 ∨ 240 ≤ byteAt l i) : letAt l i = none := by
  unfold letAt; rw [if_neg (by omega), if_neg (by omega), if_neg (by omega)]
theorem letAt_two (l : List UInt8) (i : Nat) (h0 : 194 ≤ byteAt l i) (h1 : byteAt l i < 224) : letAt l i = if i + 2 ≤ l.length ∧ goesOn l (i + 1) = true then some (two' l i, 2) else none := by
  unfold letAt; rw [if_neg (by omega), if_pos ⟨h0, h1⟩]
theorem letAt_three (l : List UInt8) (i : Nat) (h0 : 224 ≤ byteAt l i) (h1 : byteAt l i < 240) : letAt l i = if i + 3 ≤ l.length ∧ goesOn l (i + 1) = true ∧ goesOn l (i + 2) = true ∧ ¬ (three' l i < 2048 ∨ 55296 ≤ three' l i ∧ three' l i < 57344) then some (three' l i, 3) else none := by
  unfold letAt; rw [if_neg (by omega), if_neg (by omega), if_pos ⟨h0, h1⟩]

theorem byteAt_eq (s : ByteArray) (i : Nat) (h : i < s.size) : byteAt s.data.toList i = (s[i].toNat : Int) := by
  unfold byteAt
  rw [List.getElem?_eq_getElem (by simpa using h)]; rfl
theorem byteAt_bd (l : List UInt8) (i : Nat) : 0 ≤ byteAt l i ∧ byteAt l i ≤ 255 := by
  unfold byteAt
  have := (l[i]?.getD 0).toNat_lt
  omega
theorem goesOn_no {l : List UInt8} {i : Nat} (h : byteAt l i < 128 ∨ 191 < byteAt l i) : goesOn l i = false := by
  simp [goesOn]; omega
theorem goesOn_yes {l : List UInt8} {i : Nat} (h0 : 128 ≤ byteAt l i) (h1 : byteAt l i ≤ 191) : goesOn l i = true := by
  simp [goesOn, h0, h1]

section
variable (s : ByteArray) (i : Nat)
theorem slen : s.data.toList.length = s.size := by simp
theorem let_one (h : i < s.size) (hc : (s[i].toNat : Int) < 128) : letAt s.data.toList i = some ((s[i].toNat : Int), 1) := by
  have q := byteAt_eq s i h
  rw [letAt_one _ _ (by rw [q]; exact hc), q]
theorem let_mid (h : i < s.size) (h0 : ¬ (s[i].toNat : Int) < 128) (hc : (s[i].toNat : Int) < 194 ∨ 240 ≤ (s[i].toNat : Int)) : letAt s.data.toList i = none := by
  have q := byteAt_eq s i h
  exact letAt_mid _ _ (by rw [q]; omega) (by rw [q]; exact hc)
theorem let_two_short (h : i < s.size) (h0 : 194 ≤ (s[i].toNat : Int)) (h1 : (s[i].toNat : Int) < 224) (hs : s.size < i + 2) : letAt s.data.toList i = none := by
  have q := byteAt_eq s i h
  rw [letAt_two _ _ (by rw [q]; exact h0) (by rw [q]; exact h1), if_neg]
  rw [slen]; omega
theorem let_two_bad (h : i + 1 < s.size) (h0 : 194 ≤ (s[i].toNat : Int)) (h1 : (s[i].toNat : Int) < 224) (hd : (s[i + 1].toNat : Int) < 128 ∨ 191 < (s[i + 1].toNat : Int)) : letAt s.data.toList i = none := by
  have q := byteAt_eq s i (by omega)
  have q1 := byteAt_eq s (i + 1) h
  rw [letAt_two _ _ (by rw [q]; exact h0) (by rw [q]; exact h1), if_neg]
  rw [goesOn_no (by rw [q1]; exact hd)]; simp
theorem let_two_ok (h : i + 1 < s.size) (h0 : 194 ≤ (s[i].toNat : Int)) (h1 : (s[i].toNat : Int) < 224) (hd : 128 ≤ (s[i + 1].toNat : Int)) (hd2 : (s[i + 1].toNat : Int) ≤ 191) :
    letAt s.data.toList i = some (64 * ((s[i].toNat : Int) % 32) + (s[i + 1].toNat : Int) % 64, 2) := by
  have q := byteAt_eq s i (by omega)
  have q1 := byteAt_eq s (i + 1) h
  rw [letAt_two _ _ (by rw [q]; exact h0) (by rw [q]; exact h1), if_pos ⟨by rw [slen]; omega, goesOn_yes (by rw [q1]; exact hd) (by rw [q1]; exact hd2)⟩, two', q, q1]
theorem let_two_v (h : i + 1 < s.size) (h0 : 194 ≤ (s[i].toNat : Int)) (h1 : (s[i].toNat : Int) < 224) (hd : ¬ (s[i + 1].toNat : Int) < 128) (hd2 : ¬ 191 < (s[i + 1].toNat : Int)) {v : Int} (hv : v = 64 * ((s[i].toNat : Int) % 32) + (s[i + 1].toNat : Int) % 64) :
    letAt s.data.toList i = some (v, 2) := by
  rw [let_two_ok s i h h0 h1 (by omega) (by omega), hv]
theorem let_three_short (h : i < s.size) (h0 : 224 ≤ (s[i].toNat : Int)) (h1 : (s[i].toNat : Int) < 240) (hs : s.size < i + 3) : letAt s.data.toList i = none := by
  have q := byteAt_eq s i h
  rw [letAt_three _ _ (by rw [q]; exact h0) (by rw [q]; exact h1), if_neg]
  rw [slen]; omega
theorem let_three_bad1 (h : i + 2 < s.size) (h0 : 224 ≤ (s[i].toNat : Int)) (h1 : (s[i].toNat : Int) < 240) (hd : (s[i + 1].toNat : Int) < 128 ∨ 191 < (s[i + 1].toNat : Int)) : letAt s.data.toList i = none := by
  have q := byteAt_eq s i (by omega)
  have q1 := byteAt_eq s (i + 1) (by omega)
  rw [letAt_three _ _ (by rw [q]; exact h0) (by rw [q]; exact h1), if_neg]
  rw [goesOn_no (by rw [q1]; exact hd)]; simp
theorem let_three_bad2 (h : i + 2 < s.size) (h0 : 224 ≤ (s[i].toNat : Int)) (h1 : (s[i].toNat : Int) < 240) (hd : (s[i + 2].toNat : Int) < 128 ∨ 191 < (s[i + 2].toNat : Int)) : letAt s.data.toList i = none := by
  have q := byteAt_eq s i (by omega)
  have q1 := byteAt_eq s (i + 2) h
  rw [letAt_three _ _ (by rw [q]; exact h0) (by rw [q]; exact h1), if_neg]
  rw [goesOn_no (l := s.data.toList) (i := i + 2) (by rw [q1]; exact hd)]; simp
def thr (a b c : Int) : Int := 64 * (64 * (a % 16) + b % 64) + c % 64
theorem three_eq (h : i + 2 < s.size) : three' s.data.toList i = thr (s[i].toNat : Int) (s[i + 1].toNat : Int) (s[i + 2].toNat : Int) := by
  rw [three', byteAt_eq s i (by omega), byteAt_eq s (i + 1) (by omega), byteAt_eq s (i + 2) h]; rfl
theorem let_three_bad3 (h : i + 2 < s.size) (h0 : 224 ≤ (s[i].toNat : Int)) (h1 : (s[i].toNat : Int) < 240) (hv : thr (s[i].toNat : Int) (s[i + 1].toNat : Int) (s[i + 2].toNat : Int) < 2048 ∨ 55296 ≤ thr (s[i].toNat : Int) (s[i + 1].toNat : Int) (s[i + 2].toNat : Int) ∧ thr (s[i].toNat : Int) (s[i + 1].toNat : Int) (s[i + 2].toNat : Int) < 57344) : letAt s.data.toList i = none := by
  have q := byteAt_eq s i (by omega)
  rw [letAt_three _ _ (by rw [q]; exact h0) (by rw [q]; exact h1), if_neg]
  rw [three_eq s i h]
  intro hh
  exact hh.2.2.2 hv
theorem let_three_ok (h : i + 2 < s.size) (h0 : 224 ≤ (s[i].toNat : Int)) (h1 : (s[i].toNat : Int) < 240) (hd : 128 ≤ (s[i + 1].toNat : Int)) (hd1 : (s[i + 1].toNat : Int) ≤ 191) (hd2 : 128 ≤ (s[i + 2].toNat : Int)) (hd3 : (s[i + 2].toNat : Int) ≤ 191)
    (hv : ¬ (thr (s[i].toNat : Int) (s[i + 1].toNat : Int) (s[i + 2].toNat : Int) < 2048 ∨ 55296 ≤ thr (s[i].toNat : Int) (s[i + 1].toNat : Int) (s[i + 2].toNat : Int) ∧ thr (s[i].toNat : Int) (s[i + 1].toNat : Int) (s[i + 2].toNat : Int) < 57344)) :
    letAt s.data.toList i = some (thr (s[i].toNat : Int) (s[i + 1].toNat : Int) (s[i + 2].toNat : Int), 3) := by
  have q := byteAt_eq s i (by omega)
  have q1 := byteAt_eq s (i + 1) (by omega)
  have q2 := byteAt_eq s (i + 2) h
  rw [letAt_three _ _ (by rw [q]; exact h0) (by rw [q]; exact h1), three_eq s i h, if_pos ⟨by rw [slen]; omega, goesOn_yes (by rw [q1]; exact hd) (by rw [q1]; exact hd1), goesOn_yes (by rw [q2]; exact hd2) (by rw [q2]; exact hd3), hv⟩]
theorem let_three_v (h : i + 2 < s.size) (h0 : 224 ≤ (s[i].toNat : Int)) (h1 : (s[i].toNat : Int) < 240) (hd : ¬ (s[i + 1].toNat : Int) < 128) (hd1 : ¬ 191 < (s[i + 1].toNat : Int)) (hd2 : ¬ (s[i + 2].toNat : Int) < 128) (hd3 : ¬ 191 < (s[i + 2].toNat : Int))
    {v1 v : Int} (hv1 : v1 = 64 * ((s[i].toNat : Int) % 16) + (s[i + 1].toNat : Int) % 64) (hv : v = 64 * v1 + (s[i + 2].toNat : Int) % 64) :
    ((v < 2048 ∨ 55296 ≤ v ∧ v < 57344) → letAt s.data.toList i = none) ∧ (¬ (v < 2048 ∨ 55296 ≤ v ∧ v < 57344) → letAt s.data.toList i = some (v, 3)) := by
  have e : v = thr (s[i].toNat : Int) (s[i + 1].toNat : Int) (s[i + 2].toNat : Int) := by rw [hv, hv1]; rfl
  rw [e]
  exact ⟨fun hh => let_three_bad3 s i h h0 h1 hh, fun hh => let_three_ok s i h h0 h1 (by omega) (by omega) (by omega) (by omega) hh⟩
end

def ints (l : List Int) : List Value := l.map fun x => .int .i64 x
theorem ints_len (l : List Int) : (ints l).length = l.length := by simp [ints]
theorem ints_snoc (l : List Int) (c : Int) : ints (l ++ [c]) = ints l ++ [.int .i64 c] := by simp [ints]
theorem infoInt : (Tryz.prog.info? 3).map (fun i => (i.zero, i.size, i.bytes)) = some (some (.int .i64 0), 1, 8) := by kernel_rfl

/-- What letters leaves. -/
def LetsPost (l : List UInt8) (w : World) (e : Ending) (w' : World) : Prop :=
  (lets l = none ∧ e = .returned (.tuple #[.slice none 0 0, .bool false]) ∧ Below w.heap.size w w') ∨
  (∃ xs v, lets l = some xs ∧ e = .returned (.tuple #[v, .bool true]) ∧ w'.ownsRow w.heap.size 3 1 v xs.length (ints xs) ∧ Below w.heap.size w w')

def LettersSaid : Prop := ∀ (s : ByteArray) (w : World), s.size ≤ 4194304 → Calls Tryz.prog 62 #[.string s] w (LetsPost s.data.toList w)
end Go.Proofs.YtjkenehiojbmiaaGreatDoor.Msg
