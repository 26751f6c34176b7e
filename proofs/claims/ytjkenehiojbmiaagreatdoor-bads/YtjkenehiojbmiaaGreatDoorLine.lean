import Derived.Test.YtjkenehiojbmiaaGreatDoorSay
import Derived.Test.YtjkenehiojbmiaaGreatDoorOpened
import Derived.Test.YtjkenehiojbmiaaGreatDoorReadDef
namespace Go.Proofs.YtjkenehiojbmiaaGreatDoor.Mdl
open Go.RowKit Msg

set_option maxHeartbeats 1000000 in
theorem told_any (p : Nat) (m : MV) (w : World) (hm : MBlk w p m) :
    Calls Tryz.prog 48 #[.pointer (some ⟨p, 0, none⟩)] w fun e w' => e = .returned m.ov ∧ w' = w.setCell ⟨p, 11, none⟩ (.slice none 0 0) := by
  have c11 : w.cell? ⟨p, 11, none⟩ = some m.ov := hm.cell 11
  have f11 : w.frozen? ⟨p, 11, none⟩ = false := hm.frozen 11
  clear hm
  go_enter Tryz.func48, Tryz.ntmps48
  go_wp2
  go_ret
  exact ⟨rfl, rfl⟩

/-- A text that is a message. -/
def isMsg (l : List UInt8) : Bool := openB l && (readL (openS l)).2
def ReadSaid : Prop := ∀ (s : ByteArray) (w : World), s.size ≤ 4194304 → Calls Tryz.prog 15 #[.string s] w (ReadPost s.data.toList w)
def bad : List UInt8 := Sums.line [98, 97, 100]

set_option maxHeartbeats 4000000 in
set_option maxRecDepth 100000 in
/-- line, at what is no message: it is told as bad. -/
theorem line_bad (HRD : ReadSaid) (p : Nat) (c : Int) (s : ByteArray) (m : MV) (l : List (Int × List UInt8)) (w : World) (hm : MBlk w p m) (hown : w.ownsRow 0 64 2 m.ov l.length (outRow l)) (hne : m.ov.ownBlock ≠ some p) (hlen : l.length ≤ 4194304) (hs : s.size ≤ 4194304)
    (hno : isMsg s.data.toList = false) :
    Calls Tryz.prog 47 #[.pointer (some ⟨p, 0, none⟩), .int .i64 c, .string s] w (SayPost p m l (c, bad) w) := by
  have HM : Hid (MBlk w p m) := hm
  have HO : Hid (w.ownsRow 0 64 2 m.ov l.length (outRow l)) := hown
  have HNE : Hid (m.ov.ownBlock ≠ some p) := hne
  have hol : (⟨(openS s.data.toList).toArray⟩ : ByteArray).size ≤ 4194304 := by
    show (openS s.data.toList).length ≤ 4194304
    exact open_len hs
  clear hm hown hne
  have HOP : Hid (∀ w : World, Calls Tryz.prog 70 #[.string s] w fun e w' => e = .returned (.tuple #[.string ⟨(openS s.data.toList).toArray⟩, .bool (openB s.data.toList)]) ∧ Below w.heap.size w w') := fun w => opened_any s w hs
  have HRE : Hid (∀ w : World, Calls Tryz.prog 15 #[.string ⟨(openS s.data.toList).toArray⟩] w (ReadPost (openS s.data.toList) w)) := fun w => HRD ⟨(openS s.data.toList).toArray⟩ w hol
  have HNO : Hid ((openB s.data.toList && (readL (openS s.data.toList)).2) = false) := hno
  clear hno hol
  generalize openS s.data.toList = t at *
  generalize openB s.data.toList = ob at *
  go_enter Tryz.func47, Tryz.ntmps47
  go_wp2_with fail
  refine (HOP.out _).mono ?_
  rintro e w1 ⟨rfl, hb1⟩
  go_wp2_with fail
  refine (HRE.out _).mono ?_
  rintro e w2 ⟨rfl, hb2⟩
  generalize (readL t).2 = rb at *
  generalize hmg : (readL t).1 = mg at *
  obtain ⟨k, id, att, ten, txt⟩ := mg
  clear hmg
  simp only [Mg.cs]
  have hsay : ∀ w' : World, Below w.heap.size w w' → Calls Tryz.prog 50 #[.pointer (some ⟨p, 0, none⟩), .int .i64 c, .string ⟨#[98, 97, 100]⟩] w' (SayPost p m l (c, bad) w') := fun w' hb => by
    have o : Only (fun _ => False) w w' := (Only.refl _ w).below hb
    exact say_any p c ⟨#[98, 97, 100]⟩ m l w' (HM.out.only o (fun h => h)) (o.row HO.out (fun _ _ h => h)) HNE.out hlen (by decide)
  have HSAY : Hid (∀ w' : World, Below w.heap.size w w' → Calls Tryz.prog 50 #[.pointer (some ⟨p, 0, none⟩), .int .i64 c, .string ⟨#[98, 97, 100]⟩] w' (SayPost p m l (c, bad) w')) := hsay
  clear hsay
  have hB2 : Below w.heap.size w w2 := hb1.trans (hb2.mono hb1.size)
  have hz2 := hB2.size
  cases ob
  · go_wp2_with fail
    refine (HSAY.out _ (hB2.alloc hz2 _)).mono ?_
    rintro e w3 ⟨g1, cap1, rfl, h1, h2, h3, h4⟩
    go_wp2
    go_end0
    exact ⟨g1, cap1, rfl, h1, h2, by rcases h3 with h | h; (· exact Or.inl h); (· right; simp at h; omega), ((Only.refl _ w).below hB2 |>.alloc _).trans h4 (fun _ _ h => h)⟩
  · have hrb : rb = false := by simpa using HNO.out
    subst hrb
    go_wp2_with fail
    refine (HSAY.out _ (hB2.alloc hz2 _)).mono ?_
    rintro e w3 ⟨g1, cap1, rfl, h1, h2, h3, h4⟩
    go_wp2
    go_end0
    exact ⟨g1, cap1, rfl, h1, h2, by rcases h3 with h | h; (· exact Or.inl h); (· right; simp at h; omega), ((Only.refl _ w).below hB2 |>.alloc _).trans h4 (fun _ _ h => h)⟩
end Go.Proofs.YtjkenehiojbmiaaGreatDoor.Mdl
