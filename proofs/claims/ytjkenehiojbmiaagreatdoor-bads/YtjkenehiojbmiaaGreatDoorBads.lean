import Derived.Test.YtjkenehiojbmiaaGreatDoorPairs
import Derived.Test.YtjkenehiojbmiaaGreatDoorReadAll
import Derived.Test.YtjkenehiojbmiaaGreatDoorLets
namespace Go.Proofs.YtjkenehiojbmiaaGreatDoor.Msg
open Go.RowKit Mdl
theorem readSaid : ReadSaid := fun s w hs => read_any letters_any s w hs
theorem LibAt.below {w00 w1 : World} (L : LibAt w00.heap.size w00) (hb : Below w00.heap.size w00 w1) : LibAt w1.heap.size w1 :=
  ⟨fun s w hs h => L.valid s w hs (hb.trans (h.mono hb.size)), fun s w hs h => L.split s w hs (hb.trans (h.mono hb.size)), fun s w hs h => L.cut s w hs (hb.trans (h.mono hb.size))⟩
end Go.Proofs.YtjkenehiojbmiaaGreatDoor.Msg
namespace Go.Proofs.YtjkenehiojbmiaaGreatDoor.Law
open Go.RowKit Mdl Msg
theorem bads_upto (ao : Option Addr) (b off len cap : Nat) (ops : Nat → Opr) (w : World) (L : LibAt w.heap.size w) (hfit : ∀ i, i < len → (ops i).fits) (hao : 0 < len → ao = some ⟨b, off, none⟩) (hS : Scr w b off len ops) (hb : 0 < len → b < w.heap.size) (hlen : len ≤ 1048576) (hstr : ∀ i, i < len → (ops i).s.size ≤ 1048576) :
    Calls Tryz.prog 10 #[.slice ao len cap, .int .i64 2] w fun e w' => e = .returned (.int .i64 (-1)) ∧ Below w.heap.size w w' :=
  upto2_any readSaid ao b off len cap ops w (simB L readSaid) hao hS hb hlen hstr hfit
end Go.Proofs.YtjkenehiojbmiaaGreatDoor.Law
