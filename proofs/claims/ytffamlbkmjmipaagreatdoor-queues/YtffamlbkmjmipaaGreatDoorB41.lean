import Derived.Test.YtffamlbkmjmipaaGreatDoorB27
import Derived.Test.YtffamlbkmjmipaaGreatDoorB40
set_option maxHeartbeats 8000000
set_option maxRecDepth 100000
namespace Go.Proofs.YtffamlbkmjmipaaGreatDoor
namespace Lw
open Go.RowKit aM Mc Mr fA bJ
attribute [local go_sem] aL.ag aL.ar
variable{w w2:World}{o:Obj}
def pq(w:World)(e:Ending)(w':World):Prop:= ∃r:Bool,e= .returned (.bool r)∧Below w.heap.size w w'
theorem fG(r:Bool)(w:World)(o o':Obj):pq w (.returned (.bool r)) ((w.alloc o).alloc o'):=⟨r,rfl,((ah _ _).alloc (ae _) _).alloc (by simp) _⟩
theorem lj(r:Bool){o':Obj}(hb:Below ((w.alloc o).alloc o').heap.size ((w.alloc o).alloc o') w2):pq w (.returned (.bool r)) w2:=⟨r,rfl,(((ah _ _).alloc (ae _) _).alloc (by simp) _).trans (hb.mono (by simp;omega))⟩
theorem yA{x:fU}(h:x.k≠3):sF x= []:=by unfold sF;rw[if_neg h]
theorem CM{v0 v1 v2 v3 v4 v5 v6 v7 v8:Value}(hb:Below ((w.alloc (.cells #[v0,v1,v2,v3,v4,v5,v6,v7,v8] 73)).alloc o).heap.size ((w.alloc (.cells #[v0,v1,v2,v3,v4,v5,v6,v7,v8] 73)).alloc o) w2):w2.cell? ⟨w.heap.size,0,none⟩=some v0∧w2.cell? ⟨w.heap.size,8,none⟩=some v8:=by
 have h:w2.heap[w.heap.size]?=some (.cells #[v0,v1,v2,v3,v4,v5,v6,v7,v8] 73 (0,0)):=by rw[hb.block _ (by simp only[World.size_alloc];omega),Below.heap_alloc _ _ _ (by simp)];exact heap_alloc_new w _
 exact⟨bg h,bg h⟩
