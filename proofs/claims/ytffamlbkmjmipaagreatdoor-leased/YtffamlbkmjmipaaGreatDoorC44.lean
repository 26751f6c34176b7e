import Derived.Test.YtffamlbkmjmipaaGreatDoorC42
import Derived.Test.YtffamlbkmjmipaaGreatDoorC43
set_option maxHeartbeats 8000000
set_option maxRecDepth 100000
namespace Go.Proofs.YtffamlbkmjmipaaGreatDoor
namespace Pj
open Go.RowKit aM Mc bJ
def mr(base:Nat)(dz:World):Prop:=kE base dz∧su base dz
def prj{base:Nat}{dz:World}(h:mr base dz):Lw.uO base dz where
 A:=rB base
 new o w hB _ _ _ _ _ _:=UL o w hB
 feed x c b n s w F hB hb hc hbs hg hn hA:=O9 h.1 h.2 x c b n s w F hB hb hc hbs hg hn hA
 tick x n s w F hB hb hg hn hA:=RD h.2 x n s w F hB hb hg hn hA
 close x c n s w F hB hb hc hg hn hA:=Lv h.2 x c n s w F hB hb hc hg hn hA
 look x n s w F _ _ hg hn hA:=Qs x n s w F hg hn hA
 sums s w _ _ hs:=aL.Rk s w hs
