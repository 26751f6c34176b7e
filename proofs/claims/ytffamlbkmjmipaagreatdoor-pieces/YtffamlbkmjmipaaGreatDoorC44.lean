import Derived.Test.YtffamlbkmjmipaaGreatDoorC42
import Derived.Test.YtffamlbkmjmipaaGreatDoorC43
set_option maxHeartbeats 8000000
set_option maxRecDepth 100000
namespace Go.Proofs.YtffamlbkmjmipaaGreatDoor
namespace Pj
open Go.RowKit aD Mc bA
def SD(base:Nat)(bL:World):Prop:=ig base bL∧mZ base bL
def R5{base:Nat}{bL:World}(h:SD base bL):Lw.iC base bL where
 A:=my base
 new o w hB _ _ _ _ _ _:=NQ o w hB
 feed x c b n s w F hB hb hc Bx hg hn hA:=I8 h.1 h.2 x c b n s w F hB hb hc Bx hg hn hA
 tick x n s w F hB hb hg hn hA:=Lr h.2 x n s w F hB hb hg hn hA
 close x c n s w F hB hb hc hg hn hA:=EW h.2 x c n s w F hB hb hc hg hn hA
 look x n s w F _ _ hg hn hA:=Kq x n s w F hg hn hA
 sums s w _ _ hs:=aP.Lb s w hs
