import Derived.Test.YtffamlbkmjmipaaGreatDoorC42
import Derived.Test.YtffamlbkmjmipaaGreatDoorC43
set_option maxHeartbeats 8000000
set_option maxRecDepth 100000
namespace Go.Proofs.YtffamlbkmjmipaaGreatDoor
namespace Pj
open Go.RowKit aJ Mc bG
def Ym(base:Nat)(cg:World):Prop:=iP base cg∧pO base cg
def prj{base:Nat}{cg:World}(h:Ym base cg):Lw.oc base cg where
 A:=og base
 new o w hB _ _ _ _ _ _:=Tp o w hB
 feed x c b n s w F hB hb hc Ut hg hn hA:=Nh h.1 h.2 x c b n s w F hB hb hc Ut hg hn hA
 tick x n s w F hB hb hg hn hA:=Q0 h.2 x n s w F hB hb hg hn hA
 close x c n s w F hB hb hc hg hn hA:=JI h.2 x c n s w F hB hb hc hg hn hA
 look x n s w F _ _ hg hn hA:=P3 x n s w F hg hn hA
 sums s w _ _ hs:=aG.QM s w hs
