import Derived.Test.YtffamlbkmjmipaaGreatDoorC34
set_option maxHeartbeats 8000000
set_option maxRecDepth 100000
namespace Go.Proofs.YtffamlbkmjmipaaGreatDoor
open _root_.Go.Proofs.Tryz
namespace KpQ
open Go.RowKit aM Mc Mr Lw bJ
def dSub(j:Nat):Bs:= [115,117,98,32]++cJ j++ [32,116,32,120]
def dAcc(j:Nat):Bs:= [97,99,99,32]++cJ j
def dRun(j:Nat)(n:UInt8):Bs:= [114,117,110,32]++cJ j++ [32,n,32,116,32,120]
def dDone(j:Nat):Bs:= [100,111,110,101,32]++cJ j++ [32,49,32,121]
def dVal(j:Nat):Bs:= [118,97,108,32]++cJ j++ [32,121]
def tDrain:Bs:= [100,114,97,105,110]
def tBye:Bs:= [98,121,101]
def drnEv(n:Nat)(cl:Bool)(j:Nat):EvQ:=
 if j<n+1 then⟨.tell 1 (dSub j), [(1,dAcc j)]⟩
 else if j<2*n+1 then⟨.tell 2 tPull, [(2,dRun (j-(n+1)) 49)]⟩
 else if n=0 then(if j=1 then⟨.tell 2 tDrain, [(2,tBye)]⟩else if j=2 then⟨.tell 2 tPull, []⟩else⟨.tell 2 tDrain, []⟩)
 else if j=2*n+1 then⟨.tell 2 tDrain, []⟩
 else if j=2*n+2 then⟨.tell 2 tPull, []⟩
 else if j=2*n+3 then⟨.tell 3 tPull, [(3,dRun n 49)]⟩
 else if cl then(if j=2*n+4 then⟨.close 2, []⟩else⟨.tell 2 tPull, [(2,dRun (n-1) 50)]⟩)
 else if j<3*n+4 then⟨.tell 2 (dDone (j-(2*n+4))),if j-(2*n+4)<n-1 then [(1,dVal (j-(2*n+4)))]else [(1,dVal (j-(2*n+4))),(2,tBye)]⟩
 else if j=3*n+4 then⟨.tell 2 tDrain, []⟩
 else⟨.tell 2 tPull, []⟩
def drnN(n:Nat)(cl:Bool):Nat:=if n=0 then 4 else if cl then 2*n+6 else 3*n+6
def drnCfg:uF:=⟨20,0,5,8,0⟩
theorem drn_all: ∀n:Fin 5,∀cl:Bool,(wayB drnCfg (drnN n.val cl) (drnEv n.val cl) &&(n.val==0|| !cl||lookIs (wayS drnCfg (drnN n.val cl) (drnEv n.val cl) (2*n.val+5)) 0 n.val 1 0))=true:=by decide+kernel
theorem drn_ok{n:Nat}(hn:n<5)(cl:Bool):Way drnCfg (drnN n cl) (drnEv n cl)∧(0<n->cl=true->lookIs (wayS drnCfg (drnN n cl) (drnEv n cl) (2*n+5)) 0 n 1 0=true):=by have h:=drn_all ⟨n,hn⟩ cl;simp only[bZ]at h;refine⟨way_of h.1 (by unfold drnN;split;omega;split<;>omega),fun h0 hc=> ?_⟩;have h2:=h.2;rw[hc]at h2⊢;rw[show((n==0)=false)by simp;omega]at h2;simpa using h2
end KpQ
namespace KpQ
open Go.RowKit aM Mc Mr Lw bJ
attribute [local go_sem] aL.ag aL.ar look_at1 look_at2 look_at3
theorem drained_any(n0:Int)(cl:Bool)(w:World)(P:uO w.heap.size w)(h1:I64 n0):Calls prog 13 #[.int .i64 n0, .bool cl] w fun e w'=>e= .returned (.bool true)∧Below w.heap.size w w':=by
 obtain⟨n,hn⟩: ∃n,wm n0 5=n:=⟨_,rfl⟩;have hnl:n<5:=hn▸QV n0 5 (by omega);have HP1:Hid (∀w,Calls prog 20 #[.int .i64 n0, .int .i64 5] w fun e w'=>e= .returned (.int .i64 (n:Int))∧w'=w):=fun w=>hn▸pick_any n0 5 w (by omega) (by omega) h1;clear hn h1;obtain⟨qd,hlook⟩:=drn_ok hnl cl;have hN0:n=0->drnN n cl=4:=fun h=>by unfold drnN;rw[if_pos h]
 have hNc:0<n->cl=true->drnN n cl=2*n+6:=fun h hc=>by unfold drnN;rw[if_neg (by omega),if_pos hc]
 have hNd:0<n->cl=false->drnN n cl=3*n+6:=fun h hc=>by unfold drnN;rw[if_neg (by omega),if_neg (by rw[hc];exact Bool.false_ne_true)]
 have hNa:2*n+2<=drnN n cl:=by unfold drnN;split;omega;split<;>omega
 have HW:=hide qd;have HLO:=hide hlook;have HN0:=hide hN0;have HNc:=hide hNc;have HNd:=hide hNd;have NK:=hide hNa;clear qd hlook hN0 hNc hNd hNa;have RX:Hid (Calls prog 21 #[.agg #[.int .i64 20, .int .i64 0, .int .i64 5, .int .i64 8, .int .i64 0]] w fun e w1=> ∃wp,e= .returned (.tuple #[.pointer (some ⟨wp,0,none⟩), .bool true])∧Kep P wp 0 (St.init drnCfg) w1):=begin_kep P drnCfg rfl;have HFG:Hid (∀(j:Nat) (w':World),j<=1000->Calls prog 24 #[.int .i64 j] w' fun e dV=>e= .returned (.string ⟨(cJ j).toArray⟩)∧Below w'.heap.size w' dV):=fun j w' hj=>DM j (by omega) w';go_enter func13,ntmps13;go_wp2_with fail;refine(HP1.out _).mono ?_;rintro e wq⟨rfl,hq⟩;subst wq;go_wp2_with fail;refine RX.out.mono ?_;rintro e w1⟨wp,rfl,rF⟩;rw[<-wayS_zero drnCfg (drnN n cl) (drnEv n cl)]at rF;have HG:=hide rF;clear rF RX HP1;go_wp2_with fail;go_loopw [23] (fun i wr=> ∃k:Nat,k<=n+1∧i= .int .i64 k∧Hid (Kep P wp k (wayS drnCfg (drnN n cl) (drnEv n cl) k) wr)) (fun i _=>n+1-(intOf i).toNat)
 case atStart=>exact⟨0,aJ _,rfl,HG⟩
 case round=>
  clear HG;obtain⟨k,hk,rfl,HI⟩:=hrel;by_cases ay:k<n+1
  ·have iP:=hide (HW.out.stp (j:=k) (e:=⟨.tell 1 (dSub k), [(1,dAcc k)]⟩) (by have:=NK.out;omega) (by unfold drnEv;rw[if_pos ay]));have HFK:Hid (∀w',Calls prog 24 #[.int .i64 k] w' fun e dV=>e= .returned (.string ⟨(cJ k).toArray⟩)∧Below w'.heap.size w' dV):=fun w'=>HFG.out k w' (by omega);have HT1:Hid ((⟨#[115,117,98,32]⟩:ByteArray)++⟨(cJ k).toArray⟩++⟨#[32,116,32,120]⟩=⟨(dSub k).toArray⟩):=by
    show _=_;unfold dSub;rw[<-ba_two,<-ba_two]
   have hfl:=fh (k:Int);have Ae: ¬9223372036854775807<4+(cJ (k:Int)).length:=by omega
   have oJ: ¬9223372036854775807<4+(cJ (k:Int)).length+4:=by omega
   clear hfl;generalize cJ (k:Int)=fk at*;go_wp2_with fail;refine(HFK.out _).mono ?_;rintro e w2⟨rfl,bN⟩;have pn:=hide (HI.out.below bN);clear HI bN HFK;go_wp2_with fail;rw[HT1.out];refine(pn.out.tell (t:=⟨(dSub k).toArray⟩) iP.out (by omega)).mono ?_;rintro e w3⟨v,rfl,mW⟩;have Vy:=hide mW.drop;clear mW pn iP HT1;go_wp2;go_roundw
   case rel=>exact⟨k+1,by omega,by go_num,Vy⟩
   case measure=>simp[intOf];omega
  ·obtain rfl:k=n+1:=by omega
   rw[show((n+1:Nat):Int)=(n:Int)+1 by omega];go_wp2_with fail;go_loopw [34] (fun i wr=> ∃k:Nat,k<=n∧i= .int .i64 k∧Hid (Kep P wp (n+1+k) (wayS drnCfg (drnN n cl) (drnEv n cl) (n+1+k)) wr)) (fun i _=>n-(intOf i).toNat)
   case atStart=>exact⟨0,aJ _,rfl,HI⟩
   case round=>
    clear HI;obtain⟨k,hk,rfl,HI⟩:=hrel;by_cases ay:k<n
    ·have iP:=hide (HW.out.stp (j:=n+1+k) (e:=⟨.tell 2 tPull, [(2,dRun k 49)]⟩) (by have:=NK.out;omega) (by unfold drnEv;rw[if_neg (by omega),if_pos (by omega),Nat.add_sub_cancel_left]));have HFK:Hid (∀w',Calls prog 24 #[.int .i64 k] w' fun e dV=>e= .returned (.string ⟨(cJ k).toArray⟩)∧Below w'.heap.size w' dV):=fun w'=>HFG.out k w' (by omega);have HT1:Hid ((⟨#[114,117,110,32]⟩:ByteArray)++⟨(cJ k).toArray⟩++⟨#[32,49,32,116,32,120]⟩=⟨(dRun k 49).toArray⟩):=by
      show _=_;unfold dRun;rw[<-ba_two,<-ba_two]
     have og:(dRun k 49).length<=1048576:=fig_lens _ _ _ (by decide) (by decide);have hfl:=fh (k:Int);have Ae: ¬9223372036854775807<4+(cJ (k:Int)).length:=by omega
     have oJ: ¬9223372036854775807<4+(cJ (k:Int)).length+6:=by omega
     clear hfl;generalize cJ (k:Int)=fk at*;go_wp2_with fail;refine(HI.out.tell (t:=⟨#[112,117,108,108]⟩) iP.out (by omega)).mono ?_;rintro e w3⟨v,rfl,mW⟩;have NI:=hide mW;clear mW HI iP;go_wp2_with fail;refine(HFK.out _).mono ?_;rintro e w4⟨rfl,l9⟩;have JX:=hide (NI.out.lit l9 (one_le og) (k:=1) rfl (by omega) rfl rfl);clear l9 NI HFK;go_wp2_with fail;rw[HT1.out];refine JX.out.mono ?_;rintro e w6⟨rfl,iJ⟩;have HI6:=hide iJ;clear iJ JX HT1;go_wp2;go_roundw
     case rel=>exact⟨k+1,by omega,by go_num,HI6⟩
     case measure=>simp[intOf];omega
    ·obtain rfl:k=n:=by omega
     by_cases hz:k=0
     ·subst hz;have HN:=hide (HN0.out rfl);have Od:=hide (HW.out.stp (j:=0+1+0) (e:=⟨.tell 2 tDrain, [(2,tBye)]⟩) (by have:=HN.out;omega) rfl);have HS2:=hide (HW.out.stp (j:=0+1+0+1) (e:=⟨.tell 2 tPull, []⟩) (by have:=HN.out;omega) rfl);have HS3:=hide (HW.out.stp (j:=0+1+0+1+1) (e:=⟨.tell 2 tDrain, []⟩) (by have:=HN.out;omega) rfl);go_wp2_with fail;refine(HI.out.tell (t:=⟨#[100,114,97,105,110]⟩) Od.out (by omega)).mono ?_;rintro e w3⟨v,rfl,mW⟩;have NI:=hide mW;clear mW HI Od;go_wp2_with fail;refine(NI.out.both (by decide) (k:=1) rfl (by omega) rfl rfl).mono ?_;rintro e w4⟨rfl,kI⟩;have R3:=hide kI;clear kI NI;go_wp2_with fail;refine(R3.out.mute (t:=⟨#[112,117,108,108]⟩) HS2.out (by omega)).mono ?_;rintro e w5⟨ao,cap,rfl,hg5⟩;have xf:=hide hg5;clear hg5 R3 HS2;go_wp2_with fail;refine(xf.out.mute (t:=⟨#[100,114,97,105,110]⟩) HS3.out (by omega)).mono ?_;rintro e w6⟨cU,b9,rfl,iJ⟩;have HB:=hide iJ.toBelow;clear iJ xf HS3;go_wp2;go_ret;exact⟨rfl,HB.out⟩
     ·have hg:=HI.out;rw[show k+1+k=2*k+1 by omega]at hg;have HG:=hide hg;clear hg HI;have Sc:0<k:=by omega
      have hkz: ¬(k:Int)=0:=by omega
      have hNa2:2*k+6<=drnN k cl:=by
       cases cl
       ·rw[HNd.out Sc rfl];omega
       ·rw[HNc.out Sc rfl];omega
      have Od:=hide (HW.out.stp (j:=2*k+1) (e:=⟨.tell 2 tDrain, []⟩) (by omega) (by unfold drnEv;rw[if_neg (by omega),if_neg (by omega),if_neg (by omega),if_pos rfl]));have HS2:=hide (HW.out.stp (j:=2*k+1+1) (e:=⟨.tell 2 tPull, []⟩) (by omega) (by unfold drnEv;rw[if_neg (by omega),if_neg (by omega),if_neg (by omega),if_neg (by omega),if_pos rfl]));have HS3:=hide (HW.out.stp (j:=2*k+1+1+1) (e:=⟨.tell 3 tPull, [(3,dRun k 49)]⟩) (by omega) (by unfold drnEv;rw[if_neg (by omega),if_neg (by omega),if_neg (by omega),if_neg (by omega),if_neg (by omega),if_pos rfl]));clear hNa2;go_wp2_with fail;refine(HG.out.mute (t:=⟨#[100,114,97,105,110]⟩) Od.out (by omega)).mono ?_;rintro e w3⟨ao,cap,rfl,mW⟩;have NI:=hide mW;clear mW HG Od;go_wp2_with fail;refine(NI.out.mute (t:=⟨#[112,117,108,108]⟩) HS2.out (by omega)).mono ?_;rintro e w4⟨cU,b9,rfl,kI⟩;have R3:=hide kI;clear kI NI HS2;go_wp2_with fail;refine(R3.out.tell (t:=⟨#[112,117,108,108]⟩) HS3.out (by omega)).mono ?_;rintro e w5⟨v,rfl,hg5⟩;obtain⟨iN,eA,rfl,iJ⟩:=hg5.len;have sf:=hide iJ;clear hg5 iJ R3 HS3;have wS:([(3,dRun k 49)]:List (Int×Bs)).length=1:=rfl;rw[wS];clear wS;cases cl
      ·have HN:=hide (HNd.out Sc rfl);go_wp2_with fail;go_loopw [112] (fun i wr=> ∃j:Nat,j<=k∧i= .int .i64 j∧Hid (Kep P wp (2*k+4+j) (wayS drnCfg (drnN k false) (drnEv k false) (2*k+4+j)) wr)) (fun i _=>k-(intOf i).toNat)
       case atStart=>exact⟨0,aJ _,rfl,sf⟩
       case round=>
        clear sf;obtain⟨j,hj,rfl,HI⟩:=hrel;by_cases lK:j<k
        ·have HFK:Hid (∀w',Calls prog 24 #[.int .i64 j] w' fun e dV=>e= .returned (.string ⟨(cJ j).toArray⟩)∧Below w'.heap.size w' dV):=fun w'=>HFG.out j w' (by omega);have HT1:Hid ((⟨#[100,111,110,101,32]⟩:ByteArray)++⟨(cJ j).toArray⟩++⟨#[32,49,32,121]⟩=⟨(dDone j).toArray⟩):=by
          show _=_;unfold dDone;rw[<-ba_two,<-ba_two]
         have SL:Hid ((⟨#[118,97,108,32]⟩:ByteArray)++⟨(cJ j).toArray⟩++⟨#[32,121]⟩=⟨(dVal j).toArray⟩):=by show _=_;unfold dVal;rw[<-ba_two,<-ba_two]
         have og:(dVal j).length<=1048576:=fig_lens _ _ _ (by decide) (by decide);have hfl:=fh (j:Int);have Ae: ¬9223372036854775807<5+(cJ (j:Int)).length:=by omega
         have oJ: ¬9223372036854775807<5+(cJ (j:Int)).length+4:=by omega
         have NX: ¬9223372036854775807<4+(cJ (j:Int)).length:=by omega
         have hl4: ¬9223372036854775807<4+(cJ (j:Int)).length+2:=by omega
         clear hfl;generalize cJ (j:Int)=fk at*;by_cases Ef:j<k-1
         ·have iP:=hide (HW.out.stp (j:=2*k+4+j) (e:=⟨.tell 2 (dDone j), [(1,dVal j)]⟩) (by have:=HN.out;omega) (by unfold drnEv;rw[if_neg (by omega),if_neg (by omega),if_neg (by omega),if_neg (by omega),if_neg (by omega),if_neg (by omega),if_neg Bool.false_ne_true,if_pos (by omega),Nat.add_sub_cancel_left,if_pos Ef]));have L4:(j:Int)<(k:Int)-1:=by omega
          have PC:decide ((j:Int)=(k:Int)-1)=false:=by simp;omega
          go_wp2_with fail;refine(HFK.out _).mono ?_;rintro e w7⟨rfl,D1⟩;have Hg:=hide (HI.out.below D1);clear HI D1;go_wp2_with fail;rw[HT1.out];refine(Hg.out.tell (t:=⟨(dDone j).toArray⟩) iP.out (by omega)).mono ?_;rintro e w8⟨v,rfl,TQ⟩;have Y3:=hide TQ;clear TQ Hg iP HT1;go_wp2_with fail;refine(HFK.out _).mono ?_;rintro e w9⟨rfl,VQ⟩;have JX:=hide (Y3.out.lit VQ (one_le og) (k:=1) rfl (by omega) rfl rfl);clear VQ Y3 HFK;go_wp2_with fail;rw[SL.out];refine JX.out.mono ?_;rintro e w10⟨rfl,hg10⟩;have HI6:=hide hg10;clear hg10 JX SL;go_wp2;go_roundw
          case rel=>exact⟨j+1,by omega,by go_num,HI6⟩
          case measure=>simp[intOf];omega
         ·have iP:=hide (HW.out.stp (j:=2*k+4+j) (e:=⟨.tell 2 (dDone j), [(1,dVal j),(2,tBye)]⟩) (by have:=HN.out;omega) (by unfold drnEv;rw[if_neg (by omega),if_neg (by omega),if_neg (by omega),if_neg (by omega),if_neg (by omega),if_neg (by omega),if_neg Bool.false_ne_true,if_pos (by omega),Nat.add_sub_cancel_left,if_neg Ef]));have PC:(k:Int)-1=(j:Int):=by omega
          go_wp2_with fail;refine(HFK.out _).mono ?_;rintro e w7⟨rfl,D1⟩;have Hg:=hide (HI.out.below D1);clear HI D1;go_wp2_with fail;rw[HT1.out];refine(Hg.out.tell (t:=⟨(dDone j).toArray⟩) iP.out (by omega)).mono ?_;rintro e w8⟨v,rfl,TQ⟩;have Y3:=hide TQ;clear TQ Hg iP HT1;go_wp2_with fail;refine(HFK.out _).mono ?_;rintro e w9⟨rfl,VQ⟩;have JX:=hide (Y3.out.lit VQ (two_le og (by decide)) (k:=2) rfl (by omega) rfl rfl);clear VQ Y3 HFK;go_wp2_with fail;rw[SL.out];refine JX.out.mono ?_;rintro e w10⟨rfl,hg10⟩;have HI6:=hide hg10;clear hg10 JX SL;go_wp2;go_roundw
          case rel=>exact⟨j+1,by omega,by go_num,HI6⟩
          case measure=>simp[intOf];omega
        ·obtain rfl:j=k:=by omega
         have hg:=HI.out;rw[show 2*j+4+j=3*j+4 by omega]at hg;have HG:=hide hg;clear hg HI;have Od:=hide (HW.out.stp (j:=3*j+4) (e:=⟨.tell 2 tDrain, []⟩) (by have:=HN.out;omega) (by unfold drnEv;rw[if_neg (by omega),if_neg (by omega),if_neg (by omega),if_neg (by omega),if_neg (by omega),if_neg (by omega),if_neg Bool.false_ne_true,if_neg (by omega),if_pos rfl]));have HS2:=hide (HW.out.stp (j:=3*j+4+1) (e:=⟨.tell 2 tPull, []⟩) (by have:=HN.out;omega) (by unfold drnEv;rw[if_neg (by omega),if_neg (by omega),if_neg (by omega),if_neg (by omega),if_neg (by omega),if_neg (by omega),if_neg Bool.false_ne_true,if_neg (by omega),if_neg (by omega)]));go_wp2_with fail;refine(HG.out.mute (t:=⟨#[100,114,97,105,110]⟩) Od.out (by omega)).mono ?_;rintro e w7⟨ao,cap,rfl,u6⟩;have Hg:=hide u6;clear u6 HG Od;go_wp2_with fail;refine(Hg.out.mute (t:=⟨#[112,117,108,108]⟩) HS2.out (by omega)).mono ?_;rintro e w8⟨cU,b9,rfl,TQ⟩;have HB:=hide TQ.toBelow;clear TQ Hg HS2;go_wp2;go_ret;exact⟨rfl,HB.out⟩
      ·have HN:=hide (HNc.out Sc rfl);have Od:=hide (HW.out.stp (j:=2*k+4) (e:=⟨.close 2, []⟩) (by have:=HN.out;omega) (by unfold drnEv;rw[if_neg (by omega),if_neg (by omega),if_neg (by omega),if_neg (by omega),if_neg (by omega),if_neg (by omega),if_pos rfl,if_pos rfl]));have HS2:=hide (HW.out.stp (j:=2*k+5) (e:=⟨.tell 2 tPull, [(2,dRun (k-1) 50)]⟩) (by have:=HN.out;omega) (by unfold drnEv;rw[if_neg (by omega),if_neg (by omega),if_neg (by omega),if_neg (by omega),if_neg (by omega),if_neg (by omega),if_pos rfl,if_neg (by omega)]));obtain⟨y,cy,hc⟩:=sf.out.close (s':=wayS drnCfg (drnN k true) (drnEv k true) (2*k+5)) Od.out (by omega);have HC:=hide hc;clear hc sf Od;go_wp2_with fail;refine HC.out.mono ?_;rintro e w7⟨v,rfl,u6⟩;obtain⟨Lh,Ls,rfl,TQ⟩:=u6.len;obtain⟨l1,l2,l3,l4⟩:=look_eq (HLO.out Sc trivial);obtain⟨y2,cy2,od⟩:=TQ.look l1 l2 l3 l4 (by omega);have zC:=hide od;have hnil:([]:List (Int×Bs)).length=0:=rfl;rw[hnil];clear od u6 TQ l1 l2 l3 l4 HC cy hnil;go_wp2_with fail;refine zC.out.mono ?_;rintro e w9⟨rfl,hg9⟩;have Y4:=hide hg9;clear hg9 zC cy2;have HFK:Hid (∀w',Calls prog 24 #[.int .i64 ((k:Int)-1)] w' fun e dV=>e= .returned (.string ⟨(cJ ((k:Int)-1)).toArray⟩)∧Below w'.heap.size w' dV):=fun w'=>by
        have:=HFG.out (k-1) w' (by omega);rw[show((k-1:Nat):Int)=(k:Int)-1 by omega]at this;exact this
       have HT1:Hid ((⟨#[114,117,110,32]⟩:ByteArray)++⟨(cJ ((k:Int)-1)).toArray⟩++⟨#[32,50,32,116,32,120]⟩=⟨(dRun (k-1) 50).toArray⟩):=by show _=_;unfold dRun;rw[show((k-1:Nat):Int)=(k:Int)-1 by omega,<-ba_two,<-ba_two]
       have og:(dRun (k-1) 50).length<=1048576:=fig_lens _ _ _ (by decide) (by decide);have hfl:=fh ((k:Int)-1);have Ae: ¬9223372036854775807<4+(cJ ((k:Int)-1)).length:=by omega
       have oJ: ¬9223372036854775807<4+(cJ ((k:Int)-1)).length+6:=by omega
       clear hfl;generalize cJ ((k:Int)-1)=fk at*;go_wp2_with fail;refine(Y4.out.tell (t:=⟨#[112,117,108,108]⟩) HS2.out (by omega)).mono ?_;rintro e w10⟨v,rfl,hg10⟩;have ZH:=hide hg10;clear hg10 Y4 HS2;go_wp2_with fail;refine(HFK.out _).mono ?_;rintro e Bw⟨rfl,hb11⟩;have JX:=hide (ZH.out.lit hb11 (one_le og) (k:=1) rfl (by omega) rfl rfl);clear hb11 ZH HFK;go_wp2_with fail;rw[HT1.out];refine JX.out.mono ?_;rintro e YT⟨rfl,hg12⟩;have HB:=hide hg12.toBelow;clear hg12 JX HT1;go_wp2;go_ret;exact⟨rfl,HB.out⟩
