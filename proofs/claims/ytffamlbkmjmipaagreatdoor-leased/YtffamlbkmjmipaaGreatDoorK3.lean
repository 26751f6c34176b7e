import Derived.Test.YtffamlbkmjmipaaGreatDoorC34
set_option maxHeartbeats 8000000
set_option maxRecDepth 100000
namespace Go.Proofs.YtffamlbkmjmipaaGreatDoor
open _root_.Go.Proofs.Tryz
namespace KpQ
open Go.RowKit aM Mc Mr Lw bJ
variable{n:Nat}
def tBeat:Bs:= [98,101,97,116]
def leaCs:List Cn:= [⟨1, [],false,false⟩,⟨2, [],false,false⟩]
def leaCfg(L R:Int):uF:=⟨L,R,1,1,0⟩
def leaS(L R now n k7 eV left:Int)(g:Nat):St:={c:=leaCfg L R,now:=now,reqs:= [⟨7,1, [116], [120],n,left,false⟩],af:= [⟨7,n,2,k7,eV⟩],aq:=leaCs,begun:=g}
def leaW(L R now n left:Int)(g:Nat):St:={c:=leaCfg L R,now:=now,reqs:= [⟨7,1, [116], [120],n,left,false⟩],ring:= [⟨[116], [7]⟩],aq:=leaCs,begun:=g}
def leaX(L R now:Int)(g:Nat):St:={c:=leaCfg L R,now:=now,aq:=leaCs,begun:=g}
theorem lea_sub(L R:Int):(tell (St.init (leaCfg L R)) 1 tSub7).out= [(1,tAcc7)]∧(tell (tell (St.init (leaCfg L R)) 1 tSub7).told 2 tPull).out= [(2, [114,117,110,32,55,32,49,32,116,32,120])]∧(tell (tell (St.init (leaCfg L R)) 1 tSub7).told 2 tPull).told=leaS L R 0 1 0 (0+L) R 1:=⟨by kernel_rfl,by kernel_rfl,by kernel_rfl⟩
theorem lea_beat(L R now n k7 eV left:Int)(g:Nat):(tell (leaS L R now n k7 eV left g) 2 tBeat).out= []∧(tell (leaS L R now n k7 eV left g) 2 tBeat).told=leaS L R now n k7 (now+L) left g:=⟨by kernel_rfl,by kernel_rfl⟩
theorem lea_tick(L R now n k7 eV left:Int)(g:Nat)(h:now+1<eV):(leaS L R now n k7 eV left g).tick.out= []∧(leaS L R now n k7 eV left g).tick.told=leaS L R (now+1) n k7 eV left g:=by
 have e:(leaS L R now n k7 eV left g).tick=leaS L R (now+1) n k7 eV left g:=by
  unfold St.tick;have h1:St.cV 1 (leaS L R (now+1) n k7 eV left g)=leaS L R (now+1) n k7 eV left g:=by
   unfold St.cV;have:(leaS L R (now+1) n k7 eV left g).due=none:=by show Option.map _ (St.dD (now+1) [] 1 (if eV<=now+1 then _ else none))=none;rw[if_neg (by omega)];rfl
   rw[this]
  show((St.cV 1 (leaS L R (now+1) n k7 eV left g)).eE).serve=_;rw[h1];kernel_rfl
 rw[e];exact⟨rfl,rfl⟩
theorem lea_due(L R now n k7 eV left:Int)(g:Nat)(h:now+1=eV):(leaS L R now n k7 eV left g).tick=((((leaS L R (now+1) n k7 eV left g).say 2 (St.aD 7 n)).aS 0).again 7 true).eE.serve:=by
 unfold St.tick;have:(leaS L R (now+1) n k7 eV left g).due=some 0:=by show Option.map _ (St.dD (now+1) [] 1 (if eV<=now+1 then _ else none))=some 0;rw[if_pos (by omega)];rfl
 show((St.cV 1 (leaS L R (now+1) n k7 eV left g)).eE).serve=_;unfold St.cV;rw[this];rfl
theorem lea_more(L R now n k7 eV left:Int)(g:Nat)(h:now+1=eV)(hl:left≠0):(leaS L R now n k7 eV left g).tick.out= [(2,St.aD 7 n)]∧(leaS L R now n k7 eV left g).tick.told=leaW L R (now+1) n (left-1) g:=by
 have e:(((leaS L R (now+1) n k7 eV left g).say 2 (St.aD 7 n)).aS 0).again 7 true={leaW L R (now+1) n (left-1) g with out:= [(2,St.aD 7 n)]}:=by show(if(true &&(left==0))=true then _ else _)=_;rw[if_neg (by simpa using hl)];kernel_rfl
 rw[lea_due _ _ _ _ _ _ _ _ h,e];exact⟨by kernel_rfl,by kernel_rfl⟩
theorem lea_last(L R now n k7 eV:Int)(g:Nat)(h:now+1=eV):(leaS L R now n k7 eV 0 g).tick.out= [(2,St.aD 7 n),(1, [101,114,114,32,55])]∧(leaS L R now n k7 eV 0 g).tick.told=leaX L R (now+1) g:=by rw[lea_due _ _ _ _ _ _ _ _ h];exact⟨by kernel_rfl,by kernel_rfl⟩
theorem lea_doneW(L R now m left:Int)(g:Nat)(h1:1<=n)(h2:n<=6):(tell (leaW L R now m left g) 2 (tDone7 n 121)).out= []∧(tell (leaW L R now m left g) 2 (tDone7 n 121)).told=leaW L R now m left g:=by
 obtain rfl|rfl|rfl|rfl|rfl|rfl:n=1∨n=2∨n=3∨n=4∨n=5∨n=6:=by omega
 all_goals exact⟨by kernel_rfl,by kernel_rfl⟩
theorem lea_doneX(L R now:Int)(g:Nat)(h1:1<=n)(h2:n<=6):(tell (leaX L R now g) 2 (tDone7 n 121)).out= []∧(tell (leaX L R now g) 2 (tDone7 n 121)).told=leaX L R now g:=by
 obtain rfl|rfl|rfl|rfl|rfl|rfl:n=1∨n=2∨n=3∨n=4∨n=5∨n=6:=by omega
 all_goals exact⟨by kernel_rfl,by kernel_rfl⟩
theorem lea_pull(L R now left:Int)(g:Nat)(n:Nat):(tell (leaW L R now n left g) 2 tPull).out= [(2,tRun7 ((n:Int)+1))]∧(tell (leaW L R now n left g) 2 tPull).told=leaS L R now ((n:Int)+1) now (now+L) left (g+1):=by have e:(tell (leaW L R now n left g) 2 tPull).out= [(2, [114,117,110,32]++cJ 7++ [32]++cJ ((n:Int)+1)++ [32]++ [116]++ [32]++ [120])]∧(tell (leaW L R now n left g) 2 tPull).told=leaS L R now ((n:Int)+1) now (now+L) left (g+1):=⟨by kernel_rfl,by kernel_rfl⟩;rw[e.1,e.2];refine⟨?_,rfl⟩;unfold tRun7;rw[show cJ 7= [55]by decide+kernel];simp only[List.append_assoc,List.cons_append,List.nil_append]
theorem lea_stop(n:Nat):St.aD 7 n=tStop7 n:=by unfold St.aD tStop7;rw[show cJ 7= [55]by decide+kernel];rfl
end KpQ
namespace KpQ
open Go.RowKit aM Mc Mr Lw bJ
attribute [local go_sem] aL.ag aL.ar look_at1 look_at2 look_at3
theorem lea_d{n:Nat}(h1:1<=n)(h2:n<=6):(⟨.tell 2 (tDone7 n 121), []⟩:EvQ).ok=true:=by
 obtain rfl|rfl|rfl|rfl|rfl|rfl:n=1∨n=2∨n=3∨n=4∨n=5∨n=6:=by omega
 all_goals decide+kernel
theorem lea_fine{L R:Nat}(h1:1<=L)(h2:L<=20)(h3:R<=5):(leaCfg L R).fine=true:=by unfold uF.fine leaCfg;simp only[bZ,decide_eq_true_eq];omega
theorem leased_any(lease retries beats:Int)(w:World)(P:uO w.heap.size w)(h1:I64 lease)(h2:I64 retries)(h3:I64 beats):Calls prog 11 #[.int .i64 lease, .int .i64 retries, .int .i64 beats] w fun e w'=>e= .returned (.bool true)∧Below w.heap.size w w':=by
 obtain⟨l,hl⟩: ∃l,wm lease 20=l:=⟨_,rfl⟩;obtain⟨R,hR⟩: ∃R,wm retries 6=R:=⟨_,rfl⟩;obtain⟨B,hB⟩: ∃B,wm beats 30=B:=⟨_,rfl⟩;have PN:l<20:=hl▸QV lease 20 (by omega);have hRl:R<6:=hR▸QV retries 6 (by omega);have hBl:B<30:=hB▸QV beats 30 (by omega);have HP1:Hid (∀w,Calls prog 20 #[.int .i64 lease, .int .i64 20] w fun e w'=>e= .returned (.int .i64 (l:Int))∧w'=w):=fun w=>hl▸pick_any lease 20 w (by omega) (by omega) h1;have HP2:Hid (∀w,Calls prog 20 #[.int .i64 retries, .int .i64 6] w fun e w'=>e= .returned (.int .i64 (R:Int))∧w'=w):=fun w=>hR▸pick_any retries 6 w (by omega) (by omega) h2;have HP3:Hid (∀w,Calls prog 20 #[.int .i64 beats, .int .i64 30] w fun e w'=>e= .returned (.int .i64 (B:Int))∧w'=w):=fun w=>hB▸pick_any beats 30 w (by omega) (by omega) h3;clear hl hR hB h1 h2 h3;obtain⟨L,hL⟩: ∃L,L=1+l:=⟨_,rfl⟩;have HL:Hid ((1:Int)+(l:Int)=(L:Int)):=by show _=_;omega
 have hLb:(L:Int)<=20:=by omega
 have hL0:(1:Int)<=(L:Int):=by omega
 clear hL;have RX:Hid (Calls prog 21 #[.agg #[.int .i64 L, .int .i64 R, .int .i64 1, .int .i64 1, .int .i64 0]] w fun e w1=> ∃wp,e= .returned (.tuple #[.pointer (some ⟨wp,0,none⟩), .bool true])∧Kep P wp 0 (St.init (leaCfg L R)) w1):=begin_kep P (leaCfg L R) (lea_fine (by omega) (by omega) (by omega));have HFG:Hid (∀(j:Nat) (w':World),j<=1000->Calls prog 24 #[.int .i64 j] w' fun e dV=>e= .returned (.string ⟨(cJ j).toArray⟩)∧Below w'.heap.size w' dV):=fun j w' hj=>DM j (by omega) w';go_enter func11,ntmps11;go_wp2_with fail;refine(HP1.out _).mono ?_;rintro e wq⟨rfl,hq⟩;subst wq;go_wp2_with fail;refine(HP2.out _).mono ?_;rintro e wq⟨rfl,hq⟩;subst wq;go_wp2_with fail;refine(HP3.out _).mono ?_;rintro e wq⟨rfl,hq⟩;subst wq;go_wp2_with fail;rw[HL.out];refine RX.out.mono ?_;rintro e w1⟨wp,rfl,rF⟩;have HG:=hide rF;clear rF RX HP1 HP2 HP3 HL PN;go_wp2_with fail;refine(HG.out.tell (t:=⟨#[115,117,98,32,55,32,116,32,120]⟩) (c:=1) (x:= [(1,tAcc7)]) ⟨by decide+kernel,(lea_sub L R).1,rfl⟩ (by omega)).mono ?_;rintro e w2⟨v,rfl,ld⟩;have pn:=hide ld;clear ld HG;go_wp2_with fail;refine(pn.out.both (by decide) (k:=1) rfl (by omega) rfl rfl).mono ?_;rintro e w3⟨rfl,mW⟩;have NI:=hide mW;clear mW pn;go_wp2_with fail;refine(NI.out.tell (t:=⟨#[112,117,108,108]⟩) (c:=2) (x:= [(2, [114,117,110,32,55,32,49,32,116,32,120])]) ⟨by decide+kernel,(lea_sub L R).2.1,(lea_sub L R).2.2⟩ (by omega)).mono ?_;rintro e w4⟨v,rfl,kI⟩;have R3:=hide kI;clear kI NI;go_wp2_with fail;refine(R3.out.both (by decide) (k:=1) rfl (by omega) rfl rfl).mono ?_;rintro e w5⟨rfl,hg5⟩;have xf:=hide hg5;clear hg5 R3;go_wp2_with fail;go_loopw [42] (fun i wr=> ∃k:Nat,k<=B∧i= .int .i64 k∧ ∃now:Int,Hid (Kep P wp (2+21*k) (leaS L R now 1 0 (now+L) R 1) wr)) (fun i _=>B-(intOf i).toNat)
 case atStart=>exact⟨0,aJ _,rfl,0,xf⟩
 case round=>
  clear xf;obtain⟨k,hk,rfl,now,HI⟩:=hrel;by_cases ay:k<B
  ·have HI0:Hid (Kep P wp (2+21*k+0) (leaS L R (now+(0:Nat)) 1 0 (now+L) R 1) _):=hide (by have:=HI.out;rw[show now+((0:Nat):Int)=now by omega];exact this);clear HI;go_wp2_with fail;go_loopw [46] (fun i wr=> ∃j:Nat,j<=L-1∧i= .int .i64 j∧Hid (Kep P wp (2+21*k+j) (leaS L R (now+j) 1 0 (now+L) R 1) wr)) (fun i _=>L-1-(intOf i).toNat)
   case atStart=>exact⟨0,aJ _,rfl,HI0⟩
   case round=>
    clear HI0;obtain⟨j,hj,rfl,HJ⟩:=hrel;by_cases eP:j<L-1
    ·obtain⟨y,cy,hc⟩:=HJ.out.tmute ⟨rfl,(lea_tick L R (now+j) 1 0 (now+L) R 1 (by omega)).1,(lea_tick L R (now+j) 1 0 (now+L) R 1 (by omega)).2⟩ (by omega);rw[show now+(j:Int)+1=now+((j+1:Nat):Int)by omega]at hc;have HC:=hide hc;clear hc HJ;go_wp2_with fail;refine HC.out.mono ?_;rintro e w7⟨ao,cap,rfl,u6⟩;have HJ7:=hide u6;clear u6 HC cy;go_wp2;go_roundw
     case rel=>exact⟨j+1,by omega,by go_num,HJ7⟩
     case measure=>simp[intOf];omega
    ·have hjL:j=L-1:=by omega
     have hb:=HJ.out.mute (c:=2) (t:=⟨#[98,101,97,116]⟩) ⟨by decide+kernel,(lea_beat L R (now+j) 1 0 (now+L) R 1).1,(lea_beat L R (now+j) 1 0 (now+L) R 1).2⟩ (by omega);have HC:=hide hb;clear hb HJ;go_wp2_with fail;refine HC.out.mono ?_;rintro e w7⟨ao,cap,rfl,u6⟩;have HJ7:=hide (u6.le (m:=2+21*(k+1)) (by omega));clear u6 HC hjL;go_wp2;go_roundw
     case rel=>exact⟨k+1,by omega,by go_num,now+j,HJ7⟩
     case measure=>simp[intOf];omega
  ·obtain rfl:k=B:=by omega
   have HI0:Hid (∃now k7:Int,Kep P wp (700+30*1) (leaS L R now (1:Nat) k7 (now+L) (R+1-(1:Nat)) 1) _):=hide ⟨now,0,by have:=HI.out;rw[show(R:Int)+1-((1:Nat):Int)=R by omega];exact this.le (by omega)⟩;clear HI;go_wp2_with fail;go_loopw [9] (fun i wr=> ∃n:Nat,1<=n∧n<=R+1∧i= .int .i64 n∧Hid (∃now k7:Int,Kep P wp (700+30*n) (leaS L R now n k7 (now+L) (R+1-n) n) wr)) (fun i _=>R+1-(intOf i).toNat)
   case atStart=>exact⟨1,ae _,by omega,rfl,HI0⟩
   case round=>
    clear HI0;obtain⟨n,qb,sH,rfl,HI⟩:=hrel;obtain⟨now,k7,hi⟩:=HI.out;have HI0:Hid (Kep P wp (700+30*n+0) (leaS L R (now+(0:Nat)) n k7 (now+L) (R+1-n) n) _):=hide (by rw[show now+((0:Nat):Int)=now by omega];exact hi);clear HI hi;have hcn:(n:Int)<=(R:Int)+1:=by omega
    go_wp2_with fail;go_loopw [69] (fun i wr=> ∃j:Nat,j<=L-1∧i= .int .i64 j∧Hid (Kep P wp (700+30*n+j) (leaS L R (now+j) n k7 (now+L) (R+1-n) n) wr)) (fun i _=>L-1-(intOf i).toNat)
    case atStart=>exact⟨0,aJ _,rfl,HI0⟩
    case round=>
     clear HI0;obtain⟨j,hj,rfl,HJ⟩:=hrel;by_cases eP:j<L-1
     ·obtain⟨y,cy,hc⟩:=HJ.out.tmute ⟨rfl,(lea_tick L R (now+j) n k7 (now+L) (R+1-n) n (by omega)).1,(lea_tick L R (now+j) n k7 (now+L) (R+1-n) n (by omega)).2⟩ (by omega);rw[show now+(j:Int)+1=now+((j+1:Nat):Int)by omega]at hc;have HC:=hide hc;clear hc HJ;go_wp2_with fail;refine HC.out.mono ?_;rintro e w7⟨ao,cap,rfl,u6⟩;have HJ7:=hide u6;clear u6 HC cy;go_wp2;go_roundw
      case rel=>exact⟨j+1,by omega,by go_num,HJ7⟩
      case measure=>simp[intOf];omega
     ·have hjL:j=L-1:=by omega
      have Wz:Hid (∀w',Calls prog 24 #[.int .i64 n] w' fun e dV=>e= .returned (.string ⟨(cJ n).toArray⟩)∧Below w'.heap.size w' dV):=fun w'=>HFG.out n w' (by omega);have HFM:Hid (∀w',Calls prog 24 #[.int .i64 ((n:Int)+1)] w' fun e dV=>e= .returned (.string ⟨(cJ ((n:Int)+1)).toArray⟩)∧Below w'.heap.size w' dV):=fun w'=>by have:=HFG.out (n+1) w' (by omega);rw[Int.natCast_add]at this;exact this
      have CW:=fh (n:Int);have A9:=fh ((n:Int)+1);have HT1:Hid ((⟨#[115,116,111,112,32,55,32]⟩:ByteArray)++⟨(cJ n).toArray⟩=⟨(tStop7 n).toArray⟩):=by show _=_;unfold tStop7;rw[<-ba_two]
      have SL:Hid ((⟨#[100,111,110,101,32,55,32]⟩:ByteArray)++⟨(cJ n).toArray⟩++⟨#[32,121]⟩=⟨(tDone7 n 121).toArray⟩):=by show _=_;unfold tDone7;rw[<-ba_two,<-ba_two]
      have HT3:Hid ((⟨#[114,117,110,32,55,32]⟩:ByteArray)++⟨(cJ ((n:Int)+1)).toArray⟩++⟨#[32,116,32,120]⟩=⟨(tRun7 ((n:Int)+1)).toArray⟩):=by show _=_;unfold tRun7;rw[<-ba_two,<-ba_two]
      have Ae: ¬9223372036854775807<7+(cJ (n:Int)).length:=by omega
      have oJ: ¬9223372036854775807<7+(cJ (n:Int)).length+2:=by omega
      have NX: ¬9223372036854775807<6+(cJ ((n:Int)+1)).length:=by omega
      have hl4: ¬9223372036854775807<6+(cJ ((n:Int)+1)).length+4:=by omega
      have zK:(tStop7 (n:Int)).length<=1048576:=by unfold tStop7;rw[aN];simp only[List.length_cons,List.length_nil];omega
      have og:(tRun7 ((n:Int)+1)).length<=1048576:=fig_lens _ _ _ (by decide) (by decide);clear CW A9;generalize Ea:cJ (n:Int)=fk at*;generalize hfk2:cJ ((n:Int)+1)=fk2 at*;clear Ea hfk2;go_wp2_with fail;refine(Wz.out _).mono ?_;rintro e w8⟨rfl,hb8⟩;have TQ:=HJ.out.below hb8;by_cases Ef:n=R+1
      ·have aaX:(R:Int)+1-(n:Int)=0:=by omega
       rw[aaX]at TQ;have qc:=lea_last L R (now+j) n k7 (now+L) n (by omega);rw[lea_stop n]at qc;obtain⟨y,cy,hc⟩:=TQ.tick (x:= [(2,tStop7 n),(1, [101,114,114,32,55])]) ⟨rfl,qc.1,qc.2⟩ (by omega);have HC:=hide hc;have hcn2:decide ((n:Int)=(R:Int)+1)=true:=by simp;omega
       have HNR:Hid ((R:Int)+1=(n:Int)):=hide (by omega);clear hc qc TQ HJ hb8 aaX HT3 HFM NX hl4;go_wp2_with fail;rw[HT1.out];clear hcn2 Ef;rw[HNR.out];refine HC.out.mono ?_;rintro e w9⟨v,rfl,hg9⟩;have Y4:=hide hg9;clear hg9 HC cy HT1;go_wp2_with fail;refine(Y4.out.both (two_le zK (by decide)) (k:=2) rfl (by omega) rfl rfl).mono ?_;rintro e w10⟨rfl,hg10⟩;obtain⟨y,cy,od⟩:=hg10.look (z:=now+j+1) (b:=0) (c:=0) (d:=0) rfl rfl rfl rfl (by omega);have zC:=hide od;clear od hg10 Y4;go_wp2_with fail;refine zC.out.mono ?_;rintro e Bw⟨rfl,hg11⟩;have Oa:=hide hg11;clear hg11 zC cy;go_wp2_with fail;refine(Wz.out _).mono ?_;rintro e YT⟨rfl,aci⟩;have hm:=(Oa.out.below aci).mute (c:=2) (t:=⟨(tDone7 n 121).toArray⟩) ⟨lea_d qb (by omega),(lea_doneX L R (now+j+1) n qb (by omega)).1,(lea_doneX L R (now+j+1) n qb (by omega)).2⟩ (by omega);have HM:=hide hm;clear hm aci Oa;go_wp2_with fail;rw[SL.out];refine HM.out.mono ?_;rintro e Vo⟨ao,cap,rfl,hg13⟩;have HB:=hide hg13.toBelow;clear hg13 HM SL;go_wp2;go_ret;exact⟨rfl,HB.out⟩
      ·have qc:=lea_more L R (now+j) n k7 (now+L) (R+1-n) n (by omega) (by omega);rw[lea_stop n]at qc;obtain⟨y,cy,hc⟩:=TQ.tick (x:= [(2,tStop7 n)]) ⟨rfl,qc.1,qc.2⟩ (by omega);have HC:=hide hc;have hcn2: ¬(n:Int)=(R:Int)+1:=by omega
       clear hc qc TQ HJ hb8;go_wp2_with fail;rw[HT1.out];refine HC.out.mono ?_;rintro e w9⟨v,rfl,hg9⟩;have Y4:=hide hg9;clear hg9 HC cy HT1;go_wp2_with fail;refine(Y4.out.both (one_le zK) (k:=1) rfl (by omega) rfl rfl).mono ?_;rintro e w10⟨rfl,hg10⟩;have ZH:=hide hg10;clear hg10 Y4;go_wp2_with fail;refine(Wz.out _).mono ?_;rintro e YT⟨rfl,aci⟩;have hm:=(ZH.out.below aci).mute (c:=2) (t:=⟨(tDone7 n 121).toArray⟩) ⟨lea_d qb (by omega),(lea_doneW L R (now+j+1) n (R+1-n-1) n qb (by omega)).1,(lea_doneW L R (now+j+1) n (R+1-n-1) n qb (by omega)).2⟩ (by omega);have HM:=hide hm;clear hm aci ZH;go_wp2_with fail;rw[SL.out];refine HM.out.mono ?_;rintro e Vo⟨ao,cap,rfl,hg13⟩;have WA:=hide hg13;clear hg13 HM SL;go_wp2_with fail;refine(WA.out.tell (t:=⟨#[112,117,108,108]⟩) (c:=2) (x:= [(2,tRun7 ((n:Int)+1))]) ⟨ok_x _ (by decide+kernel),(lea_pull L R (now+j+1) (R+1-n-1) n n).1,(lea_pull L R (now+j+1) (R+1-n-1) n n).2⟩ (by omega)).mono ?_;rintro e w14⟨v,rfl,hg14⟩;have HG14:=hide hg14;clear hg14 WA;go_wp2_with fail;refine(HFM.out _).mono ?_;rintro e w15⟨rfl,ack⟩;have JX:=hide (HG14.out.lit ack (one_le og) (k:=1) rfl (by omega) rfl rfl);clear ack HG14;go_wp2_with fail;rw[HT3.out];refine JX.out.mono ?_;rintro e w16⟨rfl,hg16⟩;have HI16:Hid (∃now k7:Int,Kep P wp (700+30*(n+1)) (leaS L R now ((n+1:Nat):Int) k7 (now+L) (R+1-((n+1:Nat):Int)) (n+1)) w16):=hide ⟨_,_,by have h:=hg16.le (m:=700+30*(n+1)) (by omega);rw[show(R:Int)+1-n-1=R+1-((n+1:Nat):Int)by omega,show(n:Int)+1=((n+1:Nat):Int)by omega]at h;exact h⟩
       clear hg16 JX HT3;go_wp2;go_roundw
       case rel=>exact⟨n+1,by omega,by omega,by go_num,HI16⟩
       case measure=>simp[intOf];omega
