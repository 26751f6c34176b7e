import Derived.Test.YtffamlbkmjmipaaGreatDoorC34
set_option maxHeartbeats 8000000
set_option maxRecDepth 100000
namespace Go.Proofs.YtffamlbkmjmipaaGreatDoor
open _root_.Go.Proofs.Tryz
namespace KpQ
open Go.RowKit aM Mc Mr Lw bJ
def cSub(j:Nat):Bs:= [115,117,98,32]++cJ j++ [32,116,32,120]
def cAcc(j:Nat):Bs:= [97,99,99,32]++cJ j
def cRun(j:Nat):Bs:= [114,117,110,32]++cJ j++ [32,49,32,116,32,120]
def cDone(j:Nat):Bs:= [100,111,110,101,32]++cJ j++ [32,49,32,121]
def cVal(j:Nat):Bs:= [118,97,108,32]++cJ j++ [32,121]
def cPull:Bs:= [112,117,108,108]
def capEv(L M j:Nat):EvQ:=
 if j<L+M then⟨.tell 1 (cSub j), [(1,cAcc j)]⟩
 else if j<2*(L+M)then⟨.tell (2+((j-(L+M):Nat):Int)) cPull,if j-(L+M)<L then [(2+((j-(L+M):Nat):Int),cRun (j-(L+M)))]else []⟩
 else⟨.tell (2+((j-2*(L+M):Nat):Int)) (cDone (j-2*(L+M))), [(1,cVal (j-2*(L+M))),(2+(L:Int)+((j-2*(L+M):Nat):Int),cRun (L+(j-2*(L+M))))]⟩
def capEvs(L M:Nat):List EvQ:=(List.range (2*(L+M)+M)).map (capEv L M)
def capCfg(L:Nat):uF:=⟨20,0,L,8,0⟩
def capSt(L M j:Nat):St:=stAt (St.init (capCfg L)) (capEvs L M) j
theorem cap_all: ∀l:Fin 5,∀m:Fin 3,((capCfg (1+l.val)).fine &&runOk (St.init (capCfg (1+l.val))) (capEvs (1+l.val) (1+m.val)) &&lookIs (capSt (1+l.val) (1+m.val) (2*((1+l.val)+(1+m.val)))) 0 (1+m.val) (1+l.val) (1+m.val) &&lookIs (capSt (1+l.val) (1+m.val) (2*((1+l.val)+(1+m.val))+(1+m.val))) 0 0 (1+l.val) 0)=true:=by decide+kernel
structure CapOk(L M:Nat):Prop where
 fine:(capCfg L).fine=true
 run:runOk (St.init (capCfg L)) (capEvs L M)=true
 mid:lookIs (capSt L M (2*(L+M))) 0 M L M=true
 fin:lookIs (capSt L M (2*(L+M)+M)) 0 0 L 0=true
theorem cap_ok{a b:Nat}(ha:a<5)(hb:b<3):CapOk (1+a) (1+b):=by have h:=cap_all ⟨a,ha⟩ ⟨b,hb⟩;simp only[bZ]at h;exact⟨h.1.1.1,h.1.1.2,h.1.2,h.2⟩
theorem capEvs_len(L M:Nat):(capEvs L M).length=2*(L+M)+M:=by unfold capEvs;rw[bf,List.length_range]
theorem capEvs_at(L M:Nat){j:Nat}(h:j<(capEvs L M).length):(capEvs L M)[j]'h=capEv L M j:=by simp only[capEvs,List.getElem_map,List.getElem_range]
section
variable{base:Nat}{dz:World}
theorem cap_tell(P:uO base dz)(wp:Nat){L M:Nat}(hk:CapOk L M)(hl:L+M<=100){j:Nat}(hj:j<2*(L+M)+M){c:Int}{t:ByteArray}(ht:(capEv L M j).act= .tell c t.data.toList){w w1:World}{F:Ft}(hb:base<=w.heap.size)(ho:Below base dz w)(hF: ∀q,F q->base<=q)(bK:Goes (keepA P wp (capSt L M j)) w F w1):Calls prog 23 #[.pointer (some ⟨wp,0,none⟩), .int .i64 c, .string t] w1 fun e w2=> ∃v,e= .returned v∧Goes (aa (iB v (capEv L M j).exp) (keepA P wp (capSt L M (j+1)))) w F w2:=by have hlen:=capEvs_len L M;have h:=run_tell P wp hk.run (Mc.Good.start hk.fine) (by omega) (k:=j) (by omega) (c:=c) (t:=t) (by rw[capEvs_at];exact ht) w w1 F hb ho hF bK;rw[capEvs_at]at h;exact h
theorem cap_good{L M:Nat}(hk:CapOk L M){j:Nat}(hj:j<=2*(L+M)+M):Mc.Good j (capSt L M j):=by have hlen:=capEvs_len L M;have:=run_good _ _ hk.run (Mc.Good.start hk.fine) j (by omega);rw[Nat.zero_add]at this;exact this
theorem capSt_zero(L M:Nat):capSt L M 0=St.init (capCfg L):=stAt_zero _ _
end
end KpQ
namespace KpQ
open Go.RowKit aM Mc Mr Lw bJ
attribute [local go_sem] aL.ag aL.ar
section
theorem capped_any(limit more:Int)(w:World)(P:uO w.heap.size w)(h1:I64 limit)(h2:I64 more):Calls prog 10 #[.int .i64 limit, .int .i64 more] w fun e w'=>e= .returned (.bool true)∧Below w.heap.size w w':=by
 obtain⟨a,ha⟩: ∃a,wm limit 5=a:=⟨_,rfl⟩;obtain⟨b,hb⟩: ∃b,wm more 3=b:=⟨_,rfl⟩;have Xs:a<5:=ha▸QV limit 5 (by omega);have px:b<3:=hb▸QV more 3 (by omega);have HP1:Hid (∀w,Calls prog 20 #[.int .i64 limit, .int .i64 5] w fun e w'=>e= .returned (.int .i64 (a:Int))∧w'=w):=fun w=>ha▸pick_any limit 5 w (by omega) (by omega) h1;have HP2:Hid (∀w,Calls prog 20 #[.int .i64 more, .int .i64 3] w fun e w'=>e= .returned (.int .i64 (b:Int))∧w'=w):=fun w=>hb▸pick_any more 3 w (by omega) (by omega) h2;have HK:=hide (cap_ok Xs px);clear ha hb h1 h2;obtain⟨L,hL⟩: ∃L,L=1+a:=⟨_,rfl⟩;obtain⟨M,hM⟩: ∃M,M=1+b:=⟨_,rfl⟩;rw[<-hL,<-hM]at HK;have HL:Hid ((1:Int)+(a:Int)=(L:Int)):=by show _=_;omega
 have HM:Hid ((1:Int)+(b:Int)=(M:Int)):=by show _=_;omega
 have RX:Hid (Calls prog 21 #[.agg #[.int .i64 20, .int .i64 0, .int .i64 L, .int .i64 8, .int .i64 0]] w (BeginP P (capCfg L) w)):=Lm P (capCfg L) HK.out.fine w (ae _) (ah _ _);have HFG:Hid (∀(j:Nat) (w':World),j<=1000->Calls prog 24 #[.int .i64 j] w' fun e dV=>e= .returned (.string ⟨(cJ j).toArray⟩)∧Below w'.heap.size w' dV):=fun j w' hj=>DM j (by omega) w';go_enter func10,ntmps10;go_wp2_with fail;refine(HP1.out _).mono ?_;rintro e wq⟨rfl,hq⟩;subst wq;go_wp2_with fail;refine(HP2.out _).mono ?_;rintro e wq⟨rfl,hq⟩;subst wq;go_wp2_with fail;rw[HL.out,HM.out];refine RX.out.mono ?_;rintro e w1⟨wp,rfl,rF⟩;rw[<-capSt_zero L M]at rF;have uL:=hide rF;have hLb:(L:Int)<=5:=by omega
 have hMb:(M:Int)<=3:=by omega
 have hL0:(1:Int)<=(L:Int):=by omega
 have hM0:(1:Int)<=(M:Int):=by omega
 clear rF RX HP1 HP2 HL HM hL hM;have hl100:L+M<=8:=by omega
 have HTL:Hid (∀(j:Nat) (c:Int) (t:ByteArray) (w1:World),j<2*(L+M)+M->(capEv L M j).act= .tell c t.data.toList->Goes (keepA P wp (capSt L M j)) w (fun _=>False) w1->Calls prog 23 #[.pointer (some ⟨wp,0,none⟩), .int .i64 c, .string t] w1 fun e w2=> ∃v,e= .returned v∧Goes (aa (iB v (capEv L M j).exp) (keepA P wp (capSt L M (j+1)))) w (fun _=>False) w2):=fun j c t w1 hj ht hg=>cap_tell P wp HK.out (by omega) hj ht (ae _) (ah _ _) (fun _ h=>h.elim) hg;go_wp2_with fail;go_loopw [29] (fun i wr=> ∃k:Nat,k<=L+M∧i= .int .i64 k∧Hid (Goes (keepA P wp (capSt L M k)) w (fun _=>False) wr)) (fun i _=>L+M-(intOf i).toNat)
 case atStart=>exact⟨0,aJ _,rfl,uL⟩
 case round=>
  obtain⟨k,hk,rfl,HI⟩:=hrel;by_cases ay:k<L+M
  ·have hev:capEv L M k=⟨.tell 1 (cSub k), [(1,cAcc k)]⟩:=by unfold capEv;rw[if_pos ay]
   have X5:=fun w1=>HTL.out k 1 ⟨(cSub k).toArray⟩ w1 (by omega) (by rw[hev]);rw[hev]at X5;have gq:=hide X5;have hfl:=fh (k:Int);have HT1:Hid ((⟨#[115,117,98,32]⟩:ByteArray)++⟨(cJ k).toArray⟩++⟨#[32,116,32,120]⟩=⟨(cSub k).toArray⟩):=by show _=_;unfold cSub;rw[<-ba_two,<-ba_two]
   have SL:Hid ((⟨#[97,99,99,32]⟩:ByteArray)++⟨(cJ k).toArray⟩=⟨(cAcc k).toArray⟩):=by show _=_;unfold cAcc;rw[<-ba_two]
   clear X5 hev;have HFK:Hid (∀w',Calls prog 24 #[.int .i64 k] w' fun e dV=>e= .returned (.string ⟨(cJ k).toArray⟩)∧Below w'.heap.size w' dV):=fun w'=>HFG.out k w' (by omega);have hacl:(cAcc k).length<=1048576:=by unfold cAcc;rw[aN];simp only[List.length_cons,List.length_nil];omega
   go_wp2_with fail;refine(HFK.out _).mono ?_;rintro e w2⟨rfl,bN⟩;have Ae: ¬9223372036854775807<4+(cJ (k:Int)).length:=by omega
   have oJ: ¬9223372036854775807<4+(cJ (k:Int)).length+4:=by omega
   have pn:=hide (HI.out.below bN);clear HI bN;generalize cJ (k:Int)=fk at*;go_wp2_with fail;rw[HT1.out];refine(gq.out _ pn.out).mono ?_;rintro e w3⟨v,rfl,mW⟩;have NI:=hide mW;clear mW gq pn HT1;go_wp2_with fail;refine(HFK.out _).mono ?_;rintro e w4⟨rfl,l9⟩;obtain⟨hc5,ht5,CU⟩:=lit_two (o2:= .cells #[.string ⟨(cAcc k).toArray⟩] 9) l9;have JX:=hide (is_lit P wp (capSt L M (k+1)) (ae _) (ah _ _) (fun _ h=>h.elim) NI.out CU (by intro x hx;simp only[List.mem_cons,List.mem_nil_iff,or_false]at hx;subst hx;exact hacl) (n:=1) rfl (by omega) hc5 ht5);clear hc5 ht5 CU l9 NI HFK;go_wp2_with fail;rw[SL.out];refine JX.out.mono ?_;rintro e w6⟨rfl,iJ⟩;have HI6:=hide iJ;clear iJ JX SL;go_wp2;go_roundw
   case rel=>exact⟨k+1,by omega,by go_num,HI6⟩
   case measure=>simp[intOf];omega
  ·obtain rfl:k=L+M:=by omega
   have HI0:=hide HI.out;clear HI;rw[Int.natCast_add];go_wp2_with fail;go_loopw [49] (fun i wr=> ∃k:Nat,k<=L+M∧i= .int .i64 k∧Hid (Goes (keepA P wp (capSt L M (L+M+k))) w (fun _=>False) wr)) (fun i _=>L+M-(intOf i).toNat)
   case atStart=>exact⟨0,aJ _,rfl,HI0⟩
   case round=>
    clear HI0;obtain⟨k,hk,rfl,HI⟩:=hrel;by_cases ay:k<L+M
    ·have hev:capEv L M (L+M+k)=⟨.tell (2+(k:Int)) cPull,if k<L then [(2+(k:Int),cRun k)]else []⟩:=by
      unfold capEv;rw[if_neg (by omega),if_pos (by omega),Nat.add_sub_cancel_left]
     have X5:=fun w1=>HTL.out (L+M+k) (2+(k:Int)) ⟨cPull.toArray⟩ w1 (by omega) (by rw[hev]);rw[hev]at X5;have gq:Hid (∀w1,Goes (keepA P wp (capSt L M (L+M+k))) w (fun _=>False) w1->Calls prog 23 #[.pointer (some ⟨wp,0,none⟩), .int .i64 (2+(k:Int)), .string ⟨#[112,117,108,108]⟩] w1 fun e w2=> ∃v,e= .returned v∧Goes (aa (iB v (if k<L then [(2+(k:Int),cRun k)]else [])) (keepA P wp (capSt L M (L+M+(k+1))))) w (fun _=>False) w2):=X5;clear X5 hev;have HFK:Hid (∀w',Calls prog 24 #[.int .i64 k] w' fun e dV=>e= .returned (.string ⟨(cJ k).toArray⟩)∧Below w'.heap.size w' dV):=fun w'=>HFG.out k w' (by omega);have hfl:=fh (k:Int);have hacl:(cRun k).length<=1048576:=by unfold cRun;rw[aN,aN];simp only[List.length_cons,List.length_nil];omega
     have SL:Hid ((⟨#[114,117,110,32]⟩:ByteArray)++⟨(cJ k).toArray⟩++⟨#[32,49,32,116,32,120]⟩=⟨(cRun k).toArray⟩):=by show _=_;unfold cRun;rw[<-ba_two,<-ba_two]
     have Ae: ¬9223372036854775807<4+(cJ (k:Int)).length:=by omega
     have oJ: ¬9223372036854775807<4+(cJ (k:Int)).length+6:=by omega
     generalize cJ (k:Int)=fk at*;go_wp2_with fail;refine(gq.out _ HI.out).mono ?_;rintro e w3⟨v,rfl,mW⟩;clear HI gq;by_cases nC:k<L
     ·rw[if_pos nC]at mW;have NI:=hide mW;have L4:(k:Int)<(L:Int):=by omega
      have PC:decide ((L:Int)<=(k:Int))=false:=by simp;omega
      clear mW;go_wp2_with fail;refine(HFK.out _).mono ?_;rintro e w4⟨rfl,l9⟩;obtain⟨hc5,ht5,CU⟩:=lit_two (o2:= .cells #[.string ⟨(cRun k).toArray⟩] 9) l9;have JX:=hide (is_lit P wp (capSt L M (L+M+(k+1))) (ae _) (ah _ _) (fun _ h=>h.elim) NI.out CU (by intro x hx;simp only[List.mem_cons,List.mem_nil_iff,or_false]at hx;subst hx;exact hacl) (n:=1) rfl (by omega) hc5 ht5);clear hc5 ht5 CU l9 NI HFK;go_wp2_with fail;rw[SL.out];refine JX.out.mono ?_;rintro e w6⟨rfl,iJ⟩;have HI6:=hide iJ;clear iJ JX SL;go_wp2;go_roundw
      case rel=>exact⟨k+1,by omega,by go_num,HI6⟩
      case measure=>simp[intOf];omega
     ·rw[if_neg nC]at mW;have HI6:=hide ((mW.eq (cA _ _)).drop);obtain⟨GvQ,_,hGv,_,_,_,_⟩:=mW.pieces;obtain⟨ao,cap,hve,_,_⟩:=row_form' hGv;rw[List.length_nil]at hve;subst hve;have L4:decide ((k:Int)<(L:Int))=false:=by simp;omega
      have PC:(L:Int)<=(k:Int):=by omega
      clear mW hGv HFK SL;go_wp2;go_roundw
      case rel=>exact⟨k+1,by omega,by go_num,HI6⟩
      case measure=>simp[intOf];omega
    ·obtain rfl:k=L+M:=by omega
     have hg:=HI.out;rw[show L+M+(L+M)=2*(L+M)by omega]at hg;obtain⟨x,cxQ,od⟩:=keep_look P wp _ (cap_good HK.out (j:=2*(L+M)) (by omega)) (by omega) (ae _) (ah _ _) (fun _ h=>h.elim) hg;obtain⟨l1,l2,l3,l4⟩:=look_eq HK.out.mid;rw[l1,l2,l3,l4]at od;have zC:=hide od;clear od l1 l2 l3 l4 hg HI;rw[Int.natCast_add];go_wp2_with fail;refine zC.out.mono ?_;rintro e w4⟨rfl,kI⟩;have HI0:=hide kI;clear kI zC cxQ;go_wp2_with fail;go_loopw [94] (fun i wr=> ∃k:Nat,k<=M∧i= .int .i64 k∧Hid (Goes (keepA P wp (capSt L M (2*(L+M)+k))) w (fun _=>False) wr)) (fun i _=>M-(intOf i).toNat)
     case atStart=>exact⟨0,aJ _,rfl,HI0⟩
     case round=>
      clear HI0;obtain⟨k,hk,rfl,HI⟩:=hrel;by_cases ay:k<M
      ·have hev:capEv L M (2*(L+M)+k)=⟨.tell (2+(k:Int)) (cDone k), [(1,cVal k),(2+(L:Int)+(k:Int),cRun (L+k))]⟩:=by
        unfold capEv;rw[if_neg (by omega),if_neg (by omega),Nat.add_sub_cancel_left]
       have X5:=fun w1=>HTL.out (2*(L+M)+k) (2+(k:Int)) ⟨(cDone k).toArray⟩ w1 (by omega) (by rw[hev]);rw[hev]at X5;have gq:=hide X5;clear X5 hev;have HFK:Hid (∀w',Calls prog 24 #[.int .i64 k] w' fun e dV=>e= .returned (.string ⟨(cJ k).toArray⟩)∧Below w'.heap.size w' dV):=fun w'=>HFG.out k w' (by omega);have GF:Hid (∀w',Calls prog 24 #[.int .i64 ((L:Int)+(k:Int))] w' fun e dV=>e= .returned (.string ⟨(cJ ((L:Int)+(k:Int))).toArray⟩)∧Below w'.heap.size w' dV):=fun w'=>by have:=HFG.out (L+k) w' (by omega);rw[Int.natCast_add]at this;exact this
       have hfl:=fh (k:Int);have aaI:=fh ((L:Int)+(k:Int));have HT1:Hid ((⟨#[100,111,110,101,32]⟩:ByteArray)++⟨(cJ k).toArray⟩++⟨#[32,49,32,121]⟩=⟨(cDone k).toArray⟩):=by show _=_;unfold cDone;rw[<-ba_two,<-ba_two]
       have SL:Hid ((⟨#[118,97,108,32]⟩:ByteArray)++⟨(cJ k).toArray⟩++⟨#[32,121]⟩=⟨(cVal k).toArray⟩):=by show _=_;unfold cVal;rw[<-ba_two,<-ba_two]
       have HT3:Hid ((⟨#[114,117,110,32]⟩:ByteArray)++⟨(cJ ((L:Int)+(k:Int))).toArray⟩++⟨#[32,49,32,116,32,120]⟩=⟨(cRun (L+k)).toArray⟩):=by show _=_;unfold cRun;rw[<-ba_two,<-ba_two,Int.natCast_add]
       have hacl:(cVal k).length<=1048576:=by unfold cVal;rw[aN,aN];simp only[List.length_cons,List.length_nil];omega
       have hbcl:(cRun (L+k)).length<=1048576:=by unfold cRun;rw[aN,aN,Int.natCast_add];simp only[List.length_cons,List.length_nil];omega
       have Ae: ¬9223372036854775807<5+(cJ (k:Int)).length:=by omega
       have oJ: ¬9223372036854775807<5+(cJ (k:Int)).length+4:=by omega
       have NX: ¬9223372036854775807<4+(cJ (k:Int)).length:=by omega
       have hl4: ¬9223372036854775807<4+(cJ (k:Int)).length+2:=by omega
       have hl5: ¬9223372036854775807<4+(cJ ((L:Int)+(k:Int))).length:=by omega
       have hl6: ¬9223372036854775807<4+(cJ ((L:Int)+(k:Int))).length+6:=by omega
       generalize cJ ((L:Int)+(k:Int))=flk at*;generalize cJ (k:Int)=fk at*;go_wp2_with fail;refine(HFK.out _).mono ?_;rintro e w2⟨rfl,bN⟩;have pn:=hide (HI.out.below bN);clear HI bN;go_wp2_with fail;rw[HT1.out];refine(gq.out _ pn.out).mono ?_;rintro e w3⟨v,rfl,mW⟩;have NI:=hide mW;clear mW gq pn HT1;go_wp2_with fail;refine(HFK.out _).mono ?_;rintro e w4⟨rfl,l9⟩;go_wp2_with fail;refine(GF.out _).mono ?_;rintro e w5⟨rfl,uI⟩;have hb45:=l9.trans (uI.mono l9.size);obtain⟨hc5,ht5,CU⟩:=lit_two (o2:= .cells #[.string ⟨(cVal k).toArray⟩, .string ⟨(cRun (L+k)).toArray⟩] 9) hb45;have JX:=hide (is_lit P wp (capSt L M (2*(L+M)+(k+1))) (ae _) (ah _ _) (fun _ h=>h.elim) NI.out CU (by intro x hx;simp only[List.mem_cons,List.mem_nil_iff,or_false]at hx;rcases hx with rfl|rfl;exact hacl;exact hbcl) (n:=2) rfl (by omega) hc5 ht5);clear hc5 ht5 CU l9 uI hb45 NI HFK GF;go_wp2_with fail;rw[SL.out,HT3.out];refine JX.out.mono ?_;rintro e w6⟨rfl,iJ⟩;have HI6:=hide iJ;clear iJ JX SL HT3;go_wp2;go_roundw
       case rel=>exact⟨k+1,by omega,by go_num,HI6⟩
       case measure=>simp[intOf];omega
      ·obtain rfl:k=M:=by omega
       obtain⟨x,cxQ,od⟩:=keep_look P wp _ (cap_good HK.out (j:=2*(L+k)+k) (by omega)) (by omega) (ae _) (ah _ _) (fun _ h=>h.elim) HI.out;obtain⟨l1,l2,l3,l4⟩:=look_eq HK.out.fin;rw[l1,l2,l3,l4]at od;have zC:=hide od;clear od l1 l2 l3 l4 HI;go_wp2_with fail;refine zC.out.mono ?_;rintro e w4⟨rfl,kI⟩;have HB:=hide kI.toBelow;clear kI zC cxQ;go_wp2;go_ret;exact⟨rfl,HB.out⟩
