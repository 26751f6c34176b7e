import Derived.Test.YtffamlbkmjmipaaGreatDoorC27
import Derived.Test.YtffamlbkmjmipaaGreatDoorC32
import Derived.Test.YtffamlbkmjmipaaGreatDoorC33
set_option maxHeartbeats 8000000
set_option maxRecDepth 100000
namespace Go.Proofs.YtffamlbkmjmipaaGreatDoor
open _root_.Go.Proofs.Tryz
namespace Pj
open Go.RowKit aD Mc bA
attribute [local go_sem] ae ah
variable{cn:List (Int×Nat×Bs)}{s:St}
def kz(s:St)(c:Int):St:={s.idle c with ak:=(s.idle c).ak.filter (·.n !=c)}
theorem zk{j:Js}(h:gu j=cn)(c:Int):gu {j with br:=j.br.filter (fun k=>k.n !=c)}=cn.filter fun k=>decide (k.1≠c):=by subst h;unfold gu;dsimp only;rw[DN,List.filter_map];rfl
theorem Sd.forget{n:Nat}(h:Sd n s)(c:Int):Sd n (kz s c):=by have hi:=St.iU h.inv c;refine⟨⟨hi.rid,hi.bB,hi.ring,hi.dV,hi.once,(List.filter_sublist.map _).nodup hi.cn,hi.wt⟩,(h.ok.idle c).less _, ?_,(h.bd.idle c).ak _⟩;have h1:=h.sz;have h2:=St.sg (s:=s) c;unfold kz St.sz at*;have h3:((s.idle c).ak.filter (·.n !=c)).length<=(s.idle c).ak.length:=List.length_filter_le ..;dsimp only at*;omega
theorem Ca{base x tb:Nat}{g:Gh}{w:World}{F:Ft}(T:Tabs base w)(h:(stA base x tb g cn s).holds w F)(hi:Inv s)(hz:s.sz<=16777000)(c:Int)(hc:I6 c):Calls prog 43 #[pt x, .int .i64 c] w fun e w'=>e= .returned (.tuple #[])∧Goes (stA base x tb g (cn.filter fun k=>decide (k.1≠c)) (kz s c)) w F w':=by
 obtain⟨j,r1,r2,r3,hF,hh⟩:=h;have wf:=dD r1 hi hz;obtain⟨cm,w2,c6,tD,hg⟩:=z6 hh c hc 0;have ZQ:(Builtin.delete_ #[81,3] 0 #[.map (some cm), .int .i64 c]).run prog w= .ok (.tuple #[]) w2:=tD;have VU:Hid (Calls prog 73 #[pt x, .int .i64 c] w2 fun e w'=>e= .returned (.tuple #[])∧Goes (stA base x tb g (cn.filter fun k=>decide (k.1≠c)) (kz s c)) w F w'):=by
  show Calls _ _ _ _ _;obtain⟨F1,bU,o1,n1⟩:=hg;refine(xx bU wf.b3 c).mono ?_;rintro e w'⟨rfl,eP⟩;refine⟨rfl, ?_⟩;have g4:=ay o1 n1 eP;have R:=(r1.idle c).forget c;have Vx:j.pull.Nodup:=by rw[r1.pull];exact hi.wt
  refine fJ (s':=kz s c) T hF R ⟨r2.1,fun y hy=>r2.2 y (aG.1 hy).1⟩ (zk (j:={j with pull:=j.pull.filter (· !=c)}) r3 c) ?_;rw[<-erase_filter Vx c];exact g4
 clear hh wf r1 r2 r3 hg tD;unfold pt at*;go_enter func43,ntmps43;go_wp2_with (first
  |(go_at_call 73;go_must(refine VU.out.mono ?_;rintro e w3⟨rfl,eP⟩;have HG:=hide eP;clear eP)))
 go_end0;exact⟨rfl,HG.out⟩
end Pj
namespace Kp
open Go.RowKit aD Mc Mr Lw bA
attribute [local go_sem] aP.ae aP.ah
def dX(c:Int)(n:Nat):Nat:=((if c<0 then-(c+1)else c) %n).toNat
theorem dZ(c:Int)(n:Nat)(hn:0<n):dX c n<n:=by unfold dX;generalize(if c<0 then-(c+1)else c)=z;have h0:=Int.emod_nonneg z (b:=(n:Int)) (by omega);have h1:=Int.emod_lt_of_pos z (b:=(n:Int)) (by omega);omega
theorem lz{z:Int}{i:Nat}(h:z=(i:Int)):Ending.returned (.int .i64 z)= .returned (.int .i64 (i:Int)):=by rw[h]
theorem pick_any(c:Int)(n:Nat)(w:World)(hn:0<n)(JI:n<=4194304)(hc:I64 c):Calls prog 20 #[.int .i64 c, .int .i64 n] w fun e w'=>e= .returned (.int .i64 (dX c n))∧w'=w:=by
 have Tx: -9223372036854775808<=c∧c<=9223372036854775807:=hc;have zQ: ∀z:Int,0<=z %(n:Int):=fun z=>Int.emod_nonneg z (by omega);by_cases h:c<0
 ·have HE:Hid (-((c+1).tmod (n:Int))=(dX c n:Int)):=by
   show _=_;unfold dX;rw[if_pos h,<-Int.neg_tmod,Int.tmod_eq_emod_of_nonneg (by omega)];have:=zQ (-(c+1));omega
  clear zQ hc;go_enter func20,ntmps20;go_wp2;go_ret;exact⟨lz HE.out,rfl⟩
 ·have HE:Hid (c %(n:Int)=(dX c n:Int)):=by
   show _=_;unfold dX;rw[if_neg h];have:=zQ c;omega
  clear zQ hc;go_enter func20,ntmps20;go_wp2;go_ret;exact⟨lz HE.out,rfl⟩
section
variable{base:Nat}{bL:World}
def keepA(P:iC base bL)(wp:Nat)(s:St):aD:=ex fun x=>aa (blk wp (.cells #[.pointer (some ⟨x,0,none⟩)] 42 (0,0))) (P.A x s)
def pO(P:iC base bL)(o:ic)(w:World)(e:Ending)(w':World):Prop:= ∃wp,e= .returned (.tuple #[.pointer (some ⟨wp,0,none⟩), .bool true])∧Goes (keepA P wp (St.init o)) w (fun _=>False) w'
theorem fB(P:iC base bL)(o:ic)(hf:o.fine=true)(w:World)(hb:base<=w.heap.size)(ho:Below base bL w):Calls prog 21 #[uU o] w (pO P o w):=by
 have hr:I64 o.le∧I64 o.re∧I64 o.ca∧I64 o.bo∧I64 o.he:=by have ZV:=hf;unfold ic.fine at ZV;simp only[a8,decide_eq_true_eq]at ZV;unfold I64;omega
 have HN:Hid (∀w',Below w.heap.size w w'->Calls prog 35 #[uU o] w' fun e fM=> ∃x,e= .returned (.tuple #[.pointer (some ⟨x,0,none⟩), .int .i64 0])∧Goes (P.A x (St.init o)) w' (fun _=>False) fM):=fun w' jK=>by
  refine(P.new o w' (au hb jK.size) (ho.trans (jK.mono hb)) hr.1 hr.2.1 hr.2.2.1 hr.2.2.2.1 hr.2.2.2.2).mono ?_;rintro e fM(⟨h,_⟩|⟨_,h⟩)
  ·rw[hf]at h;cases h
  ·exact h
 clear hr hf;unfold uU at*;obtain⟨le,re,ca,bo,he⟩:=o;dsimp only at*;go_enter func21,ntmps21;go_wp2_with fail;refine(HN.out _ ((ar _ _).alloc (af _) _)).mono ?_;rintro e w1⟨x,rfl,hg⟩;have HX:Hid (pO P ⟨le,re,ca,bo,he⟩ w (.returned (.tuple #[.pointer (some ⟨w1.heap.size,0,none⟩), .bool true])) (w1.alloc (.cells #[.pointer (some ⟨x,0,none⟩)] 42))):=⟨_,rfl,Goes.ex x ((jt hg ((ar _ _).alloc (af _) _)).alloc _)⟩;clear hg HN;go_wp2
 go_ret2
 exact HX.out
end
def tell(s:St)(c:Int)(t:Bs):St:=s.feed c (aP.line t++ [10])
section
variable{base:Nat}{bL:World}
def SI(P:iC base bL)(wp:Nat)(s:St)(w:World)(F:Ft)(e:Ending)(w':World):Prop:= ∃v,e= .returned v∧Goes (aa (dT v s.out) (keepA P wp s.told)) w F w'
theorem mi(P:iC base bL)(wp:Nat)(c:Int)(t:ByteArray)(hc:I64 c){n:Nat}(s:St)(hv:Mc.Good n s)(ht:t.size<=1048576)(hn:n+(cD 10 (aP.line t.data.toList++ [10])).length<=1299999)(w:World)(F:Ft)(hb:base<=w.heap.size)(ho:Below base bL w)(h:(keepA P wp s).holds w F):Calls prog 23 #[.pointer (some ⟨wp,0,none⟩), .int .i64 c, .string t] w (SI P wp (tell s c t.data.toList) w F):=by
 obtain⟨x,hx⟩:=h;have kR:=(bQ hx).1;have c0:w.cell? ⟨wp,0,none⟩=some (.pointer (some ⟨x,0,none⟩)):=b9 kR;have LU:wp<w.heap.size:=(bZ.1 kR).1;have yC:(aP.line t.data.toList).length=t.size+9:=by
  have:t.data.toList.length=t.size:=by simp
  simp[aP.line,aP.hex,aP.two]
 have uH:Hid (∀w',Below w.heap.size w w'->Calls prog 28 #[.string t] w' fun e fM=>e= .returned (.string ⟨(aP.line t.data.toList).toArray⟩)∧Below w'.heap.size w' fM):=fun w' jK=>P.sums t w' (au hb jK.size) (ho.trans (jK.mono hb)) ht;have HK:Hid (∀w',Below w.heap.size w w'->w'.cell? ⟨wp,0,none⟩=some (.pointer (some ⟨x,0,none⟩))):=fun w' jK=>by rw[jK.cell (p:=⟨wp,0,none⟩) LU];exact c0
 obtain⟨bb,Jp⟩: ∃bb:ByteArray,bb=⟨(aP.line t.data.toList++ [10]).toArray⟩:=⟨_,rfl⟩;have kA:bb.data.toList=aP.line t.data.toList++ [10]:=by rw[Jp]
 have ZK:bb.size<=2097152:=by rw[Jp];show(aP.line t.data.toList++ [10]).toArray.size<=_;rw[List.size_toArray,aC,yC];simp only[List.length_cons,List.length_nil];omega
 have He:Hid ((⟨(aP.line t.data.toList).toArray⟩:ByteArray)++⟨#[10]⟩=bb):=by show _=_;rw[Jp];exact aP.iE (aP.line t.data.toList) [10]
 have Nk:(aP.line t.data.toList).length<=1048600:=by omega
 have hfs: ¬9223372036854775807<(aP.line t.data.toList).length+1:=by omega
 have PR:Hid (∀w',Below w.heap.size w w'->Calls prog 29 #[.pointer (some ⟨x,0,none⟩), .int .i64 c, .string bb] w' fun e fM=> ∃v,e= .returned v∧Goes (aa (dT v (tell s c t.data.toList).out) (keepA P wp (tell s c t.data.toList).told)) w F fM∧fM.cell? ⟨wp,0,none⟩=some (.pointer (some ⟨x,0,none⟩))):=fun w' jK=>by
  have Xe:=((Goes.refl hx).below jK).eq (aZ _ _);refine gP (C:=fun e wa G wb=>Ho (P.A x) (s.feed c bb.data.toList) wa G e wb) Xe (fun G hG=>P.feed x c bb n s w' G (au hb jK.size) (ho.trans (jK.mono hb)) hc ZK hv (by rw[kA];exact hn) hG) ?_;rintro e fM G Cz⟨v,rfl,hg⟩;have h1:=Cz _ hg;rw[kA]at h1;have h2:Goes (aa (dT v (tell s c t.data.toList).out) (aa (blk wp (.cells #[.pointer (some ⟨x,0,none⟩)] 42 (0,0))) (P.A x (tell s c t.data.toList).told))) w F fM:=h1.eq (by unfold tell;ac_rfl);refine⟨v,rfl,h2.mono fun F' nk=> ?_, ?_⟩
  ·obtain⟨G1,G2,a1,a2,d,e⟩:=nk;exact⟨G1,G2,a1,⟨x,a2⟩,d,e⟩
  ·obtain⟨_,R,_,hR,_,_,_⟩:=h2.pieces;exact b9 (bQ hR).1
 clear hx kR Jp kA ZK yC;generalize aP.line t.data.toList=tx at*;generalize tell s c t.data.toList=s2 at*;go_enter func23,ntmps23;go_wp2_with fail;go_region_held3 (fun w'=>w'.cell? ⟨wp,0,none⟩=some (.pointer (some ⟨x,0,none⟩))) (go_keep)
  (first
   |(go_at_call 28;refine(uH.out _ (by first|exact(ar _ _).drew|assumption)).mono ?_;rintro e w4⟨rfl,kQ⟩;have Vd:=nc (wr:=w) (by first|exact(ar _ _).drew|assumption) kQ;have t1:=HK.out _ Vd)
   |(go_at_call 29;rw[He.out];refine(PR.out _ (by first|exact(ar _ _).drew|assumption)).mono ?_;rintro e w5⟨v,rfl,fO,t2⟩))
 all_goals have HX:=hide fO;go_wp2;go_ret;exact⟨v,rfl,HX.out⟩
def Om(x:Bs):List Value:= [.string ⟨x.toArray⟩]
def stA(v:Value)(l:List Bs):aD:=rowA 9 1 v l.length (flat Om l)
theorem EF{w:World}{G:Ft}{g off cap:Nat}{l:List Bs}(h:(stA (.slice (some ⟨g,off,none⟩) l.length cap) l).holds w G){k:Nat}(hk:k<l.length):w.cell? ⟨g,off+k,none⟩=some (.string ⟨(l[k]'hk).toArray⟩):=by rw[aW h k (by rw[Nat.mul_one];exact hk)];have:=js (f:=Om) (size:=1) (fun _=>rfl) l k 0 hk (by omega);rw[Nat.mul_one,Nat.add_zero]at this;rw[this];rfl
theorem fI{w:World}{G:Ft}{e:TypeId}{z n:Nat}{v:Value}{xs:List Value}(h:(rowA e z v n xs).holds w G): ∃ao cap,v= .slice ao n cap∧n<=maxLen∧(0<n-> ∃g off,ao=some ⟨g,off,none⟩):=by obtain⟨ao,cap,e,h1,h2,h3,_⟩:=bS h;exact⟨ao,cap,e,au h1 h2,fun hp=>by obtain⟨g,off,e,_⟩:=h3 hp;exact⟨g,off,e⟩⟩
theorem CE(P:iC base bL)(v cv tv:Value)(l:List (Int×Bs))(w:World)(hb:base<=w.heap.size)(ho:Below base bL w)(ht: ∀x∈l,x.2.length<=1048576)(Ga Gb Gc:Ft)(ha:(dT v l).holds w Ga)(Jw:(inA cv (l.map (·.1))).holds w Gb)(XO:(stA tv (l.map (·.2))).holds w Gc):Calls prog 22 #[v,cv,tv] w fun e w'=>e= .returned (.bool true)∧Below w.heap.size w w':=by
 obtain⟨ao,ca,rfl,hm,ck⟩:=fI ha;obtain⟨bo,cb,ZI,_,Fg⟩:=fI Jw;obtain⟨co,cc,Ql,_,W9⟩:=fI XO;rw[aR]at ZI Ql Fg W9;subst ZI Ql;have hl:l.length<=9223372036854775807:=by unfold maxLen at hm;omega
 have HA:=hide ck;have HB:=hide Fg;have HC:=hide W9;have HRA:=hide ha;have HRB:=hide Jw;have HRC:=hide XO;have HT:=hide ht;have HO:=hide ho;clear ck Fg W9 ha Jw XO ht hm ho;go_enter func22,ntmps22;go_wp2;go_loopw [15] (fun i wr=> ∃k:Nat,k<=l.length∧i= .int .i64 k∧Below w.heap.size w wr) (fun i _=>l.length-(intOf i).toNat)
 case atStart=>exact⟨0,bk _,rfl,ar _ _⟩
 case round=>
  obtain⟨k,hk,rfl,hB⟩:=hrel;by_cases aQ:k<l.length
  ·obtain⟨ga,AK,rfl⟩:=HA.out (by omega);obtain⟨gb,NW,rfl⟩:=HB.out (by omega);obtain⟨gc,NX,rfl⟩:=HC.out (by omega);have R3:=aF HRA.out hB;have JQ:=aF HRB.out hB;have QG:=aF HRC.out hB;rw[PE]at R3;have D8:(l.map fun x=>(x.1,aP.line x.2)).length=l.length:=aR _;have Uc:(l.map (·.1)).length=l.length:=aR _;have Ud:(l.map (·.2)).length=l.length:=aR _;rw[<-D8]at R3;rw[<-Uc]at JQ;rw[<-Ud]at QG;obtain⟨Wd,We⟩:=AO R3 (k:=k) (by omega);have Wi:=Eg JQ (k:=k) (by omega);have Wj:=EF QG (k:=k) (by omega);rw[List.getElem_map]at Wd We Wi Wj;have a1:wr.cell? ⟨ga,AK+k*2,none⟩=some (.int .i64 (l[k]'aQ).1):=Wd;have a2:wr.cell? ⟨ga,AK+k*2+1,none⟩=some (.string ⟨(aP.line (l[k]'aQ).2).toArray⟩):=We;have b1:wr.cell? ⟨gb,NW+k,none⟩=some (.int .i64 (l[k]'aQ).1):=Wi;have c1:wr.cell? ⟨gc,NX+k,none⟩=some (.string ⟨(l[k]'aQ).2.toArray⟩):=Wj;clear Wd We Wi Wj;have RQ:=(jC R3).1;have ZX:=(jC JQ).1;have Vk:=(jC QG).1;rw[D8]at R3;have uH:Hid (∀w',Below wr.heap.size wr w'->Calls prog 28 #[.string ⟨(l[k]'aQ).2.toArray⟩] w' fun e fM=>e= .returned (.string ⟨(aP.line (l[k]'aQ).2).toArray⟩)∧Below w'.heap.size w' fM):=fun w' jK=>
    P.sums ⟨(l[k]'aQ).2.toArray⟩ w' (au (au hb hB.size) jK.size) ((HO.out.trans (hB.mono hb)).trans (jK.mono (au hb hB.size))) (HT.out _ (bY aQ))
   have HK:Hid (∀w',Below wr.heap.size wr w'->w'.cell? ⟨ga,AK+k*2,none⟩=some (.int .i64 (l[k]'aQ).1)∧w'.cell? ⟨ga,AK+k*2+1,none⟩=some (.string ⟨(aP.line (l[k]'aQ).2).toArray⟩)∧w'.cell? ⟨gb,NW+k,none⟩=some (.int .i64 (l[k]'aQ).1)∧w'.cell? ⟨gc,NX+k,none⟩=some (.string ⟨(l[k]'aQ).2.toArray⟩)):=fun w' jK=>⟨by rw[jK.cell (p:=⟨ga,AK+k*2,none⟩) RQ];exact a1,by rw[jK.cell (p:=⟨ga,AK+k*2+1,none⟩) RQ];exact a2,by rw[jK.cell (p:=⟨gb,NW+k,none⟩) ZX];exact b1,by rw[jK.cell (p:=⟨gc,NX+k,none⟩) Vk];exact c1⟩
   have He:=hide hB;clear R3 JQ QG RQ ZX Vk D8 Uc Ud hB;generalize(l[k]'aQ).1=lc at*;generalize(l[k]'aQ).2=lt at*;generalize aP.line lt=tx at*;go_wp2_with fail;go_region_held3 (fun w'=>w'.cell? ⟨ga,AK+k*2,none⟩=some (.int .i64 lc)∧w'.cell? ⟨ga,AK+k*2+1,none⟩=some (.string ⟨tx.toArray⟩)∧w'.cell? ⟨gb,NW+k,none⟩=some (.int .i64 lc)∧w'.cell? ⟨gc,NX+k,none⟩=some (.string ⟨lt.toArray⟩)) (go_keep)
    (first
     |(go_at_call 28;refine(uH.out _ (by first|exact(ar _ _).drew|assumption)).mono ?_;rintro e w4⟨rfl,kQ⟩;have Vd:=nc (wr:=wr) (by first|exact(ar _ _).drew|assumption) kQ;obtain⟨t1,t2,t3,t4⟩:=HK.out _ Vd))
   all_goals
    have HB4:=hide (He.out.trans (Vd.mono He.out.size));go_wp2;go_roundw
    case rel=>exact⟨k+1,by omega,by go_num,HB4.out⟩
    case measure=>simp[intOf];omega
  ·go_wp2;go_ret;exact⟨rfl,hB⟩
end
end Kp
namespace Kp
open Go.RowKit aD Mc Mr Lw bA
inductive R7 where
 |tell (c:Int) (t:Bs)
 |tick
 |close (c:Int)
 |none
structure Ev where
 act:R7
 exp:List (Int×Bs)
def Ev.next(s:St):Ev->St
 |⟨.tell c t,_⟩=>tell s c t
 |⟨.tick,_⟩=>s.tick
 |⟨.close c,_⟩=>s.close c
 |⟨.none,_⟩=>s
def Ev.ok:Ev->Bool
 |⟨.tell c t,_⟩=>decide ((cD 10 (aP.line t++ [10])).length<=2) &&decide (t.length<=4096) &&decide (-9223372036854775808<=c) &&decide (c<=9223372036854775807)
 |⟨.tick,_⟩=>true
 |⟨.close c,_⟩=>decide (-9223372036854775808<=c) &&decide (c<=9223372036854775807)
 |⟨.none,_⟩=>true
def lF(s:St):List Ev->Bool
 | []=>true
 |e::l=>e.ok &&decide ((e.next s).out=e.exp) &&lF (e.next s).told l
def rR(s:St):List Ev->Nat->St
 |_,0=>s
 | [],_+1=>s
 |e::l,k+1=>rR (e.next s).told l k
theorem wQ(s:St)(l:List Ev):rR s l 0=s:=by cases l<;>rfl
theorem ur: ∀(l:List Ev) (s:St),lF s l=true-> ∀k (hk:k<l.length),(l[k]'hk).ok=true∧((l[k]'hk).next (rR s l k)).out=(l[k]'hk).exp∧rR s l (k+1)=((l[k]'hk).next (rR s l k)).told
 | [],_,_,k,hk=>by simp at hk
 |e::l,s,h,0,_=>by unfold lF at h;simp only[a8,decide_eq_true_eq]at h;refine⟨h.1.1,h.1.2, ?_⟩;show rR (e.next s).told l 0=_;cases l<;>rfl
 |e::l,s,h,k+1,hk=>by unfold lF at h;simp only[a8,decide_eq_true_eq]at h;exact ur l _ h.2 k (by simpa using hk)
theorem wE{n:Nat}{s:St}(h:Mc.Good n s)(e:Ev)(he:e.ok=true):Mc.Good (n+1) (e.next s):=by
 obtain⟨a,x⟩:=e;cases a with
 |tell c t=>unfold Ev.ok at he;simp only[a8,decide_eq_true_eq]at he;exact h.feed c _ (af 1) he.1.1.1
 |tick=>exact h.tick
 |close c=>exact(h.close c).le (Nat.le_succ n)
 |none=>exact h.le (Nat.le_succ n)
theorem pq(l:List Ev)(s:St)(h:lF s l=true){n:Nat}(hg:Mc.Good n s): ∀k,k<=l.length->Mc.Good (n+k) (rR s l k)
 |0,_=>by cases l<;>exact hg
 |k+1,hk=>by obtain⟨h1,_,h3⟩:=ur l s h k hk;rw[h3];exact(wE (pq l s h hg k (by omega)) _ h1).told
section
variable{base:Nat}{bL:World}
theorem A4(P:iC base bL)(wp:Nat){l:List Ev}{s:St}(h:lF s l=true)(hg:Mc.Good 0 s)(hl:l.length<=100000){k:Nat}(hk:k<l.length){c:Int}{t:ByteArray}(ht:(l[k]'hk).act= .tell c t.data.toList)(w w1:World)(F:Ft)(hb:base<=w.heap.size)(ho:Below base bL w)(hF: ∀q,F q->base<=q)(bz:Goes (keepA P wp (rR s l k)) w F w1):Calls prog 23 #[.pointer (some ⟨wp,0,none⟩), .int .i64 c, .string t] w1 fun e w2=> ∃v,e= .returned v∧Goes (aa (dT v (l[k]'hk).exp) (keepA P wp (rR s l (k+1)))) w F w2:=by
 obtain⟨h1,h2,h3⟩:=ur l s h k hk;have JD:=pq l s h hg k (by omega);obtain⟨F1,bU,o1,n1⟩:=bz;rw[h3];generalize l[k]'hk=e at*;obtain⟨a,x⟩:=e;subst ht;unfold Ev.ok at h1;simp only[a8,decide_eq_true_eq]at h1;obtain⟨⟨⟨h4,h5⟩,h6⟩,h7⟩:=h1;have cY:t.size<=4096:=by simpa using h5
 refine(mi P wp c t ⟨h6,h7⟩ _ JD (by omega) (by omega) w1 F1 (au hb o1.size) (ho.trans (o1.toBelow hF hb)) bU).mono ?_;rintro en w2⟨v,rfl,eO⟩;refine⟨v,rfl, ?_⟩;have h8:=lR bU o1 n1 eO;have h9:(tell (rR s l k) c t.data.toList).out=x:=h2;rw[h9]at h8;exact h8
end
end Kp
namespace Kp
open Go.RowKit aD Mc Mr Lw bA
attribute [local go_sem] aP.ae aP.ah pX sU
theorem fF(n:Nat)(hn:n<1000000000000000000)(w:World):Calls prog 24 #[.int .i64 n] w fun e w'=>e= .returned (.string ⟨(a7 n).toArray⟩)∧Below w.heap.size w w':=by
 induction n using Nat.strongRecOn generalizing w with
 |ind n ih=>
 by_cases h:n<10
 ·have HF:Hid (a7 (n:Int)= [UInt8.ofNat (48+n)]):=vT h;clear ih;go_enter func24,ntmps24;go_wp2;go_ret;exact⟨K2 (by rw[HF.out]),(ar _ _).alloc (af _) _⟩
 ·have HF:Hid (a7 (n:Int)=a7 ((n/10:Nat):Int)++ [UInt8.ofNat (48+n %10)]):=DM h (by omega);have HC:Hid (∀w:World,Calls prog 24 #[.int .i64 ((n:Int)/10)] w fun e w'=>e= .returned (.string ⟨(a7 (n/10:Nat)).toArray⟩)∧Below w.heap.size w w'):=fun w=>ih (n/10) (by omega) (by omega) w;have hq:(a7 (n/10:Nat)).length<=20:=cW _;generalize a7 (n/10:Nat)=q at*;have hsq:(⟨q.toArray⟩:ByteArray).size<=20:=hq;have fZ:IntKind.i64.wrap ((n:Int)/10)=(n:Int)/10:=by rw[IntKind.wrap_i64];omega
  have Pt:IntKind.i64.wrap (48+(n:Int).tmod 10)=48+(n:Int) %10:=by rw[Int.tmod_eq_emod_of_nonneg (by omega),IntKind.wrap_i64];omega
  have Pu:IntKind.u8.wrap (48+(n:Int) %10)=48+(n:Int) %10:=by simp[IntKind.wrap,IntKind.bits,IntKind.signed];omega
  have HB:Hid ([UInt8.ofNat (48+n %10)]= [UInt8.ofNat (48+(n:Int) %10).toNat]):=by show _=_;congr 2
  clear ih;go_enter func24,ntmps24;go_wp2_with fail;go_region_with (first|(go_at_call 24;refine(HC.out _).mono ?_;rintro e w1⟨rfl,bP⟩;first|have Jw:=sV w (48+(n:Int) %10) bP rfl (by simp)|skip))
  ·go_wp2;go_ret;exact⟨rZ HF.out,((ar w.heap.size w).drew.trans bP).alloc bP.size _⟩
  all_goals go_wp2;go_ret;exact⟨rZ HF.out,vH bP (by simp)⟩
theorem bW{w:World}{b:Nat}{cs:Array Value}{e:TypeId}{z n:Nat}{xs:List Value}(h:w.heap[b]?=some (.cells cs e (0,0)))(hx:cs.toList=xs)(hn:xs.length=n*z)(hm:n<=maxLen):(rowA e z (.slice (some ⟨b,0,none⟩) n n) n xs).holds w (fun k=>k=b):=by
 subst hx;have cY:cs.size=n*z:=by simpa using hn
 refine⟨hn, .inr ⟨b,0,n,cs,rfl,fun _=>Iff.rfl,h,af _,hm,by omega, ?_⟩⟩;rw[List.drop_zero,List.take_of_length_le (by rw[hn];exact af _)]
theorem DU(l:List (Int×Bs)):flat CA (l.map (·.1))=l.map fun x=>Value.int .i64 x.1:=by
 induction l with
 |nil=>rfl
 |cons x l ih=>show Value.int .i64 x.1::flat CA (l.map (·.1))=_;rw[ih];rfl
theorem DV(l:List (Int×Bs)):flat Om (l.map (·.2))=l.map fun x=>Value.string ⟨x.2.toArray⟩:=by
 induction l with
 |nil=>rfl
 |cons x l ih=>show Value.string ⟨x.2.toArray⟩::flat Om (l.map (·.2))=_;rw[ih];rfl
section
variable{base:Nat}{bL:World}
theorem qp(P:iC base bL)(wp:Nat)(s:St){v:Value}{l:List (Int×Bs)}{w w1 w2:World}{F:Ft}(hb:base<=w.heap.size)(ho:Below base bL w)(hF: ∀q,F q->base<=q)(bz:Goes (aa (dT v l) (keepA P wp s)) w F w1)(h2:Below w1.heap.size w1 w2)(ht: ∀x∈l,x.2.length<=1048576){bc bt n:Nat}(hn:l.length=n)(hm:n<=1000)(hc:w2.heap[bc]?=some (.cells (l.map fun x=>Value.int .i64 x.1).toArray 3 (0,0)))(hs:w2.heap[bt]?=some (.cells (l.map fun x=>Value.string ⟨x.2.toArray⟩).toArray 9 (0,0))):Calls prog 22 #[v, .slice (some ⟨bc,0,none⟩) n n, .slice (some ⟨bt,0,none⟩) n n] w2 fun e w3=>e= .returned (.bool true)∧Goes (keepA P wp s) w F w3:=by
 subst hn;have eO:=bz.below h2;obtain⟨G,_,hG,_,_,_,_⟩:=eO.pieces;have o2:=eO.only;have D8:l.length<=maxLen:=by unfold maxLen;omega
 refine(CE P v _ _ l w2 (au hb o2.size) (ho.trans (o2.toBelow hF hb)) ht G (fun k=>k=bc) (fun k=>k=bt) hG ?_ ?_).mono ?_
 ·unfold inA;rw[aR,DU];exact bW hc rfl (by rw[aR,Nat.mul_one]) D8
 ·unfold stA;rw[aR,DV];exact bW hs rfl (by rw[aR,Nat.mul_one]) D8
 ·rintro e w3⟨rfl,nU⟩;exact⟨rfl,((eO.below nU).eq (aZ _ _)).drop⟩
theorem lY(P:iC base bL)(wp:Nat)(s:St){n:Nat}(hv:Mc.Good n s)(hn:n<=1299998){w w1:World}{F:Ft}(hb:base<=w.heap.size)(ho:Below base bL w)(hF: ∀q,F q->base<=q)(bz:Goes (keepA P wp s) w F w1): ∃x,w1.cell? ⟨wp,0,none⟩=some (.pointer (some ⟨x,0,none⟩))∧Calls prog 25 #[.pointer (some ⟨x,0,none⟩)] w1 fun e w2=>e= .returned (.agg #[.int .i64 s.now, .int .i64 s.queued, .int .i64 s.ag.length, .int .i64 s.wait.length])∧Goes (keepA P wp s) w F w2:=by have o1:=bz.only;obtain⟨F1,⟨x,hx⟩⟩:=bz.facts;refine⟨x,b9 (bQ hx).1, ?_⟩;obtain⟨_,G,_,hG,_,_⟩:=hx;refine(P.look x n s w1 G (au hb o1.size) (ho.trans (o1.toBelow hF hb)) hv hn hG).mono ?_;rintro e w2⟨rfl,cL⟩;exact⟨rfl,bz.below cL⟩
end
end Kp
namespace Kp
open Go.RowKit aD Mc Mr Lw bA
variable{N j:Nat}{ev:Nat->Ev}
structure Way(o:ic)(N:Nat)(ev:Nat->Ev):Prop where
 fine:o.fine=true
 run:lF (St.init o) ((List.range N).map ev)=true
 len:N<=100000
def bX(o:ic)(N:Nat)(ev:Nat->Ev)(k:Nat):St:=rR (St.init o) ((List.range N).map ev) k
def G7(o:ic)(N:Nat)(ev:Nat->Ev):Bool:=o.fine &&lF (St.init o) ((List.range N).map ev)
theorem yr{o:ic}(h:G7 o N ev=true)(hN:N<=100000):Way o N ev:=by unfold G7 at h;simp only[a8]at h;exact⟨h.1,h.2,hN⟩
def fR(s:St)(a b c d:Nat):Bool:=s.now==(a:Int) &&s.queued==b &&s.ag.length==c &&s.wait.length==d
theorem look_eq{s:St}{a b c d:Nat}(h:fR s a b c d=true):s.now=a∧s.queued=b∧s.ag.length=c∧s.wait.length=d:=by unfold fR at h;simp only[a8,beq_iff_eq]at h;exact⟨h.1.1.1,h.1.1.2,h.1.2,h.2⟩
theorem yq(N:Nat)(ev:Nat->Ev):((List.range N).map ev).length=N:=by rw[aR,List.length_range]
theorem Di(h:j<((List.range N).map ev).length):((List.range N).map ev)[j]'h=ev j:=by simp only[List.getElem_map,List.getElem_range]
theorem mr(o:ic)(N:Nat)(ev:Nat->Ev):bX o N ev 0=St.init o:=wQ _ _
theorem Way.good{o:ic}(W:Way o N ev)(hj:j<=N):Mc.Good j (bX o N ev j):=by have hlen:=yq N ev;have:=pq _ _ W.run (Mc.Good.start W.fine) j (by omega);rw[Nat.zero_add]at this;exact this
theorem Way.step{o:ic}(W:Way o N ev)(hj:j<N):(ev j).ok=true∧((ev j).next (bX o N ev j)).out=(ev j).exp∧bX o N ev (j+1)=((ev j).next (bX o N ev j)).told:=by have hlen:=yq N ev;have:=ur _ _ W.run j (by omega);rw[Di]at this;exact this
theorem a6(a b:Bs):(⟨a.toArray⟩:ByteArray)++⟨b.toArray⟩=⟨(a++b).toArray⟩:=aP.iE a b
theorem l5{w3 w4:World}{o o2:Obj}(hb:Below (w3.alloc o).heap.size (w3.alloc o) w4):(w4.alloc o2).heap[w3.heap.size]?=some o∧(w4.alloc o2).heap[w4.heap.size]?=some o2∧Below w3.heap.size w3 (w4.alloc o2):=by
 have hz:=hb.size;simp only[World.size_alloc]at hz;refine⟨?_,heap_alloc_new _ _, ?_⟩
 ·rw[Below.heap_alloc _ _ _ (by omega),hb.block _ (by simp only[World.size_alloc];omega)];exact heap_alloc_new _ _
 ·exact(((ar _ _).alloc (af _) _).trans (hb.mono (by simp only[World.size_alloc];omega))).alloc (by omega) _
theorem tW(w3:World)(o o2:Obj):((w3.alloc o).alloc o2).heap[w3.heap.size]?=some o∧((w3.alloc o).alloc o2).heap[w3.heap.size+1]?=some o2∧Below w3.heap.size w3 ((w3.alloc o).alloc o2):=by have h:=l5 (w3:=w3) (o:=o) (o2:=o2) (ar _ (w3.alloc o));rw[World.size_alloc]at h;exact h
theorem oU(w:World)(a b c d:Int):Sem.run prog (Instr.field 39 (Value.agg #[.int .i64 a, .int .i64 b, .int .i64 c, .int .i64 d]) 1) w=Result.ok (.int .i64 b) w:=by kernel_rfl
theorem oV(w:World)(a b c d:Int):Sem.run prog (Instr.field 39 (Value.agg #[.int .i64 a, .int .i64 b, .int .i64 c, .int .i64 d]) 2) w=Result.ok (.int .i64 c) w:=by kernel_rfl
theorem oW(w:World)(a b c d:Int):Sem.run prog (Instr.field 39 (Value.agg #[.int .i64 a, .int .i64 b, .int .i64 c, .int .i64 d]) 3) w=Result.ok (.int .i64 d) w:=by kernel_rfl
section
variable{base:Nat}{bL:World}
theorem Way.tell(P:iC base bL)(wp:Nat){o:ic}{N:Nat}{ev:Nat->Ev}(W:Way o N ev){j:Nat}(hj:j<N){c:Int}{t:ByteArray}{x:List (Int×Bs)}(ht:ev j=⟨.tell c t.data.toList,x⟩){w w1:World}{F:Ft}(hb:base<=w.heap.size)(ho:Below base bL w)(hF: ∀q,F q->base<=q)(bz:Goes (keepA P wp (bX o N ev j)) w F w1):Calls prog 23 #[.pointer (some ⟨wp,0,none⟩), .int .i64 c, .string t] w1 fun e w2=> ∃v,e= .returned v∧Goes (aa (dT v x) (keepA P wp (bX o N ev (j+1)))) w F w2:=by have hlen:=yq N ev;have hN:=W.len;have h:=A4 P wp W.run (Mc.Good.start W.fine) (by omega) (k:=j) (by omega) (c:=c) (t:=t) (by rw[Di,ht]) w w1 F hb ho hF bz;rw[Di,ht]at h;exact h
theorem xX{P:iC base bL}{wp:Nat}{s:St}{v:Value}{w w2:World}{F:Ft}(h:Goes (aa (dT v []) (keepA P wp s)) w F w2): ∃ao cap,v= .slice ao 0 cap∧Goes (keepA P wp s) w F w2:=by obtain⟨Gv,_,LQ,_,_,_,_⟩:=h.pieces;obtain⟨ao,cap,LY,_,_⟩:=fI LQ;exact⟨ao,cap,LY,(h.eq (aZ _ _)).drop⟩
theorem Eu{P:iC base bL}{wp:Nat}{s:St}{v:Value}{x:List (Int×Bs)}{w w2:World}{F:Ft}(h:Goes (aa (dT v x) (keepA P wp s)) w F w2): ∃ao cap,v= .slice ao x.length cap∧Goes (keepA P wp s) w F w2:=by obtain⟨Gv,_,LQ,_,_,_,_⟩:=h.pieces;obtain⟨ao,cap,LY,_,_⟩:=fI LQ;exact⟨ao,cap,LY,(h.eq (aZ _ _)).drop⟩
theorem Way.mute(P:iC base bL)(wp:Nat){o:ic}{N:Nat}{ev:Nat->Ev}(W:Way o N ev){j:Nat}(hj:j<N){c:Int}{t:ByteArray}(ht:ev j=⟨.tell c t.data.toList, []⟩){w w1:World}{F:Ft}(hb:base<=w.heap.size)(ho:Below base bL w)(hF: ∀q,F q->base<=q)(bz:Goes (keepA P wp (bX o N ev j)) w F w1):Calls prog 23 #[.pointer (some ⟨wp,0,none⟩), .int .i64 c, .string t] w1 fun e w2=> ∃ao cap,e= .returned (.slice ao 0 cap)∧Goes (keepA P wp (bX o N ev (j+1))) w F w2:=
 (W.tell P wp hj ht hb ho hF bz).mono fun e w2 ⟨v,he,hg⟩=>by obtain⟨ao,cap,rfl,h⟩:=xX hg;exact⟨ao,cap,he,h⟩
theorem lW(P:iC base bL)(wp:Nat){s s':St}{f:FuncId}{args:Value->Array Value}{w w1:World}{F:Ft}(hb:base<=w.heap.size)(ho:Below base bL w)(hF: ∀q,F q->base<=q)(bz:Goes (keepA P wp s) w F w1)(hc: ∀x G,base<=w1.heap.size->Below base bL w1->(P.A x s).holds w1 G->Calls prog f (args (.pointer (some ⟨x,0,none⟩))) w1 (Ho (P.A x) s' w1 G)): ∃x,w1.cell? ⟨wp,0,none⟩=some (.pointer (some ⟨x,0,none⟩))∧Calls prog f (args (.pointer (some ⟨x,0,none⟩))) w1 fun e w2=> ∃v,e= .returned v∧Goes (aa (dT v s'.out) (keepA P wp s'.told)) w F w2:=by obtain⟨F1,⟨x,hx⟩,o1,n1⟩:=bz;refine⟨x,b9 (bQ hx).1, ?_⟩;have Xe:=(Goes.refl hx).eq (aZ _ _);refine gP (C:=fun e wa G wb=>Ho (P.A x) s' wa G e wb) Xe (fun G hG=>hc x G (au hb o1.size) (ho.trans (o1.toBelow hF hb)) hG) ?_;rintro e fM G Cz⟨v,rfl,hg⟩;have h1:=Cz _ hg;have h2:Goes (aa (dT v s'.out) (aa (blk wp (.cells #[.pointer (some ⟨x,0,none⟩)] 42 (0,0))) (P.A x s'.told))) w1 F1 fM:=h1.eq (by ac_rfl);refine⟨v,rfl,lR (A:=keepA P wp s) ⟨x,hx⟩ o1 n1 (h2.mono fun F' nk=> ?_)⟩;obtain⟨G1,G2,a1,a2,d,e⟩:=nk;exact⟨G1,G2,a1,⟨x,a2⟩,d,e⟩
theorem Way.tick(P:iC base bL)(wp:Nat){o:ic}{N:Nat}{ev:Nat->Ev}(W:Way o N ev){j:Nat}(hj:j<N){x:List (Int×Bs)}(ht:ev j=⟨.tick,x⟩){w w1:World}{F:Ft}(hb:base<=w.heap.size)(ho:Below base bL w)(hF: ∀q,F q->base<=q)(bz:Goes (keepA P wp (bX o N ev j)) w F w1): ∃y,w1.cell? ⟨wp,0,none⟩=some (.pointer (some ⟨y,0,none⟩))∧Calls prog 26 #[.pointer (some ⟨y,0,none⟩)] w1 fun e w2=> ∃v,e= .returned v∧Goes (aa (dT v x) (keepA P wp (bX o N ev (j+1)))) w F w2:=by have hN:=W.len;have hg:=W.good (j:=j) (by omega);obtain⟨_,h2,h3⟩:=W.step hj;rw[ht]at h2 h3;obtain⟨y,hy,hc⟩:=lW P wp (s':=(bX o N ev j).tick) (f:=26) (args:=fun a=> #[a]) hb ho hF bz (fun x G b1 b2 hG=>P.tick x j _ w1 G b1 b2 hg (by omega) hG);refine⟨y,hy,hc.mono fun e w2 ⟨v,he,hv⟩=>⟨v,he, ?_⟩⟩;have e1:(bX o N ev j).tick.out=x:=h2;have e2:bX o N ev (j+1)=(bX o N ev j).tick.told:=h3;rw[e1,<-e2]at hv;exact hv
theorem Way.close(P:iC base bL)(wp:Nat){o:ic}{N:Nat}{ev:Nat->Ev}(W:Way o N ev){j:Nat}(hj:j<N){c:Int}{x:List (Int×Bs)}(ht:ev j=⟨.close c,x⟩){w w1:World}{F:Ft}(hb:base<=w.heap.size)(ho:Below base bL w)(hF: ∀q,F q->base<=q)(bz:Goes (keepA P wp (bX o N ev j)) w F w1): ∃y,w1.cell? ⟨wp,0,none⟩=some (.pointer (some ⟨y,0,none⟩))∧Calls prog 27 #[.pointer (some ⟨y,0,none⟩), .int .i64 c] w1 fun e w2=> ∃v,e= .returned v∧Goes (aa (dT v x) (keepA P wp (bX o N ev (j+1)))) w F w2:=by have hN:=W.len;have hg:=W.good (j:=j) (by omega);obtain⟨h1,h2,h3⟩:=W.step hj;rw[ht]at h1 h2 h3;unfold Ev.ok at h1;simp only[a8,decide_eq_true_eq]at h1;obtain⟨y,hy,hc⟩:=lW P wp (s':=(bX o N ev j).close c) (f:=27) (args:=fun a=> #[a, .int .i64 c]) hb ho hF bz (fun x G b1 b2 hG=>P.close x c j _ w1 G b1 b2 h1 hg (by omega) hG);refine⟨y,hy,hc.mono fun e w2 ⟨v,he,hv⟩=>⟨v,he, ?_⟩⟩;have e1:((bX o N ev j).close c).out=x:=h2;have e2:bX o N ev (j+1)=((bX o N ev j).close c).told:=h3;rw[e1,<-e2]at hv;exact hv
theorem Way.look(P:iC base bL)(wp:Nat){o:ic}{N:Nat}{ev:Nat->Ev}(W:Way o N ev){j:Nat}(hj:j<=N){a b c d:Nat}(hl:fR (bX o N ev j) a b c d=true){w w1:World}{F:Ft}(hb:base<=w.heap.size)(ho:Below base bL w)(hF: ∀q,F q->base<=q)(bz:Goes (keepA P wp (bX o N ev j)) w F w1): ∃y,w1.cell? ⟨wp,0,none⟩=some (.pointer (some ⟨y,0,none⟩))∧Calls prog 25 #[.pointer (some ⟨y,0,none⟩)] w1 fun e w2=>e= .returned (.agg #[.int .i64 a, .int .i64 b, .int .i64 c, .int .i64 d])∧Goes (keepA P wp (bX o N ev j)) w F w2:=by have hN:=W.len;have h:=lY P wp _ (W.good hj) (by omega) hb ho hF bz;obtain⟨l1,l2,l3,l4⟩:=look_eq hl;rw[l1,l2,l3,l4]at h;exact h
theorem Way.skip{P:iC base bL}{wp:Nat}{o:ic}{N:Nat}{ev:Nat->Ev}(W:Way o N ev){j:Nat}(hj:j<N){x:List (Int×Bs)}(ht:ev j=⟨.none,x⟩){w w1:World}{F:Ft}(bz:Goes (keepA P wp (bX o N ev j)) w F w1):Goes (keepA P wp (bX o N ev (j+1))) w F w1:=by
 obtain⟨_,_,h3⟩:=W.step hj;rw[ht]at h3;have e:(bX o N ev j).told=bX o N ev j:=by
  cases j with
  |zero=>rw[mr];rfl
  |succ i=>rw[(W.step (j:=i) (by omega)).2.2];rfl
 have e2:bX o N ev (j+1)=(bX o N ev j).told:=h3;rw[e2,e];exact bz
theorem sq(P:iC base bL)(wp:Nat)(s:St){v:Value}{l:List (Int×Bs)}{w w1:World}{F:Ft}(hb:base<=w.heap.size)(ho:Below base bL w)(hF: ∀q,F q->base<=q)(bz:Goes (aa (dT v l) (keepA P wp s)) w F w1)(ht: ∀x∈l,x.2.length<=1048576){n:Nat}(hn:l.length=n)(hm:n<=1000){cs ts:Array Value}(hc:(l.map fun x=>Value.int .i64 x.1).toArray=cs)(hs:(l.map fun x=>Value.string ⟨x.2.toArray⟩).toArray=ts):Calls prog 22 #[v, .slice (some ⟨w1.heap.size,0,none⟩) n n, .slice (some ⟨w1.heap.size+1,0,none⟩) n n] ((w1.alloc (.cells cs 3)).alloc (.cells ts 9)) fun e w3=>e= .returned (.bool true)∧Goes (keepA P wp s) w F w3:=by subst hc hs;obtain⟨h1,h2,h3⟩:=tW w1 (.cells (l.map fun x=>Value.int .i64 x.1).toArray 3) (.cells (l.map fun x=>Value.string ⟨x.2.toArray⟩).toArray 9);exact qp P wp s hb ho hF bz h3 ht hn hm h1 h2
end
def EH:Bs:= [115,117,98,32,55,32,116,32,120]
def EG:Bs:= [97,99,99,32,55]
def dQ:Bs:= [112,117,108,108]
def Lk:Bs:= [118,97,108,32,55,32,121]
def wS(n:Int):Bs:= [114,117,110,32,55,32]++a7 n++ [32,116,32,120]
def fy(n:Int):Bs:= [115,116,111,112,32,55,32]++a7 n
def eB(n:Int)(x:UInt8):Bs:= [100,111,110,101,32,55,32]++a7 n++ [32,x]
def dN(H a j:Nat):Ev:=
 if j=0 then⟨.tell 1 EH, [(1,EG)]⟩
 else if j=1 then⟨.tell 2 dQ, [(2, [114,117,110,32,55,32,49,32,116,32,120])]⟩
 else if j=2 then⟨.tell 3 dQ, []⟩
 else if j<H+2 then⟨.tick, []⟩
 else if j=H+2 then⟨.tick, [(3, [114,117,110,32,55,32,50,32,116,32,120])]⟩
 else if j=H+3 then⟨.tell 4 dQ, []⟩
 else if j=H+4 then⟨.tick, []⟩
 else if j=H+5 then⟨.tell (2+(a:Int)) (eB (1+(a:Int)) 121), [(1,Lk),(3-(a:Int),fy (2-(a:Int)))]⟩
 else⟨.tell (3-(a:Int)) (eB (2-(a:Int)) 122), []⟩
def eV(H:Nat):ic:=⟨20,0,2,1,H⟩
theorem Ng: ∀h:Fin 9,∀a:Fin 2,(G7 (eV (1+h.val)) (1+h.val+7) (dN (1+h.val) a.val) &&fR (bX (eV (1+h.val)) (1+h.val+7) (dN (1+h.val) a.val) (1+h.val+6)) (1+h.val+1) 0 0 1)=true:=by decide+kernel
theorem Qq{h a:Nat}(hh:h<9)(ha:a<2):Way (eV (1+h)) (1+h+7) (dN (1+h) a)∧fR (bX (eV (1+h)) (1+h+7) (dN (1+h) a) (1+h+6)) (1+h+1) 0 0 1=true:=by have h:=Ng ⟨h,hh⟩ ⟨a,ha⟩;simp only[a8]at h;exact⟨yr h.1 (by omega),h.2⟩
structure Stp(s:St)(e:Ev)(s':St):Prop where
 ok:e.ok=true
 out:(e.next s).out=e.exp
 told:(e.next s).told=s'
theorem Yj{a:R7}(x:List (Int×Bs))(h:(⟨a, []⟩:Ev).ok=true):(⟨a,x⟩:Ev).ok=true:=by cases a<;>exact h
theorem Way.C9{o:ic}{N:Nat}{ev:Nat->Ev}(W:Way o N ev){j:Nat}(hj:j<N){e:Ev}(h:ev j=e):Stp (bX o N ev j) e (bX o N ev (j+1)):=by subst h;obtain⟨h1,h2,h3⟩:=W.step hj;exact⟨h1,h2,h3.symm⟩
section
variable{w:World}{P:iC w.heap.size w}{wp n:Nat}{s s':St}{w1 w2:World}{v:Value}{x:List (Int×Bs)}{c:Int}{t:ByteArray}
def ie(P:iC w.heap.size w)(wp n:Nat)(s:St)(w1:World):Prop:=Mc.Good n s∧Goes (keepA P wp s) w (fun _=>False) w1
def yO(P:iC w.heap.size w)(wp n:Nat)(s:St)(v:Value)(x:List (Int×Bs))(w1:World):Prop:=Mc.Good n s∧Goes (aa (dT v x) (keepA P wp s)) w (fun _=>False) w1
theorem jy{b:Nat}: ∀q,(fun _=>False:Ft) q->b<=q:=fun _ h=>h.elim
theorem ie.le{m:Nat}(h:ie P wp n s w1)(hm:n<=m):ie P wp m s w1:=⟨h.1.le hm,h.2⟩
theorem ie.below(h:ie P wp n s w1)(hb:Below w1.heap.size w1 w2):ie P wp n s w2:=⟨h.1,h.2.below hb⟩
theorem ie.toBelow(h:ie P wp n s w1):Below w.heap.size w w1:=h.2.toBelow
theorem yO.drop(h:yO P wp n s v x w1):ie P wp n s w1:=⟨h.1,(h.2.eq (aZ _ _)).drop⟩
theorem yO.len(h:yO P wp n s v x w1): ∃ao cap,v= .slice ao x.length cap∧ie P wp n s w1:=by obtain⟨ao,cap,e,hg⟩:=Eu h.2;exact⟨ao,cap,e,h.1,hg⟩
theorem Stp.good{e:Ev}(st:Stp s e s')(h:Mc.Good n s):Mc.Good (n+1) s':=by rw[<-st.told];exact(wE h e st.ok).told
theorem ie.tell(h:ie P wp n s w1)(st:Stp s ⟨.tell c t.data.toList,x⟩ s')(hn:n<=100000):Calls prog 23 #[.pointer (some ⟨wp,0,none⟩), .int .i64 c, .string t] w1 fun e w2=> ∃v,e= .returned v∧yO P wp (n+1) s' v x w2:=by
 have h1:=st.ok;unfold Ev.ok at h1;simp only[a8,decide_eq_true_eq]at h1;obtain⟨⟨⟨h4,h5⟩,h6⟩,h7⟩:=h1;have cY:t.size<=4096:=by simpa using h5
 obtain⟨F1,bU,o1,n1⟩:=h.2;refine(mi P wp c t ⟨h6,h7⟩ s h.1 (by omega) (by omega) w1 F1 o1.size (o1.toBelow jy (af _)) bU).mono ?_;rintro en w2⟨v,rfl,eO⟩;refine⟨v,rfl,st.good h.1, ?_⟩;have h8:=lR bU o1 n1 eO;have h9:(Kp.tell s c t.data.toList).out=x:=st.out;have RI:(Kp.tell s c t.data.toList).told=s':=st.told;rw[h9,RI]at h8;exact h8
theorem ie.mute(h:ie P wp n s w1)(st:Stp s ⟨.tell c t.data.toList, []⟩ s')(hn:n<=100000):Calls prog 23 #[.pointer (some ⟨wp,0,none⟩), .int .i64 c, .string t] w1 fun e w2=> ∃ao cap,e= .returned (.slice ao 0 cap)∧ie P wp (n+1) s' w2:=
 (h.tell st hn).mono fun e w2 ⟨v,he,hg⟩=>by obtain⟨ao,cap,rfl,h⟩:=hg.len;exact⟨ao,cap,he,h⟩
theorem ie.tick(h:ie P wp n s w1)(st:Stp s ⟨.tick,x⟩ s')(hn:n<=100000): ∃y,w1.cell? ⟨wp,0,none⟩=some (.pointer (some ⟨y,0,none⟩))∧Calls prog 26 #[.pointer (some ⟨y,0,none⟩)] w1 fun e w2=> ∃v,e= .returned v∧yO P wp (n+1) s' v x w2:=by obtain⟨y,hy,hc⟩:=lW P wp (s':=s.tick) (f:=26) (args:=fun a=> #[a]) (af _) (ar _ _) jy h.2 (fun x G b1 b2 hG=>P.tick x n _ w1 G b1 b2 h.1 (by omega) hG);refine⟨y,hy,hc.mono fun e w2 ⟨v,he,hv⟩=>⟨v,he,st.good h.1, ?_⟩⟩;have e1:s.tick.out=x:=st.out;have e2:s.tick.told=s':=st.told;rw[e1,e2]at hv;exact hv
theorem ie.PJ(h:ie P wp n s w1)(st:Stp s ⟨.tick, []⟩ s')(hn:n<=100000): ∃y,w1.cell? ⟨wp,0,none⟩=some (.pointer (some ⟨y,0,none⟩))∧Calls prog 26 #[.pointer (some ⟨y,0,none⟩)] w1 fun e w2=> ∃ao cap,e= .returned (.slice ao 0 cap)∧ie P wp (n+1) s' w2:=by obtain⟨y,hy,hc⟩:=h.tick st hn;refine⟨y,hy,hc.mono fun e w2 ⟨v,he,hg⟩=> ?_⟩;obtain⟨ao,cap,rfl,h⟩:=hg.len;exact⟨ao,cap,he,h⟩
theorem ie.close(h:ie P wp n s w1)(st:Stp s ⟨.close c,x⟩ s')(hn:n<=100000): ∃y,w1.cell? ⟨wp,0,none⟩=some (.pointer (some ⟨y,0,none⟩))∧Calls prog 27 #[.pointer (some ⟨y,0,none⟩), .int .i64 c] w1 fun e w2=> ∃v,e= .returned v∧yO P wp (n+1) s' v x w2:=by have h1:=st.ok;unfold Ev.ok at h1;simp only[a8,decide_eq_true_eq]at h1;obtain⟨y,hy,hc⟩:=lW P wp (s':=s.close c) (f:=27) (args:=fun a=> #[a, .int .i64 c]) (af _) (ar _ _) jy h.2 (fun x G b1 b2 hG=>P.close x c n _ w1 G b1 b2 h1 h.1 (by omega) hG);refine⟨y,hy,hc.mono fun e w2 ⟨v,he,hv⟩=>⟨v,he,st.good h.1, ?_⟩⟩;have e1:(s.close c).out=x:=st.out;have e2:(s.close c).told=s':=st.told;rw[e1,e2]at hv;exact hv
theorem ie.look(h:ie P wp n s w1){z:Int}{b c d:Nat}(h1:s.now=z)(h2:s.queued=b)(h3:s.ag.length=c)(h4:s.wait.length=d)(hn:n<=100000): ∃y,w1.cell? ⟨wp,0,none⟩=some (.pointer (some ⟨y,0,none⟩))∧Calls prog 25 #[.pointer (some ⟨y,0,none⟩)] w1 fun e w2=>e= .returned (.agg #[.int .i64 z, .int .i64 (b:Int), .int .i64 (c:Int), .int .i64 (d:Int)])∧ie P wp n s w2:=by obtain⟨y,hy,hc⟩:=lY P wp s h.1 (by omega) (af _) (ar _ _) jy h.2;rw[h1,h2,h3,h4]at hc;exact⟨y,hy,hc.mono fun _ _ ⟨he,hg⟩=>⟨he,h.1,hg⟩⟩
theorem yO.both(h:yO P wp n s v x w1)(ht: ∀y∈x,y.2.length<=1048576){k:Nat}(hn:x.length=k)(hm:k<=1000){cs ts:Array Value}(hc:(x.map fun y=>Value.int .i64 y.1).toArray=cs)(hs:(x.map fun y=>Value.string ⟨y.2.toArray⟩).toArray=ts):Calls prog 22 #[v, .slice (some ⟨w1.heap.size,0,none⟩) k k, .slice (some ⟨w1.heap.size+1,0,none⟩) k k] ((w1.alloc (.cells cs 3)).alloc (.cells ts 9)) fun e w3=>e= .returned (.bool true)∧ie P wp n s w3:=
 (sq P wp s (af _) (ar _ _) jy h.2 ht hn hm hc hs).mono fun _ _ ⟨he,hg⟩=>⟨he,h.1,hg⟩
theorem yO.lit(h:yO P wp n s v x w1){cs ts:Array Value}(hb:Below (w1.alloc (.cells cs 3)).heap.size (w1.alloc (.cells cs 3)) w2)(ht: ∀y∈x,y.2.length<=1048576){k:Nat}(hn:x.length=k)(hm:k<=1000)(hc:(x.map fun y=>Value.int .i64 y.1).toArray=cs)(hs:(x.map fun y=>Value.string ⟨y.2.toArray⟩).toArray=ts):Calls prog 22 #[v, .slice (some ⟨w1.heap.size,0,none⟩) k k, .slice (some ⟨w2.heap.size,0,none⟩) k k] (w2.alloc (.cells ts 9)) fun e w3=>e= .returned (.bool true)∧ie P wp n s w3:=by subst hc hs;obtain⟨h1,h2,h3⟩:=l5 (o2:= .cells (x.map fun y=>Value.string ⟨y.2.toArray⟩).toArray 9) hb;exact(qp P wp s (af _) (ar _ _) jy h.2 h3 ht hn hm h1 h2).mono fun _ _ ⟨he,hg⟩=>⟨he,h.1,hg⟩
theorem pT(P:iC w.heap.size w)(o:ic)(hf:o.fine=true):Calls prog 21 #[uU o] w fun e w1=> ∃wp,e= .returned (.tuple #[.pointer (some ⟨wp,0,none⟩), .bool true])∧ie P wp 0 (St.init o) w1:=
 (fB P o hf w (af _) (ar _ _)).mono fun _ _ ⟨wp,he,hg⟩=>⟨wp,he,Mc.Good.start hf,hg⟩
theorem oz(a:Bs)(k:Int)(b:Bs)(ha:a.length<=1000)(hb:b.length<=1000):(a++a7 k++b).length<=1048576:=by have:=cW k;rw[aC,aC];omega
theorem one_le{c:Int}{b:Bs}(h:b.length<=1048576): ∀y∈ [(c,b)],y.2.length<=1048576:=by intro y hy;simp only[List.mem_cons,List.mem_nil_iff,or_false]at hy;subst hy;exact h
theorem Lv{c d:Int}{a b:Bs}(h:a.length<=1048576)(h2:b.length<=1048576): ∀y∈ [(c,a),(d,b)],y.2.length<=1048576:=by
 intro y hy;simp only[List.mem_cons,List.mem_nil_iff,or_false]at hy;rcases hy with rfl|rfl
 ·exact h
 ·exact h2
