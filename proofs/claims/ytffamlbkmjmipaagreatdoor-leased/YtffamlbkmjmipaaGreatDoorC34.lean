import Derived.Test.YtffamlbkmjmipaaGreatDoorC27
import Derived.Test.YtffamlbkmjmipaaGreatDoorC32
import Derived.Test.YtffamlbkmjmipaaGreatDoorC33
set_option maxHeartbeats 8000000
set_option maxRecDepth 100000
namespace Go.Proofs.YtffamlbkmjmipaaGreatDoor
open _root_.Go.Proofs.Tryz
namespace Pj
open Go.RowKit aM Mc bJ
attribute [local go_sem] ag ar
variable{cn:List (Int×Nat×Bs)}{s:St}
def oF(s:St)(c:Int):St:={s.idle c with aq:=(s.idle c).aq.filter (·.n !=c)}
theorem Dt{j:Js}(h:jx j=cn)(c:Int):jx {j with bT:=j.bT.filter (fun k=>k.n !=c)}=cn.filter fun k=>decide (k.1≠c):=by subst h;unfold jx;dsimp only;rw[Ki,List.filter_map];rfl
theorem Sd.forget{n:Nat}(h:Sd n s)(c:Int):Sd n (oF s c):=by have hi:=St.iY h.inv c;refine⟨⟨hi.rid,hi.bS,hi.ring,hi.fP,hi.once,(List.filter_sublist.map _).nodup hi.cn,hi.wt⟩,(h.ok.idle c).less _, ?_,(h.bd.idle c).aq _⟩;have h1:=h.sz;have h2:=St.tS (s:=s) c;unfold oF St.sz at*;have h3:((s.idle c).aq.filter (·.n !=c)).length<=(s.idle c).aq.length:=List.length_filter_le ..;dsimp only at*;omega
theorem H7{base x tb:Nat}{g:Gh}{w:World}{F:Ft}(T:Tabs base w)(h:(stA base x tb g cn s).holds w F)(hi:Inv s)(hz:s.sz<=16777000)(c:Int)(hc:I6 c):Calls prog 43 #[pt x, .int .i64 c] w fun e w'=>e= .returned (.tuple #[])∧Goes (stA base x tb g (cn.filter fun k=>decide (k.1≠c)) (oF s c)) w F w':=by
 obtain⟨j,r1,r2,r3,hF,hh⟩:=h;have wf:=fI r1 hi hz;obtain⟨cm,w2,c6,yB,hg⟩:=Eu hh c hc 0;have adg:(Builtin.delete_ #[81,3] 0 #[.map (some cm), .int .i64 c]).run prog w= .ok (.tuple #[]) w2:=yB;have AH:Hid (Calls prog 73 #[pt x, .int .i64 c] w2 fun e w'=>e= .returned (.tuple #[])∧Goes (stA base x tb g (cn.filter fun k=>decide (k.1≠c)) (oF s c)) w F w'):=by
  show Calls _ _ _ _ _;obtain⟨F1,cd,o1,n1⟩:=hg;refine(BX cd wf.b3 c).mono ?_;rintro e w'⟨rfl,mW⟩;refine⟨rfl, ?_⟩;have g4:=aF o1 n1 mW;have R:=(r1.idle c).forget c;have hpn:j.pull.Nodup:=by rw[r1.pull];exact hi.wt
  refine iD (s':=oF s c) T hF R ⟨r2.1,fun y hy=>r2.2 y (aR.1 hy).1⟩ (Dt (j:={j with pull:=j.pull.filter (· !=c)}) r3 c) ?_;rw[<-erase_filter hpn c];exact g4
 clear hh wf r1 r2 r3 hg yB;unfold pt at*;go_enter func43,ntmps43;go_wp2_with (first
  |(go_at_call 73;go_must(refine AH.out.mono ?_;rintro e w3⟨rfl,mW⟩;have HG:=hide mW;clear mW)))
 go_end0;exact⟨rfl,HG.out⟩
end Pj
namespace KpQ
open Go.RowKit aM Mc Mr Lw bJ
attribute [local go_sem] aL.ag aL.ar
def wm(c:Int)(n:Nat):Nat:=((if c<0 then-(c+1)else c) %n).toNat
theorem QV(c:Int)(n:Nat)(hn:0<n):wm c n<n:=by unfold wm;generalize(if c<0 then-(c+1)else c)=z;have h0:=Int.emod_nonneg z (b:=(n:Int)) (by omega);have h1:=Int.emod_lt_of_pos z (b:=(n:Int)) (by omega);omega
theorem Fh{z:Int}{i:Nat}(h:z=(i:Int)):Ending.returned (.int .i64 z)= .returned (.int .i64 (i:Int)):=by rw[h]
theorem pick_any(c:Int)(n:Nat)(w:World)(hn:0<n)(sH:n<=4194304)(hc:I64 c):Calls prog 20 #[.int .i64 c, .int .i64 n] w fun e w'=>e= .returned (.int .i64 (wm c n))∧w'=w:=by
 have hc': -9223372036854775808<=c∧c<=9223372036854775807:=hc;have KD: ∀z:Int,0<=z %(n:Int):=fun z=>Int.emod_nonneg z (by omega);by_cases h:c<0
 ·have HE:Hid (-((c+1).tmod (n:Int))=(wm c n:Int)):=by
   show _=_;unfold wm;rw[if_pos h,<-Int.neg_tmod,Int.tmod_eq_emod_of_nonneg (by omega)];have:=KD (-(c+1));omega
  clear KD hc;go_enter func20,ntmps20;go_wp2;go_ret;exact⟨Fh HE.out,rfl⟩
 ·have HE:Hid (c %(n:Int)=(wm c n:Int)):=by
   show _=_;unfold wm;rw[if_neg h];have:=KD c;omega
  clear KD hc;go_enter func20,ntmps20;go_wp2;go_ret;exact⟨Fh HE.out,rfl⟩
section
variable{base:Nat}{dz:World}
def keepA(P:uO base dz)(wp:Nat)(s:St):aM:=ex fun x=>aa (blk wp (.cells #[.pointer (some ⟨x,0,none⟩)] 42 (0,0))) (P.A x s)
def BeginP(P:uO base dz)(o:uF)(w:World)(e:Ending)(w':World):Prop:= ∃wp,e= .returned (.tuple #[.pointer (some ⟨wp,0,none⟩), .bool true])∧Goes (keepA P wp (St.init o)) w (fun _=>False) w'
theorem Lm(P:uO base dz)(o:uF)(hf:o.fine=true)(w:World)(hb:base<=w.heap.size)(ho:Below base dz w):Calls prog 21 #[Ds o] w (BeginP P o w):=by
 have hr:I64 o.le∧I64 o.re∧I64 o.ca∧I64 o.bo∧I64 o.he:=by have hf':=hf;unfold uF.fine at hf';simp only[bZ,decide_eq_true_eq]at hf';unfold I64;omega
 have HN:Hid (∀w',Below w.heap.size w w'->Calls prog 35 #[Ds o] w' fun e dV=> ∃x,e= .returned (.tuple #[.pointer (some ⟨x,0,none⟩), .int .i64 0])∧Goes (P.A x (St.init o)) w' (fun _=>False) dV):=fun w' iI=>by
  refine(P.new o w' (aw hb iI.size) (ho.trans (iI.mono hb)) hr.1 hr.2.1 hr.2.2.1 hr.2.2.2.1 hr.2.2.2.2).mono ?_;rintro e dV(⟨h,_⟩|⟨_,h⟩)
  ·rw[hf]at h;cases h
  ·exact h
 clear hr hf;unfold Ds at*;obtain⟨le,re,ca,bo,he⟩:=o;dsimp only at*;go_enter func21,ntmps21;go_wp2_with fail;refine(HN.out _ ((ah _ _).alloc (ae _) _)).mono ?_;rintro e w1⟨x,rfl,hg⟩;have HX:Hid (BeginP P ⟨le,re,ca,bo,he⟩ w (.returned (.tuple #[.pointer (some ⟨w1.heap.size,0,none⟩), .bool true])) (w1.alloc (.cells #[.pointer (some ⟨x,0,none⟩)] 42))):=⟨_,rfl,Goes.ex x ((DX hg ((ah _ _).alloc (ae _) _)).alloc _)⟩;clear hg HN;go_wp2
 go_ret2
 exact HX.out
end
def tell(s:St)(c:Int)(t:Bs):St:=s.feed c (aL.line t++ [10])
section
variable{base:Nat}{dz:World}
def SayP(P:uO base dz)(wp:Nat)(s:St)(w:World)(F:Ft)(e:Ending)(w':World):Prop:= ∃v,e= .returned v∧Goes (aa (iB v s.out) (keepA P wp s.told)) w F w'
theorem mL(P:uO base dz)(wp:Nat)(c:Int)(t:ByteArray)(hc:I64 c){n:Nat}(s:St)(hv:Mc.Good n s)(ht:t.size<=1048576)(hn:n+(bW 10 (aL.line t.data.toList++ [10])).length<=1299999)(w:World)(F:Ft)(hb:base<=w.heap.size)(ho:Below base dz w)(h:(keepA P wp s).holds w F):Calls prog 23 #[.pointer (some ⟨wp,0,none⟩), .int .i64 c, .string t] w (SayP P wp (tell s c t.data.toList) w F):=by
 obtain⟨x,hx⟩:=h;have cP:=(dC hx).1;have c0:w.cell? ⟨wp,0,none⟩=some (.pointer (some ⟨x,0,none⟩)):=bg cP;have Ej:wp<w.heap.size:=(cT.1 cP).1;have Af:(aL.line t.data.toList).length=t.size+9:=by
  have:t.data.toList.length=t.size:=by simp
  simp[aL.line,aL.hex,aL.two]
 have pC:Hid (∀w',Below w.heap.size w w'->Calls prog 28 #[.string t] w' fun e dV=>e= .returned (.string ⟨(aL.line t.data.toList).toArray⟩)∧Below w'.heap.size w' dV):=fun w' iI=>P.sums t w' (aw hb iI.size) (ho.trans (iI.mono hb)) ht;have HK:Hid (∀w',Below w.heap.size w w'->w'.cell? ⟨wp,0,none⟩=some (.pointer (some ⟨x,0,none⟩))):=fun w' iI=>by rw[iI.cell (p:=⟨wp,0,none⟩) Ej];exact c0
 obtain⟨bb,BN⟩: ∃bb:ByteArray,bb=⟨(aL.line t.data.toList++ [10]).toArray⟩:=⟨_,rfl⟩;have px:bb.data.toList=aL.line t.data.toList++ [10]:=by rw[BN]
 have NU:bb.size<=2097152:=by rw[BN];show(aL.line t.data.toList++ [10]).toArray.size<=_;rw[List.size_toArray,aN,Af];simp only[List.length_cons,List.length_nil];omega
 have Wv:Hid ((⟨(aL.line t.data.toList).toArray⟩:ByteArray)++⟨#[10]⟩=bb):=by show _=_;rw[BN];exact aL.jC (aL.line t.data.toList) [10]
 have PN:(aL.line t.data.toList).length<=1048600:=by omega
 have hfs: ¬9223372036854775807<(aL.line t.data.toList).length+1:=by omega
 have ZF:Hid (∀w',Below w.heap.size w w'->Calls prog 29 #[.pointer (some ⟨x,0,none⟩), .int .i64 c, .string bb] w' fun e dV=> ∃v,e= .returned v∧Goes (aa (iB v (tell s c t.data.toList).out) (keepA P wp (tell s c t.data.toList).told)) w F dV∧dV.cell? ⟨wp,0,none⟩=some (.pointer (some ⟨x,0,none⟩))):=fun w' iI=>by
  have hg0:=((Goes.refl hx).below iI).eq (cA _ _);refine mB (C:=fun e wa G wb=>RU (P.A x) (s.feed c bb.data.toList) wa G e wb) hg0 (fun G hG=>P.feed x c bb n s w' G (aw hb iI.size) (ho.trans (iI.mono hb)) hc NU hv (by rw[px];exact hn) hG) ?_;rintro e dV G N3⟨v,rfl,hg⟩;have h1:=N3 _ hg;rw[px]at h1;have h2:Goes (aa (iB v (tell s c t.data.toList).out) (aa (blk wp (.cells #[.pointer (some ⟨x,0,none⟩)] 42 (0,0))) (P.A x (tell s c t.data.toList).told))) w F dV:=h1.eq (by unfold tell;ac_rfl);refine⟨v,rfl,h2.mono fun F' dR=> ?_, ?_⟩
  ·obtain⟨G1,G2,a1,a2,d,e⟩:=dR;exact⟨G1,G2,a1,⟨x,a2⟩,d,e⟩
  ·obtain⟨_,R,_,hR,_,_,_⟩:=h2.pieces;exact bg (dC hR).1
 clear hx cP BN px NU Af;generalize aL.line t.data.toList=tx at*;generalize tell s c t.data.toList=s2 at*;go_enter func23,ntmps23;go_wp2_with fail;go_region_held3 (fun w'=>w'.cell? ⟨wp,0,none⟩=some (.pointer (some ⟨x,0,none⟩))) (go_keep)
  (first
   |(go_at_call 28;refine(pC.out _ (by first|exact(ah _ _).drew|assumption)).mono ?_;rintro e w4⟨rfl,l9⟩;have pI:=bj (wr:=w) (by first|exact(ah _ _).drew|assumption) l9;have t1:=HK.out _ pI)
   |(go_at_call 29;rw[Wv.out];refine(ZF.out _ (by first|exact(ah _ _).drew|assumption)).mono ?_;rintro e w5⟨v,rfl,hg5,t2⟩))
 all_goals have HX:=hide hg5;go_wp2;go_ret;exact⟨v,rfl,HX.out⟩
def stCs(x:Bs):List Value:= [.string ⟨x.toArray⟩]
def stA(v:Value)(l:List Bs):aM:=rowA 9 1 v l.length (flat stCs l)
theorem st_cell{w:World}{G:Ft}{g off cap:Nat}{l:List Bs}(h:(stA (.slice (some ⟨g,off,none⟩) l.length cap) l).holds w G){k:Nat}(hk:k<l.length):w.cell? ⟨g,off+k,none⟩=some (.string ⟨(l[k]'hk).toArray⟩):=by rw[bm h k (by rw[Nat.mul_one];exact hk)];have:=kP (f:=stCs) (size:=1) (fun _=>rfl) l k 0 hk (by omega);rw[Nat.mul_one,Nat.add_zero]at this;rw[this];rfl
theorem row_form'{w:World}{G:Ft}{e:TypeId}{z n:Nat}{v:Value}{xs:List Value}(h:(rowA e z v n xs).holds w G): ∃ao cap,v= .slice ao n cap∧n<=maxLen∧(0<n-> ∃g off,ao=some ⟨g,off,none⟩):=by obtain⟨ao,cap,e,h1,h2,h3,_⟩:=bC h;exact⟨ao,cap,e,aw h1 h2,fun hp=>by obtain⟨g,off,e,_⟩:=h3 hp;exact⟨g,off,e⟩⟩
theorem is_any(P:uO base dz)(v cv tvQ:Value)(l:List (Int×Bs))(w:World)(hb:base<=w.heap.size)(ho:Below base dz w)(ht: ∀x∈l,x.2.length<=1048576)(Ga Gb Gc:Ft)(ha:(iB v l).holds w Ga)(Ic:(inA cv (l.map (·.1))).holds w Gb)(htv:(stA tvQ (l.map (·.2))).holds w Gc):Calls prog 22 #[v,cv,tvQ] w fun e w'=>e= .returned (.bool true)∧Below w.heap.size w w':=by
 obtain⟨ao,ca,rfl,hm,bI⟩:=row_form' ha;obtain⟨bo,cb,hbe,_,GL⟩:=row_form' Ic;obtain⟨co,cc,hce,_,hco⟩:=row_form' htv;rw[bf]at hbe hce GL hco;subst hbe hce;have hl:l.length<=9223372036854775807:=by unfold maxLen at hm;omega
 have HA:=hide bI;have HB:=hide GL;have HC:=hide hco;have HRA:=hide ha;have HRB:=hide Ic;have HRC:=hide htv;have HT:=hide ht;have HO:=hide ho;clear bI GL hco ha Ic htv ht hm ho;go_enter func22,ntmps22;go_wp2;go_loopw [15] (fun i wr=> ∃k:Nat,k<=l.length∧i= .int .i64 k∧Below w.heap.size w wr) (fun i _=>l.length-(intOf i).toNat)
 case atStart=>exact⟨0,aJ _,rfl,ah _ _⟩
 case round=>
  obtain⟨k,hk,rfl,hB⟩:=hrel;by_cases ay:k<l.length
  ·obtain⟨ga,adZ,rfl⟩:=HA.out (by omega);obtain⟨gb,UT,rfl⟩:=HB.out (by omega);obtain⟨gc,offc,rfl⟩:=HC.out (by omega);have hra:=au HRA.out hB;have zI:=au HRB.out hB;have KG:=au HRC.out hB;rw[Wo]at hra;have XU:(l.map fun x=>(x.1,aL.line x.2)).length=l.length:=bf _;have hml1:(l.map (·.1)).length=l.length:=bf _;have acJ:(l.map (·.2)).length=l.length:=bf _;rw[<-XU]at hra;rw[<-hml1]at zI;rw[<-acJ]at KG;obtain⟨a1',a2'⟩:=ue hra (k:=k) (by omega);have b1':=qQ zI (k:=k) (by omega);have W7:=st_cell KG (k:=k) (by omega);rw[List.getElem_map]at a1' a2' b1' W7;have a1:wr.cell? ⟨ga,adZ+k*2,none⟩=some (.int .i64 (l[k]'ay).1):=a1';have a2:wr.cell? ⟨ga,adZ+k*2+1,none⟩=some (.string ⟨(aL.line (l[k]'ay).2).toArray⟩):=a2';have b1:wr.cell? ⟨gb,UT+k,none⟩=some (.int .i64 (l[k]'ay).1):=b1';have c1:wr.cell? ⟨gc,offc+k,none⟩=some (.string ⟨(l[k]'ay).2.toArray⟩):=W7;clear a1' a2' b1' W7;have hga:=(dK hra).1;have hgb:=(dK zI).1;have hgc:=(dK KG).1;rw[XU]at hra;have pC:Hid (∀w',Below wr.heap.size wr w'->Calls prog 28 #[.string ⟨(l[k]'ay).2.toArray⟩] w' fun e dV=>e= .returned (.string ⟨(aL.line (l[k]'ay).2).toArray⟩)∧Below w'.heap.size w' dV):=fun w' iI=>
    P.sums ⟨(l[k]'ay).2.toArray⟩ w' (aw (aw hb hB.size) iI.size) ((HO.out.trans (hB.mono hb)).trans (iI.mono (aw hb hB.size))) (HT.out _ (aY ay))
   have HK:Hid (∀w',Below wr.heap.size wr w'->w'.cell? ⟨ga,adZ+k*2,none⟩=some (.int .i64 (l[k]'ay).1)∧w'.cell? ⟨ga,adZ+k*2+1,none⟩=some (.string ⟨(aL.line (l[k]'ay).2).toArray⟩)∧w'.cell? ⟨gb,UT+k,none⟩=some (.int .i64 (l[k]'ay).1)∧w'.cell? ⟨gc,offc+k,none⟩=some (.string ⟨(l[k]'ay).2.toArray⟩)):=fun w' iI=>⟨by rw[iI.cell (p:=⟨ga,adZ+k*2,none⟩) hga];exact a1,by rw[iI.cell (p:=⟨ga,adZ+k*2+1,none⟩) hga];exact a2,by rw[iI.cell (p:=⟨gb,UT+k,none⟩) hgb];exact b1,by rw[iI.cell (p:=⟨gc,offc+k,none⟩) hgc];exact c1⟩
   have Wv:=hide hB;clear hra zI KG hga hgb hgc XU hml1 acJ hB;generalize(l[k]'ay).1=lc at*;generalize(l[k]'ay).2=lt at*;generalize aL.line lt=tx at*;go_wp2_with fail;go_region_held3 (fun w'=>w'.cell? ⟨ga,adZ+k*2,none⟩=some (.int .i64 lc)∧w'.cell? ⟨ga,adZ+k*2+1,none⟩=some (.string ⟨tx.toArray⟩)∧w'.cell? ⟨gb,UT+k,none⟩=some (.int .i64 lc)∧w'.cell? ⟨gc,offc+k,none⟩=some (.string ⟨lt.toArray⟩)) (go_keep)
    (first
     |(go_at_call 28;refine(pC.out _ (by first|exact(ah _ _).drew|assumption)).mono ?_;rintro e w4⟨rfl,l9⟩;have pI:=bj (wr:=wr) (by first|exact(ah _ _).drew|assumption) l9;obtain⟨t1,t2,t3,t4⟩:=HK.out _ pI))
   all_goals
    have Hd:=hide (Wv.out.trans (pI.mono Wv.out.size));go_wp2;go_roundw
    case rel=>exact⟨k+1,by omega,by go_num,Hd.out⟩
    case measure=>simp[intOf];omega
  ·go_wp2;go_ret;exact⟨rfl,hB⟩
end
end KpQ
namespace KpQ
open Go.RowKit aM Mc Mr Lw bJ
inductive Act1 where
 |tell (c:Int) (t:Bs)
 |tick
 |close (c:Int)
 |none
structure EvQ where
 act:Act1
 exp:List (Int×Bs)
def EvQ.next(s:St):EvQ->St
 |⟨.tell c t,_⟩=>tell s c t
 |⟨.tick,_⟩=>s.tick
 |⟨.close c,_⟩=>s.close c
 |⟨.none,_⟩=>s
def EvQ.ok:EvQ->Bool
 |⟨.tell c t,_⟩=>decide ((bW 10 (aL.line t++ [10])).length<=2) &&decide (t.length<=4096) &&decide (-9223372036854775808<=c) &&decide (c<=9223372036854775807)
 |⟨.tick,_⟩=>true
 |⟨.close c,_⟩=>decide (-9223372036854775808<=c) &&decide (c<=9223372036854775807)
 |⟨.none,_⟩=>true
def runOk(s:St):List EvQ->Bool
 | []=>true
 |e::l=>e.ok &&decide ((e.next s).out=e.exp) &&runOk (e.next s).told l
def stAt(s:St):List EvQ->Nat->St
 |_,0=>s
 | [],_+1=>s
 |e::l,k+1=>stAt (e.next s).told l k
theorem stAt_zero(s:St)(l:List EvQ):stAt s l 0=s:=by cases l<;>rfl
theorem run_at: ∀(l:List EvQ) (s:St),runOk s l=true-> ∀k (hk:k<l.length),(l[k]'hk).ok=true∧((l[k]'hk).next (stAt s l k)).out=(l[k]'hk).exp∧stAt s l (k+1)=((l[k]'hk).next (stAt s l k)).told
 | [],_,_,k,hk=>by simp at hk
 |e::l,s,h,0,_=>by unfold runOk at h;simp only[bZ,decide_eq_true_eq]at h;refine⟨h.1.1,h.1.2, ?_⟩;show stAt (e.next s).told l 0=_;cases l<;>rfl
 |e::l,s,h,k+1,hk=>by unfold runOk at h;simp only[bZ,decide_eq_true_eq]at h;exact run_at l _ h.2 k (by simpa using hk)
theorem next_good{n:Nat}{s:St}(h:Mc.Good n s)(e:EvQ)(he:e.ok=true):Mc.Good (n+1) (e.next s):=by
 obtain⟨a,x⟩:=e;cases a with
 |tell c t=>unfold EvQ.ok at he;simp only[bZ,decide_eq_true_eq]at he;exact h.feed c _ (ae 1) he.1.1.1
 |tick=>exact h.tick
 |close c=>exact(h.close c).le (Nat.le_succ n)
 |none=>exact h.le (Nat.le_succ n)
theorem run_good(l:List EvQ)(s:St)(h:runOk s l=true){n:Nat}(hg:Mc.Good n s): ∀k,k<=l.length->Mc.Good (n+k) (stAt s l k)
 |0,_=>by cases l<;>exact hg
 |k+1,hk=>by obtain⟨h1,_,h3⟩:=run_at l s h k hk;rw[h3];exact(next_good (run_good l s h hg k (by omega)) _ h1).told
section
variable{base:Nat}{dz:World}
theorem run_tell(P:uO base dz)(wp:Nat){l:List EvQ}{s:St}(h:runOk s l=true)(hg:Mc.Good 0 s)(hl:l.length<=100000){k:Nat}(hk:k<l.length){c:Int}{t:ByteArray}(ht:(l[k]'hk).act= .tell c t.data.toList)(w w1:World)(F:Ft)(hb:base<=w.heap.size)(ho:Below base dz w)(hF: ∀q,F q->base<=q)(bK:Goes (keepA P wp (stAt s l k)) w F w1):Calls prog 23 #[.pointer (some ⟨wp,0,none⟩), .int .i64 c, .string t] w1 fun e w2=> ∃v,e= .returned v∧Goes (aa (iB v (l[k]'hk).exp) (keepA P wp (stAt s l (k+1)))) w F w2:=by
 obtain⟨h1,h2,h3⟩:=run_at l s h k hk;have XG:=run_good l s h hg k (by omega);obtain⟨F1,cd,o1,n1⟩:=bK;rw[h3];generalize l[k]'hk=e at*;obtain⟨a,x⟩:=e;subst ht;unfold EvQ.ok at h1;simp only[bZ,decide_eq_true_eq]at h1;obtain⟨⟨⟨h4,h5⟩,h6⟩,h7⟩:=h1;have cg:t.size<=4096:=by simpa using h5
 refine(mL P wp c t ⟨h6,h7⟩ _ XG (by omega) (by omega) w1 F1 (aw hb o1.size) (ho.trans (o1.toBelow hF hb)) cd).mono ?_;rintro en w2⟨v,rfl,ld⟩;refine⟨v,rfl, ?_⟩;have h8:=A4 cd o1 n1 ld;have h9:(tell (stAt s l k) c t.data.toList).out=x:=h2;rw[h9]at h8;exact h8
end
end KpQ
namespace KpQ
open Go.RowKit aM Mc Mr Lw bJ
attribute [local go_sem] LB OW aL.ag aL.ar
theorem DM(n:Nat)(hn:n<1000000000000000000)(w:World):Calls prog 24 #[.int .i64 n] w fun e w'=>e= .returned (.string ⟨(cJ n).toArray⟩)∧Below w.heap.size w w':=by
 induction n using Nat.strongRecOn generalizing w with
 |ind n ih=>
 by_cases h:n<10
 ·have HF:Hid (cJ (n:Int)= [UInt8.ofNat (48+n)]):=LL h;clear ih;go_enter func24,ntmps24;go_wp2;go_ret;exact⟨YG (by rw[HF.out]),(ah _ _).alloc (ae _) _⟩
 ·have HF:Hid (cJ (n:Int)=cJ ((n/10:Nat):Int)++ [UInt8.ofNat (48+n %10)]):=Tw h (by omega);have HC:Hid (∀w:World,Calls prog 24 #[.int .i64 ((n:Int)/10)] w fun e w'=>e= .returned (.string ⟨(cJ (n/10:Nat)).toArray⟩)∧Below w.heap.size w w'):=fun w=>ih (n/10) (by omega) (by omega) w;have hq:(cJ (n/10:Nat)).length<=20:=fh _;generalize cJ (n/10:Nat)=q at*;have hsq:(⟨q.toArray⟩:ByteArray).size<=20:=hq;have kK:IntKind.i64.wrap ((n:Int)/10)=(n:Int)/10:=by rw[IntKind.wrap_i64];omega
  have hw2:IntKind.i64.wrap (48+(n:Int).tmod 10)=48+(n:Int) %10:=by rw[Int.tmod_eq_emod_of_nonneg (by omega),IntKind.wrap_i64];omega
  have rU:IntKind.u8.wrap (48+(n:Int) %10)=48+(n:Int) %10:=by simp[IntKind.wrap,IntKind.bits,IntKind.signed];omega
  have HB:Hid ([UInt8.ofNat (48+n %10)]= [UInt8.ofNat (48+(n:Int) %10).toNat]):=by show _=_;congr 2
  clear ih;go_enter func24,ntmps24;go_wp2_with fail;go_region_with (first|(go_at_call 24;refine(HC.out _).mono ?_;rintro e w1⟨rfl,hb1⟩;first|have Ic:=OX w (48+(n:Int) %10) hb1 rfl (by simp)|skip))
  ·go_wp2;go_ret;exact⟨Kh HF.out,((ah w.heap.size w).drew.trans hb1).alloc hb1.size _⟩
  all_goals go_wp2;go_ret;exact⟨Kh HF.out,Lq hb1 (by simp)⟩
theorem row_lit{w:World}{b:Nat}{cs:Array Value}{e:TypeId}{z n:Nat}{xs:List Value}(h:w.heap[b]?=some (.cells cs e (0,0)))(hx:cs.toList=xs)(hn:xs.length=n*z)(hm:n<=maxLen):(rowA e z (.slice (some ⟨b,0,none⟩) n n) n xs).holds w (fun k=>k=b):=by
 subst hx;have cg:cs.size=n*z:=by simpa using hn
 refine⟨hn, .inr ⟨b,0,n,cs,rfl,fun _=>Iff.rfl,h,ae _,hm,by omega, ?_⟩⟩;rw[List.drop_zero,List.take_of_length_le (by rw[hn];exact ae _)]
theorem flat_in(l:List (Int×Bs)):flat mY (l.map (·.1))=l.map fun x=>Value.int .i64 x.1:=by
 induction l with
 |nil=>rfl
 |cons x l ih=>show Value.int .i64 x.1::flat mY (l.map (·.1))=_;rw[ih];rfl
theorem flat_st(l:List (Int×Bs)):flat stCs (l.map (·.2))=l.map fun x=>Value.string ⟨x.2.toArray⟩:=by
 induction l with
 |nil=>rfl
 |cons x l ih=>show Value.string ⟨x.2.toArray⟩::flat stCs (l.map (·.2))=_;rw[ih];rfl
section
variable{base:Nat}{dz:World}
theorem is_lit(P:uO base dz)(wp:Nat)(s:St){v:Value}{l:List (Int×Bs)}{w w1 w2:World}{F:Ft}(hb:base<=w.heap.size)(ho:Below base dz w)(hF: ∀q,F q->base<=q)(bK:Goes (aa (iB v l) (keepA P wp s)) w F w1)(h2:Below w1.heap.size w1 w2)(ht: ∀x∈l,x.2.length<=1048576){bc btQ n:Nat}(hn:l.length=n)(hm:n<=1000)(hc:w2.heap[bc]?=some (.cells (l.map fun x=>Value.int .i64 x.1).toArray 3 (0,0)))(hs:w2.heap[btQ]?=some (.cells (l.map fun x=>Value.string ⟨x.2.toArray⟩).toArray 9 (0,0))):Calls prog 22 #[v, .slice (some ⟨bc,0,none⟩) n n, .slice (some ⟨btQ,0,none⟩) n n] w2 fun e w3=>e= .returned (.bool true)∧Goes (keepA P wp s) w F w3:=by
 subst hn;have ld:=bK.below h2;obtain⟨G,_,hG,_,_,_,_⟩:=ld.pieces;have o2:=ld.only;have XU:l.length<=maxLen:=by unfold maxLen;omega
 refine(is_any P v _ _ l w2 (aw hb o2.size) (ho.trans (o2.toBelow hF hb)) ht G (fun k=>k=bc) (fun k=>k=btQ) hG ?_ ?_).mono ?_
 ·unfold inA;rw[bf,flat_in];exact row_lit hc rfl (by rw[bf,Nat.mul_one]) XU
 ·unfold stA;rw[bf,flat_st];exact row_lit hs rfl (by rw[bf,Nat.mul_one]) XU
 ·rintro e w3⟨rfl,mh⟩;exact⟨rfl,((ld.below mh).eq (cA _ _)).drop⟩
theorem keep_look(P:uO base dz)(wp:Nat)(s:St){n:Nat}(hv:Mc.Good n s)(hn:n<=1299998){w w1:World}{F:Ft}(hb:base<=w.heap.size)(ho:Below base dz w)(hF: ∀q,F q->base<=q)(bK:Goes (keepA P wp s) w F w1): ∃x,w1.cell? ⟨wp,0,none⟩=some (.pointer (some ⟨x,0,none⟩))∧Calls prog 25 #[.pointer (some ⟨x,0,none⟩)] w1 fun e w2=>e= .returned (.agg #[.int .i64 s.now, .int .i64 s.queued, .int .i64 s.af.length, .int .i64 s.wait.length])∧Goes (keepA P wp s) w F w2:=by have o1:=bK.only;obtain⟨F1,⟨x,hx⟩⟩:=bK.facts;refine⟨x,bg (dC hx).1, ?_⟩;obtain⟨_,G,_,hG,_,_⟩:=hx;refine(P.look x n s w1 G (aw hb o1.size) (ho.trans (o1.toBelow hF hb)) hv hn hG).mono ?_;rintro e w2⟨rfl,bN⟩;exact⟨rfl,bK.below bN⟩
end
end KpQ
namespace KpQ
open Go.RowKit aM Mc Mr Lw bJ
variable{N j:Nat}{ev:Nat->EvQ}
structure Way(o:uF)(N:Nat)(ev:Nat->EvQ):Prop where
 fine:o.fine=true
 run:runOk (St.init o) ((List.range N).map ev)=true
 len:N<=100000
def wayS(o:uF)(N:Nat)(ev:Nat->EvQ)(k:Nat):St:=stAt (St.init o) ((List.range N).map ev) k
def wayB(o:uF)(N:Nat)(ev:Nat->EvQ):Bool:=o.fine &&runOk (St.init o) ((List.range N).map ev)
theorem way_of{o:uF}(h:wayB o N ev=true)(hN:N<=100000):Way o N ev:=by unfold wayB at h;simp only[bZ]at h;exact⟨h.1,h.2,hN⟩
def lookIs(s:St)(a b c d:Nat):Bool:=s.now==(a:Int) &&s.queued==b &&s.af.length==c &&s.wait.length==d
theorem look_eq{s:St}{a b c d:Nat}(h:lookIs s a b c d=true):s.now=a∧s.queued=b∧s.af.length=c∧s.wait.length=d:=by unfold lookIs at h;simp only[bZ,beq_iff_eq]at h;exact⟨h.1.1.1,h.1.1.2,h.1.2,h.2⟩
theorem way_len(N:Nat)(ev:Nat->EvQ):((List.range N).map ev).length=N:=by rw[bf,List.length_range]
theorem way_at(h:j<((List.range N).map ev).length):((List.range N).map ev)[j]'h=ev j:=by simp only[List.getElem_map,List.getElem_range]
theorem wayS_zero(o:uF)(N:Nat)(ev:Nat->EvQ):wayS o N ev 0=St.init o:=stAt_zero _ _
theorem Way.good{o:uF}(W:Way o N ev)(hj:j<=N):Mc.Good j (wayS o N ev j):=by have hlen:=way_len N ev;have:=run_good _ _ W.run (Mc.Good.start W.fine) j (by omega);rw[Nat.zero_add]at this;exact this
theorem Way.step{o:uF}(W:Way o N ev)(hj:j<N):(ev j).ok=true∧((ev j).next (wayS o N ev j)).out=(ev j).exp∧wayS o N ev (j+1)=((ev j).next (wayS o N ev j)).told:=by have hlen:=way_len N ev;have:=run_at _ _ W.run j (by omega);rw[way_at]at this;exact this
theorem ba_two(a b:Bs):(⟨a.toArray⟩:ByteArray)++⟨b.toArray⟩=⟨(a++b).toArray⟩:=aL.jC a b
theorem lit_two{w3 w4:World}{o o2:Obj}(hb:Below (w3.alloc o).heap.size (w3.alloc o) w4):(w4.alloc o2).heap[w3.heap.size]?=some o∧(w4.alloc o2).heap[w4.heap.size]?=some o2∧Below w3.heap.size w3 (w4.alloc o2):=by
 have hz:=hb.size;simp only[World.size_alloc]at hz;refine⟨?_,heap_alloc_new _ _, ?_⟩
 ·rw[Below.heap_alloc _ _ _ (by omega),hb.block _ (by simp only[World.size_alloc];omega)];exact heap_alloc_new _ _
 ·exact(((ah _ _).alloc (ae _) _).trans (hb.mono (by simp only[World.size_alloc];omega))).alloc (by omega) _
theorem lit_both(w3:World)(o o2:Obj):((w3.alloc o).alloc o2).heap[w3.heap.size]?=some o∧((w3.alloc o).alloc o2).heap[w3.heap.size+1]?=some o2∧Below w3.heap.size w3 ((w3.alloc o).alloc o2):=by have h:=lit_two (w3:=w3) (o:=o) (o2:=o2) (ah _ (w3.alloc o));rw[World.size_alloc]at h;exact h
theorem look_at1(w:World)(a b c d:Int):Sem.run prog (Instr.field 39 (Value.agg #[.int .i64 a, .int .i64 b, .int .i64 c, .int .i64 d]) 1) w=Result.ok (.int .i64 b) w:=by kernel_rfl
theorem look_at2(w:World)(a b c d:Int):Sem.run prog (Instr.field 39 (Value.agg #[.int .i64 a, .int .i64 b, .int .i64 c, .int .i64 d]) 2) w=Result.ok (.int .i64 c) w:=by kernel_rfl
theorem look_at3(w:World)(a b c d:Int):Sem.run prog (Instr.field 39 (Value.agg #[.int .i64 a, .int .i64 b, .int .i64 c, .int .i64 d]) 3) w=Result.ok (.int .i64 d) w:=by kernel_rfl
section
variable{base:Nat}{dz:World}
theorem Way.tell(P:uO base dz)(wp:Nat){o:uF}{N:Nat}{ev:Nat->EvQ}(W:Way o N ev){j:Nat}(hj:j<N){c:Int}{t:ByteArray}{x:List (Int×Bs)}(ht:ev j=⟨.tell c t.data.toList,x⟩){w w1:World}{F:Ft}(hb:base<=w.heap.size)(ho:Below base dz w)(hF: ∀q,F q->base<=q)(bK:Goes (keepA P wp (wayS o N ev j)) w F w1):Calls prog 23 #[.pointer (some ⟨wp,0,none⟩), .int .i64 c, .string t] w1 fun e w2=> ∃v,e= .returned v∧Goes (aa (iB v x) (keepA P wp (wayS o N ev (j+1)))) w F w2:=by have hlen:=way_len N ev;have hN:=W.len;have h:=run_tell P wp W.run (Mc.Good.start W.fine) (by omega) (k:=j) (by omega) (c:=c) (t:=t) (by rw[way_at,ht]) w w1 F hb ho hF bK;rw[way_at,ht]at h;exact h
theorem out_nil{P:uO base dz}{wp:Nat}{s:St}{v:Value}{w w2:World}{F:Ft}(h:Goes (aa (iB v []) (keepA P wp s)) w F w2): ∃ao cap,v= .slice ao 0 cap∧Goes (keepA P wp s) w F w2:=by obtain⟨GvQ,_,hGv,_,_,_,_⟩:=h.pieces;obtain⟨ao,cap,hve,_,_⟩:=row_form' hGv;exact⟨ao,cap,hve,(h.eq (cA _ _)).drop⟩
theorem out_len{P:uO base dz}{wp:Nat}{s:St}{v:Value}{x:List (Int×Bs)}{w w2:World}{F:Ft}(h:Goes (aa (iB v x) (keepA P wp s)) w F w2): ∃ao cap,v= .slice ao x.length cap∧Goes (keepA P wp s) w F w2:=by obtain⟨GvQ,_,hGv,_,_,_,_⟩:=h.pieces;obtain⟨ao,cap,hve,_,_⟩:=row_form' hGv;exact⟨ao,cap,hve,(h.eq (cA _ _)).drop⟩
theorem Way.mute(P:uO base dz)(wp:Nat){o:uF}{N:Nat}{ev:Nat->EvQ}(W:Way o N ev){j:Nat}(hj:j<N){c:Int}{t:ByteArray}(ht:ev j=⟨.tell c t.data.toList, []⟩){w w1:World}{F:Ft}(hb:base<=w.heap.size)(ho:Below base dz w)(hF: ∀q,F q->base<=q)(bK:Goes (keepA P wp (wayS o N ev j)) w F w1):Calls prog 23 #[.pointer (some ⟨wp,0,none⟩), .int .i64 c, .string t] w1 fun e w2=> ∃ao cap,e= .returned (.slice ao 0 cap)∧Goes (keepA P wp (wayS o N ev (j+1))) w F w2:=
 (W.tell P wp hj ht hb ho hF bK).mono fun e w2 ⟨v,he,hg⟩=>by obtain⟨ao,cap,rfl,h⟩:=out_nil hg;exact⟨ao,cap,he,h⟩
theorem keep_call(P:uO base dz)(wp:Nat){s s':St}{f:FuncId}{args:Value->Array Value}{w w1:World}{F:Ft}(hb:base<=w.heap.size)(ho:Below base dz w)(hF: ∀q,F q->base<=q)(bK:Goes (keepA P wp s) w F w1)(hc: ∀x G,base<=w1.heap.size->Below base dz w1->(P.A x s).holds w1 G->Calls prog f (args (.pointer (some ⟨x,0,none⟩))) w1 (RU (P.A x) s' w1 G)): ∃x,w1.cell? ⟨wp,0,none⟩=some (.pointer (some ⟨x,0,none⟩))∧Calls prog f (args (.pointer (some ⟨x,0,none⟩))) w1 fun e w2=> ∃v,e= .returned v∧Goes (aa (iB v s'.out) (keepA P wp s'.told)) w F w2:=by obtain⟨F1,⟨x,hx⟩,o1,n1⟩:=bK;refine⟨x,bg (dC hx).1, ?_⟩;have hg0:=(Goes.refl hx).eq (cA _ _);refine mB (C:=fun e wa G wb=>RU (P.A x) s' wa G e wb) hg0 (fun G hG=>hc x G (aw hb o1.size) (ho.trans (o1.toBelow hF hb)) hG) ?_;rintro e dV G N3⟨v,rfl,hg⟩;have h1:=N3 _ hg;have h2:Goes (aa (iB v s'.out) (aa (blk wp (.cells #[.pointer (some ⟨x,0,none⟩)] 42 (0,0))) (P.A x s'.told))) w1 F1 dV:=h1.eq (by ac_rfl);refine⟨v,rfl,A4 (A:=keepA P wp s) ⟨x,hx⟩ o1 n1 (h2.mono fun F' dR=> ?_)⟩;obtain⟨G1,G2,a1,a2,d,e⟩:=dR;exact⟨G1,G2,a1,⟨x,a2⟩,d,e⟩
theorem Way.tick(P:uO base dz)(wp:Nat){o:uF}{N:Nat}{ev:Nat->EvQ}(W:Way o N ev){j:Nat}(hj:j<N){x:List (Int×Bs)}(ht:ev j=⟨.tick,x⟩){w w1:World}{F:Ft}(hb:base<=w.heap.size)(ho:Below base dz w)(hF: ∀q,F q->base<=q)(bK:Goes (keepA P wp (wayS o N ev j)) w F w1): ∃y,w1.cell? ⟨wp,0,none⟩=some (.pointer (some ⟨y,0,none⟩))∧Calls prog 26 #[.pointer (some ⟨y,0,none⟩)] w1 fun e w2=> ∃v,e= .returned v∧Goes (aa (iB v x) (keepA P wp (wayS o N ev (j+1)))) w F w2:=by have hN:=W.len;have hg:=W.good (j:=j) (by omega);obtain⟨_,h2,h3⟩:=W.step hj;rw[ht]at h2 h3;obtain⟨y,hy,hc⟩:=keep_call P wp (s':=(wayS o N ev j).tick) (f:=26) (args:=fun a=> #[a]) hb ho hF bK (fun x G b1 b2 hG=>P.tick x j _ w1 G b1 b2 hg (by omega) hG);refine⟨y,hy,hc.mono fun e w2 ⟨v,he,hv⟩=>⟨v,he, ?_⟩⟩;have e1:(wayS o N ev j).tick.out=x:=h2;have e2:wayS o N ev (j+1)=(wayS o N ev j).tick.told:=h3;rw[e1,<-e2]at hv;exact hv
theorem Way.close(P:uO base dz)(wp:Nat){o:uF}{N:Nat}{ev:Nat->EvQ}(W:Way o N ev){j:Nat}(hj:j<N){c:Int}{x:List (Int×Bs)}(ht:ev j=⟨.close c,x⟩){w w1:World}{F:Ft}(hb:base<=w.heap.size)(ho:Below base dz w)(hF: ∀q,F q->base<=q)(bK:Goes (keepA P wp (wayS o N ev j)) w F w1): ∃y,w1.cell? ⟨wp,0,none⟩=some (.pointer (some ⟨y,0,none⟩))∧Calls prog 27 #[.pointer (some ⟨y,0,none⟩), .int .i64 c] w1 fun e w2=> ∃v,e= .returned v∧Goes (aa (iB v x) (keepA P wp (wayS o N ev (j+1)))) w F w2:=by have hN:=W.len;have hg:=W.good (j:=j) (by omega);obtain⟨h1,h2,h3⟩:=W.step hj;rw[ht]at h1 h2 h3;unfold EvQ.ok at h1;simp only[bZ,decide_eq_true_eq]at h1;obtain⟨y,hy,hc⟩:=keep_call P wp (s':=(wayS o N ev j).close c) (f:=27) (args:=fun a=> #[a, .int .i64 c]) hb ho hF bK (fun x G b1 b2 hG=>P.close x c j _ w1 G b1 b2 h1 hg (by omega) hG);refine⟨y,hy,hc.mono fun e w2 ⟨v,he,hv⟩=>⟨v,he, ?_⟩⟩;have e1:((wayS o N ev j).close c).out=x:=h2;have e2:wayS o N ev (j+1)=((wayS o N ev j).close c).told:=h3;rw[e1,<-e2]at hv;exact hv
theorem Way.look(P:uO base dz)(wp:Nat){o:uF}{N:Nat}{ev:Nat->EvQ}(W:Way o N ev){j:Nat}(hj:j<=N){a b c d:Nat}(hl:lookIs (wayS o N ev j) a b c d=true){w w1:World}{F:Ft}(hb:base<=w.heap.size)(ho:Below base dz w)(hF: ∀q,F q->base<=q)(bK:Goes (keepA P wp (wayS o N ev j)) w F w1): ∃y,w1.cell? ⟨wp,0,none⟩=some (.pointer (some ⟨y,0,none⟩))∧Calls prog 25 #[.pointer (some ⟨y,0,none⟩)] w1 fun e w2=>e= .returned (.agg #[.int .i64 a, .int .i64 b, .int .i64 c, .int .i64 d])∧Goes (keepA P wp (wayS o N ev j)) w F w2:=by have hN:=W.len;have h:=keep_look P wp _ (W.good hj) (by omega) hb ho hF bK;obtain⟨l1,l2,l3,l4⟩:=look_eq hl;rw[l1,l2,l3,l4]at h;exact h
theorem is_both(P:uO base dz)(wp:Nat)(s:St){v:Value}{l:List (Int×Bs)}{w w1:World}{F:Ft}(hb:base<=w.heap.size)(ho:Below base dz w)(hF: ∀q,F q->base<=q)(bK:Goes (aa (iB v l) (keepA P wp s)) w F w1)(ht: ∀x∈l,x.2.length<=1048576){n:Nat}(hn:l.length=n)(hm:n<=1000){cs ts:Array Value}(hc:(l.map fun x=>Value.int .i64 x.1).toArray=cs)(hs:(l.map fun x=>Value.string ⟨x.2.toArray⟩).toArray=ts):Calls prog 22 #[v, .slice (some ⟨w1.heap.size,0,none⟩) n n, .slice (some ⟨w1.heap.size+1,0,none⟩) n n] ((w1.alloc (.cells cs 3)).alloc (.cells ts 9)) fun e w3=>e= .returned (.bool true)∧Goes (keepA P wp s) w F w3:=by subst hc hs;obtain⟨h1,h2,h3⟩:=lit_both w1 (.cells (l.map fun x=>Value.int .i64 x.1).toArray 3) (.cells (l.map fun x=>Value.string ⟨x.2.toArray⟩).toArray 9);exact is_lit P wp s hb ho hF bK h3 ht hn hm h1 h2
end
def tSub7:Bs:= [115,117,98,32,55,32,116,32,120]
def tAcc7:Bs:= [97,99,99,32,55]
def tPull:Bs:= [112,117,108,108]
def tVal7:Bs:= [118,97,108,32,55,32,121]
def tRun7(n:Int):Bs:= [114,117,110,32,55,32]++cJ n++ [32,116,32,120]
def tStop7(n:Int):Bs:= [115,116,111,112,32,55,32]++cJ n
def tDone7(n:Int)(x:UInt8):Bs:= [100,111,110,101,32,55,32]++cJ n++ [32,x]
def hedEv(H a j:Nat):EvQ:=
 if j=0 then⟨.tell 1 tSub7, [(1,tAcc7)]⟩
 else if j=1 then⟨.tell 2 tPull, [(2, [114,117,110,32,55,32,49,32,116,32,120])]⟩
 else if j=2 then⟨.tell 3 tPull, []⟩
 else if j<H+2 then⟨.tick, []⟩
 else if j=H+2 then⟨.tick, [(3, [114,117,110,32,55,32,50,32,116,32,120])]⟩
 else if j=H+3 then⟨.tell 4 tPull, []⟩
 else if j=H+4 then⟨.tick, []⟩
 else if j=H+5 then⟨.tell (2+(a:Int)) (tDone7 (1+(a:Int)) 121), [(1,tVal7),(3-(a:Int),tStop7 (2-(a:Int)))]⟩
 else⟨.tell (3-(a:Int)) (tDone7 (2-(a:Int)) 122), []⟩
def hedCfg(H:Nat):uF:=⟨20,0,2,1,H⟩
theorem hed_all: ∀h:Fin 9,∀a:Fin 2,(wayB (hedCfg (1+h.val)) (1+h.val+7) (hedEv (1+h.val) a.val) &&lookIs (wayS (hedCfg (1+h.val)) (1+h.val+7) (hedEv (1+h.val) a.val) (1+h.val+6)) (1+h.val+1) 0 0 1)=true:=by decide+kernel
theorem hed_ok{h a:Nat}(hh:h<9)(ha:a<2):Way (hedCfg (1+h)) (1+h+7) (hedEv (1+h) a)∧lookIs (wayS (hedCfg (1+h)) (1+h+7) (hedEv (1+h) a) (1+h+6)) (1+h+1) 0 0 1=true:=by have h:=hed_all ⟨h,hh⟩ ⟨a,ha⟩;simp only[bZ]at h;exact⟨way_of h.1 (by omega),h.2⟩
structure Stp(s:St)(e:EvQ)(s':St):Prop where
 ok:e.ok=true
 out:(e.next s).out=e.exp
 told:(e.next s).told=s'
theorem ok_x{a:Act1}(x:List (Int×Bs))(h:(⟨a, []⟩:EvQ).ok=true):(⟨a,x⟩:EvQ).ok=true:=by cases a<;>exact h
theorem Way.stp{o:uF}{N:Nat}{ev:Nat->EvQ}(W:Way o N ev){j:Nat}(hj:j<N){e:EvQ}(h:ev j=e):Stp (wayS o N ev j) e (wayS o N ev (j+1)):=by subst h;obtain⟨h1,h2,h3⟩:=W.step hj;exact⟨h1,h2,h3.symm⟩
section
variable{w:World}{P:uO w.heap.size w}{wp n:Nat}{s s':St}{w1 w2:World}{v:Value}{x:List (Int×Bs)}{c:Int}{t:ByteArray}
def Kep(P:uO w.heap.size w)(wp n:Nat)(s:St)(w1:World):Prop:=Mc.Good n s∧Goes (keepA P wp s) w (fun _=>False) w1
def Kpv(P:uO w.heap.size w)(wp n:Nat)(s:St)(v:Value)(x:List (Int×Bs))(w1:World):Prop:=Mc.Good n s∧Goes (aa (iB v x) (keepA P wp s)) w (fun _=>False) w1
theorem no_ft{b:Nat}: ∀q,(fun _=>False:Ft) q->b<=q:=fun _ h=>h.elim
theorem Kep.le{m:Nat}(h:Kep P wp n s w1)(hm:n<=m):Kep P wp m s w1:=⟨h.1.le hm,h.2⟩
theorem Kep.below(h:Kep P wp n s w1)(hb:Below w1.heap.size w1 w2):Kep P wp n s w2:=⟨h.1,h.2.below hb⟩
theorem Kep.toBelow(h:Kep P wp n s w1):Below w.heap.size w w1:=h.2.toBelow
theorem Kpv.drop(h:Kpv P wp n s v x w1):Kep P wp n s w1:=⟨h.1,(h.2.eq (cA _ _)).drop⟩
theorem Kpv.len(h:Kpv P wp n s v x w1): ∃ao cap,v= .slice ao x.length cap∧Kep P wp n s w1:=by obtain⟨ao,cap,e,hg⟩:=out_len h.2;exact⟨ao,cap,e,h.1,hg⟩
theorem Stp.good{e:EvQ}(st:Stp s e s')(h:Mc.Good n s):Mc.Good (n+1) s':=by rw[<-st.told];exact(next_good h e st.ok).told
theorem Kep.tell(h:Kep P wp n s w1)(st:Stp s ⟨.tell c t.data.toList,x⟩ s')(hn:n<=100000):Calls prog 23 #[.pointer (some ⟨wp,0,none⟩), .int .i64 c, .string t] w1 fun e w2=> ∃v,e= .returned v∧Kpv P wp (n+1) s' v x w2:=by
 have h1:=st.ok;unfold EvQ.ok at h1;simp only[bZ,decide_eq_true_eq]at h1;obtain⟨⟨⟨h4,h5⟩,h6⟩,h7⟩:=h1;have cg:t.size<=4096:=by simpa using h5
 obtain⟨F1,cd,o1,n1⟩:=h.2;refine(mL P wp c t ⟨h6,h7⟩ s h.1 (by omega) (by omega) w1 F1 o1.size (o1.toBelow no_ft (ae _)) cd).mono ?_;rintro en w2⟨v,rfl,ld⟩;refine⟨v,rfl,st.good h.1, ?_⟩;have h8:=A4 cd o1 n1 ld;have h9:(KpQ.tell s c t.data.toList).out=x:=st.out;have h10:(KpQ.tell s c t.data.toList).told=s':=st.told;rw[h9,h10]at h8;exact h8
theorem Kep.mute(h:Kep P wp n s w1)(st:Stp s ⟨.tell c t.data.toList, []⟩ s')(hn:n<=100000):Calls prog 23 #[.pointer (some ⟨wp,0,none⟩), .int .i64 c, .string t] w1 fun e w2=> ∃ao cap,e= .returned (.slice ao 0 cap)∧Kep P wp (n+1) s' w2:=
 (h.tell st hn).mono fun e w2 ⟨v,he,hg⟩=>by obtain⟨ao,cap,rfl,h⟩:=hg.len;exact⟨ao,cap,he,h⟩
theorem Kep.tick(h:Kep P wp n s w1)(st:Stp s ⟨.tick,x⟩ s')(hn:n<=100000): ∃y,w1.cell? ⟨wp,0,none⟩=some (.pointer (some ⟨y,0,none⟩))∧Calls prog 26 #[.pointer (some ⟨y,0,none⟩)] w1 fun e w2=> ∃v,e= .returned v∧Kpv P wp (n+1) s' v x w2:=by obtain⟨y,hy,hc⟩:=keep_call P wp (s':=s.tick) (f:=26) (args:=fun a=> #[a]) (ae _) (ah _ _) no_ft h.2 (fun x G b1 b2 hG=>P.tick x n _ w1 G b1 b2 h.1 (by omega) hG);refine⟨y,hy,hc.mono fun e w2 ⟨v,he,hv⟩=>⟨v,he,st.good h.1, ?_⟩⟩;have e1:s.tick.out=x:=st.out;have e2:s.tick.told=s':=st.told;rw[e1,e2]at hv;exact hv
theorem Kep.tmute(h:Kep P wp n s w1)(st:Stp s ⟨.tick, []⟩ s')(hn:n<=100000): ∃y,w1.cell? ⟨wp,0,none⟩=some (.pointer (some ⟨y,0,none⟩))∧Calls prog 26 #[.pointer (some ⟨y,0,none⟩)] w1 fun e w2=> ∃ao cap,e= .returned (.slice ao 0 cap)∧Kep P wp (n+1) s' w2:=by obtain⟨y,hy,hc⟩:=h.tick st hn;refine⟨y,hy,hc.mono fun e w2 ⟨v,he,hg⟩=> ?_⟩;obtain⟨ao,cap,rfl,h⟩:=hg.len;exact⟨ao,cap,he,h⟩
theorem Kep.close(h:Kep P wp n s w1)(st:Stp s ⟨.close c,x⟩ s')(hn:n<=100000): ∃y,w1.cell? ⟨wp,0,none⟩=some (.pointer (some ⟨y,0,none⟩))∧Calls prog 27 #[.pointer (some ⟨y,0,none⟩), .int .i64 c] w1 fun e w2=> ∃v,e= .returned v∧Kpv P wp (n+1) s' v x w2:=by have h1:=st.ok;unfold EvQ.ok at h1;simp only[bZ,decide_eq_true_eq]at h1;obtain⟨y,hy,hc⟩:=keep_call P wp (s':=s.close c) (f:=27) (args:=fun a=> #[a, .int .i64 c]) (ae _) (ah _ _) no_ft h.2 (fun x G b1 b2 hG=>P.close x c n _ w1 G b1 b2 h1 h.1 (by omega) hG);refine⟨y,hy,hc.mono fun e w2 ⟨v,he,hv⟩=>⟨v,he,st.good h.1, ?_⟩⟩;have e1:(s.close c).out=x:=st.out;have e2:(s.close c).told=s':=st.told;rw[e1,e2]at hv;exact hv
theorem Kep.look(h:Kep P wp n s w1){z:Int}{b c d:Nat}(h1:s.now=z)(h2:s.queued=b)(h3:s.af.length=c)(h4:s.wait.length=d)(hn:n<=100000): ∃y,w1.cell? ⟨wp,0,none⟩=some (.pointer (some ⟨y,0,none⟩))∧Calls prog 25 #[.pointer (some ⟨y,0,none⟩)] w1 fun e w2=>e= .returned (.agg #[.int .i64 z, .int .i64 (b:Int), .int .i64 (c:Int), .int .i64 (d:Int)])∧Kep P wp n s w2:=by obtain⟨y,hy,hc⟩:=keep_look P wp s h.1 (by omega) (ae _) (ah _ _) no_ft h.2;rw[h1,h2,h3,h4]at hc;exact⟨y,hy,hc.mono fun _ _ ⟨he,hg⟩=>⟨he,h.1,hg⟩⟩
theorem Kpv.both(h:Kpv P wp n s v x w1)(ht: ∀y∈x,y.2.length<=1048576){k:Nat}(hn:x.length=k)(hm:k<=1000){cs ts:Array Value}(hc:(x.map fun y=>Value.int .i64 y.1).toArray=cs)(hs:(x.map fun y=>Value.string ⟨y.2.toArray⟩).toArray=ts):Calls prog 22 #[v, .slice (some ⟨w1.heap.size,0,none⟩) k k, .slice (some ⟨w1.heap.size+1,0,none⟩) k k] ((w1.alloc (.cells cs 3)).alloc (.cells ts 9)) fun e w3=>e= .returned (.bool true)∧Kep P wp n s w3:=
 (is_both P wp s (ae _) (ah _ _) no_ft h.2 ht hn hm hc hs).mono fun _ _ ⟨he,hg⟩=>⟨he,h.1,hg⟩
theorem Kpv.lit(h:Kpv P wp n s v x w1){cs ts:Array Value}(hb:Below (w1.alloc (.cells cs 3)).heap.size (w1.alloc (.cells cs 3)) w2)(ht: ∀y∈x,y.2.length<=1048576){k:Nat}(hn:x.length=k)(hm:k<=1000)(hc:(x.map fun y=>Value.int .i64 y.1).toArray=cs)(hs:(x.map fun y=>Value.string ⟨y.2.toArray⟩).toArray=ts):Calls prog 22 #[v, .slice (some ⟨w1.heap.size,0,none⟩) k k, .slice (some ⟨w2.heap.size,0,none⟩) k k] (w2.alloc (.cells ts 9)) fun e w3=>e= .returned (.bool true)∧Kep P wp n s w3:=by subst hc hs;obtain⟨h1,h2,h3⟩:=lit_two (o2:= .cells (x.map fun y=>Value.string ⟨y.2.toArray⟩).toArray 9) hb;exact(is_lit P wp s (ae _) (ah _ _) no_ft h.2 h3 ht hn hm h1 h2).mono fun _ _ ⟨he,hg⟩=>⟨he,h.1,hg⟩
theorem begin_kep(P:uO w.heap.size w)(o:uF)(hf:o.fine=true):Calls prog 21 #[Ds o] w fun e w1=> ∃wp,e= .returned (.tuple #[.pointer (some ⟨wp,0,none⟩), .bool true])∧Kep P wp 0 (St.init o) w1:=
 (Lm P o hf w (ae _) (ah _ _)).mono fun _ _ ⟨wp,he,hg⟩=>⟨wp,he,Mc.Good.start hf,hg⟩
theorem fig_lens(a:Bs)(k:Int)(b:Bs)(ha:a.length<=1000)(hb:b.length<=1000):(a++cJ k++b).length<=1048576:=by have:=fh k;rw[aN,aN];omega
theorem one_le{c:Int}{b:Bs}(h:b.length<=1048576): ∀y∈ [(c,b)],y.2.length<=1048576:=by intro y hy;simp only[List.mem_cons,List.mem_nil_iff,or_false]at hy;subst hy;exact h
theorem two_le{c d:Int}{a b:Bs}(h:a.length<=1048576)(h2:b.length<=1048576): ∀y∈ [(c,a),(d,b)],y.2.length<=1048576:=by
 intro y hy;simp only[List.mem_cons,List.mem_nil_iff,or_false]at hy;rcases hy with rfl|rfl
 ·exact h
 ·exact h2
