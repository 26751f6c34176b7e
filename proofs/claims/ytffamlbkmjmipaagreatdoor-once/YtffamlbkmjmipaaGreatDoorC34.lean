import Derived.Test.YtffamlbkmjmipaaGreatDoorC27
import Derived.Test.YtffamlbkmjmipaaGreatDoorC32
import Derived.Test.YtffamlbkmjmipaaGreatDoorC33
set_option maxHeartbeats 8000000
set_option maxRecDepth 100000
namespace Go.Proofs.YtffamlbkmjmipaaGreatDoor
open _root_.Go.Proofs.Tryz
namespace Pj
open Go.RowKit aJ Mc bG
attribute [local go_sem] ae ag
variable{cn:List (Int×Nat×Bs)}{s:St}
def lR(s:St)(c:Int):St:={s.idle c with aq:=(s.idle c).aq.filter (·.n !=c)}
theorem Cy{j:Js}(h:gO j=cn)(c:Int):gO {j with bu:=j.bu.filter (fun k=>k.n !=c)}=cn.filter fun k=>decide (k.1≠c):=by subst h;unfold gO;dsimp only;rw[Iy,List.filter_map];rfl
theorem Sd.forget{n:Nat}(h:Sd n s)(c:Int):Sd n (lR s c):=by have hi:=St.jr h.inv c;refine⟨⟨hi.rid,hi.bF,hi.ring,hi.fu,hi.once,(List.filter_sublist.map _).nodup hi.cn,hi.wt⟩,(h.ok.idle c).less _, ?_,(h.bd.idle c).aq _⟩;have h1:=h.sz;have h2:=St.vz (s:=s) c;unfold lR St.sz at*;have h3:((s.idle c).aq.filter (·.n !=c)).length<=(s.idle c).aq.length:=List.length_filter_le ..;dsimp only at*;omega
theorem F0{base x tb:Nat}{g:Gh}{w:World}{F:Ft}(T:Tabs base w)(h:(stA base x tb g cn s).holds w F)(hi:Inv s)(hz:s.sz<=16777000)(c:Int)(hc:I6 c):Calls prog 43 #[pt x, .int .i64 c] w fun e w'=>e= .returned (.tuple #[])∧Goes (stA base x tb g (cn.filter fun k=>decide (k.1≠c)) (lR s c)) w F w':=by
 obtain⟨j,r1,r2,r3,hF,hh⟩:=h;have wf:=dJ r1 hi hz;obtain⟨cm,w2,c6,wD,hg⟩:=Di hh c hc 0;have abp:(Builtin.delete_ #[81,3] 0 #[.map (some cm), .int .i64 c]).run prog w= .ok (.tuple #[]) w2:=wD;have HID:Hid (Calls prog 73 #[pt x, .int .i64 c] w2 fun e w'=>e= .returned (.tuple #[])∧Goes (stA base x tb g (cn.filter fun k=>decide (k.1≠c)) (lR s c)) w F w'):=by
  show Calls _ _ _ _ _;obtain⟨F1,bU,o1,n1⟩:=hg;refine(Bf bU wf.b3 c).mono ?_;rintro e w'⟨rfl,iD⟩;refine⟨rfl, ?_⟩;have g4:=aC o1 n1 iD;have R:=(r1.idle c).forget c;have hpn:j.pull.Nodup:=by rw[r1.pull];exact hi.wt
  refine gj (s':=lR s c) T hF R ⟨r2.1,fun y hy=>r2.2 y (aL.1 hy).1⟩ (Cy (j:={j with pull:=j.pull.filter (· !=c)}) r3 c) ?_;rw[<-erase_filter hpn c];exact g4
 clear hh wf r1 r2 r3 hg wD;unfold pt at*;go_enter func43,ntmps43;go_wp2_with (first
  |(go_at_call 73;go_must(refine HID.out.mono ?_;rintro e w3⟨rfl,iD⟩;have HG:=hide iD;clear iD)))
 go_end0;exact⟨rfl,HG.out⟩
end Pj
namespace Kp
open Go.RowKit aJ Mc Mr Lw bG
attribute [local go_sem] aG.ae aG.ag
section
variable{base:Nat}{cg:World}
def keepA(P:oc base cg)(wp:Nat)(s:St):aJ:=ex fun x=>aa (blk wp (.cells #[.pointer (some ⟨x,0,none⟩)] 42 (0,0))) (P.A x s)
def EL(P:oc base cg)(o:pz)(w:World)(e:Ending)(w':World):Prop:= ∃wp,e= .returned (.tuple #[.pointer (some ⟨wp,0,none⟩), .bool true])∧Goes (keepA P wp (St.init o)) w (fun _=>False) w'
theorem s7(P:oc base cg)(o:pz)(hf:o.fine=true)(w:World)(hb:base<=w.heap.size)(ho:Below base cg w):Calls prog 21 #[AU o] w (EL P o w):=by
 have hr:I64 o.le∧I64 o.re∧I64 o.ca∧I64 o.bo∧I64 o.he:=by have hf':=hf;unfold pz.fine at hf';simp only[bm,decide_eq_true_eq]at hf';unfold I64;omega
 have HN:Hid (∀w',Below w.heap.size w w'->Calls prog 35 #[AU o] w' fun e yP=> ∃x,e= .returned (.tuple #[.pointer (some ⟨x,0,none⟩), .int .i64 0])∧Goes (P.A x (St.init o)) w' (fun _=>False) yP):=fun w' iI=>by
  refine(P.new o w' (ar hb iI.size) (ho.trans (iI.mono hb)) hr.1 hr.2.1 hr.2.2.1 hr.2.2.2.1 hr.2.2.2.2).mono ?_;rintro e yP(⟨h,_⟩|⟨_,h⟩)
  ·rw[hf]at h;cases h
  ·exact h
 clear hr hf;unfold AU at*;obtain⟨le,re,ca,bo,he⟩:=o;dsimp only at*;go_enter func21,ntmps21;go_wp2_with fail;refine(HN.out _ ((au _ _).alloc (af _) _)).mono ?_;rintro e w1⟨x,rfl,hg⟩;have HX:Hid (EL P ⟨le,re,ca,bo,he⟩ w (.returned (.tuple #[.pointer (some ⟨w1.heap.size,0,none⟩), .bool true])) (w1.alloc (.cells #[.pointer (some ⟨x,0,none⟩)] 42))):=⟨_,rfl,Goes.ex x ((CW hg ((au _ _).alloc (af _) _)).alloc _)⟩;clear hg HN;go_wp2
 go_ret2
 exact HX.out
end
def tell(s:St)(c:Int)(t:Bs):St:=s.feed c (aG.line t++ [10])
section
variable{base:Nat}{cg:World}
def Yq(P:oc base cg)(wp:Nat)(s:St)(w:World)(F:Ft)(e:Ending)(w':World):Prop:= ∃v,e= .returned v∧Goes (aa (gZ v s.out) (keepA P wp s.told)) w F w'
theorem nU(P:oc base cg)(wp:Nat)(c:Int)(t:ByteArray)(hc:I64 c){n:Nat}(s:St)(hv:Mc.Good n s)(ht:t.size<=1000000000000000)(hn:n+(bB 10 (aG.line t.data.toList++ [10])).length<=1299999)(w:World)(F:Ft)(hb:base<=w.heap.size)(ho:Below base cg w)(h:(keepA P wp s).holds w F):Calls prog 23 #[.pointer (some ⟨wp,0,none⟩), .int .i64 c, .string t] w (Yq P wp (tell s c t.data.toList) w F):=by
 obtain⟨x,hx⟩:=h;have hblk:=(cK hx).1;have c0:w.cell? ⟨wp,0,none⟩=some (.pointer (some ⟨x,0,none⟩)):=dC hblk;have Rn:wp<w.heap.size:=(cC.1 hblk).1;have BV:(aG.line t.data.toList).length=t.size+9:=by
  have:t.data.toList.length=t.size:=by simp
  simp[aG.line,aG.hex,aG.two]
 have yX:Hid (∀w',Below w.heap.size w w'->Calls prog 28 #[.string t] w' fun e yP=>e= .returned (.string ⟨(aG.line t.data.toList).toArray⟩)∧Below w'.heap.size w' yP):=fun w' iI=>P.sums t w' (ar hb iI.size) (ho.trans (iI.mono hb)) ht;have HK:Hid (∀w',Below w.heap.size w w'->w'.cell? ⟨wp,0,none⟩=some (.pointer (some ⟨x,0,none⟩))):=fun w' iI=>by rw[iI.cell (p:=⟨wp,0,none⟩) Rn];exact c0
 obtain⟨bb,Nx⟩: ∃bb:ByteArray,bb=⟨(aG.line t.data.toList++ [10]).toArray⟩:=⟨_,rfl⟩;have lC:bb.data.toList=aG.line t.data.toList++ [10]:=by rw[Nx]
 have hbz:bb.size<=2000000000000000:=by rw[Nx];show(aG.line t.data.toList++ [10]).toArray.size<=_;rw[List.size_toArray,aH,BV];simp only[List.length_cons,List.length_nil];omega
 have LK:Hid ((⟨(aG.line t.data.toList).toArray⟩:ByteArray)++⟨#[10]⟩=bb):=by show _=_;rw[Nx];exact aG.kL (aG.line t.data.toList) [10]
 have LS:(aG.line t.data.toList).length<=1000000000000100:=by omega
 have hfs: ¬9223372036854775807<(aG.line t.data.toList).length+1:=by omega
 have U4:Hid (∀w',Below w.heap.size w w'->Calls prog 29 #[.pointer (some ⟨x,0,none⟩), .int .i64 c, .string bb] w' fun e yP=> ∃v,e= .returned v∧Goes (aa (gZ v (tell s c t.data.toList).out) (keepA P wp (tell s c t.data.toList).told)) w F yP∧yP.cell? ⟨wp,0,none⟩=some (.pointer (some ⟨x,0,none⟩))):=fun w' iI=>by
  have BR:=((Goes.refl hx).below iI).eq (bq _ _);refine km (C:=fun e wa G wb=>LZ (P.A x) (s.feed c bb.data.toList) wa G e wb) BR (fun G hG=>P.feed x c bb n s w' G (ar hb iI.size) (ho.trans (iI.mono hb)) hc hbz hv (by rw[lC];exact hn) hG) ?_;rintro e yP G Kv⟨v,rfl,hg⟩;have h1:=Kv _ hg;rw[lC]at h1;have h2:Goes (aa (gZ v (tell s c t.data.toList).out) (aa (blk wp (.cells #[.pointer (some ⟨x,0,none⟩)] 42 (0,0))) (P.A x (tell s c t.data.toList).told))) w F yP:=h1.eq (by unfold tell;ac_rfl);refine⟨v,rfl,h2.mono fun F' pW=> ?_, ?_⟩
  ·obtain⟨G1,G2,a1,a2,d,e⟩:=pW;exact⟨G1,G2,a1,⟨x,a2⟩,d,e⟩
  ·obtain⟨_,R,_,hR,_,_,_⟩:=h2.pieces;exact dC (cK hR).1
 clear hx hblk Nx lC hbz BV;generalize aG.line t.data.toList=tx at*;generalize tell s c t.data.toList=s2 at*;go_enter func23,ntmps23;go_wp2_with fail;go_region_held3 (fun w'=>w'.cell? ⟨wp,0,none⟩=some (.pointer (some ⟨x,0,none⟩))) (go_keep)
  (first
   |(go_at_call 28;refine(yX.out _ (by first|exact(au _ _).drew|assumption)).mono ?_;rintro e w4⟨rfl,yZ⟩;have Up:=pQ (wr:=w) (by first|exact(au _ _).drew|assumption) yZ;have t1:=HK.out _ Up)
   |(go_at_call 29;rw[LK.out];refine(U4.out _ (by first|exact(au _ _).drew|assumption)).mono ?_;rintro e w5⟨v,rfl,kq,t2⟩))
 all_goals have HX:=hide kq;go_wp2;go_ret;exact⟨v,rfl,HX.out⟩
def ke(x:Bs):List Value:= [.string ⟨x.toArray⟩]
def stA(v:Value)(l:List Bs):aJ:=rowA 9 1 v l.length (flat ke l)
theorem iY{w:World}{G:Ft}{g off cap:Nat}{l:List Bs}(h:(stA (.slice (some ⟨g,off,none⟩) l.length cap) l).holds w G){k:Nat}(hk:k<l.length):w.cell? ⟨g,off+k,none⟩=some (.string ⟨(l[k]'hk).toArray⟩):=by rw[bf h k (by rw[Nat.mul_one];exact hk)];have:=vr (f:=ke) (size:=1) (fun _=>rfl) l k 0 hk (by omega);rw[Nat.mul_one,Nat.add_zero]at this;rw[this];rfl
theorem cR{w:World}{G:Ft}{e:TypeId}{z n:Nat}{v:Value}{xs:List Value}(h:(rowA e z v n xs).holds w G): ∃ao cap,v= .slice ao n cap∧n<=maxLen∧(0<n-> ∃g off,ao=some ⟨g,off,none⟩):=by obtain⟨ao,cap,e,h1,h2,h3,_⟩:=bX h;exact⟨ao,cap,e,ar h1 h2,fun hp=>by obtain⟨g,off,e,_⟩:=h3 hp;exact⟨g,off,e⟩⟩
theorem Wo(P:oc base cg)(v cv tv:Value)(l:List (Int×Bs))(w:World)(hb:base<=w.heap.size)(ho:Below base cg w)(ht: ∀x∈l,x.2.length<=1048576)(Ga Gb Gc:Ft)(ha:(gZ v l).holds w Ga)(SI:(inA cv (l.map (·.1))).holds w Gb)(htv:(stA tv (l.map (·.2))).holds w Gc):Calls prog 22 #[v,cv,tv] w fun e w'=>e= .returned (.bool true)∧Below w.heap.size w w':=by
 obtain⟨ao,ca,rfl,hm,bQ⟩:=cR ha;obtain⟨bo,cb,hbe,_,J9⟩:=cR SI;obtain⟨co,cc,VN,_,hco⟩:=cR htv;rw[aF]at hbe VN J9 hco;subst hbe VN;have hl:l.length<=9223372036854775807:=by unfold maxLen at hm;omega
 have HA:=hide bQ;have HB:=hide J9;have HC:=hide hco;have HRA:=hide ha;have HRB:=hide SI;have HRC:=hide htv;have HT:=hide ht;have HO:=hide ho;clear bQ J9 hco ha SI htv ht hm ho;go_enter func22,ntmps22;go_wp2;go_loopw [15] (fun i wr=> ∃k:Nat,k<=l.length∧i= .int .i64 k∧Below w.heap.size w wr) (fun i _=>l.length-(intOf i).toNat)
 case atStart=>exact⟨0,bh _,rfl,au _ _⟩
 case round=>
  obtain⟨k,hk,rfl,hB⟩:=hrel;by_cases aN:k<l.length
  ·obtain⟨ga,DL,rfl⟩:=HA.out (by omega);obtain⟨gb,Tx,rfl⟩:=HB.out (by omega);obtain⟨gc,Ty,rfl⟩:=HC.out (by omega);have XA:=aI HRA.out hB;have LU:=aI HRB.out hB;have Wb:=aI HRC.out hB;rw[UW]at XA;have IV:(l.map fun x=>(x.1,aG.line x.2)).length=l.length:=aF _;have rJ:(l.map (·.1)).length=l.length:=aF _;have qb:(l.map (·.2)).length=l.length:=aF _;rw[<-IV]at XA;rw[<-rJ]at LU;rw[<-qb]at Wb;obtain⟨Vg,Vh⟩:=DU XA (k:=k) (by omega);have b1':=Bj LU (k:=k) (by omega);have Vu:=iY Wb (k:=k) (by omega);rw[List.getElem_map]at Vg Vh b1' Vu;have a1:wr.cell? ⟨ga,DL+k*2,none⟩=some (.int .i64 (l[k]'aN).1):=Vg;have a2:wr.cell? ⟨ga,DL+k*2+1,none⟩=some (.string ⟨(aG.line (l[k]'aN).2).toArray⟩):=Vh;have b1:wr.cell? ⟨gb,Tx+k,none⟩=some (.int .i64 (l[k]'aN).1):=b1';have c1:wr.cell? ⟨gc,Ty+k,none⟩=some (.string ⟨(l[k]'aN).2.toArray⟩):=Vu;clear Vg Vh b1' Vu;have Xs:=(mf XA).1;have hgb:=(mf LU).1;have hgc:=(mf Wb).1;rw[IV]at XA;have yX:Hid (∀w',Below wr.heap.size wr w'->Calls prog 28 #[.string ⟨(l[k]'aN).2.toArray⟩] w' fun e yP=>e= .returned (.string ⟨(aG.line (l[k]'aN).2).toArray⟩)∧Below w'.heap.size w' yP):=fun w' iI=>
    P.sums ⟨(l[k]'aN).2.toArray⟩ w' (ar (ar hb hB.size) iI.size) ((HO.out.trans (hB.mono hb)).trans (iI.mono (ar hb hB.size))) (ar (HT.out _ (bS aN)) (by decide))
   have HK:Hid (∀w',Below wr.heap.size wr w'->w'.cell? ⟨ga,DL+k*2,none⟩=some (.int .i64 (l[k]'aN).1)∧w'.cell? ⟨ga,DL+k*2+1,none⟩=some (.string ⟨(aG.line (l[k]'aN).2).toArray⟩)∧w'.cell? ⟨gb,Tx+k,none⟩=some (.int .i64 (l[k]'aN).1)∧w'.cell? ⟨gc,Ty+k,none⟩=some (.string ⟨(l[k]'aN).2.toArray⟩)):=fun w' iI=>⟨by rw[iI.cell (p:=⟨ga,DL+k*2,none⟩) Xs];exact a1,by rw[iI.cell (p:=⟨ga,DL+k*2+1,none⟩) Xs];exact a2,by rw[iI.cell (p:=⟨gb,Tx+k,none⟩) hgb];exact b1,by rw[iI.cell (p:=⟨gc,Ty+k,none⟩) hgc];exact c1⟩
   have LK:=hide hB;clear XA LU Wb Xs hgb hgc IV rJ qb hB;generalize(l[k]'aN).1=lc at*;generalize(l[k]'aN).2=lt at*;generalize aG.line lt=tx at*;go_wp2_with fail;go_region_held3 (fun w'=>w'.cell? ⟨ga,DL+k*2,none⟩=some (.int .i64 lc)∧w'.cell? ⟨ga,DL+k*2+1,none⟩=some (.string ⟨tx.toArray⟩)∧w'.cell? ⟨gb,Tx+k,none⟩=some (.int .i64 lc)∧w'.cell? ⟨gc,Ty+k,none⟩=some (.string ⟨lt.toArray⟩)) (go_keep)
    (first
     |(go_at_call 28;refine(yX.out _ (by first|exact(au _ _).drew|assumption)).mono ?_;rintro e w4⟨rfl,yZ⟩;have Up:=pQ (wr:=wr) (by first|exact(au _ _).drew|assumption) yZ;obtain⟨t1,t2,t3,t4⟩:=HK.out _ Up))
   all_goals
    have HB4:=hide (LK.out.trans (Up.mono LK.out.size));go_wp2;go_roundw
    case rel=>exact⟨k+1,by omega,by go_num,HB4.out⟩
    case measure=>simp[intOf];omega
  ·go_wp2;go_ret;exact⟨rfl,hB⟩
end
end Kp
namespace Kp
open Go.RowKit aJ Mc Mr Lw bG
inductive aad where
 |tell (c:Int) (t:Bs)
 |tick
 |close (c:Int)
 |none
structure Ev where
 act:aad
 exp:List (Int×Bs)
def Ev.next(s:St):Ev->St
 |⟨.tell c t,_⟩=>tell s c t
 |⟨.tick,_⟩=>s.tick
 |⟨.close c,_⟩=>s.close c
 |⟨.none,_⟩=>s
def Ev.ok:Ev->Bool
 |⟨.tell c t,_⟩=>decide ((bB 10 (aG.line t++ [10])).length<=2) &&decide (t.length<=4096) &&decide (-9223372036854775808<=c) &&decide (c<=9223372036854775807)
 |⟨.tick,_⟩=>true
 |⟨.close c,_⟩=>decide (-9223372036854775808<=c) &&decide (c<=9223372036854775807)
 |⟨.none,_⟩=>true
def uK(s:St):List Ev->Bool
 | []=>true
 |e::l=>e.ok &&decide ((e.next s).out=e.exp) &&uK (e.next s).told l
def ve(s:St):List Ev->Nat->St
 |_,0=>s
 | [],_+1=>s
 |e::l,k+1=>ve (e.next s).told l k
theorem Lk(s:St)(l:List Ev):ve s l 0=s:=by cases l<;>rfl
theorem yH: ∀(l:List Ev) (s:St),uK s l=true-> ∀k (hk:k<l.length),(l[k]'hk).ok=true∧((l[k]'hk).next (ve s l k)).out=(l[k]'hk).exp∧ve s l (k+1)=((l[k]'hk).next (ve s l k)).told
 | [],_,_,k,hk=>by simp at hk
 |e::l,s,h,0,_=>by unfold uK at h;simp only[bm,decide_eq_true_eq]at h;refine⟨h.1.1,h.1.2, ?_⟩;show ve (e.next s).told l 0=_;cases l<;>rfl
 |e::l,s,h,k+1,hk=>by unfold uK at h;simp only[bm,decide_eq_true_eq]at h;exact yH l _ h.2 k (by simpa using hk)
theorem Ah{n:Nat}{s:St}(h:Mc.Good n s)(e:Ev)(he:e.ok=true):Mc.Good (n+1) (e.next s):=by
 obtain⟨a,x⟩:=e;cases a with
 |tell c t=>unfold Ev.ok at he;simp only[bm,decide_eq_true_eq]at he;exact h.feed c _ (af 1) he.1.1.1
 |tick=>exact h.tick
 |close c=>exact(h.close c).le (Nat.le_succ n)
 |none=>exact h.le (Nat.le_succ n)
theorem r7(l:List Ev)(s:St)(h:uK s l=true){n:Nat}(hg:Mc.Good n s): ∀k,k<=l.length->Mc.Good (n+k) (ve s l k)
 |0,_=>by cases l<;>exact hg
 |k+1,hk=>by obtain⟨h1,_,h3⟩:=yH l s h k hk;rw[h3];exact(Ah (r7 l s h hg k (by omega)) _ h1).told
section
variable{base:Nat}{cg:World}
theorem QF(P:oc base cg)(wp:Nat){l:List Ev}{s:St}(h:uK s l=true)(hg:Mc.Good 0 s)(hl:l.length<=100000){k:Nat}(hk:k<l.length){c:Int}{t:ByteArray}(ht:(l[k]'hk).act= .tell c t.data.toList)(w w1:World)(F:Ft)(hb:base<=w.heap.size)(ho:Below base cg w)(hF: ∀q,F q->base<=q)(bE:Goes (keepA P wp (ve s l k)) w F w1):Calls prog 23 #[.pointer (some ⟨wp,0,none⟩), .int .i64 c, .string t] w1 fun e w2=> ∃v,e= .returned v∧Goes (aa (gZ v (l[k]'hk).exp) (keepA P wp (ve s l (k+1)))) w F w2:=by
 obtain⟨h1,h2,h3⟩:=yH l s h k hk;have SL:=r7 l s h hg k (by omega);obtain⟨F1,bU,o1,n1⟩:=bE;rw[h3];generalize l[k]'hk=e at*;obtain⟨a,x⟩:=e;subst ht;unfold Ev.ok at h1;simp only[bm,decide_eq_true_eq]at h1;obtain⟨⟨⟨h4,h5⟩,h6⟩,h7⟩:=h1;have dc:t.size<=4096:=by simpa using h5
 refine(nU P wp c t ⟨h6,h7⟩ _ SL (by omega) (by omega) w1 F1 (ar hb o1.size) (ho.trans (o1.toBelow hF hb)) bU).mono ?_;rintro en w2⟨v,rfl,fw⟩;refine⟨v,rfl, ?_⟩;have h8:=kR bU o1 n1 fw;have h9:(tell (ve s l k) c t.data.toList).out=x:=h2;rw[h9]at h8;exact h8
end
end Kp
namespace Kp
open Go.RowKit aJ Mc Mr Lw bG
attribute [local go_sem] CA aG.ae aG.ag zP
theorem Jp{w:World}{b:Nat}{cs:Array Value}{e:TypeId}{z n:Nat}{xs:List Value}(h:w.heap[b]?=some (.cells cs e (0,0)))(hx:cs.toList=xs)(hn:xs.length=n*z)(hm:n<=maxLen):(rowA e z (.slice (some ⟨b,0,none⟩) n n) n xs).holds w (fun k=>k=b):=by
 subst hx;have dc:cs.size=n*z:=by simpa using hn
 refine⟨hn, .inr ⟨b,0,n,cs,rfl,fun _=>Iff.rfl,h,af _,hm,by omega, ?_⟩⟩;rw[List.drop_zero,List.take_of_length_le (by rw[hn];exact af _)]
theorem Su(l:List (Int×Bs)):flat jt (l.map (·.1))=l.map fun x=>Value.int .i64 x.1:=by
 induction l with
 |nil=>rfl
 |cons x l ih=>show Value.int .i64 x.1::flat jt (l.map (·.1))=_;rw[ih];rfl
theorem Sv(l:List (Int×Bs)):flat ke (l.map (·.2))=l.map fun x=>Value.string ⟨x.2.toArray⟩:=by
 induction l with
 |nil=>rfl
 |cons x l ih=>show Value.string ⟨x.2.toArray⟩::flat ke (l.map (·.2))=_;rw[ih];rfl
section
variable{base:Nat}{cg:World}
theorem N8(P:oc base cg)(wp:Nat)(s:St){v:Value}{l:List (Int×Bs)}{w w1 w2:World}{F:Ft}(hb:base<=w.heap.size)(ho:Below base cg w)(hF: ∀q,F q->base<=q)(bE:Goes (aa (gZ v l) (keepA P wp s)) w F w1)(h2:Below w1.heap.size w1 w2)(ht: ∀x∈l,x.2.length<=1048576){bc bt n:Nat}(hn:l.length=n)(hm:n<=1000)(hc:w2.heap[bc]?=some (.cells (l.map fun x=>Value.int .i64 x.1).toArray 3 (0,0)))(hs:w2.heap[bt]?=some (.cells (l.map fun x=>Value.string ⟨x.2.toArray⟩).toArray 9 (0,0))):Calls prog 22 #[v, .slice (some ⟨bc,0,none⟩) n n, .slice (some ⟨bt,0,none⟩) n n] w2 fun e w3=>e= .returned (.bool true)∧Goes (keepA P wp s) w F w3:=by
 subst hn;have fw:=bE.below h2;obtain⟨G,_,hG,_,_,_,_⟩:=fw.pieces;have o2:=fw.only;have IV:l.length<=maxLen:=by unfold maxLen;omega
 refine(Wo P v _ _ l w2 (ar hb o2.size) (ho.trans (o2.toBelow hF hb)) ht G (fun k=>k=bc) (fun k=>k=bt) hG ?_ ?_).mono ?_
 ·unfold inA;rw[aF,Su];exact Jp hc rfl (by rw[aF,Nat.mul_one]) IV
 ·unfold stA;rw[aF,Sv];exact Jp hs rfl (by rw[aF,Nat.mul_one]) IV
 ·rintro e w3⟨rfl,uX⟩;exact⟨rfl,((fw.below uX).eq (bq _ _)).drop⟩
end
end Kp
namespace Kp
open Go.RowKit aJ Mc Mr Lw bG
variable{N j:Nat}{ev:Nat->Ev}
structure Way(o:pz)(N:Nat)(ev:Nat->Ev):Prop where
 fine:o.fine=true
 run:uK (St.init o) ((List.range N).map ev)=true
 len:N<=100000
def iO(o:pz)(N:Nat)(ev:Nat->Ev)(k:Nat):St:=ve (St.init o) ((List.range N).map ev) k
theorem BL(N:Nat)(ev:Nat->Ev):((List.range N).map ev).length=N:=by rw[aF,List.length_range]
theorem HZ(h:j<((List.range N).map ev).length):((List.range N).map ev)[j]'h=ev j:=by simp only[List.getElem_map,List.getElem_range]
theorem LG(o:pz)(N:Nat)(ev:Nat->Ev):iO o N ev 0=St.init o:=Lk _ _
theorem Way.good{o:pz}(W:Way o N ev)(hj:j<=N):Mc.Good j (iO o N ev j):=by have hlen:=BL N ev;have:=r7 _ _ W.run (Mc.Good.start W.fine) j (by omega);rw[Nat.zero_add]at this;exact this
theorem Way.step{o:pz}(W:Way o N ev)(hj:j<N):(ev j).ok=true∧((ev j).next (iO o N ev j)).out=(ev j).exp∧iO o N ev (j+1)=((ev j).next (iO o N ev j)).told:=by have hlen:=BL N ev;have:=yH _ _ W.run j (by omega);rw[HZ]at this;exact this
theorem Jh{w3 w4:World}{o o2:Obj}(hb:Below (w3.alloc o).heap.size (w3.alloc o) w4):(w4.alloc o2).heap[w3.heap.size]?=some o∧(w4.alloc o2).heap[w4.heap.size]?=some o2∧Below w3.heap.size w3 (w4.alloc o2):=by
 have hz:=hb.size;simp only[World.size_alloc]at hz;refine⟨?_,heap_alloc_new _ _, ?_⟩
 ·rw[Below.heap_alloc _ _ _ (by omega),hb.block _ (by simp only[World.size_alloc];omega)];exact heap_alloc_new _ _
 ·exact(((au _ _).alloc (af _) _).trans (hb.mono (by simp only[World.size_alloc];omega))).alloc (by omega) _
theorem P2(w3:World)(o o2:Obj):((w3.alloc o).alloc o2).heap[w3.heap.size]?=some o∧((w3.alloc o).alloc o2).heap[w3.heap.size+1]?=some o2∧Below w3.heap.size w3 ((w3.alloc o).alloc o2):=by have h:=Jh (w3:=w3) (o:=o) (o2:=o2) (au _ (w3.alloc o));rw[World.size_alloc]at h;exact h
section
variable{base:Nat}{cg:World}
theorem Way.tell(P:oc base cg)(wp:Nat){o:pz}{N:Nat}{ev:Nat->Ev}(W:Way o N ev){j:Nat}(hj:j<N){c:Int}{t:ByteArray}{x:List (Int×Bs)}(ht:ev j=⟨.tell c t.data.toList,x⟩){w w1:World}{F:Ft}(hb:base<=w.heap.size)(ho:Below base cg w)(hF: ∀q,F q->base<=q)(bE:Goes (keepA P wp (iO o N ev j)) w F w1):Calls prog 23 #[.pointer (some ⟨wp,0,none⟩), .int .i64 c, .string t] w1 fun e w2=> ∃v,e= .returned v∧Goes (aa (gZ v x) (keepA P wp (iO o N ev (j+1)))) w F w2:=by have hlen:=BL N ev;have hN:=W.len;have h:=QF P wp W.run (Mc.Good.start W.fine) (by omega) (k:=j) (by omega) (c:=c) (t:=t) (by rw[HZ,ht]) w w1 F hb ho hF bE;rw[HZ,ht]at h;exact h
theorem TA{P:oc base cg}{wp:Nat}{s:St}{v:Value}{x:List (Int×Bs)}{w w2:World}{F:Ft}(h:Goes (aa (gZ v x) (keepA P wp s)) w F w2): ∃ao cap,v= .slice ao x.length cap∧Goes (keepA P wp s) w F w2:=by obtain⟨Gv,_,hGv,_,_,_,_⟩:=h.pieces;obtain⟨ao,cap,hve,_,_⟩:=cR hGv;exact⟨ao,cap,hve,(h.eq (bq _ _)).drop⟩
theorem nK(P:oc base cg)(wp:Nat){s s':St}{f:FuncId}{args:Value->Array Value}{w w1:World}{F:Ft}(hb:base<=w.heap.size)(ho:Below base cg w)(hF: ∀q,F q->base<=q)(bE:Goes (keepA P wp s) w F w1)(hc: ∀x G,base<=w1.heap.size->Below base cg w1->(P.A x s).holds w1 G->Calls prog f (args (.pointer (some ⟨x,0,none⟩))) w1 (LZ (P.A x) s' w1 G)): ∃x,w1.cell? ⟨wp,0,none⟩=some (.pointer (some ⟨x,0,none⟩))∧Calls prog f (args (.pointer (some ⟨x,0,none⟩))) w1 fun e w2=> ∃v,e= .returned v∧Goes (aa (gZ v s'.out) (keepA P wp s'.told)) w F w2:=by obtain⟨F1,⟨x,hx⟩,o1,n1⟩:=bE;refine⟨x,dC (cK hx).1, ?_⟩;have BR:=(Goes.refl hx).eq (bq _ _);refine km (C:=fun e wa G wb=>LZ (P.A x) s' wa G e wb) BR (fun G hG=>hc x G (ar hb o1.size) (ho.trans (o1.toBelow hF hb)) hG) ?_;rintro e yP G Kv⟨v,rfl,hg⟩;have h1:=Kv _ hg;have h2:Goes (aa (gZ v s'.out) (aa (blk wp (.cells #[.pointer (some ⟨x,0,none⟩)] 42 (0,0))) (P.A x s'.told))) w1 F1 yP:=h1.eq (by ac_rfl);refine⟨v,rfl,kR (A:=keepA P wp s) ⟨x,hx⟩ o1 n1 (h2.mono fun F' pW=> ?_)⟩;obtain⟨G1,G2,a1,a2,d,e⟩:=pW;exact⟨G1,G2,a1,⟨x,a2⟩,d,e⟩
theorem Way.tick(P:oc base cg)(wp:Nat){o:pz}{N:Nat}{ev:Nat->Ev}(W:Way o N ev){j:Nat}(hj:j<N){x:List (Int×Bs)}(ht:ev j=⟨.tick,x⟩){w w1:World}{F:Ft}(hb:base<=w.heap.size)(ho:Below base cg w)(hF: ∀q,F q->base<=q)(bE:Goes (keepA P wp (iO o N ev j)) w F w1): ∃y,w1.cell? ⟨wp,0,none⟩=some (.pointer (some ⟨y,0,none⟩))∧Calls prog 26 #[.pointer (some ⟨y,0,none⟩)] w1 fun e w2=> ∃v,e= .returned v∧Goes (aa (gZ v x) (keepA P wp (iO o N ev (j+1)))) w F w2:=by have hN:=W.len;have hg:=W.good (j:=j) (by omega);obtain⟨_,h2,h3⟩:=W.step hj;rw[ht]at h2 h3;obtain⟨y,hy,hc⟩:=nK P wp (s':=(iO o N ev j).tick) (f:=26) (args:=fun a=> #[a]) hb ho hF bE (fun x G b1 b2 hG=>P.tick x j _ w1 G b1 b2 hg (by omega) hG);refine⟨y,hy,hc.mono fun e w2 ⟨v,he,hv⟩=>⟨v,he, ?_⟩⟩;have e1:(iO o N ev j).tick.out=x:=h2;have e2:iO o N ev (j+1)=(iO o N ev j).tick.told:=h3;rw[e1,<-e2]at hv;exact hv
theorem Way.close(P:oc base cg)(wp:Nat){o:pz}{N:Nat}{ev:Nat->Ev}(W:Way o N ev){j:Nat}(hj:j<N){c:Int}{x:List (Int×Bs)}(ht:ev j=⟨.close c,x⟩){w w1:World}{F:Ft}(hb:base<=w.heap.size)(ho:Below base cg w)(hF: ∀q,F q->base<=q)(bE:Goes (keepA P wp (iO o N ev j)) w F w1): ∃y,w1.cell? ⟨wp,0,none⟩=some (.pointer (some ⟨y,0,none⟩))∧Calls prog 27 #[.pointer (some ⟨y,0,none⟩), .int .i64 c] w1 fun e w2=> ∃v,e= .returned v∧Goes (aa (gZ v x) (keepA P wp (iO o N ev (j+1)))) w F w2:=by have hN:=W.len;have hg:=W.good (j:=j) (by omega);obtain⟨h1,h2,h3⟩:=W.step hj;rw[ht]at h1 h2 h3;unfold Ev.ok at h1;simp only[bm,decide_eq_true_eq]at h1;obtain⟨y,hy,hc⟩:=nK P wp (s':=(iO o N ev j).close c) (f:=27) (args:=fun a=> #[a, .int .i64 c]) hb ho hF bE (fun x G b1 b2 hG=>P.close x c j _ w1 G b1 b2 h1 hg (by omega) hG);refine⟨y,hy,hc.mono fun e w2 ⟨v,he,hv⟩=>⟨v,he, ?_⟩⟩;have e1:((iO o N ev j).close c).out=x:=h2;have e2:iO o N ev (j+1)=((iO o N ev j).close c).told:=h3;rw[e1,<-e2]at hv;exact hv
theorem Way.skip{P:oc base cg}{wp:Nat}{o:pz}{N:Nat}{ev:Nat->Ev}(W:Way o N ev){j:Nat}(hj:j<N){x:List (Int×Bs)}(ht:ev j=⟨.none,x⟩){w w1:World}{F:Ft}(bE:Goes (keepA P wp (iO o N ev j)) w F w1):Goes (keepA P wp (iO o N ev (j+1))) w F w1:=by
 obtain⟨_,_,h3⟩:=W.step hj;rw[ht]at h3;have e:(iO o N ev j).told=iO o N ev j:=by
  cases j with
  |zero=>rw[LG];rfl
  |succ i=>rw[(W.step (j:=i) (by omega)).2.2];rfl
 have e2:iO o N ev (j+1)=(iO o N ev j).told:=h3;rw[e2,e];exact bE
theorem S4(P:oc base cg)(wp:Nat)(s:St){v:Value}{l:List (Int×Bs)}{w w1:World}{F:Ft}(hb:base<=w.heap.size)(ho:Below base cg w)(hF: ∀q,F q->base<=q)(bE:Goes (aa (gZ v l) (keepA P wp s)) w F w1)(ht: ∀x∈l,x.2.length<=1048576){n:Nat}(hn:l.length=n)(hm:n<=1000){cs ts:Array Value}(hc:(l.map fun x=>Value.int .i64 x.1).toArray=cs)(hs:(l.map fun x=>Value.string ⟨x.2.toArray⟩).toArray=ts):Calls prog 22 #[v, .slice (some ⟨w1.heap.size,0,none⟩) n n, .slice (some ⟨w1.heap.size+1,0,none⟩) n n] ((w1.alloc (.cells cs 3)).alloc (.cells ts 9)) fun e w3=>e= .returned (.bool true)∧Goes (keepA P wp s) w F w3:=by subst hc hs;obtain⟨h1,h2,h3⟩:=P2 w1 (.cells (l.map fun x=>Value.int .i64 x.1).toArray 3) (.cells (l.map fun x=>Value.string ⟨x.2.toArray⟩).toArray 9);exact N8 P wp s hb ho hF bE h3 ht hn hm h1 h2
end
structure Stp(s:St)(e:Ev)(s':St):Prop where
 ok:e.ok=true
 out:(e.next s).out=e.exp
 told:(e.next s).told=s'
section
variable{w:World}{P:oc w.heap.size w}{wp n:Nat}{s s':St}{w1 w2:World}{v:Value}{x:List (Int×Bs)}{c:Int}{t:ByteArray}
def AE(P:oc w.heap.size w)(wp n:Nat)(s:St)(w1:World):Prop:=Mc.Good n s∧Goes (keepA P wp s) w (fun _=>False) w1
def JB(P:oc w.heap.size w)(wp n:Nat)(s:St)(v:Value)(x:List (Int×Bs))(w1:World):Prop:=Mc.Good n s∧Goes (aa (gZ v x) (keepA P wp s)) w (fun _=>False) w1
theorem uH{b:Nat}: ∀q,(fun _=>False:Ft) q->b<=q:=fun _ h=>h.elim
theorem AE.below(h:AE P wp n s w1)(hb:Below w1.heap.size w1 w2):AE P wp n s w2:=⟨h.1,h.2.below hb⟩
theorem AE.toBelow(h:AE P wp n s w1):Below w.heap.size w w1:=h.2.toBelow
theorem JB.drop(h:JB P wp n s v x w1):AE P wp n s w1:=⟨h.1,(h.2.eq (bq _ _)).drop⟩
theorem JB.len(h:JB P wp n s v x w1): ∃ao cap,v= .slice ao x.length cap∧AE P wp n s w1:=by obtain⟨ao,cap,e,hg⟩:=TA h.2;exact⟨ao,cap,e,h.1,hg⟩
theorem Stp.good{e:Ev}(st:Stp s e s')(h:Mc.Good n s):Mc.Good (n+1) s':=by rw[<-st.told];exact(Ah h e st.ok).told
theorem AE.tell(h:AE P wp n s w1)(st:Stp s ⟨.tell c t.data.toList,x⟩ s')(hn:n<=100000):Calls prog 23 #[.pointer (some ⟨wp,0,none⟩), .int .i64 c, .string t] w1 fun e w2=> ∃v,e= .returned v∧JB P wp (n+1) s' v x w2:=by
 have h1:=st.ok;unfold Ev.ok at h1;simp only[bm,decide_eq_true_eq]at h1;obtain⟨⟨⟨h4,h5⟩,h6⟩,h7⟩:=h1;have dc:t.size<=4096:=by simpa using h5
 obtain⟨F1,bU,o1,n1⟩:=h.2;refine(nU P wp c t ⟨h6,h7⟩ s h.1 (by omega) (by omega) w1 F1 o1.size (o1.toBelow uH (af _)) bU).mono ?_;rintro en w2⟨v,rfl,fw⟩;refine⟨v,rfl,st.good h.1, ?_⟩;have h8:=kR bU o1 n1 fw;have h9:(Kp.tell s c t.data.toList).out=x:=st.out;have sZ:(Kp.tell s c t.data.toList).told=s':=st.told;rw[h9,sZ]at h8;exact h8
theorem AE.tick(h:AE P wp n s w1)(st:Stp s ⟨.tick,x⟩ s')(hn:n<=100000): ∃y,w1.cell? ⟨wp,0,none⟩=some (.pointer (some ⟨y,0,none⟩))∧Calls prog 26 #[.pointer (some ⟨y,0,none⟩)] w1 fun e w2=> ∃v,e= .returned v∧JB P wp (n+1) s' v x w2:=by obtain⟨y,hy,hc⟩:=nK P wp (s':=s.tick) (f:=26) (args:=fun a=> #[a]) (af _) (au _ _) uH h.2 (fun x G b1 b2 hG=>P.tick x n _ w1 G b1 b2 h.1 (by omega) hG);refine⟨y,hy,hc.mono fun e w2 ⟨v,he,hv⟩=>⟨v,he,st.good h.1, ?_⟩⟩;have e1:s.tick.out=x:=st.out;have e2:s.tick.told=s':=st.told;rw[e1,e2]at hv;exact hv
theorem AE.close(h:AE P wp n s w1)(st:Stp s ⟨.close c,x⟩ s')(hn:n<=100000): ∃y,w1.cell? ⟨wp,0,none⟩=some (.pointer (some ⟨y,0,none⟩))∧Calls prog 27 #[.pointer (some ⟨y,0,none⟩), .int .i64 c] w1 fun e w2=> ∃v,e= .returned v∧JB P wp (n+1) s' v x w2:=by have h1:=st.ok;unfold Ev.ok at h1;simp only[bm,decide_eq_true_eq]at h1;obtain⟨y,hy,hc⟩:=nK P wp (s':=s.close c) (f:=27) (args:=fun a=> #[a, .int .i64 c]) (af _) (au _ _) uH h.2 (fun x G b1 b2 hG=>P.close x c n _ w1 G b1 b2 h1 h.1 (by omega) hG);refine⟨y,hy,hc.mono fun e w2 ⟨v,he,hv⟩=>⟨v,he,st.good h.1, ?_⟩⟩;have e1:(s.close c).out=x:=st.out;have e2:(s.close c).told=s':=st.told;rw[e1,e2]at hv;exact hv
theorem JB.both(h:JB P wp n s v x w1)(ht: ∀y∈x,y.2.length<=1048576){k:Nat}(hn:x.length=k)(hm:k<=1000){cs ts:Array Value}(hc:(x.map fun y=>Value.int .i64 y.1).toArray=cs)(hs:(x.map fun y=>Value.string ⟨y.2.toArray⟩).toArray=ts):Calls prog 22 #[v, .slice (some ⟨w1.heap.size,0,none⟩) k k, .slice (some ⟨w1.heap.size+1,0,none⟩) k k] ((w1.alloc (.cells cs 3)).alloc (.cells ts 9)) fun e w3=>e= .returned (.bool true)∧AE P wp n s w3:=
 (S4 P wp s (af _) (au _ _) uH h.2 ht hn hm hc hs).mono fun _ _ ⟨he,hg⟩=>⟨he,h.1,hg⟩
theorem JB.lit(h:JB P wp n s v x w1){cs ts:Array Value}(hb:Below (w1.alloc (.cells cs 3)).heap.size (w1.alloc (.cells cs 3)) w2)(ht: ∀y∈x,y.2.length<=1048576){k:Nat}(hn:x.length=k)(hm:k<=1000)(hc:(x.map fun y=>Value.int .i64 y.1).toArray=cs)(hs:(x.map fun y=>Value.string ⟨y.2.toArray⟩).toArray=ts):Calls prog 22 #[v, .slice (some ⟨w1.heap.size,0,none⟩) k k, .slice (some ⟨w2.heap.size,0,none⟩) k k] (w2.alloc (.cells ts 9)) fun e w3=>e= .returned (.bool true)∧AE P wp n s w3:=by subst hc hs;obtain⟨h1,h2,h3⟩:=Jh (o2:= .cells (x.map fun y=>Value.string ⟨y.2.toArray⟩).toArray 9) hb;exact(N8 P wp s (af _) (au _ _) uH h.2 h3 ht hn hm h1 h2).mono fun _ _ ⟨he,hg⟩=>⟨he,h.1,hg⟩
theorem one_le{c:Int}{b:Bs}(h:b.length<=1048576): ∀y∈ [(c,b)],y.2.length<=1048576:=by intro y hy;simp only[List.mem_cons,List.mem_nil_iff,or_false]at hy;subst hy;exact h
