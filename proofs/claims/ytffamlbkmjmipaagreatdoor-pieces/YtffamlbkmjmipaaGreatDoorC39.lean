import Derived.Test.YtffamlbkmjmipaaGreatDoorC26
import Derived.Test.YtffamlbkmjmipaaGreatDoorC27
import Derived.Test.YtffamlbkmjmipaaGreatDoorC36
set_option maxHeartbeats 8000000
set_option maxRecDepth 100000
namespace Go.Proofs.YtffamlbkmjmipaaGreatDoor
open _root_.Go.Proofs.Tryz
namespace Pj
open Go.RowKit aD Mc bA
attribute [local go_sem] ae ah
variable{base x tb n:Nat}{g:Gh}{cn:List (Int×Nat×Bs)}{s:St}{w:World}{F:Ft}
theorem GF(ap rp x bx:Nat)(eJ now he:Int)(hd:Bool)(w:World)(c1:w.cell? ⟨ap,4,none⟩=some (.int .i64 eJ))(c2:w.cell? ⟨bx,0,none⟩=some (pt x))(c3:w.cell? ⟨x,5,none⟩=some (.int .i64 now))(c4:w.cell? ⟨x,4,none⟩=some (.int .i64 he))(c5:w.cell? ⟨ap,1,none⟩=some (pt rp))(c6:w.cell? ⟨rp,6,none⟩=some (.bool hd))(hb:0<=now∧now<=4398046511104∧0<=he∧he<=20):Calls prog 69 #[pt ap,pt bx] w fun e w'=>e= .returned (.bool (decide (eJ<=now-he) && !hd))∧ ∃q,w'=w.drewN q:=by
 have zV:IntKind.i64.wrap (now-he)=now-he:=by rw[IntKind.wrap_i64];omega
 unfold pt at*;by_cases ht:eJ<=now-he
 ·have zT:decide (eJ<=now-he)=true:=by simpa using ht
  rw[zT];go_enter func69,ntmps69;go_wp2_with fail
  go_quiet (fail)
  go_wp2;go_ret;exact⟨by simp,_,rfl⟩
 ·have zT:decide (eJ<=now-he)=false:=by simpa using ht
  rw[zT];go_enter func69,ntmps69;go_wp2_with fail
  go_quiet (fail)
  go_wp2;go_ret;exact⟨by simp,_,rfl⟩
structure mW(base x tb:Nat)(g:Gh)(cn:List (Int×Nat×Bs))(n:Nat)(s:St)(v':Value)(N:Nat)(w:World)(F:Ft)(k:Nat)(s':St)(wr:World):Prop where
 on:kj n s (s.ag.filter s.slow) k s'
 goes:Goes (aa (stA base x tb g cn s') (aa (rowA 127 1 v' (s.ag.filter s.slow).length ((s.ag.filter s.slow).map fun a=>pt (g.ap (key a)))) (blk N (.cells #[pt x] 40 (0,0))))) w F wr
theorem mW.round{s':St}{v':Value}{N:Nat}{k:Nat}{wr:World}(T:Tabs base w)(hF: ∀k,F k->base<=k)(ho:Ok s)(hn:n<=16776000)(h0:s.c.he≠0)(DY:0<=s.c.he)(h:mW base x tb g cn n s v' N w F k s' wr){L:List At}(hL:s.ag.filter s.slow=L)(hk:k<L.length): ∃(b off cap:Nat),v'= .slice (some ⟨b,off,none⟩) L.length cap∧wr.cell? ⟨b,off+k,none⟩=some (pt (g.ap (key L[k])))∧wr.cell? ⟨g.ap (key L[k]),1,none⟩=some (pt (g.rp L[k].id))∧wr.frozen? ⟨g.rp L[k].id,6,none⟩=false∧(∃t,wr.cell? ⟨g.rp L[k].id,6,none⟩=some (.bool t))∧(wr.setCell ⟨g.rp L[k].id,6,none⟩ (.bool true)).cell? ⟨N,0,none⟩=some (pt x)∧(wr.setCell ⟨g.rp L[k].id,6,none⟩ (.bool true)).cell? ⟨g.ap (key L[k]),1,none⟩=some (pt (g.rp L[k].id))∧ ∀nq,Calls prog 70 #[pt x,pt (g.rp L[k].id)] ((wr.setCell ⟨g.rp L[k].id,6,none⟩ (.bool true)).drewN nq) fun e w'=>e= .returned (.tuple #[])∧ ∃rz,mW base x tb g cn n s v' N w F (k+1) rz w':=by
 subst hL;obtain⟨F1,bU,o1,n1⟩:=h.goes;obtain⟨G,H,ha,hb,d,e⟩:=id bU;have lT:=h.on;have hz:=lT.sd.sz;have T1:Tabs base wr:=T.goes hF ⟨F1,bU,o1,n1⟩;have mM:(s.ag.filter s.slow)[k]∈s'.ag:=by rw[lT.same.1];exact(aG.1 (bY hk)).1
 generalize eL:(s.ag.filter s.slow)[k]=a at*;obtain⟨ca0,Wm,ca2,cr0⟩:=jc ha lT.sd.inv (by omega) mM;obtain⟨q,hq,tK,Cs⟩:=St.cf (lT.sd.inv.bB a mM);obtain⟨ao,cap,dz,cJ,RA⟩:=eZ ha lT.sd.inv (by omega) hq;have Cr:=KU T1 ha lT.sd.inv (by omega) hq (fun r=>{r with hedged:=true}) (fun _=>rfl) (fun _=>rfl) 6 (.bool true) (fun av=>rfl);have g2:=aH hb Cr d e;obtain⟨F2,gl,o2,n2⟩:=id g2;obtain⟨G2,H2,Vg,cL,d2,e2⟩:=id gl;have i2:=St.jb lT.sd.inv a.id (fun r=>{r with hedged:=true}) (fun _=>⟨rfl,rfl⟩);have z2:(s'.bg a.id (fun r=>{r with hedged:=true})).sz<=16777000:=by rw[St.mm];omega
 have Wn:=(jc Vg i2 z2 (a:=a) mM).2.1;have tJ:(s'.bg a.id (fun r=>{r with hedged:=true})).req a.id=some {q with hedged:=true}:=by rw[St.iZ lT.sd.inv a.id a.id (fun r=>{r with hedged:=true}) (fun _=>rfl),hq];simp
 have hN:=(bQ (aw cL (aZ _ _))).1;obtain⟨Gr,nt,_⟩:=aD.left hb;obtain⟨Wh,BV,rfl,cV,ck⟩:=Mr.cE nt;obtain⟨b,off,rfl⟩:=ck (by omega);have T2:Tabs base (wr.setCell ⟨g.rp a.id,6,none⟩ (.bool true)):=T1.goes (cr ha) Cr;refine⟨b,off,BV,rfl, ?_,Wm,RA.fz 6,⟨_,RA.hedged⟩,by simp only[World.cell?,hN];rfl,Wn,fun nq=> ?_⟩
 ·rw[aW nt k (by omega),List.getElem?_map,aV hk,eL];rfl
 ·refine(rE (T2.below (pU (ar _ _) nq)) (bI Vg nq) i2 z2 tJ).mono ?_;rintro e' w'⟨rfl,hg⟩;refine⟨rfl,s'.cF a,⟨?_, ?_⟩⟩
  ·have:=lT.step ho hk h0 DY;rw[eL]at this;exact this
  ·exact ay o1 n1 (ay o2 n2 (aH cL (cX hg) d2 e2))
theorem Fo(T:Tabs base w)(h:(stA base x tb g cn s).holds w F)(hs:Sd n s)(hn:n<=16776000):Calls prog 41 #[pt x] w fun e w'=>e= .returned (.tuple #[])∧Goes (stA base x tb g cn s.dp) w F w':=by
 have hz:=hs.sz;have hF:=cr h;have zR:=hs.bd.now;have Xk:=hs.bd.c.he;obtain⟨c4,rb⟩:w.cell? ⟨x,4,none⟩=some (.int .i64 s.c.he)∧x<w.heap.size:=by obtain⟨j,r1,r2,r3,_,hh⟩:=id h;obtain⟨G,hj,_⟩:=aD.left hh;obtain⟨v,hv⟩:=hj;have D:=tO hv;exact⟨by rw[D.1 4];show some (Value.int .i64 j.c.he)=_;rw[r1.c],D.2.2⟩
 have g1:=(Goes.refl h).alloc (.cells #[pt x] 40 (0,0));have Vb:=g1.eq (aZ _ _);have Wl:(w.alloc (.cells #[pt x] 40)).cell? ⟨x,4,none⟩=some (.int .i64 s.c.he):=by rw[<-c4];exact bN ((ar _ _).alloc (af _) _) rb
 have cN:(w.alloc (.cells #[pt x] 40)).cell? ⟨w.heap.size,0,none⟩=some (pt x):=by simp only[World.cell?,heap_alloc_new];rfl
 by_cases h0:s.c.he=0
 ·rw[St.Cj h0];rw[h0]at Wl;have HG:=hide Vb.drop;clear h g1 Vb c4;unfold pt at*;go_enter func41,ntmps41;go_wp2
  (try simp only[Exit.inBlock,Exit.then])
  exact bodyPost_ret (results_none rfl _ _ _) rfl ⟨rfl,HG.out⟩
 ·have HR:Hid (Calls prog 68 #[pt x, .func (.func 69) #[] #[pt w.heap.size]] (w.alloc (.cells #[pt x] 40)) fun e w'=> ∃eK bO,e= .returned (.slice eK (s.ag.filter s.slow).length bO)∧Hid (mW base x tb g cn n s (.slice eK (s.ag.filter s.slow).length bO) w.heap.size w F 0 s w')):=by
   obtain⟨F1,bU,o1,n1⟩:=Vb;obtain⟨G,H,ha,hb,d,e⟩:=bU;show Calls _ _ _ _ _;refine(ry ha hs.inv (by omega) (ar _ _) s.slow 69 #[pt w.heap.size] (enters_of func69 (by kernel_rfl) rfl) (fun wr hr a RM=> ?_)).mono ?_
   ·obtain⟨kk,q,hq,Cs,qi,av,JQ⟩:=EE ha hs.inv (by omega) RM;have hx5:(w.alloc (.cells #[pt x] 40)).cell? ⟨x,5,none⟩=some (.int .i64 s.now):=by
     obtain⟨j,r1,r2,r3,_,hh⟩:=id ha;obtain⟨G,hj,_⟩:=aD.left hh;obtain⟨v,hv⟩:=hj;rw[(tO hv).1 5];show some (Value.int .i64 j.now)=_;rw[r1.now]
    have Na:g.ap (key a)<(w.alloc (.cells #[pt x] 40)).heap.size:=(bZ.1 qi).1;have jH:g.rp a.id<(w.alloc (.cells #[pt x] 40)).heap.size:=(bZ.1 JQ).1;have L1:x<(w.alloc (.cells #[pt x] 40)).heap.size:=by simp;omega
    have Tj:wr.heap[g.ap (key a)]?=some (.cells (kO g a kk) 126 (0,0)):=(hr.block _ Na).trans qi;have XF:wr.heap[g.rp a.id]?=some (.cells (mD g s.c.re q av) 132 (0,0)):=(hr.block _ jH).trans JQ;have hS:=GF (g.ap (key a)) (g.rp a.id) x w.heap.size a.eJ s.now s.c.he q.hedged wr (by simp only[World.cell?,Tj];rfl) (by rw[bN hr (by simp)];exact cN) (by rw[bN hr L1];exact hx5) (by rw[bN hr L1];exact Wl) (by simp only[World.cell?,Tj];rfl) (by simp only[World.cell?,XF];rfl) (by omega);have es:s.slow a=(decide (a.eJ<=s.now-s.c.he) && !q.hedged):=by
     unfold St.slow;rw[hq];dsimp only;congr 1;by_cases e:s.c.he<=s.now-a.eJ
     ·have e2:a.eJ<=s.now-s.c.he:=by omega
      simp[e,e2]
     ·have e2: ¬a.eJ<=s.now-s.c.he:=by omega
      simp[e,e2]
    rw[es];exact hS
   ·rintro e' w'⟨v',rfl,_,hg⟩;have eO:=ay o1 n1 (aH hb hg d e);have eP:=eO.eq (bn _ _ _);have gL:=eP;obtain⟨F3,kT,_⟩:=eP;obtain⟨G3,H3,_,nU,_⟩:=kT;obtain⟨Gr,nt,_⟩:=aD.left nU;obtain⟨eK,bO,rfl⟩:=aJ (Goes.refl nt);exact⟨eK,bO,rfl,⟨kj.start hs,gL⟩⟩
  have Hz:Hid (∀k (hk:k<(s.ag.filter s.slow).length) v' s' wr,mW base x tb g cn n s v' w.heap.size w F k s' wr->_):=fun k hk v' s' wr hb=>hb.round T hF hs.ok hn h0 Xk.1 rfl hk;have jM:Hid (∀v' s' wr,mW base x tb g cn n s v' w.heap.size w F (s.ag.filter s.slow).length s' wr->Goes (stA base x tb g cn s.dp) w F wr):=fun v' s' wr hb=>by have:=hb.goes.drop;rw[hb.on.is,List.take_length,<-St.zN hs.inv hs.ok h0 Xk.1]at this;exact this
  have Nk:(s.ag.filter s.slow).length<=16777216:=by have h1:(s.ag.filter s.slow).length<=s.ag.length:=List.length_filter_le ..;unfold St.sz at hz;omega
  have DY:(s.c.he==0)=false:=by simpa using h0
  clear h g1 Vb c4 zR Xk;unfold pt at*;generalize hL:(s.ag.filter s.slow)=L at*;clear hL;go_enter func41,ntmps41;go_wp2_with (first
   |(go_at_call 68;go_must(refine HR.out.mono ?_;rintro e w2⟨eK,bO,rfl,Hq⟩)))
  clear HR cN Wl;go_loopw [16] (fun i wr=> ∃k:Nat,k<=L.length∧i= .int .i64 k∧ ∃s',Hid (mW base x tb g cn n s (.slice eK L.length bO) w.heap.size w F k s' wr)) (fun i _=>L.length-(intOf i).toNat)
  case atStart=>exact⟨0,bk _,rfl,s,Hq⟩
  case round=>
   obtain⟨k,hk,rfl,s',mv⟩:=hrel;by_cases aQ:k<L.length
   ·obtain⟨b,off,cJ,ev,c0,c1,fz,⟨t,ct⟩,uS,c12,jg⟩:=Hz.out k aQ _ _ _ mv.out;cases ev;have Mk:=hide jg;clear Hz mv Hq jM jg;generalize g.ap (key L[k])=ap at*;generalize g.rp L[k].id=rp at*;generalize w.heap.size=N at*;go_wp2_with fail;go_region_with (first
     |(go_at_call 70;go_must(refine(Mk.out 1).mono ?_;rintro e w5⟨rfl,rz,hb⟩;have VK:=hide hb;clear hb)))
    all_goals
     clear Mk;go_wp2;go_roundw
     case rel=>exact⟨k+1,by omega,by go_num,rz,VK⟩
     case measure=>simp[intOf];omega
   ·obtain rfl:k=L.length:=by omega
    have HE:=hide (jM.out _ _ _ mv.out);clear Hz mv Hq jM;go_wp2;go_end0;exact⟨rfl,HE.out⟩
variable{base x tb n p:Nat}{g:Gh}{cn:List (Int×Nat×Bs)}{s:St}{w:World}{F:Ft}{b:Bs}
theorem QX(s:St)(c id bB:Int)(ten txt:Bs):s.message c ⟨fQ,id,bB,ten,txt⟩=s.bT c ⟨fQ,id,bB,ten,txt⟩:=by unfold St.message;rw[if_pos rfl]
theorem QW(s:St)(c id bB:Int)(ten txt:Bs):s.message c ⟨gF,id,bB,ten,txt⟩=zb s c id:=by unfold St.message;rw[if_neg (show¬gF=fQ by decide),if_pos rfl];rfl
theorem NN(s:St)(c id bB:Int)(ten txt:Bs):s.message c ⟨dI,id,bB,ten,txt⟩=ru s c:=by unfold St.message;rw[if_neg (show¬dI=fQ by decide),if_neg (show¬dI=gF by decide),if_pos rfl];rfl
theorem NK(s:St)(c id bB:Int)(ten txt:Bs):s.message c ⟨dH,id,bB,ten,txt⟩=vF s c:=by unfold St.message;rw[if_neg (show¬dH=fQ by decide),if_neg (show¬dH=gF by decide),if_neg (show¬dH=dI by decide),if_pos rfl];rfl
theorem NL(s:St)(c id bB:Int)(ten txt:Bs):s.message c ⟨di,id,bB,ten,txt⟩=vP s c ⟨di,id,bB,ten,txt⟩:=by unfold St.message;rw[if_neg (show¬di=fQ by decide),if_neg (show¬di=gF by decide),if_neg (show¬di=dI by decide),if_neg (show¬di=dH by decide),if_pos rfl];rfl
theorem NM(s:St)(c id bB:Int)(ten txt:Bs):s.message c ⟨kFail,id,bB,ten,txt⟩=vS s c ⟨kFail,id,bB,ten,txt⟩:=by unfold St.message;rw[if_neg (show¬kFail=fQ by decide),if_neg (show¬kFail=gF by decide),if_neg (show¬kFail=dI by decide),if_neg (show¬kFail=dH by decide),if_neg (show¬kFail=di by decide),if_pos rfl];rfl
theorem Kz(s:St)(c id bB:Int)(ten txt:Bs):s.message c ⟨cR,id,bB,ten,txt⟩=qb s c:=by unfold St.message;rw[if_neg (show¬cR=fQ by decide),if_neg (show¬cR=gF by decide),if_neg (show¬cR=dI by decide),if_neg (show¬cR=dH by decide),if_neg (show¬cR=di by decide),if_neg (show¬cR=kFail by decide),if_pos rfl];rfl
theorem NV(T:Tabs base w)(h:(stA base x tb g cn s).holds w F)(hs:Sd n s)(hn:n<=16774000)(c id bB:Int)(ten txt:Bs)(hm:Bd.bA ⟨fQ,id,bB,ten,txt⟩):Calls prog 90 #[pt x,pt tb, .int .i64 c, .agg (Mg.cs ⟨fQ,id,bB,ten,txt⟩)] w fun e w'=>e= .returned (.tuple #[])∧ ∃g',Goes (stA base x tb g' cn (s.message c ⟨fQ,id,bB,ten,txt⟩)) w F w':=by
 have HC:Hid (Calls prog 137 #[pt x,pt tb, .int .i64 c, .agg (Mg.cs ⟨fQ,id,bB,ten,txt⟩)] (w.alloc (.cells (Mg.cs ⟨fQ,id,bB,ten,txt⟩) 149)) fun e w'=>e= .returned (.tuple #[])∧ ∃g',Goes (stA base x tb g' cn (s.message c ⟨fQ,id,bB,ten,txt⟩)) w F w'):=by show Calls _ _ _ _ _;have o1:Only F w (w.alloc (.cells (Mg.cs ⟨fQ,id,bB,ten,txt⟩) 149)):=(Only.refl F w).alloc _;have n1: ∀k,F k->F k∨w.heap.size<=k:=fun k hk=> .inl hk;have b1:Below w.heap.size w (w.alloc (.cells (Mg.cs ⟨fQ,id,bB,ten,txt⟩) 149)):=(ar _ _).alloc (af _) _;have T1:=T.new b1;have h1:=Mr.aF h b1;exact(Da T1 h1 hs (by omega) c ⟨fQ,id,bB,ten,txt⟩ hm.id hm.ten).mono (by rintro e w'⟨rfl,g',hg⟩;exact⟨rfl,g',by rw[QX];exact ay o1 n1 hg⟩)
 clear h T;unfold Mg.cs fQ pt at*;go_enter func90,ntmps90;go_wp2_with (first
  |(go_at_call 137;go_must(refine HC.out.mono ?_;rintro e w2⟨rfl,hg⟩;have HG:=hide hg;clear hg)))
 go_end0;exact⟨rfl,HG.out⟩
theorem NU(T:Tabs base w)(h:(stA base x tb g cn s).holds w F)(hs:Sd n s)(hn:n<=16774000)(c id bB:Int)(ten txt:Bs)(hb:Busy s (fun _=>False))(hm:Bd.bA ⟨gF,id,bB,ten,txt⟩):Calls prog 90 #[pt x,pt tb, .int .i64 c, .agg (Mg.cs ⟨gF,id,bB,ten,txt⟩)] w fun e w'=>e= .returned (.tuple #[])∧ ∃g',Goes (stA base x tb g' cn (s.message c ⟨gF,id,bB,ten,txt⟩)) w F w':=by
 have HC:Hid (Calls prog 138 #[pt x,pt tb, .int .i64 c, .int .i64 id] (w.alloc (.cells (Mg.cs ⟨gF,id,bB,ten,txt⟩) 149)) fun e w'=>e= .returned (.tuple #[])∧ ∃g',Goes (stA base x tb g' cn (s.message c ⟨gF,id,bB,ten,txt⟩)) w F w'):=by show Calls _ _ _ _ _;have o1:Only F w (w.alloc (.cells (Mg.cs ⟨gF,id,bB,ten,txt⟩) 149)):=(Only.refl F w).alloc _;have n1: ∀k,F k->F k∨w.heap.size<=k:=fun k hk=> .inl hk;have b1:Below w.heap.size w (w.alloc (.cells (Mg.cs ⟨gF,id,bB,ten,txt⟩) 149)):=(ar _ _).alloc (af _) _;have T1:=T.new b1;have h1:=Mr.aF h b1;exact(BQ T1 h1 hs (by omega) hb c id hm.id).mono (by rintro e w'⟨rfl,hg⟩;exact⟨rfl,g,by rw[QW];exact ay o1 n1 hg⟩)
 clear h T;unfold Mg.cs gF pt at*;go_enter func90,ntmps90;go_wp2_with (first
  |(go_at_call 138;go_must(refine HC.out.mono ?_;rintro e w2⟨rfl,hg⟩;have HG:=hide hg;clear hg)))
 go_end0;exact⟨rfl,HG.out⟩
theorem KH(T:Tabs base w)(h:(stA base x tb g cn s).holds w F)(hs:Sd n s)(hn:n<=16774000)(c id bB:Int)(ten txt:Bs)(hc:I6 c):Calls prog 90 #[pt x,pt tb, .int .i64 c, .agg (Mg.cs ⟨dI,id,bB,ten,txt⟩)] w fun e w'=>e= .returned (.tuple #[])∧ ∃g',Goes (stA base x tb g' cn (s.message c ⟨dI,id,bB,ten,txt⟩)) w F w':=by
 have HC:Hid (Calls prog 139 #[pt x, .int .i64 c] (w.alloc (.cells (Mg.cs ⟨dI,id,bB,ten,txt⟩) 149)) fun e w'=>e= .returned (.tuple #[])∧ ∃g',Goes (stA base x tb g' cn (s.message c ⟨dI,id,bB,ten,txt⟩)) w F w'):=by show Calls _ _ _ _ _;have o1:Only F w (w.alloc (.cells (Mg.cs ⟨dI,id,bB,ten,txt⟩) 149)):=(Only.refl F w).alloc _;have n1: ∀k,F k->F k∨w.heap.size<=k:=fun k hk=> .inl hk;have b1:Below w.heap.size w (w.alloc (.cells (Mg.cs ⟨dI,id,bB,ten,txt⟩) 149)):=(ar _ _).alloc (af _) _;have T1:=T.new b1;have h1:=Mr.aF h b1;exact(KT T1 h1 hs.inv hs.ok (by have:=hs.sz;omega) c hc).mono (by rintro e w'⟨rfl,hg⟩;exact⟨rfl,g,by rw[NN];exact ay o1 n1 hg⟩)
 clear h T;unfold Mg.cs dI pt at*;go_enter func90,ntmps90;go_wp2_with (first
  |(go_at_call 139;go_must(refine HC.out.mono ?_;rintro e w2⟨rfl,hg⟩;have HG:=hide hg;clear hg)))
 go_end0;exact⟨rfl,HG.out⟩
theorem KE(T:Tabs base w)(h:(stA base x tb g cn s).holds w F)(hs:Sd n s)(hn:n<=16774000)(c id bB:Int)(ten txt:Bs):Calls prog 90 #[pt x,pt tb, .int .i64 c, .agg (Mg.cs ⟨dH,id,bB,ten,txt⟩)] w fun e w'=>e= .returned (.tuple #[])∧ ∃g',Goes (stA base x tb g' cn (s.message c ⟨dH,id,bB,ten,txt⟩)) w F w':=by
 have HC:Hid (Calls prog 140 #[pt x, .int .i64 c] (w.alloc (.cells (Mg.cs ⟨dH,id,bB,ten,txt⟩) 149)) fun e w'=>e= .returned (.tuple #[])∧ ∃g',Goes (stA base x tb g' cn (s.message c ⟨dH,id,bB,ten,txt⟩)) w F w'):=by show Calls _ _ _ _ _;have o1:Only F w (w.alloc (.cells (Mg.cs ⟨dH,id,bB,ten,txt⟩) 149)):=(Only.refl F w).alloc _;have n1: ∀k,F k->F k∨w.heap.size<=k:=fun k hk=> .inl hk;have b1:Below w.heap.size w (w.alloc (.cells (Mg.cs ⟨dH,id,bB,ten,txt⟩) 149)):=(ar _ _).alloc (af _) _;have T1:=T.new b1;have h1:=Mr.aF h b1;exact(Il T1 h1 hs (by omega) c).mono (by rintro e w'⟨rfl,hg⟩;exact⟨rfl,g,by rw[NK];exact ay o1 n1 hg⟩)
 clear h T;unfold Mg.cs dH pt at*;go_enter func90,ntmps90;go_wp2_with (first
  |(go_at_call 140;go_must(refine HC.out.mono ?_;rintro e w2⟨rfl,hg⟩;have HG:=hide hg;clear hg)))
 go_end0;exact⟨rfl,HG.out⟩
theorem KF(T:Tabs base w)(h:(stA base x tb g cn s).holds w F)(hs:Sd n s)(hn:n<=16774000)(c id bB:Int)(ten txt:Bs)(hb:Busy s (fun _=>False))(hm:Bd.bA ⟨di,id,bB,ten,txt⟩):Calls prog 90 #[pt x,pt tb, .int .i64 c, .agg (Mg.cs ⟨di,id,bB,ten,txt⟩)] w fun e w'=>e= .returned (.tuple #[])∧ ∃g',Goes (stA base x tb g' cn (s.message c ⟨di,id,bB,ten,txt⟩)) w F w':=by
 have HC:Hid (Calls prog 141 #[pt x,pt tb, .int .i64 c, .agg (Mg.cs ⟨di,id,bB,ten,txt⟩)] (w.alloc (.cells (Mg.cs ⟨di,id,bB,ten,txt⟩) 149)) fun e w'=>e= .returned (.tuple #[])∧ ∃g',Goes (stA base x tb g' cn (s.message c ⟨di,id,bB,ten,txt⟩)) w F w'):=by show Calls _ _ _ _ _;have o1:Only F w (w.alloc (.cells (Mg.cs ⟨di,id,bB,ten,txt⟩) 149)):=(Only.refl F w).alloc _;have n1: ∀k,F k->F k∨w.heap.size<=k:=fun k hk=> .inl hk;have b1:Below w.heap.size w (w.alloc (.cells (Mg.cs ⟨di,id,bB,ten,txt⟩) 149)):=(ar _ _).alloc (af _) _;have T1:=T.new b1;have h1:=Mr.aF h b1;exact(IX T1 h1 hs (by omega) hb c ⟨di,id,bB,ten,txt⟩ hm.id hm.txt).mono (by rintro e w'⟨rfl,hg⟩;exact⟨rfl,g,by rw[NL];exact ay o1 n1 hg⟩)
 clear h T;unfold Mg.cs di pt at*;go_enter func90,ntmps90;go_wp2_with (first
  |(go_at_call 141;go_must(refine HC.out.mono ?_;rintro e w2⟨rfl,hg⟩;have HG:=hide hg;clear hg)))
 go_end0;exact⟨rfl,HG.out⟩
theorem KG(T:Tabs base w)(h:(stA base x tb g cn s).holds w F)(hs:Sd n s)(hn:n<=16774000)(c id bB:Int)(ten txt:Bs)(hb:Busy s (fun _=>False))(hm:Bd.bA ⟨kFail,id,bB,ten,txt⟩):Calls prog 90 #[pt x,pt tb, .int .i64 c, .agg (Mg.cs ⟨kFail,id,bB,ten,txt⟩)] w fun e w'=>e= .returned (.tuple #[])∧ ∃g',Goes (stA base x tb g' cn (s.message c ⟨kFail,id,bB,ten,txt⟩)) w F w':=by
 have HC:Hid (Calls prog 142 #[pt x,pt tb, .int .i64 c, .agg (Mg.cs ⟨kFail,id,bB,ten,txt⟩)] (w.alloc (.cells (Mg.cs ⟨kFail,id,bB,ten,txt⟩) 149)) fun e w'=>e= .returned (.tuple #[])∧ ∃g',Goes (stA base x tb g' cn (s.message c ⟨kFail,id,bB,ten,txt⟩)) w F w'):=by show Calls _ _ _ _ _;have o1:Only F w (w.alloc (.cells (Mg.cs ⟨kFail,id,bB,ten,txt⟩) 149)):=(Only.refl F w).alloc _;have n1: ∀k,F k->F k∨w.heap.size<=k:=fun k hk=> .inl hk;have b1:Below w.heap.size w (w.alloc (.cells (Mg.cs ⟨kFail,id,bB,ten,txt⟩) 149)):=(ar _ _).alloc (af _) _;have T1:=T.new b1;have h1:=Mr.aF h b1;exact(I5 T1 h1 hs (by omega) hb c ⟨kFail,id,bB,ten,txt⟩ hm.id).mono (by rintro e w'⟨rfl,hg⟩;exact⟨rfl,g,by rw[NM];exact ay o1 n1 hg⟩)
 clear h T;unfold Mg.cs kFail pt at*;go_enter func90,ntmps90;go_wp2_with (first
  |(go_at_call 142;go_must(refine HC.out.mono ?_;rintro e w2⟨rfl,hg⟩;have HG:=hide hg;clear hg)))
 go_end0;exact⟨rfl,HG.out⟩
theorem FY(T:Tabs base w)(h:(stA base x tb g cn s).holds w F)(hs:Sd n s)(hn:n<=16774000)(c id bB:Int)(ten txt:Bs)(hc:I6 c)(hk:(c,p,b)∈cn):Calls prog 90 #[pt x,pt tb, .int .i64 c, .agg (Mg.cs ⟨cR,id,bB,ten,txt⟩)] w fun e w'=>e= .returned (.tuple #[])∧ ∃g',Goes (stA base x tb g' cn (s.message c ⟨cR,id,bB,ten,txt⟩)) w F w':=by
 have HC:Hid (Calls prog 143 #[pt x,pt tb, .int .i64 c] (w.alloc (.cells (Mg.cs ⟨cR,id,bB,ten,txt⟩) 149)) fun e w'=>e= .returned (.tuple #[])∧ ∃g',Goes (stA base x tb g' cn (s.message c ⟨cR,id,bB,ten,txt⟩)) w F w'):=by show Calls _ _ _ _ _;have o1:Only F w (w.alloc (.cells (Mg.cs ⟨cR,id,bB,ten,txt⟩) 149)):=(Only.refl F w).alloc _;have n1: ∀k,F k->F k∨w.heap.size<=k:=fun k hk=> .inl hk;have b1:Below w.heap.size w (w.alloc (.cells (Mg.cs ⟨cR,id,bB,ten,txt⟩) 149)):=(ar _ _).alloc (af _) _;have T1:=T.new b1;have h1:=Mr.aF h b1;exact(E0 T1 h1 hs.inv hs.ok (by have:=hs.sz;omega) hc hk).mono (by rintro e w'⟨rfl,hg⟩;exact⟨rfl,g,by rw[Kz];exact ay o1 n1 hg⟩)
 clear h T;unfold Mg.cs cR pt at*;go_enter func90,ntmps90;go_wp2_with (first
  |(go_at_call 143;go_must(refine HC.out.mono ?_;rintro e w2⟨rfl,hg⟩;have HG:=hide hg;clear hg)))
 go_end0;exact⟨rfl,HG.out⟩
theorem KI(T:Tabs base w)(h:(stA base x tb g cn s).holds w F)(hs:Sd n s)(hn:n<=16774000)(hb:Busy s (fun _=>False))(c:Int)(hc:I6 c)(hk:(c,p,b)∈cn)(m:Mg)(hm:Mc.P0 m):Calls prog 90 #[pt x,pt tb, .int .i64 c, .agg m.cs] w fun e w'=>e= .returned (.tuple #[])∧ ∃g',Goes (stA base x tb g' cn (s.message c m)) w F w':=by
 have Vh:=hm.bd;have Z5:=hm.kind;obtain⟨kind,id,bB,ten,txt⟩:=m;dsimp only at Z5;rcases Z5 with rfl|rfl|rfl|rfl|rfl|rfl|rfl
 ·exact NV T h hs hn c id bB ten txt Vh
 ·exact NU T h hs hn c id bB ten txt hb Vh
 ·exact KH T h hs hn c id bB ten txt hc
 ·exact KE T h hs hn c id bB ten txt
 ·exact KF T h hs hn c id bB ten txt hb Vh
 ·exact KG T h hs hn c id bB ten txt hb Vh
 ·exact FY T h hs hn c id bB ten txt hc hk
