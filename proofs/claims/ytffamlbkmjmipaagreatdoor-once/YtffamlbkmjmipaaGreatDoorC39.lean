import Derived.Test.YtffamlbkmjmipaaGreatDoorC26
import Derived.Test.YtffamlbkmjmipaaGreatDoorC27
import Derived.Test.YtffamlbkmjmipaaGreatDoorC36
set_option maxHeartbeats 8000000
set_option maxRecDepth 100000
namespace Go.Proofs.YtffamlbkmjmipaaGreatDoor
open _root_.Go.Proofs.Tryz
namespace Pj
open Go.RowKit aJ Mc bG
attribute [local go_sem] ae ag
variable{base x tb n:Nat}{g:Gh}{cn:List (Int×Nat×Bs)}{s:St}{w:World}{F:Ft}
theorem Lh(ap rp x bx:Nat)(sY now he:Int)(hd:Bool)(w:World)(c1:w.cell? ⟨ap,4,none⟩=some (.int .i64 sY))(c2:w.cell? ⟨bx,0,none⟩=some (pt x))(c3:w.cell? ⟨x,5,none⟩=some (.int .i64 now))(c4:w.cell? ⟨x,4,none⟩=some (.int .i64 he))(c5:w.cell? ⟨ap,1,none⟩=some (pt rp))(c6:w.cell? ⟨rp,6,none⟩=some (.bool hd))(hb:0<=now∧now<=4398046511104∧0<=he∧he<=20):Calls prog 69 #[pt ap,pt bx] w fun e w'=>e= .returned (.bool (decide (sY<=now-he) && !hd))∧ ∃q,w'=w.drewN q:=by
 have Db:IntKind.i64.wrap (now-he)=now-he:=by rw[IntKind.wrap_i64];omega
 unfold pt at*;by_cases ht:sY<=now-he
 ·have C9:decide (sY<=now-he)=true:=by simpa using ht
  rw[C9];go_enter func69,ntmps69;go_wp2_with fail
  go_quiet (fail)
  go_wp2;go_ret;exact⟨by simp,_,rfl⟩
 ·have C9:decide (sY<=now-he)=false:=by simpa using ht
  rw[C9];go_enter func69,ntmps69;go_wp2_with fail
  go_quiet (fail)
  go_wp2;go_ret;exact⟨by simp,_,rfl⟩
structure pM(base x tb:Nat)(g:Gh)(cn:List (Int×Nat×Bs))(n:Nat)(s:St)(v':Value)(N:Nat)(w:World)(F:Ft)(k:Nat)(s':St)(wr:World):Prop where
 on:lG n s (s.ah.filter s.slow) k s'
 goes:Goes (aa (stA base x tb g cn s') (aa (rowA 127 1 v' (s.ah.filter s.slow).length ((s.ah.filter s.slow).map fun a=>pt (g.ap (key a)))) (blk N (.cells #[pt x] 40 (0,0))))) w F wr
theorem pM.round{s':St}{v':Value}{N:Nat}{k:Nat}{wr:World}(T:Tabs base w)(hF: ∀k,F k->base<=k)(ho:Ok s)(hn:n<=16776000)(h0:s.c.he≠0)(Ey:0<=s.c.he)(h:pM base x tb g cn n s v' N w F k s' wr){L:List At}(hL:s.ah.filter s.slow=L)(hk:k<L.length): ∃(b off cap:Nat),v'= .slice (some ⟨b,off,none⟩) L.length cap∧wr.cell? ⟨b,off+k,none⟩=some (pt (g.ap (key L[k])))∧wr.cell? ⟨g.ap (key L[k]),1,none⟩=some (pt (g.rp L[k].id))∧wr.frozen? ⟨g.rp L[k].id,6,none⟩=false∧(∃t,wr.cell? ⟨g.rp L[k].id,6,none⟩=some (.bool t))∧(wr.setCell ⟨g.rp L[k].id,6,none⟩ (.bool true)).cell? ⟨N,0,none⟩=some (pt x)∧(wr.setCell ⟨g.rp L[k].id,6,none⟩ (.bool true)).cell? ⟨g.ap (key L[k]),1,none⟩=some (pt (g.rp L[k].id))∧ ∀nq,Calls prog 70 #[pt x,pt (g.rp L[k].id)] ((wr.setCell ⟨g.rp L[k].id,6,none⟩ (.bool true)).drewN nq) fun e w'=>e= .returned (.tuple #[])∧ ∃uM,pM base x tb g cn n s v' N w F (k+1) uM w':=by
 subst hL;obtain⟨F1,bU,o1,n1⟩:=h.goes;obtain⟨G,H,ha,hb,d,e⟩:=id bU;have nI:=h.on;have hz:=nI.sd.sz;have T1:Tabs base wr:=T.goes hF ⟨F1,bU,o1,n1⟩;have pE:(s.ah.filter s.slow)[k]∈s'.ah:=by rw[nI.same.1];exact(aL.1 (bS hk)).1
 generalize eL:(s.ah.filter s.slow)[k]=a at*;obtain⟨ca0,ca1,ca2,cr0⟩:=jD ha nI.sd.inv (by omega) pE;obtain⟨q,hq,wE,GD⟩:=St.cu (nI.sd.inv.bF a pE);obtain⟨ao,cap,dK,cQ,RA⟩:=fL ha nI.sd.inv (by omega) hq;have GC:=Qy T1 ha nI.sd.inv (by omega) hq (fun r=>{r with hedged:=true}) (fun _=>rfl) (fun _=>rfl) 6 (.bool true) (fun av=>rfl);have g2:=aO hb GC d e;obtain⟨F2,gV,o2,n2⟩:=id g2;obtain⟨G2,H2,ha2,cZ,d2,e2⟩:=id gV;have i2:=St.jC nI.sd.inv a.id (fun r=>{r with hedged:=true}) (fun _=>⟨rfl,rfl⟩);have z2:(s'.bj a.id (fun r=>{r with hedged:=true})).sz<=16777000:=by rw[St.nW];omega
 have aal:=(jD ha2 i2 z2 (a:=a) pE).2.1;have ux:(s'.bj a.id (fun r=>{r with hedged:=true})).req a.id=some {q with hedged:=true}:=by rw[St.jz nI.sd.inv a.id a.id (fun r=>{r with hedged:=true}) (fun _=>rfl),hq];simp
 have hN:=(cK (aA cZ (bq _ _))).1;obtain⟨Gr,pX,_⟩:=aJ.left hb;obtain⟨aor,FQ,rfl,cX,bQ⟩:=Mr.cE pX;obtain⟨b,off,rfl⟩:=bQ (by omega);have T2:Tabs base (wr.setCell ⟨g.rp a.id,6,none⟩ (.bool true)):=T1.goes (cB ha) GC;refine⟨b,off,FQ,rfl, ?_,ca1,RA.fz 6,⟨_,RA.hedged⟩,by simp only[World.cell?,hN];rfl,aal,fun nq=> ?_⟩
 ·rw[bf pX k (by omega),List.getElem?_map,aY hk,eL];rfl
 ·refine(uS (T2.below (s8 (au _ _) nq)) (bI ha2 nq) i2 z2 ux).mono ?_;rintro e' w'⟨rfl,hg⟩;refine⟨rfl,s'.cF a,⟨?_, ?_⟩⟩
  ·have:=nI.step ho hk h0 Ey;rw[eL]at this;exact this
  ·exact aC o1 n1 (aC o2 n2 (aO cZ (df hg) d2 e2))
theorem Kj(T:Tabs base w)(h:(stA base x tb g cn s).holds w F)(hs:Sd n s)(hn:n<=16776000):Calls prog 41 #[pt x] w fun e w'=>e= .returned (.tuple #[])∧Goes (stA base x tb g cn s.dE) w F w':=by
 have hz:=hs.sz;have hF:=cB h;have C7:=hs.bd.now;have hhe:=hs.bd.c.he;obtain⟨c4,uA⟩:w.cell? ⟨x,4,none⟩=some (.int .i64 s.c.he)∧x<w.heap.size:=by obtain⟨j,r1,r2,r3,_,hh⟩:=id h;obtain⟨G,hj,_⟩:=aJ.left hh;obtain⟨v,hv⟩:=hj;have D:=wJ hv;exact⟨by rw[D.1 4];show some (Value.int .i64 j.c.he)=_;rw[r1.c],D.2.2⟩
 have g1:=(Goes.refl h).alloc (.cells #[pt x] 40 (0,0));have g1':=g1.eq (bq _ _);have c4':(w.alloc (.cells #[pt x] 40)).cell? ⟨x,4,none⟩=some (.int .i64 s.c.he):=by rw[<-c4];exact bN ((au _ _).alloc (af _) _) uA
 have cN:(w.alloc (.cells #[pt x] 40)).cell? ⟨w.heap.size,0,none⟩=some (pt x):=by simp only[World.cell?,heap_alloc_new];rfl
 by_cases h0:s.c.he=0
 ·rw[St.Gi h0];rw[h0]at c4';have HG:=hide g1'.drop;clear h g1 g1' c4;unfold pt at*;go_enter func41,ntmps41;go_wp2
  (try simp only[Exit.inBlock,Exit.then])
  exact bodyPost_ret (results_none rfl _ _ _) rfl ⟨rfl,HG.out⟩
 ·have L8:Hid (Calls prog 68 #[pt x, .func (.func 69) #[] #[pt w.heap.size]] (w.alloc (.cells #[pt x] 40)) fun e w'=> ∃fX bP,e= .returned (.slice fX (s.ah.filter s.slow).length bP)∧Hid (pM base x tb g cn n s (.slice fX (s.ah.filter s.slow).length bP) w.heap.size w F 0 s w')):=by
   obtain⟨F1,bU,o1,n1⟩:=g1';obtain⟨G,H,ha,hb,d,e⟩:=bU;show Calls _ _ _ _ _;refine(uL ha hs.inv (by omega) (au _ _) s.slow 69 #[pt w.heap.size] (enters_of func69 (by kernel_rfl) rfl) (fun wr hr a Xr=> ?_)).mono ?_
   ·obtain⟨kk,q,hq,GD,rG,av,LU⟩:=Jt ha hs.inv (by omega) Xr;have hx5:(w.alloc (.cells #[pt x] 40)).cell? ⟨x,5,none⟩=some (.int .i64 s.now):=by
     obtain⟨j,r1,r2,r3,_,hh⟩:=id ha;obtain⟨G,hj,_⟩:=aJ.left hh;obtain⟨v,hv⟩:=hj;rw[(wJ hv).1 5];show some (Value.int .i64 j.now)=_;rw[r1.now]
    have Y6:g.ap (key a)<(w.alloc (.cells #[pt x] 40)).heap.size:=(cC.1 rG).1;have nJ:g.rp a.id<(w.alloc (.cells #[pt x] 40)).heap.size:=(cC.1 LU).1;have Kw:x<(w.alloc (.cells #[pt x] 40)).heap.size:=by simp;omega
    have Y3:wr.heap[g.ap (key a)]?=some (.cells (mr g a kk) 126 (0,0)):=(hr.block _ Y6).trans rG;have aaW:wr.heap[g.rp a.id]?=some (.cells (ot g s.c.re q av) 132 (0,0)):=(hr.block _ nJ).trans LU;have hS:=Lh (g.ap (key a)) (g.rp a.id) x w.heap.size a.sY s.now s.c.he q.hedged wr (by simp only[World.cell?,Y3];rfl) (by rw[bN hr (by simp)];exact cN) (by rw[bN hr Kw];exact hx5) (by rw[bN hr Kw];exact c4') (by simp only[World.cell?,Y3];rfl) (by simp only[World.cell?,aaW];rfl) (by omega);have es:s.slow a=(decide (a.sY<=s.now-s.c.he) && !q.hedged):=by
     unfold St.slow;rw[hq];dsimp only;congr 1;by_cases e:s.c.he<=s.now-a.sY
     ·have e2:a.sY<=s.now-s.c.he:=by omega
      simp[e,e2]
     ·have e2: ¬a.sY<=s.now-s.c.he:=by omega
      simp[e,e2]
    rw[es];exact hS
   ·rintro e' w'⟨v',rfl,_,hg⟩;have fw:=aC o1 n1 (aO hb hg d e);have iD:=fw.eq (bA _ _ _);have uu:=iD;obtain⟨F3,mB,_⟩:=iD;obtain⟨G3,H3,_,uX,_⟩:=mB;obtain⟨Gr,pX,_⟩:=aJ.left uX;obtain⟨fX,bP,rfl⟩:=aR (Goes.refl pX);exact⟨fX,bP,rfl,⟨lG.start hs,uu⟩⟩
  have L5:Hid (∀k (hk:k<(s.ah.filter s.slow).length) v' s' wr,pM base x tb g cn n s v' w.heap.size w F k s' wr->_):=fun k hk v' s' wr hb=>hb.round T hF hs.ok hn h0 hhe.1 rfl hk;have kJ:Hid (∀v' s' wr,pM base x tb g cn n s v' w.heap.size w F (s.ah.filter s.slow).length s' wr->Goes (stA base x tb g cn s.dE) w F wr):=fun v' s' wr hb=>by have:=hb.goes.drop;rw[hb.on.is,List.take_length,<-St.C3 hs.inv hs.ok h0 hhe.1]at this;exact this
  have LS:(s.ah.filter s.slow).length<=16777216:=by have h1:(s.ah.filter s.slow).length<=s.ah.length:=List.length_filter_le ..;unfold St.sz at hz;omega
  have Ey:(s.c.he==0)=false:=by simpa using h0
  clear h g1 g1' c4 C7 hhe;unfold pt at*;generalize hL:(s.ah.filter s.slow)=L at*;clear hL;go_enter func41,ntmps41;go_wp2_with (first
   |(go_at_call 68;go_must(refine L8.out.mono ?_;rintro e w2⟨fX,bP,rfl,L1⟩)))
  clear L8 cN c4';go_loopw [16] (fun i wr=> ∃k:Nat,k<=L.length∧i= .int .i64 k∧ ∃s',Hid (pM base x tb g cn n s (.slice fX L.length bP) w.heap.size w F k s' wr)) (fun i _=>L.length-(intOf i).toNat)
  case atStart=>exact⟨0,bh _,rfl,s,L1⟩
  case round=>
   obtain⟨k,hk,rfl,s',oa⟩:=hrel;by_cases aN:k<L.length
   ·obtain⟨b,off,cQ,ev,c0,c1,fz,⟨t,ct⟩,zm,c12,iA⟩:=L5.out k aN _ _ _ oa.out;cases ev;have Yl:=hide iA;clear L5 oa L1 kJ iA;generalize g.ap (key L[k])=ap at*;generalize g.rp L[k].id=rp at*;generalize w.heap.size=N at*;go_wp2_with fail;go_region_with (first
     |(go_at_call 70;go_must(refine(Yl.out 1).mono ?_;rintro e w5⟨rfl,uM,hb⟩;have HBN:=hide hb;clear hb)))
    all_goals
     clear Yl;go_wp2;go_roundw
     case rel=>exact⟨k+1,by omega,by go_num,uM,HBN⟩
     case measure=>simp[intOf];omega
   ·obtain rfl:k=L.length:=by omega
    have HE:=hide (kJ.out _ _ _ oa.out);clear L5 oa L1 kJ;go_wp2;go_end0;exact⟨rfl,HE.out⟩
variable{base x tb n p:Nat}{g:Gh}{cn:List (Int×Nat×Bs)}{s:St}{w:World}{F:Ft}{b:Bs}
theorem WB(s:St)(c id bF:Int)(ten txt:Bs):s.message c ⟨fT,id,bF,ten,txt⟩=s.cf c ⟨fT,id,bF,ten,txt⟩:=by unfold St.message;rw[if_pos rfl]
theorem WA(s:St)(c id bF:Int)(ten txt:Bs):s.message c ⟨gW,id,bF,ten,txt⟩=Cr s c id:=by unfold St.message;rw[if_neg (show¬gW=fT by decide),if_pos rfl];rfl
theorem Tm(s:St)(c id bF:Int)(ten txt:Bs):s.message c ⟨eY,id,bF,ten,txt⟩=uJ s c:=by unfold St.message;rw[if_neg (show¬eY=fT by decide),if_neg (show¬eY=gW by decide),if_pos rfl];rfl
theorem Tj(s:St)(c id bF:Int)(ten txt:Bs):s.message c ⟨eX,id,bF,ten,txt⟩=zL s c:=by unfold St.message;rw[if_neg (show¬eX=fT by decide),if_neg (show¬eX=gW by decide),if_neg (show¬eX=eY by decide),if_pos rfl];rfl
theorem Tk(s:St)(c id bF:Int)(ten txt:Bs):s.message c ⟨bO,id,bF,ten,txt⟩=zR s c ⟨bO,id,bF,ten,txt⟩:=by unfold St.message;rw[if_neg (show¬bO=fT by decide),if_neg (show¬bO=gW by decide),if_neg (show¬bO=eY by decide),if_neg (show¬bO=eX by decide),if_pos rfl];rfl
theorem Tl(s:St)(c id bF:Int)(ten txt:Bs):s.message c ⟨kFail,id,bF,ten,txt⟩=zT s c ⟨kFail,id,bF,ten,txt⟩:=by unfold St.message;rw[if_neg (show¬kFail=fT by decide),if_neg (show¬kFail=gW by decide),if_neg (show¬kFail=eY by decide),if_neg (show¬kFail=eX by decide),if_neg (show¬kFail=bO by decide),if_pos rfl];rfl
theorem Qb(s:St)(c id bF:Int)(ten txt:Bs):s.message c ⟨cU,id,bF,ten,txt⟩=tq s c:=by unfold St.message;rw[if_neg (show¬cU=fT by decide),if_neg (show¬cU=gW by decide),if_neg (show¬cU=eY by decide),if_neg (show¬cU=eX by decide),if_neg (show¬cU=bO by decide),if_neg (show¬cU=kFail by decide),if_pos rfl];rfl
theorem Tw(T:Tabs base w)(h:(stA base x tb g cn s).holds w F)(hs:Sd n s)(hn:n<=16774000)(c id bF:Int)(ten txt:Bs)(hm:Bd.bG ⟨fT,id,bF,ten,txt⟩):Calls prog 90 #[pt x,pt tb, .int .i64 c, .agg (Mg.cs ⟨fT,id,bF,ten,txt⟩)] w fun e w'=>e= .returned (.tuple #[])∧ ∃g',Goes (stA base x tb g' cn (s.message c ⟨fT,id,bF,ten,txt⟩)) w F w':=by
 have HC:Hid (Calls prog 137 #[pt x,pt tb, .int .i64 c, .agg (Mg.cs ⟨fT,id,bF,ten,txt⟩)] (w.alloc (.cells (Mg.cs ⟨fT,id,bF,ten,txt⟩) 149)) fun e w'=>e= .returned (.tuple #[])∧ ∃g',Goes (stA base x tb g' cn (s.message c ⟨fT,id,bF,ten,txt⟩)) w F w'):=by show Calls _ _ _ _ _;have o1:Only F w (w.alloc (.cells (Mg.cs ⟨fT,id,bF,ten,txt⟩) 149)):=(Only.refl F w).alloc _;have n1: ∀k,F k->F k∨w.heap.size<=k:=fun k hk=> .inl hk;have b1:Below w.heap.size w (w.alloc (.cells (Mg.cs ⟨fT,id,bF,ten,txt⟩) 149)):=(au _ _).alloc (af _) _;have T1:=T.new b1;have h1:=Mr.aI h b1;exact(Hq T1 h1 hs (by omega) c ⟨fT,id,bF,ten,txt⟩ hm.id hm.ten).mono (by rintro e w'⟨rfl,g',hg⟩;exact⟨rfl,g',by rw[WB];exact aC o1 n1 hg⟩)
 clear h T;unfold Mg.cs fT pt at*;go_enter func90,ntmps90;go_wp2_with (first
  |(go_at_call 137;go_must(refine HC.out.mono ?_;rintro e w2⟨rfl,hg⟩;have HG:=hide hg;clear hg)))
 go_end0;exact⟨rfl,HG.out⟩
theorem Tv(T:Tabs base w)(h:(stA base x tb g cn s).holds w F)(hs:Sd n s)(hn:n<=16774000)(c id bF:Int)(ten txt:Bs)(hb:Busy s (fun _=>False))(hm:Bd.bG ⟨gW,id,bF,ten,txt⟩):Calls prog 90 #[pt x,pt tb, .int .i64 c, .agg (Mg.cs ⟨gW,id,bF,ten,txt⟩)] w fun e w'=>e= .returned (.tuple #[])∧ ∃g',Goes (stA base x tb g' cn (s.message c ⟨gW,id,bF,ten,txt⟩)) w F w':=by
 have HC:Hid (Calls prog 138 #[pt x,pt tb, .int .i64 c, .int .i64 id] (w.alloc (.cells (Mg.cs ⟨gW,id,bF,ten,txt⟩) 149)) fun e w'=>e= .returned (.tuple #[])∧ ∃g',Goes (stA base x tb g' cn (s.message c ⟨gW,id,bF,ten,txt⟩)) w F w'):=by show Calls _ _ _ _ _;have o1:Only F w (w.alloc (.cells (Mg.cs ⟨gW,id,bF,ten,txt⟩) 149)):=(Only.refl F w).alloc _;have n1: ∀k,F k->F k∨w.heap.size<=k:=fun k hk=> .inl hk;have b1:Below w.heap.size w (w.alloc (.cells (Mg.cs ⟨gW,id,bF,ten,txt⟩) 149)):=(au _ _).alloc (af _) _;have T1:=T.new b1;have h1:=Mr.aI h b1;exact(FP T1 h1 hs (by omega) hb c id hm.id).mono (by rintro e w'⟨rfl,hg⟩;exact⟨rfl,g,by rw[WA];exact aC o1 n1 hg⟩)
 clear h T;unfold Mg.cs gW pt at*;go_enter func90,ntmps90;go_wp2_with (first
  |(go_at_call 138;go_must(refine HC.out.mono ?_;rintro e w2⟨rfl,hg⟩;have HG:=hide hg;clear hg)))
 go_end0;exact⟨rfl,HG.out⟩
theorem Qi(T:Tabs base w)(h:(stA base x tb g cn s).holds w F)(hs:Sd n s)(hn:n<=16774000)(c id bF:Int)(ten txt:Bs)(hc:I6 c):Calls prog 90 #[pt x,pt tb, .int .i64 c, .agg (Mg.cs ⟨eY,id,bF,ten,txt⟩)] w fun e w'=>e= .returned (.tuple #[])∧ ∃g',Goes (stA base x tb g' cn (s.message c ⟨eY,id,bF,ten,txt⟩)) w F w':=by
 have HC:Hid (Calls prog 139 #[pt x, .int .i64 c] (w.alloc (.cells (Mg.cs ⟨eY,id,bF,ten,txt⟩) 149)) fun e w'=>e= .returned (.tuple #[])∧ ∃g',Goes (stA base x tb g' cn (s.message c ⟨eY,id,bF,ten,txt⟩)) w F w'):=by show Calls _ _ _ _ _;have o1:Only F w (w.alloc (.cells (Mg.cs ⟨eY,id,bF,ten,txt⟩) 149)):=(Only.refl F w).alloc _;have n1: ∀k,F k->F k∨w.heap.size<=k:=fun k hk=> .inl hk;have b1:Below w.heap.size w (w.alloc (.cells (Mg.cs ⟨eY,id,bF,ten,txt⟩) 149)):=(au _ _).alloc (af _) _;have T1:=T.new b1;have h1:=Mr.aI h b1;exact(Qx T1 h1 hs.inv hs.ok (by have:=hs.sz;omega) c hc).mono (by rintro e w'⟨rfl,hg⟩;exact⟨rfl,g,by rw[Tm];exact aC o1 n1 hg⟩)
 clear h T;unfold Mg.cs eY pt at*;go_enter func90,ntmps90;go_wp2_with (first
  |(go_at_call 139;go_must(refine HC.out.mono ?_;rintro e w2⟨rfl,hg⟩;have HG:=hide hg;clear hg)))
 go_end0;exact⟨rfl,HG.out⟩
theorem Qf(T:Tabs base w)(h:(stA base x tb g cn s).holds w F)(hs:Sd n s)(hn:n<=16774000)(c id bF:Int)(ten txt:Bs):Calls prog 90 #[pt x,pt tb, .int .i64 c, .agg (Mg.cs ⟨eX,id,bF,ten,txt⟩)] w fun e w'=>e= .returned (.tuple #[])∧ ∃g',Goes (stA base x tb g' cn (s.message c ⟨eX,id,bF,ten,txt⟩)) w F w':=by
 have HC:Hid (Calls prog 140 #[pt x, .int .i64 c] (w.alloc (.cells (Mg.cs ⟨eX,id,bF,ten,txt⟩) 149)) fun e w'=>e= .returned (.tuple #[])∧ ∃g',Goes (stA base x tb g' cn (s.message c ⟨eX,id,bF,ten,txt⟩)) w F w'):=by show Calls _ _ _ _ _;have o1:Only F w (w.alloc (.cells (Mg.cs ⟨eX,id,bF,ten,txt⟩) 149)):=(Only.refl F w).alloc _;have n1: ∀k,F k->F k∨w.heap.size<=k:=fun k hk=> .inl hk;have b1:Below w.heap.size w (w.alloc (.cells (Mg.cs ⟨eX,id,bF,ten,txt⟩) 149)):=(au _ _).alloc (af _) _;have T1:=T.new b1;have h1:=Mr.aI h b1;exact(MG T1 h1 hs (by omega) c).mono (by rintro e w'⟨rfl,hg⟩;exact⟨rfl,g,by rw[Tj];exact aC o1 n1 hg⟩)
 clear h T;unfold Mg.cs eX pt at*;go_enter func90,ntmps90;go_wp2_with (first
  |(go_at_call 140;go_must(refine HC.out.mono ?_;rintro e w2⟨rfl,hg⟩;have HG:=hide hg;clear hg)))
 go_end0;exact⟨rfl,HG.out⟩
theorem Qg(T:Tabs base w)(h:(stA base x tb g cn s).holds w F)(hs:Sd n s)(hn:n<=16774000)(c id bF:Int)(ten txt:Bs)(hb:Busy s (fun _=>False))(hm:Bd.bG ⟨bO,id,bF,ten,txt⟩):Calls prog 90 #[pt x,pt tb, .int .i64 c, .agg (Mg.cs ⟨bO,id,bF,ten,txt⟩)] w fun e w'=>e= .returned (.tuple #[])∧ ∃g',Goes (stA base x tb g' cn (s.message c ⟨bO,id,bF,ten,txt⟩)) w F w':=by
 have HC:Hid (Calls prog 141 #[pt x,pt tb, .int .i64 c, .agg (Mg.cs ⟨bO,id,bF,ten,txt⟩)] (w.alloc (.cells (Mg.cs ⟨bO,id,bF,ten,txt⟩) 149)) fun e w'=>e= .returned (.tuple #[])∧ ∃g',Goes (stA base x tb g' cn (s.message c ⟨bO,id,bF,ten,txt⟩)) w F w'):=by show Calls _ _ _ _ _;have o1:Only F w (w.alloc (.cells (Mg.cs ⟨bO,id,bF,ten,txt⟩) 149)):=(Only.refl F w).alloc _;have n1: ∀k,F k->F k∨w.heap.size<=k:=fun k hk=> .inl hk;have b1:Below w.heap.size w (w.alloc (.cells (Mg.cs ⟨bO,id,bF,ten,txt⟩) 149)):=(au _ _).alloc (af _) _;have T1:=T.new b1;have h1:=Mr.aI h b1;exact(M8 T1 h1 hs (by omega) hb c ⟨bO,id,bF,ten,txt⟩ hm.id hm.txt).mono (by rintro e w'⟨rfl,hg⟩;exact⟨rfl,g,by rw[Tk];exact aC o1 n1 hg⟩)
 clear h T;unfold Mg.cs bO pt at*;go_enter func90,ntmps90;go_wp2_with (first
  |(go_at_call 141;go_must(refine HC.out.mono ?_;rintro e w2⟨rfl,hg⟩;have HG:=hide hg;clear hg)))
 go_end0;exact⟨rfl,HG.out⟩
theorem Qh(T:Tabs base w)(h:(stA base x tb g cn s).holds w F)(hs:Sd n s)(hn:n<=16774000)(c id bF:Int)(ten txt:Bs)(hb:Busy s (fun _=>False))(hm:Bd.bG ⟨kFail,id,bF,ten,txt⟩):Calls prog 90 #[pt x,pt tb, .int .i64 c, .agg (Mg.cs ⟨kFail,id,bF,ten,txt⟩)] w fun e w'=>e= .returned (.tuple #[])∧ ∃g',Goes (stA base x tb g' cn (s.message c ⟨kFail,id,bF,ten,txt⟩)) w F w':=by
 have HC:Hid (Calls prog 142 #[pt x,pt tb, .int .i64 c, .agg (Mg.cs ⟨kFail,id,bF,ten,txt⟩)] (w.alloc (.cells (Mg.cs ⟨kFail,id,bF,ten,txt⟩) 149)) fun e w'=>e= .returned (.tuple #[])∧ ∃g',Goes (stA base x tb g' cn (s.message c ⟨kFail,id,bF,ten,txt⟩)) w F w'):=by show Calls _ _ _ _ _;have o1:Only F w (w.alloc (.cells (Mg.cs ⟨kFail,id,bF,ten,txt⟩) 149)):=(Only.refl F w).alloc _;have n1: ∀k,F k->F k∨w.heap.size<=k:=fun k hk=> .inl hk;have b1:Below w.heap.size w (w.alloc (.cells (Mg.cs ⟨kFail,id,bF,ten,txt⟩) 149)):=(au _ _).alloc (af _) _;have T1:=T.new b1;have h1:=Mr.aI h b1;exact(Nf T1 h1 hs (by omega) hb c ⟨kFail,id,bF,ten,txt⟩ hm.id).mono (by rintro e w'⟨rfl,hg⟩;exact⟨rfl,g,by rw[Tl];exact aC o1 n1 hg⟩)
 clear h T;unfold Mg.cs kFail pt at*;go_enter func90,ntmps90;go_wp2_with (first
  |(go_at_call 142;go_must(refine HC.out.mono ?_;rintro e w2⟨rfl,hg⟩;have HG:=hide hg;clear hg)))
 go_end0;exact⟨rfl,HG.out⟩
theorem KP(T:Tabs base w)(h:(stA base x tb g cn s).holds w F)(hs:Sd n s)(hn:n<=16774000)(c id bF:Int)(ten txt:Bs)(hc:I6 c)(hk:(c,p,b)∈cn):Calls prog 90 #[pt x,pt tb, .int .i64 c, .agg (Mg.cs ⟨cU,id,bF,ten,txt⟩)] w fun e w'=>e= .returned (.tuple #[])∧ ∃g',Goes (stA base x tb g' cn (s.message c ⟨cU,id,bF,ten,txt⟩)) w F w':=by
 have HC:Hid (Calls prog 143 #[pt x,pt tb, .int .i64 c] (w.alloc (.cells (Mg.cs ⟨cU,id,bF,ten,txt⟩) 149)) fun e w'=>e= .returned (.tuple #[])∧ ∃g',Goes (stA base x tb g' cn (s.message c ⟨cU,id,bF,ten,txt⟩)) w F w'):=by show Calls _ _ _ _ _;have o1:Only F w (w.alloc (.cells (Mg.cs ⟨cU,id,bF,ten,txt⟩) 149)):=(Only.refl F w).alloc _;have n1: ∀k,F k->F k∨w.heap.size<=k:=fun k hk=> .inl hk;have b1:Below w.heap.size w (w.alloc (.cells (Mg.cs ⟨cU,id,bF,ten,txt⟩) 149)):=(au _ _).alloc (af _) _;have T1:=T.new b1;have h1:=Mr.aI h b1;exact(JN T1 h1 hs.inv hs.ok (by have:=hs.sz;omega) hc hk).mono (by rintro e w'⟨rfl,hg⟩;exact⟨rfl,g,by rw[Qb];exact aC o1 n1 hg⟩)
 clear h T;unfold Mg.cs cU pt at*;go_enter func90,ntmps90;go_wp2_with (first
  |(go_at_call 143;go_must(refine HC.out.mono ?_;rintro e w2⟨rfl,hg⟩;have HG:=hide hg;clear hg)))
 go_end0;exact⟨rfl,HG.out⟩
theorem Qj(T:Tabs base w)(h:(stA base x tb g cn s).holds w F)(hs:Sd n s)(hn:n<=16774000)(hb:Busy s (fun _=>False))(c:Int)(hc:I6 c)(hk:(c,p,b)∈cn)(m:Mg)(hm:Mc.Vf m):Calls prog 90 #[pt x,pt tb, .int .i64 c, .agg m.cs] w fun e w'=>e= .returned (.tuple #[])∧ ∃g',Goes (stA base x tb g' cn (s.message c m)) w F w':=by
 have VJ:=hm.bd;have hkd:=hm.kind;obtain⟨kind,id,bF,ten,txt⟩:=m;dsimp only at hkd;rcases hkd with rfl|rfl|rfl|rfl|rfl|rfl|rfl
 ·exact Tw T h hs hn c id bF ten txt VJ
 ·exact Tv T h hs hn c id bF ten txt hb VJ
 ·exact Qi T h hs hn c id bF ten txt hc
 ·exact Qf T h hs hn c id bF ten txt
 ·exact Qg T h hs hn c id bF ten txt hb VJ
 ·exact Qh T h hs hn c id bF ten txt hb VJ
 ·exact KP T h hs hn c id bF ten txt hc hk
