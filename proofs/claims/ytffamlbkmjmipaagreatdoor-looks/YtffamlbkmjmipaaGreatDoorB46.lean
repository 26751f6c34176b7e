import Derived.Test.YtffamlbkmjmipaaGreatDoorB38
import Derived.Test.YtffamlbkmjmipaaGreatDoorB42
import Derived.Test.YtffamlbkmjmipaaGreatDoorB43
set_option maxHeartbeats 8000000
set_option maxRecDepth 100000
namespace Go.Proofs.YtffamlbkmjmipaaGreatDoor
open _root_.Go.Proofs.Tryz
namespace Pj
open Go.RowKit aM Mc bJ
attribute [local go_sem] ag ar
variable{base x tb n:Nat}{g:Gh}{cn:List (Int×Nat×Bs)}{s:St}{w:World}{F:Ft}
theorem Ng(ap rp x bx:Nat)(k7 now he:Int)(hd:Bool)(w:World)(c1:w.cell? ⟨ap,4,none⟩=some (.int .i64 k7))(c2:w.cell? ⟨bx,0,none⟩=some (pt x))(c3:w.cell? ⟨x,5,none⟩=some (.int .i64 now))(c4:w.cell? ⟨x,4,none⟩=some (.int .i64 he))(c5:w.cell? ⟨ap,1,none⟩=some (pt rp))(c6:w.cell? ⟨rp,6,none⟩=some (.bool hd))(hb:0<=now∧now<=4398046511104∧0<=he∧he<=20):Calls prog 69 #[pt ap,pt bx] w fun e w'=>e= .returned (.bool (decide (k7<=now-he) && !hd))∧ ∃q,w'=w.drewN q:=by
 have En:IntKind.i64.wrap (now-he)=now-he:=by rw[IntKind.wrap_i64];omega
 unfold pt at*;by_cases ht:k7<=now-he
 ·have El:decide (k7<=now-he)=true:=by simpa using ht
  rw[El];go_enter func69,ntmps69;go_wp2_with fail
  go_quiet (fail)
  go_wp2;go_ret;exact⟨by simp,_,rfl⟩
 ·have El:decide (k7<=now-he)=false:=by simpa using ht
  rw[El];go_enter func69,ntmps69;go_wp2_with fail
  go_quiet (fail)
  go_wp2;go_ret;exact⟨by simp,_,rfl⟩
structure sg(base x tb:Nat)(g:Gh)(cn:List (Int×Nat×Bs))(n:Nat)(s:St)(v':Value)(N:Nat)(w:World)(F:Ft)(k:Nat)(s':St)(wr:World):Prop where
 on:ow n s (s.af.filter s.slow) k s'
 goes:Goes (aa (stA base x tb g cn s') (aa (rowA 127 1 v' (s.af.filter s.slow).length ((s.af.filter s.slow).map fun a=>pt (g.ap (key a)))) (blk N (.cells #[pt x] 40 (0,0))))) w F wr
theorem sg.round{s':St}{v':Value}{N:Nat}{k:Nat}{wr:World}(T:Tabs base w)(hF: ∀k,F k->base<=k)(ho:Ok s)(hn:n<=16776000)(h0:s.c.he≠0)(xt:0<=s.c.he)(h:sg base x tb g cn n s v' N w F k s' wr){L:List At}(hL:s.af.filter s.slow=L)(hk:k<L.length): ∃(b off cap:Nat),v'= .slice (some ⟨b,off,none⟩) L.length cap∧wr.cell? ⟨b,off+k,none⟩=some (pt (g.ap (key L[k])))∧wr.cell? ⟨g.ap (key L[k]),1,none⟩=some (pt (g.rp L[k].id))∧wr.frozen? ⟨g.rp L[k].id,6,none⟩=false∧(∃t,wr.cell? ⟨g.rp L[k].id,6,none⟩=some (.bool t))∧(wr.setCell ⟨g.rp L[k].id,6,none⟩ (.bool true)).cell? ⟨N,0,none⟩=some (pt x)∧(wr.setCell ⟨g.rp L[k].id,6,none⟩ (.bool true)).cell? ⟨g.ap (key L[k]),1,none⟩=some (pt (g.rp L[k].id))∧ ∀nq,Calls prog 70 #[pt x,pt (g.rp L[k].id)] ((wr.setCell ⟨g.rp L[k].id,6,none⟩ (.bool true)).drewN nq) fun e w'=>e= .returned (.tuple #[])∧ ∃wy,sg base x tb g cn n s v' N w F (k+1) wy w':=by
 subst hL;obtain⟨F1,cd,o1,n1⟩:=h.goes;obtain⟨G,H,ha,hb,d,e⟩:=id cd;have pF:=h.on;have hz:=pF.sd.sz;have T1:Tabs base wr:=T.goes hF ⟨F1,cd,o1,n1⟩;have rR:(s.af.filter s.slow)[k]∈s'.af:=by rw[pF.same.1];exact(aR.1 (aY hk)).1
 generalize eL:(s.af.filter s.slow)[k]=a at*;obtain⟨ca0,ca1,ca2,cr0⟩:=lY ha pF.sd.inv (by omega) rR;obtain⟨q,hq,yH,Ix⟩:=St.cz (pF.sd.inv.bS a rR);obtain⟨ao,cap,cU,b9,RA⟩:=gK ha pF.sd.inv (by omega) hq;have Iw:=Q0 T1 ha pF.sd.inv (by omega) hq (fun r=>{r with bn:=true}) (fun _=>rfl) (fun _=>rfl) 6 (.bool true) (fun av=>rfl);have g2:=aV hb Iw d e;obtain⟨F2,eX,o2,n2⟩:=id g2;obtain⟨G2,H2,ha2,bN,d2,e2⟩:=id eX;have i2:=St.iq pF.sd.inv a.id (fun r=>{r with bn:=true}) (fun _=>⟨rfl,rfl⟩);have z2:(s'.bu a.id (fun r=>{r with bn:=true})).sz<=16777000:=by rw[St.ra];omega
 have abU:=(lY ha2 i2 z2 (a:=a) rR).2.1;have qN:(s'.bu a.id (fun r=>{r with bn:=true})).req a.id=some {q with bn:=true}:=by rw[St.lT pF.sd.inv a.id a.id (fun r=>{r with bn:=true}) (fun _=>rfl),hq];simp
 have hN:=(dC (aB bN (cA _ _))).1;obtain⟨Gr,kG,_⟩:=aM.left hb;obtain⟨aor,Hr,rfl,dF,bI⟩:=Mr.bO kG;obtain⟨b,off,rfl⟩:=bI (by omega);have T2:Tabs base (wr.setCell ⟨g.rp a.id,6,none⟩ (.bool true)):=T1.goes (dx ha) Iw;refine⟨b,off,Hr,rfl, ?_,ca1,RA.fz 6,⟨_,RA.bn⟩,by simp only[World.cell?,hN];rfl,abU,fun nq=> ?_⟩
 ·rw[bm kG k (by omega),List.getElem?_map,a7 hk,eL];rfl
 ·refine(wF (T2.below (uQ (ah _ _) nq)) (cB ha2 nq) i2 z2 qN).mono ?_;rintro e' w'⟨rfl,hg⟩;refine⟨rfl,s'.dG a,⟨?_, ?_⟩⟩
  ·have:=pF.step ho hk h0 xt;rw[eL]at this;exact this
  ·exact aF o1 n1 (aF o2 n2 (aV bN (eT hg) d2 e2))
theorem Ma(T:Tabs base w)(h:(stA base x tb g cn s).holds w F)(hs:Sd n s)(hn:n<=16776000):Calls prog 41 #[pt x] w fun e w'=>e= .returned (.tuple #[])∧Goes (stA base x tb g cn s.eE) w F w':=by
 have hz:=hs.sz;have hF:=dx h;have BS:=hs.bd.now;have hhe:=hs.bd.c.he;obtain⟨c4,vd⟩:w.cell? ⟨x,4,none⟩=some (.int .i64 s.c.he)∧x<w.heap.size:=by obtain⟨j,r1,r2,r3,_,hh⟩:=id h;obtain⟨G,hj,_⟩:=aM.left hh;obtain⟨v,hv⟩:=hj;have D:=yN hv;exact⟨by rw[D.1 4];show some (Value.int .i64 j.c.he)=_;rw[r1.c],D.2.2⟩
 have g1:=(Goes.refl h).alloc (.cells #[pt x] 40 (0,0));have g1':=g1.eq (cA _ _);have c4':(w.alloc (.cells #[pt x] 40)).cell? ⟨x,4,none⟩=some (.int .i64 s.c.he):=by rw[<-c4];exact cL ((ah _ _).alloc (ae _) _) vd
 have cN:(w.alloc (.cells #[pt x] 40)).cell? ⟨w.heap.size,0,none⟩=some (pt x):=by simp only[World.cell?,heap_alloc_new];rfl
 by_cases h0:s.c.he=0
 ·rw[St.Ij h0];rw[h0]at c4';have HG:=hide g1'.drop;clear h g1 g1' c4;unfold pt at*;go_enter func41,ntmps41;go_wp2
  (try simp only[Exit.inBlock,Exit.then])
  exact bodyPost_ret (results_none rfl _ _ _) rfl ⟨rfl,HG.out⟩
 ·have C8:Hid (Calls prog 68 #[pt x, .func (.func 69) #[] #[pt w.heap.size]] (w.alloc (.cells #[pt x] 40)) fun e w'=> ∃iw cM,e= .returned (.slice iw (s.af.filter s.slow).length cM)∧Hid (sg base x tb g cn n s (.slice iw (s.af.filter s.slow).length cM) w.heap.size w F 0 s w')):=by
   obtain⟨F1,cd,o1,n1⟩:=g1';obtain⟨G,H,ha,hb,d,e⟩:=cd;show Calls _ _ _ _ _;refine(wx ha hs.inv (by omega) (ah _ _) s.slow 69 #[pt w.heap.size] (enters_of func69 (by kernel_rfl) rfl) (fun wr hr a Zi=> ?_)).mono ?_
   ·obtain⟨kk,q,hq,Ix,oa,av,zI⟩:=K5 ha hs.inv (by omega) Zi;have hx5:(w.alloc (.cells #[pt x] 40)).cell? ⟨x,5,none⟩=some (.int .i64 s.now):=by
     obtain⟨j,r1,r2,r3,_,hh⟩:=id ha;obtain⟨G,hj,_⟩:=aM.left hh;obtain⟨v,hv⟩:=hj;rw[(yN hv).1 5];show some (Value.int .i64 j.now)=_;rw[r1.now]
    have Xs:g.ap (key a)<(w.alloc (.cells #[pt x] 40)).heap.size:=(cT.1 oa).1;have og:g.rp a.id<(w.alloc (.cells #[pt x] 40)).heap.size:=(cT.1 zI).1;have IC:x<(w.alloc (.cells #[pt x] 40)).heap.size:=by simp;omega
    have aay:wr.heap[g.ap (key a)]?=some (.cells (fW g a kk) 126 (0,0)):=(hr.block _ Xs).trans oa;have acO:wr.heap[g.rp a.id]?=some (.cells (gV g s.c.re q av) 132 (0,0)):=(hr.block _ og).trans zI;have hS:=Ng (g.ap (key a)) (g.rp a.id) x w.heap.size a.k7 s.now s.c.he q.bn wr (by simp only[World.cell?,aay];rfl) (by rw[cL hr (by simp)];exact cN) (by rw[cL hr IC];exact hx5) (by rw[cL hr IC];exact c4') (by simp only[World.cell?,aay];rfl) (by simp only[World.cell?,acO];rfl) (by omega);have es:s.slow a=(decide (a.k7<=s.now-s.c.he) && !q.bn):=by
     unfold St.slow;rw[hq];dsimp only;congr 1;by_cases e:s.c.he<=s.now-a.k7
     ·have e2:a.k7<=s.now-s.c.he:=by omega
      simp[e,e2]
     ·have e2: ¬a.k7<=s.now-s.c.he:=by omega
      simp[e,e2]
    rw[es];exact hS
   ·rintro e' w'⟨v',rfl,_,hg⟩;have ld:=aF o1 n1 (aV hb hg d e);have mW:=ld.eq (bX _ _ _);have kI:=mW;obtain⟨F3,iX,_⟩:=mW;obtain⟨G3,H3,_,mh,_⟩:=iX;obtain⟨Gr,kG,_⟩:=aM.left mh;obtain⟨iw,cM,rfl⟩:=aX (Goes.refl kG);exact⟨iw,cM,rfl,⟨ow.start hs,kI⟩⟩
  have pM:Hid (∀k (hk:k<(s.af.filter s.slow).length) v' s' wr,sg base x tb g cn n s v' w.heap.size w F k s' wr->_):=fun k hk v' s' wr hb=>hb.round T hF hs.ok hn h0 hhe.1 rfl hk;have fg:Hid (∀v' s' wr,sg base x tb g cn n s v' w.heap.size w F (s.af.filter s.slow).length s' wr->Goes (stA base x tb g cn s.eE) w F wr):=fun v' s' wr hb=>by have:=hb.goes.drop;rw[hb.on.is,List.take_length,<-St.D8 hs.inv hs.ok h0 hhe.1]at this;exact this
  have PN:(s.af.filter s.slow).length<=16777216:=by have h1:(s.af.filter s.slow).length<=s.af.length:=List.length_filter_le ..;unfold St.sz at hz;omega
  have xt:(s.c.he==0)=false:=by simpa using h0
  clear h g1 g1' c4 BS hhe;unfold pt at*;generalize hL:(s.af.filter s.slow)=L at*;clear hL;go_enter func41,ntmps41;go_wp2_with (first
   |(go_at_call 68;go_must(refine C8.out.mono ?_;rintro e w2⟨iw,cM,rfl,NH⟩)))
  clear C8 cN c4';go_loopw [16] (fun i wr=> ∃k:Nat,k<=L.length∧i= .int .i64 k∧ ∃s',Hid (sg base x tb g cn n s (.slice iw L.length cM) w.heap.size w F k s' wr)) (fun i _=>L.length-(intOf i).toNat)
  case atStart=>exact⟨0,aJ _,rfl,s,NH⟩
  case round=>
   obtain⟨k,hk,rfl,s',pL⟩:=hrel;by_cases ay:k<L.length
   ·obtain⟨b,off,b9,ev,c0,c1,fz,⟨t,ct⟩,zU,c12,gS⟩:=pM.out k ay _ _ _ pL.out;cases ev;have HWL:=hide gS;clear pM pL NH fg gS;generalize g.ap (key L[k])=ap at*;generalize g.rp L[k].id=rp at*;generalize w.heap.size=N at*;go_wp2_with fail;go_region_with (first
     |(go_at_call 70;go_must(refine(HWL.out 1).mono ?_;rintro e w5⟨rfl,wy,hb⟩;have HBN:=hide hb;clear hb)))
    all_goals
     clear HWL;go_wp2;go_roundw
     case rel=>exact⟨k+1,by omega,by go_num,wy,HBN⟩
     case measure=>simp[intOf];omega
   ·obtain rfl:k=L.length:=by omega
    have HE:=hide (fg.out _ _ _ pL.out);clear pM pL NH fg;go_wp2;go_end0;exact⟨rfl,HE.out⟩
variable{base x tb n p:Nat}{g:Gh}{cn:List (Int×Nat×Bs)}{s:St}{w:World}{F:Ft}{b:Bs}
theorem Yu(s:St)(c id bS:Int)(ten txt:Bs):s.message c ⟨fC,id,bS,ten,txt⟩=s.bU c ⟨fC,id,bS,ten,txt⟩:=by unfold St.message;rw[if_pos rfl]
theorem Yt(s:St)(c id bS:Int)(ten txt:Bs):s.message c ⟨gi,id,bS,ten,txt⟩=Dq s c id:=by unfold St.message;rw[if_neg (show¬gi=fC by decide),if_pos rfl];rfl
theorem UI(s:St)(c id bS:Int)(ten txt:Bs):s.message c ⟨eF,id,bS,ten,txt⟩=wu s c:=by unfold St.message;rw[if_neg (show¬eF=fC by decide),if_neg (show¬eF=gi by decide),if_pos rfl];rfl
theorem UF(s:St)(c id bS:Int)(ten txt:Bs):s.message c ⟨eU,id,bS,ten,txt⟩=AL s c:=by unfold St.message;rw[if_neg (show¬eU=fC by decide),if_neg (show¬eU=gi by decide),if_neg (show¬eU=eF by decide),if_pos rfl];rfl
theorem UG(s:St)(c id bS:Int)(ten txt:Bs):s.message c ⟨cH,id,bS,ten,txt⟩=AV s c ⟨cH,id,bS,ten,txt⟩:=by unfold St.message;rw[if_neg (show¬cH=fC by decide),if_neg (show¬cH=gi by decide),if_neg (show¬cH=eF by decide),if_neg (show¬cH=eU by decide),if_pos rfl];rfl
theorem UH(s:St)(c id bS:Int)(ten txt:Bs):s.message c ⟨kFail,id,bS,ten,txt⟩=AX s c ⟨kFail,id,bS,ten,txt⟩:=by unfold St.message;rw[if_neg (show¬kFail=fC by decide),if_neg (show¬kFail=gi by decide),if_neg (show¬kFail=eF by decide),if_neg (show¬kFail=eU by decide),if_neg (show¬kFail=cH by decide),if_pos rfl];rfl
theorem QC(s:St)(c id bS:Int)(ten txt:Bs):s.message c ⟨dp,id,bS,ten,txt⟩=uV s c:=by unfold St.message;rw[if_neg (show¬dp=fC by decide),if_neg (show¬dp=gi by decide),if_neg (show¬dp=eF by decide),if_neg (show¬dp=eU by decide),if_neg (show¬dp=cH by decide),if_neg (show¬dp=kFail by decide),if_pos rfl];rfl
theorem UR(T:Tabs base w)(h:(stA base x tb g cn s).holds w F)(hs:Sd n s)(hn:n<=16774000)(c id bS:Int)(ten txt:Bs)(hm:Bd.bJ ⟨fC,id,bS,ten,txt⟩):Calls prog 90 #[pt x,pt tb, .int .i64 c, .agg (Mg.cs ⟨fC,id,bS,ten,txt⟩)] w fun e w'=>e= .returned (.tuple #[])∧ ∃g',Goes (stA base x tb g' cn (s.message c ⟨fC,id,bS,ten,txt⟩)) w F w':=by
 have HC:Hid (Calls prog 137 #[pt x,pt tb, .int .i64 c, .agg (Mg.cs ⟨fC,id,bS,ten,txt⟩)] (w.alloc (.cells (Mg.cs ⟨fC,id,bS,ten,txt⟩) 149)) fun e w'=>e= .returned (.tuple #[])∧ ∃g',Goes (stA base x tb g' cn (s.message c ⟨fC,id,bS,ten,txt⟩)) w F w'):=by show Calls _ _ _ _ _;have o1:Only F w (w.alloc (.cells (Mg.cs ⟨fC,id,bS,ten,txt⟩) 149)):=(Only.refl F w).alloc _;have n1: ∀k,F k->F k∨w.heap.size<=k:=fun k hk=> .inl hk;have b1:Below w.heap.size w (w.alloc (.cells (Mg.cs ⟨fC,id,bS,ten,txt⟩) 149)):=(ah _ _).alloc (ae _) _;have T1:=T.new b1;have h1:=Mr.au h b1;exact(sY T1 h1 hs (by omega) c ⟨fC,id,bS,ten,txt⟩ hm.id hm.ten).mono (by rintro e w'⟨rfl,g',hg⟩;exact⟨rfl,g',by rw[Yu];exact aF o1 n1 hg⟩)
 clear h T;unfold Mg.cs fC pt at*;go_enter func90,ntmps90;go_wp2_with (first
  |(go_at_call 137;go_must(refine HC.out.mono ?_;rintro e w2⟨rfl,hg⟩;have HG:=hide hg;clear hg)))
 go_end0;exact⟨rfl,HG.out⟩
theorem UQ(T:Tabs base w)(h:(stA base x tb g cn s).holds w F)(hs:Sd n s)(hn:n<=16774000)(c id bS:Int)(ten txt:Bs)(hb:Busy s (fun _=>False))(hm:Bd.bJ ⟨gi,id,bS,ten,txt⟩):Calls prog 90 #[pt x,pt tb, .int .i64 c, .agg (Mg.cs ⟨gi,id,bS,ten,txt⟩)] w fun e w'=>e= .returned (.tuple #[])∧ ∃g',Goes (stA base x tb g' cn (s.message c ⟨gi,id,bS,ten,txt⟩)) w F w':=by
 have HC:Hid (Calls prog 138 #[pt x,pt tb, .int .i64 c, .int .i64 id] (w.alloc (.cells (Mg.cs ⟨gi,id,bS,ten,txt⟩) 149)) fun e w'=>e= .returned (.tuple #[])∧ ∃g',Goes (stA base x tb g' cn (s.message c ⟨gi,id,bS,ten,txt⟩)) w F w'):=by show Calls _ _ _ _ _;have o1:Only F w (w.alloc (.cells (Mg.cs ⟨gi,id,bS,ten,txt⟩) 149)):=(Only.refl F w).alloc _;have n1: ∀k,F k->F k∨w.heap.size<=k:=fun k hk=> .inl hk;have b1:Below w.heap.size w (w.alloc (.cells (Mg.cs ⟨gi,id,bS,ten,txt⟩) 149)):=(ah _ _).alloc (ae _) _;have T1:=T.new b1;have h1:=Mr.au h b1;exact(Hq T1 h1 hs (by omega) hb c id hm.id).mono (by rintro e w'⟨rfl,hg⟩;exact⟨rfl,g,by rw[Yt];exact aF o1 n1 hg⟩)
 clear h T;unfold Mg.cs gi pt at*;go_enter func90,ntmps90;go_wp2_with (first
  |(go_at_call 138;go_must(refine HC.out.mono ?_;rintro e w2⟨rfl,hg⟩;have HG:=hide hg;clear hg)))
 go_end0;exact⟨rfl,HG.out⟩
theorem QK(T:Tabs base w)(h:(stA base x tb g cn s).holds w F)(hs:Sd n s)(hn:n<=16774000)(c id bS:Int)(ten txt:Bs)(hc:I6 c):Calls prog 90 #[pt x,pt tb, .int .i64 c, .agg (Mg.cs ⟨eF,id,bS,ten,txt⟩)] w fun e w'=>e= .returned (.tuple #[])∧ ∃g',Goes (stA base x tb g' cn (s.message c ⟨eF,id,bS,ten,txt⟩)) w F w':=by
 have HC:Hid (Calls prog 139 #[pt x, .int .i64 c] (w.alloc (.cells (Mg.cs ⟨eF,id,bS,ten,txt⟩) 149)) fun e w'=>e= .returned (.tuple #[])∧ ∃g',Goes (stA base x tb g' cn (s.message c ⟨eF,id,bS,ten,txt⟩)) w F w'):=by show Calls _ _ _ _ _;have o1:Only F w (w.alloc (.cells (Mg.cs ⟨eF,id,bS,ten,txt⟩) 149)):=(Only.refl F w).alloc _;have n1: ∀k,F k->F k∨w.heap.size<=k:=fun k hk=> .inl hk;have b1:Below w.heap.size w (w.alloc (.cells (Mg.cs ⟨eF,id,bS,ten,txt⟩) 149)):=(ah _ _).alloc (ae _) _;have T1:=T.new b1;have h1:=Mr.au h b1;exact(QZ T1 h1 hs.inv hs.ok (by have:=hs.sz;omega) c hc).mono (by rintro e w'⟨rfl,hg⟩;exact⟨rfl,g,by rw[UI];exact aF o1 n1 hg⟩)
 clear h T;unfold Mg.cs eF pt at*;go_enter func90,ntmps90;go_wp2_with (first
  |(go_at_call 139;go_must(refine HC.out.mono ?_;rintro e w2⟨rfl,hg⟩;have HG:=hide hg;clear hg)))
 go_end0;exact⟨rfl,HG.out⟩
theorem QH(T:Tabs base w)(h:(stA base x tb g cn s).holds w F)(hs:Sd n s)(hn:n<=16774000)(c id bS:Int)(ten txt:Bs):Calls prog 90 #[pt x,pt tb, .int .i64 c, .agg (Mg.cs ⟨eU,id,bS,ten,txt⟩)] w fun e w'=>e= .returned (.tuple #[])∧ ∃g',Goes (stA base x tb g' cn (s.message c ⟨eU,id,bS,ten,txt⟩)) w F w':=by
 have HC:Hid (Calls prog 140 #[pt x, .int .i64 c] (w.alloc (.cells (Mg.cs ⟨eU,id,bS,ten,txt⟩) 149)) fun e w'=>e= .returned (.tuple #[])∧ ∃g',Goes (stA base x tb g' cn (s.message c ⟨eU,id,bS,ten,txt⟩)) w F w'):=by show Calls _ _ _ _ _;have o1:Only F w (w.alloc (.cells (Mg.cs ⟨eU,id,bS,ten,txt⟩) 149)):=(Only.refl F w).alloc _;have n1: ∀k,F k->F k∨w.heap.size<=k:=fun k hk=> .inl hk;have b1:Below w.heap.size w (w.alloc (.cells (Mg.cs ⟨eU,id,bS,ten,txt⟩) 149)):=(ah _ _).alloc (ae _) _;have T1:=T.new b1;have h1:=Mr.au h b1;exact(OC T1 h1 hs (by omega) c).mono (by rintro e w'⟨rfl,hg⟩;exact⟨rfl,g,by rw[UF];exact aF o1 n1 hg⟩)
 clear h T;unfold Mg.cs eU pt at*;go_enter func90,ntmps90;go_wp2_with (first
  |(go_at_call 140;go_must(refine HC.out.mono ?_;rintro e w2⟨rfl,hg⟩;have HG:=hide hg;clear hg)))
 go_end0;exact⟨rfl,HG.out⟩
theorem QI(T:Tabs base w)(h:(stA base x tb g cn s).holds w F)(hs:Sd n s)(hn:n<=16774000)(c id bS:Int)(ten txt:Bs)(hb:Busy s (fun _=>False))(hm:Bd.bJ ⟨cH,id,bS,ten,txt⟩):Calls prog 90 #[pt x,pt tb, .int .i64 c, .agg (Mg.cs ⟨cH,id,bS,ten,txt⟩)] w fun e w'=>e= .returned (.tuple #[])∧ ∃g',Goes (stA base x tb g' cn (s.message c ⟨cH,id,bS,ten,txt⟩)) w F w':=by
 have HC:Hid (Calls prog 141 #[pt x,pt tb, .int .i64 c, .agg (Mg.cs ⟨cH,id,bS,ten,txt⟩)] (w.alloc (.cells (Mg.cs ⟨cH,id,bS,ten,txt⟩) 149)) fun e w'=>e= .returned (.tuple #[])∧ ∃g',Goes (stA base x tb g' cn (s.message c ⟨cH,id,bS,ten,txt⟩)) w F w'):=by show Calls _ _ _ _ _;have o1:Only F w (w.alloc (.cells (Mg.cs ⟨cH,id,bS,ten,txt⟩) 149)):=(Only.refl F w).alloc _;have n1: ∀k,F k->F k∨w.heap.size<=k:=fun k hk=> .inl hk;have b1:Below w.heap.size w (w.alloc (.cells (Mg.cs ⟨cH,id,bS,ten,txt⟩) 149)):=(ah _ _).alloc (ae _) _;have T1:=T.new b1;have h1:=Mr.au h b1;exact(O2 T1 h1 hs (by omega) hb c ⟨cH,id,bS,ten,txt⟩ hm.id hm.txt).mono (by rintro e w'⟨rfl,hg⟩;exact⟨rfl,g,by rw[UG];exact aF o1 n1 hg⟩)
 clear h T;unfold Mg.cs cH pt at*;go_enter func90,ntmps90;go_wp2_with (first
  |(go_at_call 141;go_must(refine HC.out.mono ?_;rintro e w2⟨rfl,hg⟩;have HG:=hide hg;clear hg)))
 go_end0;exact⟨rfl,HG.out⟩
theorem QJ(T:Tabs base w)(h:(stA base x tb g cn s).holds w F)(hs:Sd n s)(hn:n<=16774000)(c id bS:Int)(ten txt:Bs)(hb:Busy s (fun _=>False))(hm:Bd.bJ ⟨kFail,id,bS,ten,txt⟩):Calls prog 90 #[pt x,pt tb, .int .i64 c, .agg (Mg.cs ⟨kFail,id,bS,ten,txt⟩)] w fun e w'=>e= .returned (.tuple #[])∧ ∃g',Goes (stA base x tb g' cn (s.message c ⟨kFail,id,bS,ten,txt⟩)) w F w':=by
 have HC:Hid (Calls prog 142 #[pt x,pt tb, .int .i64 c, .agg (Mg.cs ⟨kFail,id,bS,ten,txt⟩)] (w.alloc (.cells (Mg.cs ⟨kFail,id,bS,ten,txt⟩) 149)) fun e w'=>e= .returned (.tuple #[])∧ ∃g',Goes (stA base x tb g' cn (s.message c ⟨kFail,id,bS,ten,txt⟩)) w F w'):=by show Calls _ _ _ _ _;have o1:Only F w (w.alloc (.cells (Mg.cs ⟨kFail,id,bS,ten,txt⟩) 149)):=(Only.refl F w).alloc _;have n1: ∀k,F k->F k∨w.heap.size<=k:=fun k hk=> .inl hk;have b1:Below w.heap.size w (w.alloc (.cells (Mg.cs ⟨kFail,id,bS,ten,txt⟩) 149)):=(ah _ _).alloc (ae _) _;have T1:=T.new b1;have h1:=Mr.au h b1;exact(O8 T1 h1 hs (by omega) hb c ⟨kFail,id,bS,ten,txt⟩ hm.id).mono (by rintro e w'⟨rfl,hg⟩;exact⟨rfl,g,by rw[UH];exact aF o1 n1 hg⟩)
 clear h T;unfold Mg.cs kFail pt at*;go_enter func90,ntmps90;go_wp2_with (first
  |(go_at_call 142;go_must(refine HC.out.mono ?_;rintro e w2⟨rfl,hg⟩;have HG:=hide hg;clear hg)))
 go_end0;exact⟨rfl,HG.out⟩
theorem ML(T:Tabs base w)(h:(stA base x tb g cn s).holds w F)(hs:Sd n s)(hn:n<=16774000)(c id bS:Int)(ten txt:Bs)(hc:I6 c)(hk:(c,p,b)∈cn):Calls prog 90 #[pt x,pt tb, .int .i64 c, .agg (Mg.cs ⟨dp,id,bS,ten,txt⟩)] w fun e w'=>e= .returned (.tuple #[])∧ ∃g',Goes (stA base x tb g' cn (s.message c ⟨dp,id,bS,ten,txt⟩)) w F w':=by
 have HC:Hid (Calls prog 143 #[pt x,pt tb, .int .i64 c] (w.alloc (.cells (Mg.cs ⟨dp,id,bS,ten,txt⟩) 149)) fun e w'=>e= .returned (.tuple #[])∧ ∃g',Goes (stA base x tb g' cn (s.message c ⟨dp,id,bS,ten,txt⟩)) w F w'):=by show Calls _ _ _ _ _;have o1:Only F w (w.alloc (.cells (Mg.cs ⟨dp,id,bS,ten,txt⟩) 149)):=(Only.refl F w).alloc _;have n1: ∀k,F k->F k∨w.heap.size<=k:=fun k hk=> .inl hk;have b1:Below w.heap.size w (w.alloc (.cells (Mg.cs ⟨dp,id,bS,ten,txt⟩) 149)):=(ah _ _).alloc (ae _) _;have T1:=T.new b1;have h1:=Mr.au h b1;exact(LD T1 h1 hs.inv hs.ok (by have:=hs.sz;omega) hc hk).mono (by rintro e w'⟨rfl,hg⟩;exact⟨rfl,g,by rw[QC];exact aF o1 n1 hg⟩)
 clear h T;unfold Mg.cs dp pt at*;go_enter func90,ntmps90;go_wp2_with (first
  |(go_at_call 143;go_must(refine HC.out.mono ?_;rintro e w2⟨rfl,hg⟩;have HG:=hide hg;clear hg)))
 go_end0;exact⟨rfl,HG.out⟩
theorem QL(T:Tabs base w)(h:(stA base x tb g cn s).holds w F)(hs:Sd n s)(hn:n<=16774000)(hb:Busy s (fun _=>False))(c:Int)(hc:I6 c)(hk:(c,p,b)∈cn)(m:Mg)(hm:Mc.SN m):Calls prog 90 #[pt x,pt tb, .int .i64 c, .agg m.cs] w fun e w'=>e= .returned (.tuple #[])∧ ∃g',Goes (stA base x tb g' cn (s.message c m)) w F w':=by
 have hbd:=hm.bd;have hkd:=hm.kind;obtain⟨kind,id,bS,ten,txt⟩:=m;dsimp only at hkd;rcases hkd with rfl|rfl|rfl|rfl|rfl|rfl|rfl
 ·exact UR T h hs hn c id bS ten txt hbd
 ·exact UQ T h hs hn c id bS ten txt hb hbd
 ·exact QK T h hs hn c id bS ten txt hc
 ·exact QH T h hs hn c id bS ten txt
 ·exact QI T h hs hn c id bS ten txt hb hbd
 ·exact QJ T h hs hn c id bS ten txt hb hbd
 ·exact ML T h hs hn c id bS ten txt hc hk
