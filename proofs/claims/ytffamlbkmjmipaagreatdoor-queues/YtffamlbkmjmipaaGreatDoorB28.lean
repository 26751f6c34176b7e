import Derived.Test.YtffamlbkmjmipaaGreatDoorB24
import Derived.Test.YtffamlbkmjmipaaGreatDoorB26
import Derived.Test.YtffamlbkmjmipaaGreatDoorB27
set_option maxHeartbeats 8000000
set_option maxRecDepth 100000
namespace Go.Proofs.YtffamlbkmjmipaaGreatDoor
open _root_.Go.Proofs.Tryz
namespace Mr
open Go.RowKit aM Mc bJ
attribute [local go_sem] aL.ag aL.ar
theorem Rz(p:Nat){n:Nat}(s:St)(hv:Mc.Good n s)(hn:n<=1299998)(w:World)(F:Ft)(hm:(aU p s).holds w F):Calls prog 61 #[.pointer (some ⟨p,0,none⟩)] w fun e w'=> ∃v,e= .returned v∧Goes (aa (iB v s.tick.out) (aU p s.tick.told)) w F w':=by
 obtain⟨m,g,hr,az⟩:=bD hm;have dU:=bR hr az;have c5:w.cell? ⟨p,5,none⟩=some (.int .i64 s.now):=dU.cell 5;have f5:w.frozen? ⟨p,5,none⟩=false:=dU.frozen 5;have uJ:=qJ hv (by omega);have BS:=hv.bd.now;have kK:IntKind.i64.wrap (s.now+1)=s.now+1:=by rw[IntKind.wrap_i64];omega
 obtain⟨sv,iA⟩: ∃sv:St,sv={s with now:=s.now+1}:=⟨_,rfl⟩;have D9:Fine 15600100 sv:=by
  subst iA;refine⟨St.kU uJ.inv _,⟨uJ.bd.c,⟨?_, ?_⟩,uJ.bd.rq,uJ.bd.at'⟩,uJ.sz⟩
  ·show 0<=s.now+1;omega
  ·show s.now+1<=_;omega
 have Su:=hide D9;have Ae:=D9.lens;have C5:Hid (gm p sv w F sv (w.setCell ⟨p,5,none⟩ (.int .i64 (s.now+1)))):=⟨D9.inv,D9.bd,ae _,by rw[iA];exact UO hr az (s.now+1),⟨_,ae _,rfl⟩⟩;have Hk:Hid (s.tick=(St.eE (St.cV sv.af.length sv)).serve):=by show _=_;rw[iA];rfl
 have Wx:Hid (∀(s':St) (w':World) (F':Ft),s'.af.length<=16777216->(aU p s').holds w' F'->Calls prog 101 #[.pointer (some ⟨p,0,none⟩)] w' fun e dV=>e= .returned (.int .i64 (jV s'.due))∧Below w'.heap.size w' dV):=fun s' w' F' hl h=>by obtain⟨m,g,hr,ho⟩:=bD h;exact Tt p s' m g w' (bR hr ho) hl
 clear hm az hr dU hv uJ D9;generalize s.now=nw at*;go_enter func61,ntmps61;go_wp2_with fail;obtain⟨F0,hF0,o0,n0⟩:=C5.out.goes;have Y1:=hide hF0;refine(Wx.out sv _ F0 (by omega) Y1.out).mono ?_;rintro e w0⟨rfl,iO⟩;have K9:Hid (gm p sv w F sv w0):=⟨C5.out.inv,C5.out.bd,C5.out.sz,C5.out.goes.below iO,C5.out.rest⟩;clear iO hF0 o0 n0 Y1 C5 c5 f5 iA;go_wp2_with fail;go_loopw [3] (fun i wr=> ∃s':St,i= .int .i64 (jV s'.due)∧Hid (gm p sv w F s' wr)) (fun _ wr=>ij p wr)
 case atStart=>exact⟨sv,rfl,K9⟩
 case round=>
  obtain⟨s',rfl,HL⟩:=hrel;have kH:Fine 15600100 s':=⟨HL.out.inv,HL.out.bd,aw HL.out.sz Su.out.sz⟩;have jY:=hide kH;have PL:=kH.lens;cases hf:s'.due with
  |some k=>
   have nC:=St.Xd hf;obtain⟨a,wO⟩: ∃a,s'.af[k]'nC=a:=⟨_,rfl⟩;have xy:s'.af[k]?=some a:=by rw[a7 nC,wO]
   have oa:=kH.bd.at' a (dn xy);have kJ:a.id∈s'.ks.map (·.1):=kH.inv.bS a (dn xy);obtain⟨F1,cd,o1,n1⟩:=HL.out.goes;obtain⟨m,g,hr,az⟩:=bD cd;have dU:=bR hr az;have Pu:=iy dU;obtain⟨ao,cap,G,c7,HG,fT⟩:=dU.af;obtain⟨g1,off,rfl⟩:=fT.out (by omega);obtain⟨x0,x1,x2,x3,x4⟩:=dZ HG.out nC;rw[wO]at x0 x1 x2 x3 x4;obtain⟨w3,rU,iH,BN,cP,Sk⟩:=ud (ah wr.heap.size wr) (ae _) #[.int .i64 a.id, .int .i64 a.n, .int .i64 a.conn, .int .i64 a.k7, .int .i64 a.eV] 170;have h3:(aU p s').holds w3 F1:=au cd iH;have hnF: ¬F1 wr.heap.size:=fun h=>by have:=(aU p s').lt cd _ h;omega
   have HS:Hid (∀w',Below w3.heap.size w3 w'->w'.cell? ⟨wr.heap.size,0,none⟩=some (.int .i64 a.id)∧w'.cell? ⟨wr.heap.size,1,none⟩=some (.int .i64 a.n)∧w'.cell? ⟨wr.heap.size,2,none⟩=some (.int .i64 a.conn)):=fun w' hb=>by
    have h: ∀j,w'.cell? ⟨wr.heap.size,j,none⟩=(#[.int .i64 a.id, .int .i64 a.n, .int .i64 a.conn, .int .i64 a.k7, .int .i64 a.eV]:Array Value)[j]?:=fun j=>by rw[hb.cell (p:=⟨wr.heap.size,j,none⟩) (show wr.heap.size<_ by omega)];exact bg cP
    exact⟨h 0,h 1,h 2⟩
   have HSG:Hid (∀(A:aM) (w':World),Goes A w3 F1 w'->w'.cell? ⟨wr.heap.size,0,none⟩=some (.int .i64 a.id)∧w'.cell? ⟨wr.heap.size,1,none⟩=some (.int .i64 a.n)∧w'.cell? ⟨wr.heap.size,2,none⟩=some (.int .i64 a.conn)):=fun A w' h=>by obtain⟨h0,h1,h2⟩:=HS.out w3 (ah _ _);have o:=h.only;exact⟨by rw[o.cell (p:=⟨wr.heap.size,0,none⟩) (show wr.heap.size<_ by omega) hnF];exact h0,by rw[o.cell (p:=⟨wr.heap.size,1,none⟩) (show wr.heap.size<_ by omega) hnF];exact h1,by rw[o.cell (p:=⟨wr.heap.size,2,none⟩) (show wr.heap.size<_ by omega) hnF];exact h2⟩
   have rJ:Hid (∀(A:aM) (w':World),Goes A w3 F1 w'->Goes A w F w'):=fun A w' h=>Goes.trans (A:=aU p s') ⟨F1,h3,o1.below iH,n1⟩ fun F' dR=>by rw[eG dR h3];exact h
   have pB:Hid (∀w':World,Calls prog 103 #[.int .i64 a.id] w' fun e dV=>e= .returned (.string ⟨(cJ a.id).toArray⟩)∧Below w'.heap.size w' dV):=fun w'=>kO a.id oa.id.1 (by have:=oa.id.2;omega) w';have zN:Hid (∀w':World,Calls prog 103 #[.int .i64 a.n] w' fun e dV=>e= .returned (.string ⟨(cJ a.n).toArray⟩)∧Below w'.heap.size w' dV):=fun w'=>kO a.n oa.n.1 (by have:=oa.n.2;omega) w';have gq:Hid (∀w',Below w3.heap.size w3 w'->Calls prog 102 #[.pointer (some ⟨p,0,none⟩), .int .i64 a.conn, .string ((⟨#[115,116,111,112,32]⟩:ByteArray)++⟨(cJ a.id).toArray⟩++⟨#[32]⟩++⟨(cJ a.n).toArray⟩)] w' fun e dV=>e= .returned (.tuple #[])∧Goes (aU p (s'.say a.conn (St.aD a.id a.n))) w3 F1 dV∧dV.cell? ⟨wr.heap.size,0,none⟩=some (.int .i64 a.id)∧dV.cell? ⟨wr.heap.size,1,none⟩=some (.int .i64 a.n)∧dV.cell? ⟨wr.heap.size,2,none⟩=some (.int .i64 a.conn)):=fun w' hb=>by rw[Gd];refine(cW ((Goes.refl h3).below hb) fun F2 h2=>mL p a.conn (St.aD a.id a.n) s' w' F2 h2 (by omega) (aw (FY _ _) (by omega))).mono ?_;rintro e dV⟨rfl,hg⟩;exact⟨rfl,hg,HSG.out _ _ hg⟩
   have jq:Hid (∀w',Goes (aU p (s'.say a.conn (St.aD a.id a.n))) w3 F1 w'->Calls prog 104 #[.pointer (some ⟨p,0,none⟩), .int .i64 k] w' (fZ p ((s'.say a.conn (St.aD a.id a.n)).aS k) w3 F1)):=fun w' hg=>cW hg fun F2 h2=>hE p k (s'.say a.conn (St.aD a.id a.n)) (St.bM jY.out.inv _ _) w' F2 h2 nC (by show s'.af.length<=_;omega) (by show s'.aq.length<=_;omega) (by show(s'.out++ [_]).length<=_;rw[aN];simp only[List.length_cons,List.length_nil];omega)
   have Zu:Hid (∀w',Goes (aU p ((s'.say a.conn (St.aD a.id a.n)).aS k)) w3 F1 w'->Calls prog 105 #[.pointer (some ⟨p,0,none⟩), .int .i64 a.id, .bool true] w' (fZ p (lN s' k a) w3 F1)):=fun w' hg=>by have i1:=St.br (St.bM jY.out.inv a.conn (St.aD a.id a.n)) k;have z1:=St.jT (s:=s'.say a.conn (St.aD a.id a.n)) k;rw[St.eZ]at z1;have z2:=jY.out.sz;exact cW hg fun F2 h2=>kZ p a.id true _ ⟨i1,(jY.out.bd.say _ _).aS _,by omega⟩ (by rw[(St.cG (s:=s'.say a.conn (St.aD a.id a.n)) k).1];exact kJ) w' F2 h2
   have uM:Hid (∀w2,Goes (aU p (lN s' k a)) w3 F1 w2->gm p sv w F (lN s' k a) w2):=fun w2 hg=>HL.out.next hf xy (rJ.out _ _ hg);have La:=hide (yP xy);have wI:=hide Pu;have ng:(cJ a.id).length<=20:=fh a.id;have qN:(cJ a.n).length<=20:=fh a.n;clear cd o1 n1 az hr dU wO oa xy kJ kH HG fT Pu hf hnF h3 HL;have Sc:(0:Int)<=((k:Nat):Int):=by omega
   have BO:((k:Nat):Int)<((s'.af.length:Nat):Int):=by omega
   rw[show jV (some k)=((k:Nat):Int)from rfl];generalize cJ a.id=fi at*;generalize cJ a.n=fn at*;generalize s'.say a.conn (St.aD a.id a.n)=sa at*;generalize sa.aS k=sb at*;generalize lN s' k a=sc at*;have adL: ¬9223372036854775807<5+fi.length:=by omega
   have acF: ¬9223372036854775807<5+fi.length+1:=by omega
   have adM: ¬9223372036854775807<5+fi.length+1+fn.length:=by omega
   obtain⟨b0,b1,b2⟩:=HS.out w3 (ah _ _);go_wp2_with fail
   try rw[rU]
   clear rU cP x0 x1 x2 x3 x4 c7;go_region_held3 (fun w'=>w'.cell? ⟨wr.heap.size,0,none⟩=some (.int .i64 a.id)∧w'.cell? ⟨wr.heap.size,1,none⟩=some (.int .i64 a.n)∧w'.cell? ⟨wr.heap.size,2,none⟩=some (.int .i64 a.conn)) (go_keep)
    (first
     |(go_at_call_of 103 (Value.int IntKind.i64 a.id);refine(pB.out _).mono ?_;rintro e w4⟨rfl,l9⟩;have pI:=bj (wr:=w3) (by first|exact(ah _ _).drew|assumption) l9;obtain⟨t1,t2,t3⟩:=HS.out _ pI)
     |(go_at_call_of 103 (Value.int IntKind.i64 a.n);refine(zN.out _).mono ?_;rintro e w5⟨rfl,uI⟩;have CU:=bj (wr:=w3) (by first|exact(ah _ _).drew|assumption) uI;obtain⟨t4,t5,t6⟩:=HS.out _ CU)
     |(go_at_call 102;refine(gq.out _ (by first|exact(ah _ _).drew|assumption)).mono ?_;rintro e w6⟨rfl,iJ,t7,t8,t9⟩))
   all_goals
    have HE6:=hide (jq.out _ iJ);clear iJ jq gq;go_wp2_with fail;refine HE6.out.mono ?_;rintro e w7⟨rfl,u6⟩;obtain⟨r0,r1,r2⟩:=HSG.out _ _ u6;have HA7:=hide (Zu.out _ u6);clear u6 Zu HE6 t7 t8 t9;go_wp2_with fail;refine HA7.out.mono ?_;rintro e w8⟨rfl,TQ⟩;have Y7:=hide (uM.out _ TQ);obtain⟨F8,hF8⟩:=TQ.facts;have Af:=La.out;have HF8:=hide hF8;clear TQ hF8 HA7 uM r0 r1 r2;go_wp2_with fail;refine(Wx.out sc w8 F8 (by omega) HF8.out).mono ?_;rintro e w9⟨rfl,VQ⟩;have HL9:Hid (gm p sv w F sc w9):=⟨Y7.out.inv,Y7.out.bd,Y7.out.sz,Y7.out.goes.below VQ,Y7.out.rest⟩;have XS:ij p w9<ij p wr:=by obtain⟨m9,g9,hr9,ho9⟩:=bD (au HF8.out VQ);rw[iy (bR hr9 ho9),wI.out];omega
    have HM9:=hide XS;clear VQ XS HF8 Y7;go_wp2;go_roundw
    case rel=>exact⟨sc,rfl,HL9⟩
    case measure=>exact HM9.out
  |none=>
   have gP:=HL.out.done hf;have abM:Hid (s.tick=(St.eE s').serve):=by show _=_;rw[Hk.out,<-gP]
   obtain⟨F1,cd,o1,n1⟩:=HL.out.goes;obtain⟨m,g,hr,az⟩:=bD cd;have dU:=bR hr az;obtain⟨ao,cap,G,c7,HG,fT⟩:=dU.af;have yy:m.av= .slice ao s'.af.length cap:=Option.some.inj ((dU.cell 7).symm.trans c7);have HV0:Hid (Goes (wZ p (ik s' 0) (.slice ao s'.af.length cap)) w F wr):=oO (s:=s') hr yy ⟨F1,az,o1,n1⟩;clear cd o1 n1 az hr dU yy gP hf HL Wx HG kH;rw[show jV none= -1 from rfl];go_wp2_with fail;go_loopw [53] (fun i wr=> ∃k:Nat,k<=s'.af.length∧i= .int .i64 k∧Hid (Goes (wZ p (ik s' k) (.slice ao s'.af.length cap)) w F wr)) (fun i _=>s'.af.length-(intOf i).toNat)
   case atStart=>exact⟨0,aJ _,rfl,HV0⟩
   case round=>
    clear c7 HV0;obtain⟨k,hk,rfl,HI⟩:=hrel;by_cases ay:k<s'.af.length
    ·have V9:=A0 (s'.af.take k) s';have cg:=St.tP (s'.af.take k) s';have Ea:Fine 15600100 (ik s' k):=⟨St.yv _ (fun _ a h=>St.oG h a) _ jY.out.inv,Bd.fold _ jY.out.bd,by have:=jY.out.sz;unfold ik;omega⟩;have J0:Hid (ik s' (k+1)=(ik s' k).bA (s'.af[k]'ay)):=D7 ay;have X6:(ik s' k).af=s'.af:=V9.1;obtain⟨a,wO⟩: ∃a,s'.af[k]'ay=a:=⟨_,rfl⟩;rw[wO]at J0;generalize ik s' k=sk at*;have od:=Ea.lens;have Ag:a∈sk.af:=by rw[X6,<-wO];exact aY _
     have oa:=Ea.bd.at' a Ag;have kJ:=Ea.inv.bS a Ag;obtain⟨j,hj⟩:=oM kJ;obtain⟨eP,yF,Sb,_⟩:=qh hj;obtain⟨F1,cd,o1,n1⟩:=HI.out;obtain⟨m,g,hr,yy,az⟩:=Bg cd;have dU:=bR hr az;obtain⟨Ga,hGa⟩:=dU.at';rw[yy,X6]at hGa;obtain⟨g1,off,rfl⟩:=fT.out (by omega);obtain⟨x0,x1,x2,x3,x4⟩:=dZ hGa ay;rw[wO]at x0 x1 x2 x3 x4;obtain⟨g2,fl,b9,zJ,ld,⟨G2,pw⟩,c6⟩:=FK dU (by omega);obtain⟨_,_,_,_,_,_,y6⟩:=fH pw eP;have yf:=bV pw (fl+j*7+6);have c4:wr.cell? ⟨p,4,none⟩=some (.int .i64 sk.c.he):=dU.cell 4;have c5:wr.cell? ⟨p,5,none⟩=some (.int .i64 sk.now):=dU.cell 5;have dc:=dU.lt;obtain⟨w3,rU,iH,BN,cP,Sk⟩:=ud (ah wr.heap.size wr) (ae _) #[.int .i64 a.id, .int .i64 a.n, .int .i64 a.conn, .int .i64 a.k7, .int .i64 a.eV] 170;have HS:Hid (∀w',Below w3.heap.size w3 w'->w'.cell? ⟨wr.heap.size,0,none⟩=some (.int .i64 a.id)∧w'.cell? ⟨wr.heap.size,3,none⟩=some (.int .i64 a.k7)∧w'.cell? ⟨p,4,none⟩=some (.int .i64 sk.c.he)∧w'.cell? ⟨p,5,none⟩=some (.int .i64 sk.now)∧w'.cell? ⟨p,6,none⟩=some (.slice (some ⟨g2,fl,none⟩) sk.reqs.length b9)∧w'.cell? ⟨g2,fl+j*7+6,none⟩=some (.bool (sk.reqs[j]'eP).bn)∧w'.frozen? ⟨g2,fl+j*7+6,none⟩=false):=fun w' hb=>by
      have h: ∀i,w'.cell? ⟨wr.heap.size,i,none⟩=(#[.int .i64 a.id, .int .i64 a.n, .int .i64 a.conn, .int .i64 a.k7, .int .i64 a.eV]:Array Value)[i]?:=fun i=>by rw[hb.cell (p:=⟨wr.heap.size,i,none⟩) (show wr.heap.size<_ by omega)];exact bg cP
      have iI:Below wr.heap.size wr w':=iH.trans (hb.mono (by omega));exact⟨h 0,h 3,by rw[iI.cell (p:=⟨p,4,none⟩) dc];exact c4,by rw[iI.cell (p:=⟨p,5,none⟩) dc];exact c5,by rw[iI.cell (p:=⟨p,6,none⟩) dc];exact c6,by rw[iI.cell (p:=⟨g2,fl+j*7+6,none⟩) ld];exact y6,by rw[iI.frozen (p:=⟨g2,fl+j*7+6,none⟩) ld];exact yf⟩
     have HQ:Hid (∀w',Below w3.heap.size w3 w'->Calls prog 106 #[.pointer (some ⟨p,0,none⟩), .int .i64 a.id] w' fun e dV=>e= .returned (.int .i64 j)∧Below w'.heap.size w' dV):=fun w' hb=>by have h:=mK p a.id sk m g w' (dU.below (iH.trans (hb.mono (by omega)))) (by omega);rw[hj]at h;exact h
     have HW:Hid (∀w',Below w3.heap.size w3 w'->Calls prog 107 #[.pointer (some ⟨p,0,none⟩), .int .i64 a.id] w' fun e dV=>e= .returned (.bool (sk.waits a.id))∧Below w'.heap.size w' dV):=fun w' hb=>ry p a.id sk Ea.inv m g w' (dU.below (iH.trans (hb.mono (by omega)))) (by omega);have HC:Hid (∀w',Below w3.heap.size w3 w'->Calls prog 108 #[.pointer (some ⟨p,0,none⟩), .int .i64 a.id] w' fun e dV=>e= .returned (.int .i64 (sk.count a.id))∧Below w'.heap.size w' dV):=fun w' hb=>count_any p a.id sk m g w' (dU.below (iH.trans (hb.mono (by omega)))) (by omega);have jr:Hid (∀w',Below w3.heap.size w3 w'->(¬0<sk.c.he∨ ¬sk.c.he<=sk.now-a.k7∨(sk.reqs[j]'eP).bn=true∨sk.waits a.id=true∨sk.count a.id≠1)->Hid (Goes (wZ p (ik s' (k+1)) (.slice (some ⟨g1,off,none⟩) s'.af.length cap)) w F w')):=fun w' hb h=>by show Goes _ _ _ _;rw[J0.out,L5 Sb h];exact HI.out.below (iH.trans (hb.mono (by omega)))
     have ot:Hid (∀w',Below w3.heap.size w3 w'->0<sk.c.he->sk.c.he<=sk.now-a.k7->(sk.reqs[j]'eP).bn=false->sk.waits a.id=false->sk.count a.id=1->Calls prog 109 #[.pointer (some ⟨p,0,none⟩), .int .i64 a.id, .bool false] (w'.setCell ⟨g2,fl+j*7+6,none⟩ (.bool true)) (Ol p (ik s' (k+1)) (.slice (some ⟨g1,off,none⟩) s'.af.length cap) w F)):=fun w' hb h1 h2 h3 h4 h5=>by have iI:Below wr.heap.size wr w':=iH.trans (hb.mono (by omega));have XX:(aI p sk m g).holds w' F1:=au az iI;have Aj:=sW hj (fun r=>{r with bn:=true}) eP;have bK:=Jv XX zJ eP (j:=6) (by omega) (.bool true) {sk.reqs[j]'eP with bn:=true} rfl;obtain⟨F2,eX,o2,n2⟩:=bK;have aaW:=St.nS (s:=sk) a.id (fun r=>{r with bn:=true}) (fun _=>⟨rfl,rfl⟩);have XK:=St.iq Ea.inv a.id (fun r=>{r with bn:=true}) (fun _=>⟨rfl,rfl⟩);rw[Aj]at aaW XK;refine(RQ p a.id false _ XK (by rw[aaW];exact kJ) m g _ F2 hr eX (by show(sk.reqs.set _ _).length<=_;rw[List.length_set];omega)).mono ?_;rintro e dV⟨rfl,aaL⟩;refine⟨rfl, ?_⟩;rw[J0.out,Ig Sb h1 h2 h3 h4 h5,Aj];rw[yy]at aaL;exact Goes.trans (A:=aI p sk m g) ⟨F1,XX,o1.below iI,n1⟩ fun F3 iX=>by rw[bF iX XX];exact Goes.trans ⟨F2,eX,o2,n2⟩ fun F4 th=>by rw[bF th eX];exact aaL
     have adC:=oa.k7;have hnw:=Ea.bd.now;have hhe:=Ea.bd.c.he;have hwr:IntKind.i64.wrap (sk.now-a.k7)=sk.now-a.k7:=by rw[IntKind.wrap_i64];omega
     have Sc:(0:Int)<=((j:Nat):Int):=by omega
     have BO:((j:Nat):Int)<((sk.reqs.length:Nat):Int):=by omega
     clear cd o1 n1 az hr dU hGa pw hj yF Sb kJ oa Ag Ea X6 V9 cg wO J0 HI yy zJ;generalize(sk.reqs[j]'eP).bn=hd at*;generalize sk.c.he=he at*;generalize sk.now=now at*;obtain⟨z0,z3,z4,z5,z6,z7,z8⟩:=HS.out w3 (ah _ _);go_wp2_with fail
     try rw[rU]
     clear rU cP x0 x1 x2 x3 x4 c4 c5 c6 y6 yf z0 z3 z4 z5 z6 z7 z8;refine(HQ.out _ (ah _ _)).mono ?_;rintro e w4⟨rfl,l9⟩;obtain⟨b0,b3,d4,d5,d6,e6,ef⟩:=HS.out _ l9;have Hd:=hide l9;clear HQ l9;by_cases h1:0<he
     ·by_cases h2:he<=now-a.k7
      ·have H1:=hide h1;have H2:=hide h2;cases hd
       ·cases om:sk.waits a.id
        ·rw[om]at HW;by_cases NV:sk.count a.id=1
         ·rw[NV]at HC;have HY:=hide (fun w' (hb:Below w3.heap.size w3 w')=>ot.out w' hb H1.out H2.out rfl om NV);clear ot jr om NV;go_wp2_with fail;go_region_held3 (fun w'=>w'.cell? ⟨wr.heap.size,0,none⟩=some (.int .i64 a.id)∧w'.cell? ⟨wr.heap.size,3,none⟩=some (.int .i64 a.k7)∧w'.cell? ⟨p,4,none⟩=some (.int .i64 he)∧w'.cell? ⟨p,5,none⟩=some (.int .i64 now)∧w'.cell? ⟨p,6,none⟩=some (.slice (some ⟨g2,fl,none⟩) sk.reqs.length b9)∧w'.cell? ⟨g2,fl+j*7+6,none⟩=some (.bool false)) (go_keep)
           (first
            |(go_at_call 107;refine(HW.out _ (by first|exact Hd.out.drew|assumption)).mono ?_;rintro e w5⟨rfl,uI⟩;have CU:=bj (wr:=w3) (by first|exact Hd.out.drew|assumption) uI;obtain⟨q0,q3,q4,q5,q6,q7,q8⟩:=HS.out _ CU)
            |(go_at_call 108;refine(HC.out _ (by first|exact Hd.out.drew|assumption)).mono ?_;rintro e w6⟨rfl,hb6⟩;have hB6:=bj (wr:=w3) (by first|exact Hd.out.drew|assumption) hb6;obtain⟨r0,r3,r4,r5,r6,r7,r8⟩:=HS.out _ hB6))
          all_goals
           have HB6:=hide hB6;go_wp2_with fail;refine(HY.out _ HB6.out).mono ?_;rintro e w7⟨rfl,u6⟩;have ZN:=hide u6;clear u6;go_wp2;go_roundw
           case rel=>exact⟨k+1,by omega,by go_num,ZN⟩
           case measure=>simp[intOf];omega
         ·have hcf:(((sk.count a.id:Nat):Int)==1)=false:=by rw[beq_eq_false_iff_ne];omega
          have HN:=hide (fun w' (hb:Below w3.heap.size w3 w')=>jr.out w' hb (Or.inr (Or.inr (Or.inr (Or.inr NV)))));clear ot jr om NV;go_wp2_with fail;go_region_held3 (fun w'=>w'.cell? ⟨wr.heap.size,0,none⟩=some (.int .i64 a.id)∧w'.cell? ⟨wr.heap.size,3,none⟩=some (.int .i64 a.k7)∧w'.cell? ⟨p,4,none⟩=some (.int .i64 he)∧w'.cell? ⟨p,5,none⟩=some (.int .i64 now)∧w'.cell? ⟨p,6,none⟩=some (.slice (some ⟨g2,fl,none⟩) sk.reqs.length b9)∧w'.cell? ⟨g2,fl+j*7+6,none⟩=some (.bool false)) (go_keep)
           (first
            |(go_at_call 107;refine(HW.out _ (by first|exact Hd.out.drew|assumption)).mono ?_;rintro e w5⟨rfl,uI⟩;have CU:=bj (wr:=w3) (by first|exact Hd.out.drew|assumption) uI;obtain⟨q0,q3,q4,q5,q6,q7,q8⟩:=HS.out _ CU)
            |(go_at_call 108;refine(HC.out _ (by first|exact Hd.out.drew|assumption)).mono ?_;rintro e w6⟨rfl,hb6⟩;have hB6:=bj (wr:=w3) (by first|exact Hd.out.drew|assumption) hb6;obtain⟨r0,r3,r4,r5,r6,r7,r8⟩:=HS.out _ hB6))
          all_goals
           have ZN:=HN.out _ hB6;clear HN;go_wp2;go_roundw
           case rel=>exact⟨k+1,by omega,by go_num,ZN⟩
           case measure=>simp[intOf];omega
        ·rw[om]at HW;have HN:=hide (fun w' (hb:Below w3.heap.size w3 w')=>jr.out w' hb (Or.inr (Or.inr (Or.inr (Or.inl om)))));clear ot jr om;go_wp2_with fail;refine wp_region_noPanic ?_;refine wp_region_held_drew (S:=(fun w'=>w'.cell? ⟨wr.heap.size,0,none⟩=some (.int .i64 a.id)∧w'.cell? ⟨wr.heap.size,3,none⟩=some (.int .i64 a.k7)∧w'.cell? ⟨p,4,none⟩=some (.int .i64 he)∧w'.cell? ⟨p,5,none⟩=some (.int .i64 now)∧w'.cell? ⟨p,6,none⟩=some (.slice (some ⟨g2,fl,none⟩) sk.reqs.length b9)∧w'.cell? ⟨g2,fl+j*7+6,none⟩=some (.bool false))) (by kernel_rfl) ⟨b0,b3,d4,d5,d6,e6⟩ (fun dX=> ?_);refine mR (i:=0) (oi:=⟨some 61, .move (.tmp 0),117, "model.go:385", #[],none⟩) rfl dX ?_
         try simp only[Act.put,sT,s0,s1]
         refine mR (i:=1) (oi:=⟨some 62, .nilCheck (.tmp 61),0, "model.go:385", #[⟨0, .data⟩],none⟩) rfl dX ?_
         try simp only[Act.put,sT,s0,s1]
         refine mR (i:=2) (oi:=⟨some 63, .fieldAddr 162 (.tmp 62) 0,0, "model.go:385", #[⟨1, .data⟩],none⟩) rfl dX ?_
         try simp only[Act.put,sT,s0,s1]
         refine mR (i:=3) (oi:=⟨some 64, .fieldAddr 30 (.tmp 63) 4,0, "model.go:385", #[⟨2, .data⟩],none⟩) rfl dX ?_
         try simp only[Act.put,sT,s0,s1]
         refine mR (i:=4) (oi:=⟨some 65, .load 3 (.tmp 64),3, "model.go:385", #[⟨3, .data⟩],none⟩) rfl dX ?_
         try simp only[Act.put,sT,s0,s1]
         refine mR (i:=5) (oi:=⟨some 66, .binOp .gtr 3 (.tmp 65) (.const (.int .i64 0)) 3,4, "model.go:385", #[⟨4, .data⟩],none⟩) rfl dX ?_
         try simp only[Act.put,sT,s0,s1]
         refine mR (i:=6) (oi:=⟨some 67, .move (.tmp 66),4, "model.go:385", #[⟨5, .data⟩],none⟩) rfl dX ?_
         try simp only[Act.put,sT,s0,s1]
         refine mR (i:=7) (oi:=⟨some 68, .move (.tmp 0),117, "model.go:385", #[⟨6, .guard⟩],some (6,true)⟩) rfl dX ?_
         try simp only[Act.put,sT,s0,s1]
         refine mR (i:=8) (oi:=⟨some 69, .nilCheck (.tmp 68),0, "model.go:385", #[⟨7, .data⟩,⟨6, .guard⟩],some (6,true)⟩) rfl dX ?_
         try simp only[Act.put,sT,s0,s1]
         refine mR (i:=9) (oi:=⟨some 70, .fieldAddr 162 (.tmp 69) 1,0, "model.go:385", #[⟨8, .data⟩,⟨6, .guard⟩],some (6,true)⟩) rfl dX ?_
         try simp only[Act.put,sT,s0,s1]
         refine mR (i:=10) (oi:=⟨some 71, .load 3 (.tmp 70),3, "model.go:385", #[⟨9, .data⟩,⟨6, .guard⟩],some (6,true)⟩) rfl dX ?_
         try simp only[Act.put,sT,s0,s1]
         refine mR (i:=11) (oi:=⟨some 72, .fieldAddr 170 (.tmp 6) 3,0, "model.go:385", #[⟨6, .guard⟩],some (6,true)⟩) rfl dX ?_
         try simp only[Act.put,sT,s0,s1]
         refine mR (i:=12) (oi:=⟨some 73, .load 3 (.tmp 72),3, "model.go:385", #[⟨11, .data⟩,⟨6, .guard⟩],some (6,true)⟩) rfl dX ?_
         try simp only[Act.put,sT,s0,s1]
         refine mR (i:=13) (oi:=⟨some 74, .binOp .sub 3 (.tmp 71) (.tmp 73) 3,3, "model.go:385", #[⟨10, .data⟩,⟨12, .data⟩,⟨6, .guard⟩],some (6,true)⟩) rfl dX ?_
         try simp only[Act.put,sT,s0,s1]
         refine mR (i:=14) (oi:=⟨some 75, .move (.tmp 0),117, "model.go:385", #[⟨6, .guard⟩],some (6,true)⟩) rfl dX ?_
         try simp only[Act.put,sT,s0,s1]
         refine mR (i:=15) (oi:=⟨some 76, .nilCheck (.tmp 75),0, "model.go:385", #[⟨14, .data⟩,⟨6, .guard⟩],some (6,true)⟩) rfl dX ?_
         try simp only[Act.put,sT,s0,s1]
         refine mR (i:=16) (oi:=⟨some 77, .fieldAddr 162 (.tmp 76) 0,0, "model.go:385", #[⟨15, .data⟩,⟨6, .guard⟩],some (6,true)⟩) rfl dX ?_
         try simp only[Act.put,sT,s0,s1]
         refine mR (i:=17) (oi:=⟨some 78, .fieldAddr 30 (.tmp 77) 4,0, "model.go:385", #[⟨16, .data⟩,⟨6, .guard⟩],some (6,true)⟩) rfl dX ?_
         try simp only[Act.put,sT,s0,s1]
         refine mR (i:=18) (oi:=⟨some 79, .load 3 (.tmp 78),3, "model.go:385", #[⟨17, .data⟩,⟨6, .guard⟩],some (6,true)⟩) rfl dX ?_
         try simp only[Act.put,sT,s0,s1]
         refine mR (i:=19) (oi:=⟨some 80, .binOp .geq 3 (.tmp 74) (.tmp 79) 3,4, "model.go:385", #[⟨13, .data⟩,⟨18, .data⟩,⟨6, .guard⟩],some (6,true)⟩) rfl dX ?_
         try simp only[Act.put,sT,s0,s1]
         refine mR (i:=20) (oi:=⟨some 81, .pick (.tmp 67) (.tmp 80) (.const (.bool false)),4, "model.go:385", #[⟨6, .data⟩,⟨19, .data⟩],none⟩) rfl dX ?_
         try simp only[Act.put,sT,s0,s1]
         refine mR (i:=21) (oi:=⟨some 82, .move (.tmp 81),4, "model.go:385", #[⟨20, .data⟩,⟨6, .chain⟩],none⟩) rfl dX ?_
         try simp only[Act.put,sT,s0,s1]
         refine mR (i:=22) (oi:=⟨some 83, .move (.tmp 0),117, "model.go:385", #[⟨21, .guard⟩],some (21,true)⟩) rfl dX ?_
         try simp only[Act.put,sT,s0,s1]
         refine mR (i:=23) (oi:=⟨some 84, .nilCheck (.tmp 83),0, "model.go:385", #[⟨22, .data⟩,⟨21, .guard⟩],some (21,true)⟩) rfl dX ?_
         try simp only[Act.put,sT,s0,s1]
         refine mR (i:=24) (oi:=⟨some 85, .fieldAddr 162 (.tmp 84) 2,0, "model.go:385", #[⟨23, .data⟩,⟨21, .guard⟩],some (21,true)⟩) rfl dX ?_
         try simp only[Act.put,sT,s0,s1]
         refine mR (i:=25) (oi:=⟨some 86, .load 157 (.tmp 85),157, "model.go:385", #[⟨24, .data⟩,⟨21, .guard⟩],some (21,true)⟩) rfl dX ?_
         try simp only[Act.put,sT,s0,s1]
         refine mR (i:=26) (oi:=⟨some 87, .move (.tmp 7),3, "model.go:385", #[⟨21, .guard⟩],some (21,true)⟩) rfl dX ?_
         try simp only[Act.put,sT,s0,s1]
         refine mR (i:=27) (oi:=⟨some 88, .indexAddr 157 (.tmp 86) (.tmp 87),0, "model.go:385", #[⟨25, .data⟩,⟨26, .data⟩,⟨21, .guard⟩],some (21,true)⟩) rfl dX ?_
         try simp only[Act.put,sT,s0,s1]
         refine mR (i:=28) (oi:=⟨some 89, .fieldAddr 174 (.tmp 88) 6,0, "model.go:385", #[⟨27, .data⟩,⟨21, .guard⟩],some (21,true)⟩) rfl dX ?_
         try simp only[Act.put,sT,s0,s1]
         refine mR (i:=29) (oi:=⟨some 90, .load 4 (.tmp 89),4, "model.go:385", #[⟨28, .data⟩,⟨21, .guard⟩],some (21,true)⟩) rfl dX ?_
         try simp only[Act.put,sT,s0,s1]
         refine mR (i:=30) (oi:=⟨some 91, .unOp .not 4 (.tmp 90),4, "model.go:385", #[⟨29, .data⟩,⟨21, .guard⟩],some (21,true)⟩) rfl dX ?_
         try simp only[Act.put,sT,s0,s1]
         refine mR (i:=31) (oi:=⟨some 92, .pick (.tmp 82) (.tmp 91) (.const (.bool false)),4, "model.go:385", #[⟨21, .data⟩,⟨30, .data⟩],none⟩) rfl dX ?_
         try simp only[Act.put,sT,s0,s1]
         refine mR (i:=32) (oi:=⟨some 93, .move (.tmp 92),4, "model.go:385", #[⟨31, .data⟩,⟨21, .chain⟩],none⟩) rfl dX ?_
         try simp only[Act.put,sT,s0,s1]
         refine mR (i:=33) (oi:=⟨some 94, .move (.tmp 0),117, "model.go:385", #[⟨32, .guard⟩],some (32,true)⟩) rfl dX ?_
         try simp only[Act.put,sT,s0,s1]
         refine mR (i:=34) (oi:=⟨some 95, .fieldAddr 170 (.tmp 6) 0,0, "model.go:385", #[⟨32, .guard⟩],some (32,true)⟩) rfl dX ?_
         try simp only[Act.put,sT,s0,s1]
         refine mR (i:=35) (oi:=⟨some 96, .load 3 (.tmp 95),3, "model.go:385", #[⟨34, .data⟩,⟨32, .guard⟩],some (32,true)⟩) rfl dX ?_
         try simp only[Act.put,sT,s0,s1]
         refine wpAnyH_ready (rs:= [36]) (by kernel_rfl) (by simp) ?_;refine AllReadyH.cons rfl (fun K hK=> ?_) AllReadyH.nil;go_simp;refine(HW.out _ Hd.out.drew).mono ?_;rintro e w5⟨rfl,uI⟩;have CU:=bj (wr:=w3) Hd.out.drew uI;obtain⟨q0,q3,q4,q5,q6,q7,q8⟩:=HS.out _ CU;go_simp;refine hK.out _ _ ⟨q0,q3,q4,q5,q6,q7⟩ (fun pC=> ?_);clear hK K
         try simp only[Act.put,sT,s0,s1]
         refine mR (i:=37) (oi:=⟨some 98, .unOp .not 4 (.tmp 97),4, "model.go:385", #[⟨36, .data⟩,⟨32, .guard⟩],some (32,true)⟩) rfl pC ?_
         try simp only[Act.put,sT,s0,s1]
         refine mR (i:=38) (oi:=⟨some 99, .pick (.tmp 93) (.tmp 98) (.const (.bool false)),4, "model.go:385", #[⟨32, .data⟩,⟨37, .data⟩],none⟩) rfl pC ?_
         try simp only[Act.put,sT,s0,s1]
         refine mR (i:=39) (oi:=⟨some 100, .move (.tmp 99),4, "model.go:385", #[⟨38, .data⟩,⟨36, .chain⟩],none⟩) rfl pC ?_
         try simp only[Act.put,sT,s0,s1]
         refine Nu (i:=40) (oi:=⟨some 101, .move (.tmp 0),117, "model.go:385", #[⟨39, .guard⟩],some (39,true)⟩) (v:=undef) rfl (Or.inr ⟨by rfl,rfl⟩) pC ?_
         try simp only[Act.put,sT,s0,s1]
         refine Nu (i:=41) (oi:=⟨some 102, .fieldAddr 170 (.tmp 6) 0,0, "model.go:385", #[⟨39, .guard⟩],some (39,true)⟩) (v:=undef) rfl (Or.inr ⟨by rfl,rfl⟩) pC ?_
         try simp only[Act.put,sT,s0,s1]
         refine Nu (i:=42) (oi:=⟨some 103, .load 3 (.tmp 102),3, "model.go:385", #[⟨41, .data⟩,⟨39, .guard⟩],some (39,true)⟩) (v:=undef) rfl (Or.inr ⟨by rfl,rfl⟩) pC ?_
         try simp only[Act.put,sT,s0,s1]
         refine Nu (i:=43) (oi:=⟨some 104, .call {callee:= .value (.func 108),args:= #[.tmp 101, .tmp 103],argTypes:= #[117,3]},3, "model.go:385", #[⟨40, .data⟩,⟨42, .data⟩,⟨39, .chain⟩,⟨39, .guard⟩],some (39,true)⟩) (v:=undef) rfl (Or.inr ⟨by rfl,rfl⟩) pC ?_
         try simp only[Act.put,sT,s0,s1]
         refine Nu (i:=44) (oi:=⟨some 105, .binOp .eql 3 (.tmp 104) (.const (.int .i64 1)) 3,4, "model.go:385", #[⟨43, .data⟩,⟨39, .guard⟩],some (39,true)⟩) (v:=undef) rfl (Or.inr ⟨by rfl,rfl⟩) pC ?_
         try simp only[Act.put,sT,s0,s1]
         refine mR (i:=45) (oi:=⟨some 106, .pick (.tmp 100) (.tmp 105) (.const (.bool false)),4, "model.go:385", #[⟨39, .data⟩,⟨44, .data⟩],none⟩) rfl pC ?_
         try simp only[Act.put,sT,s0,s1]
         refine wpAnyH_done (by kernel_rfl) (NoPanic.normal ?_) _;have ZN:=HN.out _ CU;clear HN pC dX;go_wp2;go_roundw
         case rel=>exact⟨k+1,by omega,by go_num,ZN⟩
         case measure=>simp[intOf];omega
       ·have HN:=hide (fun w' (hb:Below w3.heap.size w3 w')=>jr.out w' hb (Or.inr (Or.inr (Or.inl rfl))));clear ot jr;go_wp2_with fail
        go_quiet (fail)
        go_wp2;go_roundw
        case rel=>exact⟨k+1,by omega,by go_num,HN.out _ (below_drewN Hd.out _)⟩
        case measure=>simp[intOf];omega
      ·have h2f:decide (he<=now-a.k7)=false:=by simpa using h2
       have HN:=hide (fun w' (hb:Below w3.heap.size w3 w')=>jr.out w' hb (Or.inr (Or.inl (by omega))));clear ot jr h2;go_wp2_with fail
       go_quiet (fail)
       go_wp2;go_roundw
       case rel=>exact⟨k+1,by omega,by go_num,HN.out _ (below_drewN Hd.out _)⟩
       case measure=>simp[intOf];omega
     ·have h1f:decide (0<he)=false:=by simpa using h1
      have HN:=hide (fun w' (hb:Below w3.heap.size w3 w')=>jr.out w' hb (Or.inl (by omega)));clear ot jr h1;go_wp2_with fail
      go_quiet (fail)
      go_wp2;go_roundw
      case rel=>exact⟨k+1,by omega,by go_num,HN.out _ (below_drewN Hd.out _)⟩
      case measure=>simp[intOf];omega
    ·obtain rfl:k=s'.af.length:=by omega
     have cg:=St.tP s'.af s';have hfe:Fine 15600100 s'.eE:=⟨St.jH jY.out.inv,Bd.fold _ jY.out.bd,by have:=jY.out.sz;unfold St.eE;omega⟩;have hge:=EW HI.out;rw[Ih]at hge;have Hj:Hid (Calls prog 110 #[.pointer (some ⟨p,0,none⟩)] wr (fZ p s.tick w F)):=by show Calls _ _ _ _ _;rw[abM.out];exact cW hge fun F2 h2=>vE p _ (⟨hfe.inv,hfe.bd,aw hfe.sz (by omega)⟩) wr F2 h2
     clear hge hfe HI;go_wp2_with fail;refine Hj.out.mono ?_;rintro e w5⟨rfl,hg5⟩;have HT:=hide (rk hg5);clear hg5 Hj;go_wp2_with fail;refine HT.out.mono ?_;rintro e w6⟨v,rfl,iJ⟩;have sf:=hide iJ;clear iJ;go_wp2;go_ret;exact⟨v,rfl,sf.out⟩
end Mr
namespace Lw
open Go.RowKit aM Mc Mr fA bJ
attribute [local go_sem] aL.ag aL.ar
theorem CK{base:Nat}{dz:World}(P:uO base dz)(wp n:Nat)(aO:List Pr)(hs:List (Value×Nat))(x:fU)(w:World)(F:Ft)(hp:Pre P wp n aO hs w F)(hn:n+x.s.size+1<=1048576)(hx:x.k=5)(ha:I64 x.a)(hb:I64 x.b):Calls prog 37 #[.pointer (some ⟨wp,0,none⟩), .agg x.cs] w (gu P wp (n+x.s.size+1)):=by
 obtain⟨k,a,b,le,re,ca,bo,he,s⟩:=x;simp only at hx hn ha hb⊢;subst hx;simp only[fU.cs]at*;have HP:=hide hp;obtain⟨ds,ls,ao,cp,c0,PQ,XW,Ej,qb,Mk,xL,GF,j6⟩:=rh hp (by omega) ha;have GG:=hide hp.good;clear hp;by_cases h0:aO.length=0
 ·rw[h0]at c0;clear j6;go_enter func37,ntmps37;go_wp2;go_ret;exact HP.out.same ((ah _ _).alloc (ae _) _) (by omega)
 have j7:0<aO.length:=by omega
 obtain⟨g,off,i,dM,rfl,Hi,q0,q1,sG,sH,AG⟩:=j6 j7;clear j6;go_enter func37,ntmps37;go_wp2_with fail;go_region_held3 (fun w'=>w'.cell? ⟨wp,0,none⟩=some (.slice (some ⟨g,off,none⟩) aO.length cp)∧w'.cell? ⟨w.heap.size,1,none⟩=some (.int .i64 a)∧w'.cell? ⟨g,off+i*2,none⟩=some (.pointer (some ⟨(aO[i]'dM).x,0,none⟩))∧w'.cell? ⟨g,off+i*2+1,none⟩=some (.pointer (some ⟨(aO[i]'dM).m,0,none⟩))) (go_keep)
  (first|(go_at_call 59;refine(Hi.out _).mono ?_;rintro e w1⟨rfl,rfl⟩))
 all_goals
  clear q0 q1 c0 qb sH Mk;obtain⟨w0,nj,iO,IE,gI,o0,o2,o8,r0,r1,HK⟩:=nU GF 5 a b le re ca bo he s (aO[i]'dM).x (aO[i]'dM).m;rw[nj];clear nj;have qM:=HP.out.below iO;have wP:=qM.big;have hold:=qM.old;have kt:(jl P wp aO hs ds ls).holds w0 F:=au xL.out iO;have Im:Mc.Good (n+s.size+1) ((aO[i]'dM).s.tick):=AG.out.tick.le (by omega);have vU:((aO[i]'dM).s.tick).out.length<=33554432:=by have:=Im.sz;unfold St.sz at this;omega
  have lI:=oX P wp aO hs ds ls i dM ((aO[i]'dM).s.tick) w0 F kt (by omega) vU (f1:=26) (f2:=61) (args1:= #[.pointer (some ⟨(aO[i]'dM).x,0,none⟩)]) (args2:= #[.pointer (some ⟨(aO[i]'dM).m,0,none⟩)])
   (fun G1 lH=>P.tick _ n _ w0 G1 wP hold AG.out (by omega) lH) (fun w' G1 lH=>Rz _ _ AG.out (by omega) w' G1 lH)
  have JW:=hide lI;have fg:Hid (∀a' w',Goes (AE P wp (aO.set i ⟨(aO[i]'dM).x,(aO[i]'dM).m,((aO[i]'dM).s.tick).told⟩) (hs++ [(a',((aO[i]'dM).s.tick).out.length+2)])) w0 F w'->gu P wp (n+s.size+1) (.returned (.bool true)) w'):=fun a' w' hg=>⟨rfl,qM.next hg (by omega) (ur GG.out (by omega) Im.told) (by rw[List.length_set];omega) (by simp)⟩
  clear lI qM kt Im vU;go_wp2_with fail;refine JW.out.mono ?_;rintro e w1⟨v,rfl,QP,hc⟩;obtain⟨Yy,Yz,YA,YE,YF⟩:=HK.out _ QP;have wJ:=hide hc;clear hc QP o0 o2 o8 r0 r1 JW;go_wp2_with fail;refine wJ.out.mono ?_;rintro e w2⟨v2,rfl,QQ,hc⟩;obtain⟨Jc,Jd,Je,Jl,Jm⟩:=HK.out _ QQ;have JV:=hide hc;clear hc QQ Yy Yz YA YE YF wJ;go_wp2_with fail;refine JV.out.mono ?_;rintro e w3⟨rfl,YB,hc⟩;have N8:=hide hc;clear hc YB Jc Jd Je Jl Jm JV;go_wp2_with fail;refine N8.out.mono ?_;rintro e w4⟨rfl,a',kI⟩;have HX:=hide (fg.out a' _ kI);clear kI fg N8 HK;go_wp2;go_ret;exact HX.out
