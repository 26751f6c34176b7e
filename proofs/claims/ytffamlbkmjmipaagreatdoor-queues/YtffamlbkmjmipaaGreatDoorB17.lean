import Derived.Test.YtffamlbkmjmipaaGreatDoorB11
import Derived.Test.YtffamlbkmjmipaaGreatDoorB16
set_option maxHeartbeats 8000000
set_option maxRecDepth 100000
namespace Go.Proofs.YtffamlbkmjmipaaGreatDoor
open _root_.Go.Proofs.Tryz
namespace Mr
open Go.RowKit aM Mc
attribute [local go_sem] aL.ag aL.ar
variable{s s':St}{p:Nat}{w wr w2:World}{id:Int}{m:MV}{g:List (Ln×Value)}{F:Ft}
structure Fine(N:Nat)(s:St):Prop where
 inv:Inv s
 bd:Bd 1099511627776 s
 sz:s.sz<=N
theorem Fine.lens{N:Nat}(h:Fine N s):s.out.length<=N∧s.af.length<=N∧s.wait.length<=N∧s.reqs.length<=N∧s.aq.length<=N:=by have:=h.sz;unfold St.sz at this;omega
theorem kO(x:Int)(h0:0<=x)(h1:x<=1099511627776)(w:World):Calls prog 103 #[.int .i64 x] w fun e w'=>e= .returned (.string ⟨(cJ x).toArray⟩)∧Below w.heap.size w w':=by have h:=DM x.toNat (by omega) w;rw[show((x.toNat:Nat):Int)=x by omega]at h;exact h
theorem Rp(p:Nat)(s:St):xP (aU p s):=by
 intro w G H h1 h2;obtain⟨m,g,hr,ho⟩:=bD h1;obtain⟨m',g',qO,ho'⟩:=bD h2;have e:y9 s m=y9 s m':=by have a:=(bR hr ho).blk;have b:=(bR qO ho').blk;rw[a]at b;exact(Obj.cells.inj (Option.some.inj b)).1
 have em:m=m':=by have e':=congrArg Array.toList e;unfold y9 at e';simp only[List.cons.injEq,and_true,true_and]at e';obtain⟨e1,e2,e3,e4,e5,e6⟩:=e';cases m;cases m';simp_all
 subst em;have eg:g=g':=by
  have hlen:g.length=g'.length:=by have:=congrArg List.length (hr.trans qO.symm);simpa using this
  obtain⟨X,hX⟩:=(bR hr ho).ln;obtain⟨Y,hY⟩:=(bR qO ho').ln;rw[<-hlen]at hY;have ef:=r9 hX hY;refine List.ext_getElem hlen (fun k h1 h2=> ?_);have a:=kP gU g k 1 h1 (by omega);have b:=kP gU g' k 1 h2 (by omega);rw[ef,b]at a;have e2:(g'[k]'h2).2=(g[k]'h1).2:=by simpa[eN]using a
  have e1:=congrArg (fun l:List Ln=>l[k]?) (hr.trans qO.symm);simp only[List.getElem?_map,a7 h1,a7 h2,Option.map_some,Option.some.injEq]at e1;exact Prod.ext e1 e2.symm
 subst eg;exact bF ho ho'
theorem eG{G H:Ft}(h1:(aU p s).holds w G)(h2:(aU p s).holds w H):G=H:=Rp p s w G H h1 h2
theorem bj{cur w4:World}(h:Below wr.heap.size wr cur)(l9:Below cur.heap.size cur w4):Below wr.heap.size wr w4:=h.trans (l9.mono h.size)
theorem IK{c:Int}(h:0<=id):isFirst id c=fun a=>a.id==id:=by
 funext a;unfold isFirst;have:(id== -1)=false:=by rw[beq_eq_false_iff_ne];omega
 rw[this];simp
def ij(p:Nat)(w:World):Nat:=match w.cell? ⟨p,7,none⟩with|some (.slice _ n _)=>n|_=>0
theorem iy(hm:MF w p s m g):ij p w=s.af.length:=by obtain⟨ao,cap,G,c7,_,_⟩:=hm.af;unfold ij;rw[c7]
theorem Gd(id n:Int):((⟨#[115,116,111,112,32]⟩:ByteArray)++⟨(cJ id).toArray⟩++⟨#[32]⟩++⟨(cJ n).toArray⟩)=⟨(St.aD id n).toArray⟩:=by unfold St.aD;apply ByteArray.ext;simp
theorem FY(id n:Int):(St.aD id n).length<=100:=by have h1:=fh id;have h2:=fh n;unfold St.aD;simp;omega
structure iQ(p:Nat)(s:St)(id:Int)(w:World)(F:Ft)(s':St)(wr:World):Prop where
 st:St.eB s s' id
 sz:s'.sz<=s.sz
 goes:Goes (aU p s') w F wr
 rest: ∃f,s'.af.length<=f∧St.stops s.af.length s id=St.stops f s' id
theorem iQ.next(h:iQ p s id w F s' wr){i:Nat}{a:At}(hi:s'.af.findIdx? (·.id==id)=some i)(ha:s'.af[i]?=some a)(hg:Goes (aU p ((s'.say a.conn (St.aD id a.n)).aS i)) w F w2):iQ p s id w F ((s'.say a.conn (St.aD id a.n)).aS i) w2:=by
 obtain⟨f,hf,e⟩:=h.rest;have hlen:=St.eH ha;have h2:=St.mD (s:=s'.say a.conn (St.aD id a.n)) ha;rw[St.eZ]at h2;refine⟨h.st.trans (St.FZ s' id _ _ _),by have:=h.sz;omega,hg, ?_⟩
 match f,hf,e with
 |0,hf,_=>omega
 |f+1,hf,e=>
  refine⟨f, ?_, ?_⟩
  ·rw[(St.cG (s:=s'.say a.conn (St.aD id a.n)) i).2.1];show(s'.af.eraseIdx i).length<=f;omega
  ·rw[e];conv=>lhs;unfold St.stops
   rw[hi];dsimp only;rw[ha]
theorem iQ.done(h:iQ p s id w F s' wr)(hi:s'.af.findIdx? (·.id==id)=none):s'=St.stops s.af.length s id:=by
 obtain⟨f,hf,e⟩:=h.rest;rw[e]
 match f with
 |0=>rfl
 |f+1=>unfold St.stops;rw[hi]
theorem YI{v:Value}{l:List Rq}(hr:g.map (·.1)=s.ring)(az:(aI p s m g).holds w F)(h:Goes (dO v l) w (fun _=>False) w2):Goes (aU p {s with reqs:=l}) w F (w2.setCell ⟨p,6,none⟩ v):=by
 have h1:Goes (aa (dO v l) (aI p s m g)) w F w2:=(Goes.refl az).fresh h;rw[oT]at h1;have h2:=(h1.eq (show _=aa (iM p s m) (aa (dO v l) (aa (dO m.rv s.reqs) (aa (mz m.av s.af) (aa (rX m.gv g) (aa (inA m.wv s.wait) (aa (lz m.cv s.aq) (iB m.ov s.out)))))))by ac_rfl)).store 6 v;have h3:Goes (aa (aI p {s with reqs:=l} {m with rv:=v} g) (dO m.rv s.reqs)) w F (w2.setCell ⟨p,6,none⟩ v):=h2.eq (by
  rw[oT];show aa (blk p (.cells (y9 {s with reqs:=l} {m with rv:=v}) 162 (0,0))) _=aa (aa (dO v l) (aa (blk p (.cells (y9 {s with reqs:=l} {m with rv:=v}) 162 (0,0))) _)) _
  ac_rfl)
 exact cI (s:={s with reqs:=l}) (m:={m with rv:=v}) (g:=g) hr h3.drop
theorem wN{α:Type}{p:α->Bool}{l:List α}{k:Nat}(h:l.findIdx? p=some k):dropFirst p l=l.eraseIdx k:=by
 induction l generalizing k with
 |nil=>simp at h
 |cons x l ih=>
  unfold dropFirst;rw[List.findIdx?_cons]at h;by_cases hx:p x=true
  ·rw[if_pos hx]at h⊢;cases h;rfl
  ·rw[if_neg hx]at h⊢;cases h2:l.findIdx? p with
   |none=>rw[h2]at h;cases h
   |some j=>
    rw[h2]at h;have:k=j+1:=by simpa using h.symm
    subst this;rw[ih h2];rfl
theorem zl(l:List Rq): ∀u∈flat gV l,u.oneCell'=true:=by intro u hu;obtain⟨a,_,h⟩:=List.mem_flatMap.1 hu;simp only[gV,List.mem_cons,List.mem_nil_iff,or_false]at h;rcases h with rfl|rfl|rfl|rfl|rfl|rfl|rfl<;>rfl
theorem jh(p:Nat)(id:Int)(s:St)(hv:Fine 16777000 s)(hid:id∈s.ks.map (·.1))(w:World)(F:Ft)(hm:(aU p s).holds w F):Calls prog 112 #[.pointer (some ⟨p,0,none⟩), .int .i64 id] w (fZ p (s.shut id) w F):=by
 obtain⟨i0,kR,gI,dN,fS⟩:=info_parts P8;have mX:0<=id∧id<=999999:=by obtain⟨r,_,hr,e⟩:=St.cz hid;exact e▸(hv.bd.rq r hr).id
 have HV:=hide hv;have AH:=hide hid;have pB:Hid (∀w':World,Calls prog 103 #[.int .i64 id] w' fun e dV=>e= .returned (.string ⟨(cJ id).toArray⟩)∧Below w'.heap.size w' dV):=fun w'=>kO id (by omega) (by omega) w';have Hf:Hid (∀(s':St) (w':World) (F':Ft),s'.af.length<=16777216->(aU p s').holds w' F'->Calls prog 113 #[.pointer (some ⟨p,0,none⟩), .int .i64 id, .int .i64 0] w' fun e dV=>e= .returned (.int .i64 (jV (s'.af.findIdx? (·.id==id))))∧Below w'.heap.size w' dV):=fun s' w' F' hl h=>by obtain⟨m,g,hr,ho⟩:=bD h;have:=first_any p id 0 s' m g w' (bR hr ho) hl;rw[IK mX.1]at this;exact this
 have hfl:(⟨(cJ id).toArray⟩:ByteArray).size<=20:=fh id;have HM:=hide hm;have hl:=hv.lens;have NH:=hide mX;clear hm hv hid mX;go_enter func112,ntmps112;go_wp2_with fail;refine(Hf.out s w F (by omega) HM.out).mono ?_;rintro e w0⟨rfl,iO⟩;go_wp2_with fail;have uN:Hid (iQ p s id w F s w0):=⟨St.eB.refl s id,ae _,(Goes.refl HM.out).below iO,⟨_,ae _,rfl⟩⟩;clear iO HM;go_loopw [4] (fun i wr=> ∃s':St,i= .int .i64 (jV (s'.af.findIdx? (·.id==id)))∧Hid (iQ p s id w F s' wr)) (fun _ wr=>ij p wr)
 case atStart=>exact⟨s,rfl,uN⟩
 case round=>
  obtain⟨s',rfl,iP⟩:=hrel;have kH:Fine 16777000 s':=⟨iP.out.st.inv HV.out.inv,HV.out.bd.stopped iP.out.st,aw iP.out.sz HV.out.sz⟩;have jY:=hide kH;have PL:=kH.lens;cases hf:s'.af.findIdx? (·.id==id)with
  |some k=>
   obtain⟨a,xy,DZ⟩:=St.eJ hf;have nC:k<s'.af.length:=(cK.1 xy).1;have wO:s'.af[k]'nC=a:=(cK.1 xy).2;have oa:=kH.bd.at' a (dn xy);obtain⟨F1,cd,o1,n1⟩:=iP.out.goes;obtain⟨m,g,hr,az⟩:=bD cd;have dU:=bR hr az;have Pu:=iy dU;obtain⟨ao,cap,G,c7,HG,fT⟩:=dU.af;obtain⟨g1,off,rfl⟩:=fT.out (by omega);obtain⟨_,c1,c2,_,_⟩:=dZ HG.out nC;rw[wO]at c1 c2;have HS:Hid (∀w',Below wr.heap.size wr w'->w'.cell? ⟨p,7,none⟩=some (.slice (some ⟨g1,off,none⟩) s'.af.length cap)∧w'.cell? ⟨g1,off+k*5+1,none⟩=some (.int .i64 a.n)∧w'.cell? ⟨g1,off+k*5+2,none⟩=some (.int .i64 a.conn)):=fun w' hb=>by
    refine⟨by rw[hb.cell (p:=⟨p,7,none⟩) dU.lt];exact c7, ?_, ?_⟩
    ·rw[hb.cell (p:=⟨g1,off+k*5+1,none⟩) (dK HG.out).1];exact c1
    ·rw[hb.cell (p:=⟨g1,off+k*5+2,none⟩) (dK HG.out).1];exact c2
   have zN:Hid (∀w':World,Calls prog 103 #[.int .i64 a.n] w' fun e dV=>e= .returned (.string ⟨(cJ a.n).toArray⟩)∧Below w'.heap.size w' dV):=fun w'=>kO a.n oa.n.1 (by have:=oa.n.2;omega) w';have gq:Hid (∀w',Below wr.heap.size wr w'->Calls prog 102 #[.pointer (some ⟨p,0,none⟩), .int .i64 a.conn, .string ((⟨#[115,116,111,112,32]⟩:ByteArray)++⟨(cJ id).toArray⟩++⟨#[32]⟩++⟨(cJ a.n).toArray⟩)] w' fun e dV=>e= .returned (.tuple #[])∧Goes (aU p (s'.say a.conn (St.aD id a.n))) w F dV∧dV.cell? ⟨p,7,none⟩=some (.slice (some ⟨g1,off,none⟩) s'.af.length cap)∧dV.cell? ⟨g1,off+k*5+1,none⟩=some (.int .i64 a.n)∧dV.cell? ⟨g1,off+k*5+2,none⟩=some (.int .i64 a.conn)):=fun w' hb=>by rw[Gd];refine(lW p a.conn (St.aD id a.n) s' m g w' F1 ((aI p s' m g).keep az (fun q hq=>hb.block q ((aI p s' m g).lt az q hq))) (by omega) (aw (FY _ _) (by omega))).mono ?_;rintro e dV⟨rfl,nk,hg⟩;obtain⟨F2,eX⟩:=hg.facts;have BP:=bR (s:=s'.say a.conn (St.aD id a.n)) hr eX;obtain⟨G2,pw⟩:=BP.at';have e7:dV.cell? ⟨p,7,none⟩=some (.slice (some ⟨g1,off,none⟩) s'.af.length cap):=(BP.cell 7).trans ((dU.cell 7).symm.trans c7);have yy:({m with ov:=nk}:MV).av= .slice (some ⟨g1,off,none⟩) s'.af.length cap:=Option.some.inj ((BP.cell 7).symm.trans e7);rw[yy]at pw;obtain⟨_,x1,x2,_,_⟩:=dZ (l:=s'.af) pw nC;rw[wO]at x1 x2;refine⟨rfl, ?_,e7,x1,x2⟩;refine cI (s:=s'.say a.conn (St.aD id a.n)) (m:={m with ov:=nk}) hr (Goes.trans (Goes.below (A:=aI p s' m g) (w':=wr) ⟨F1,az,o1,n1⟩ hb) fun F' dR=> ?_);rw[bF dR ((aI p s' m g).keep az (fun q hq=>hb.block q ((aI p s' m g).lt az q hq)))];exact hg
   have aaI:(⟨(cJ a.n).toArray⟩:ByteArray).size<=20:=fh a.n;have HAK:=hide xy;have Y2:=hide hf;have wI:=hide Pu;clear cd o1 n1 az hr dU wO oa xy DZ kH HG fT Pu hf;have Sc:(0:Int)<=((k:Nat):Int):=by omega
   have BO:((k:Nat):Int)<((s'.af.length:Nat):Int):=by omega
   rw[show jV (some k)=((k:Nat):Int)from rfl];generalize cJ id=fi at*;generalize cJ a.n=fn at*;have ng:fi.length<=20:=hfl;have qN:fn.length<=20:=aaI;have Ae: ¬9223372036854775807<5+fi.length:=by omega
   have oJ: ¬9223372036854775807<5+fi.length+1:=by omega
   have NX: ¬9223372036854775807<5+fi.length+1+fn.length:=by omega
   clear hfl aaI;go_wp2_with fail;go_region_held3 (fun w'=>w'.cell? ⟨p,7,none⟩=some (.slice (some ⟨g1,off,none⟩) s'.af.length cap)∧w'.cell? ⟨g1,off+k*5+1,none⟩=some (.int .i64 a.n)∧w'.cell? ⟨g1,off+k*5+2,none⟩=some (.int .i64 a.conn)) (go_keep)
    (first
     |(go_at_call_of 103 (Value.int IntKind.i64 id);refine(pB.out _).mono ?_;rintro e w4⟨rfl,l9⟩;have pI:=bj (wr:=wr) (by first|exact(ah _ _).drew|assumption) l9;obtain⟨s1,s2,s3⟩:=HS.out _ pI)
     |(go_at_call_of 103 (Value.int IntKind.i64 a.n);refine(zN.out _).mono ?_;rintro e w5⟨rfl,uI⟩;have CU:=bj (wr:=wr) (by first|exact(ah _ _).drew|assumption) uI;obtain⟨s4,s5,s6⟩:=HS.out _ CU)
     |(go_at_call 102;refine(gq.out _ (by first|exact(ah _ _).drew|assumption)).mono ?_;rintro e w6⟨rfl,iJ,s7,s8,s9⟩))
   all_goals
    have adU:=jY.out.sz;have hfs:Fine 16777001 (s'.say a.conn (St.aD id a.n)):=⟨St.bM jY.out.inv _ _,jY.out.bd.say _ _,by rw[St.eZ];omega⟩;have uM:Hid (∀w2,Goes (aU p ((s'.say a.conn (St.aD id a.n)).aS k)) w F w2->iQ p s id w F ((s'.say a.conn (St.aD id a.n)).aS k) w2):=fun w2 hg=>iP.out.next Y2.out HAK.out hg;obtain⟨F6,xu,o6,n6⟩:=iJ;have jq:Hid (Calls prog 104 #[.pointer (some ⟨p,0,none⟩), .int .i64 k] w6 (fZ p ((s'.say a.conn (St.aD id a.n)).aS k) w6 F6)):=by have hh:=hfs.lens;exact hE p k (s'.say a.conn (St.aD id a.n)) hfs.inv w6 F6 xu nC (by omega) (by omega) (by omega)
    have sf:Hid (∀w2,Goes (aU p ((s'.say a.conn (St.aD id a.n)).aS k)) w6 F6 w2->Goes (aU p ((s'.say a.conn (St.aD id a.n)).aS k)) w F w2):=fun w2 hg=>Goes.trans ⟨F6,xu,o6,n6⟩ fun F' dR=>by rw[eG dR xu];exact hg
    have La:Hid (((s'.say a.conn (St.aD id a.n)).aS k).af.length+1=s'.af.length):=by show _=_;rw[(St.cG (s:=s'.say a.conn (St.aD id a.n)) k).2.1];exact St.eH HAK.out
    generalize(s'.say a.conn (St.aD id a.n)).aS k=s2 at*;clear xu o6 n6 hfs gq zN HS Y2 HAK;go_wp2_with fail;refine jq.out.mono ?_;rintro e w7⟨rfl,u6⟩;have HGo:=hide (sf.out w7 u6);have WQ:=hide (uM.out w7 HGo.out);obtain⟨F7,Xn⟩:=HGo.out.facts;have acF:=La.out;have HF7:=hide Xn;clear u6 sf uM jq Xn;go_wp2_with fail;refine(Hf.out s2 w7 F7 (by omega) HF7.out).mono ?_;rintro e w8⟨rfl,hb8⟩;have HS8:Hid (iQ p s id w F s2 w8):=⟨WQ.out.st,WQ.out.sz,WQ.out.goes.below hb8,WQ.out.rest⟩;have hm8:ij p w8<ij p wr:=by obtain⟨m8,g8,hr8,ho8⟩:=bD (au HF7.out hb8);rw[iy (bR hr8 ho8),wI.out];omega
    have HM8:=hide hm8;clear hb8 hm8 HF7 HGo WQ;go_wp2;go_roundw
    case rel=>exact⟨s2,rfl,HS8⟩
    case measure=>exact HM8.out
  |none=>
   have gP:=iP.out.done hf;have CS:Hid (s.shut id={s'.left id with reqs:=dropFirst (·.id==id) (s'.left id).reqs}):=by show _=_;rw[gP];rfl
   have kJ:(s'.left id).ks=s.ks:=iP.out.st.ks;obtain⟨F1,cd,o1,n1⟩:=iP.out.goes;have VB:Hid (Calls prog 149 #[.pointer (some ⟨p,0,none⟩), .int .i64 id] wr fun e w'=>e= .returned (.tuple #[])∧Goes (aU p (s'.left id)) w F w'):=by refine(tV p id s' jY.out.inv wr F1 cd (by omega)).mono ?_;rintro e w'⟨rfl,hg⟩;exact⟨rfl,Goes.trans ⟨F1,cd,o1,n1⟩ fun F' dR=>by rw[eG dR cd];exact hg⟩
   obtain⟨j,hj⟩:=oM (s:=s'.left id) (by rw[kJ];exact AH.out);have eP:j<(s'.left id).reqs.length:=(cK.1 (St.eJ hj).choose_spec.1).1;have og:(s'.left id).reqs.length<=16777000:=PL.2.2.2.1;have HJ:=hide hj;generalize s'.left id=s2 at*;clear cd o1 n1 gP kJ iP Hf pB hj;rw[show jV none= -1 from rfl];go_wp2_with fail;refine VB.out.mono ?_;rintro e w1⟨rfl,rF⟩;obtain⟨F1,cd,o1,n1⟩:=rF;obtain⟨m,g,hr,az⟩:=bD cd;have rA:Hid (Calls prog 106 #[.pointer (some ⟨p,0,none⟩), .int .i64 id] w1 fun e dV=>e= .returned (.int .i64 j)∧Below w1.heap.size w1 dV):=by have h:=mK p id s2 m g w1 (bR hr az) (by omega);rw[HJ.out]at h;exact h
   have uL:Hid (Goes (aI p s2 m g) w F w1):=⟨F1,az,o1,n1⟩;have HR:=hide hr;clear VB cd o1 n1 hr az;go_wp2_with fail;refine rA.out.mono ?_;rintro e w2⟨rfl,bN⟩;have pn:=hide (uL.out.below bN);obtain⟨F2,eX,o2,n2⟩:=pn.out;have HO2:=hide eX;have dU:=bR HR.out eX;obtain⟨ao,cap,G,c6,HG,fT⟩:=dU.reqs;have f6:w2.frozen? ⟨p,6,none⟩=false:=dU.frozen 6;have dc:=dU.lt;obtain⟨g1,off,rfl⟩:=fT.out (by omega);have dF:s2.reqs.length<=cap:=by obtain⟨_,_,e,h,_⟩:=bC HG.out;cases e;exact h
   have fg:Hid (∀(v:Value) (w3:World),Goes (dO v (s2.reqs.eraseIdx j)) w2 (fun _=>False) w3->fZ p (s.shut id) w F (.returned (.tuple #[])) (w3.setCell ⟨p,6,none⟩ v)):=fun v w3 h=>by refine⟨rfl, ?_⟩;rw[CS.out,wN HJ.out];exact Goes.trans pn.out fun F' dR=>by rw[bF dR HO2.out];exact YI HR.out HO2.out h
   have JU:Hid (∀i u,(flat gV (s2.reqs.take j))[i]?=some u->w2.cell? ((⟨g1,off,none⟩:Addr).add i)=some u):=by have h:=il HG.out 0 j (by omega);rw[Nat.zero_mul,Nat.add_zero,List.drop_zero,uY lV _ _ (by omega)]at h;exact h
   have wJ:Hid (∀i u,(flat gV (s2.reqs.drop (j+1)))[i]?=some u->w2.cell? ((⟨g1,off+(j+1)*7,none⟩:Addr).add i)=some u):=by have h:=il HG.out (j+1) (s2.reqs.length-(j+1)) (by omega);rw[uX lV _ _ (by omega),List.take_of_length_le (by rw[dE lV,List.length_drop];exact ae _)]at h;exact h
   have qb:((j:Nat):Int)+1<=((s2.reqs.length:Nat):Int):=by omega
   have sH:((j:Nat):Int)<=((cap:Nat):Int):=by omega
   have Mk:(0:Int)<=((j:Nat):Int):=by omega
   clear eX o2 n2 dU uL rA bN pn;go_wp2_with (at_builtin;go_must(refine aC _ rfl _ _ 157 rfl 174 i0 (.agg #[.int .i64 0, .int .i64 0, .string ⟨#[]⟩, .string ⟨#[]⟩, .int .i64 0, .int .i64 0, .bool false]) 7 72 underlying157 kR gI dN fS rfl (by decide) (F:=fun _=>False) _ 0 [] rfl (dS _ _ _ (fun _ h=>h)) ⟨g1,off,none⟩ j cap (flat gV (s2.reqs.take j)) rfl (by rw[dE lV,List.length_take,Nat.min_eq_left (by omega)]) (JU.out) (zl _) (by unfold maxLen;omega) (by omega) ?main))
   case main=>
    intro dP eQ w3 qa;have hB1:=qa.toBelow;have zO:=hide qa;have R8:w3.cell? ⟨p,6,none⟩=some (.slice (some ⟨g1,off,none⟩) s2.reqs.length cap):=by rw[hB1.cell (p:=⟨p,6,none⟩) dc];exact c6
    have f6':w3.frozen? ⟨p,6,none⟩=false:=by rw[hB1.frozen (p:=⟨p,6,none⟩) dc];exact f6
    have YZ:=hide hB1;obtain⟨G1,lH,o1,n1⟩:=qa;have uL:=hide lH;have ac0:=hB1.size;have Ua: ¬G1 p:=fun h=>by rcases n1 p h with h|h;(·exact h);(·omega)
    have SG:=hide Ua;have BU:p<w3.heap.size:=by omega
    have Wz:Hid (∀(cU:Option Addr) (n2 gz:Nat) (w4:World) (news:List Value),Goes (rowA 174 7 (.slice cU n2 gz) n2 (flat gV (s2.reqs.take j)++news)) w3 G1 w4->n2+1=s2.reqs.length->news=flat gV (s2.reqs.drop (j+1))->fZ p (s.shut id) w F (.returned (.tuple #[])) (w4.setCell ⟨p,6,none⟩ (.slice cU n2 gz))):=fun cU n2 gz w4 news h hn jy=>by
     have e1:(s2.reqs.eraseIdx j).length=n2:=by rw[List.length_eraseIdx,if_pos eP];omega
     refine fg.out _ w4 (Goes.eq (zO.out.trans fun F' dR=>by rw[eO dR uL.out];exact h) ?_);unfold dO;rw[e1,jy,<-pW,pU]
    clear lH o1 n1 hB1 Ua fg;by_cases A7:cap=j+1
    ·subst A7;have hlen:s2.reqs.length=j+1:=by omega
     go_wp2_with (at_builtin;go_must(refine aC _ rfl _ _ 157 rfl 174 i0 (.agg #[.int .i64 0, .int .i64 0, .string ⟨#[]⟩, .string ⟨#[]⟩, .int .i64 0, .int .i64 0, .bool false]) 7 72 underlying157 kR gI dN fS rfl (by decide) (F:=G1) _ j (flat gV (s2.reqs.take j)) rfl uL.out ⟨g1,off,none⟩ 0 0 [] rfl rfl (fun j u h=>by simp at h) (fun u h=>by cases h) (by unfold maxLen;omega) (by omega) ?tY))
     case tY=>
      intro cU gz w4 gQ;have HX:=hide (Wz.out cU j gz w4 [] (by simpa using gQ) (by omega) (by rw[List.drop_of_length_le (by omega)];rfl));have abS:w4.cell? ⟨p,6,none⟩=some (.slice (some ⟨g1,off,none⟩) s2.reqs.length (j+1)):=by rw[gQ.only.cell (p:=⟨p,6,none⟩) BU SG.out];exact R8
      have ab5:w4.frozen? ⟨p,6,none⟩=false:=by rw[gQ.only.frozen (p:=⟨p,6,none⟩) BU SG.out];exact f6'
      clear gQ Wz;go_wp2;go_end0;exact HX.out
    ·have pX:((j:Nat):Int)+1<=((cap:Nat):Int):=by omega
     go_wp2_with (at_builtin;go_must(refine aC _ rfl _ _ 157 rfl 174 i0 (.agg #[.int .i64 0, .int .i64 0, .string ⟨#[]⟩, .string ⟨#[]⟩, .int .i64 0, .int .i64 0, .bool false]) 7 72 underlying157 kR gI dN fS rfl (by decide) (F:=G1) _ j (flat gV (s2.reqs.take j)) rfl uL.out ⟨g1,off+(j+1)*7,none⟩ (s2.reqs.length-(j+1)) (cap-(j+1)) (flat gV (s2.reqs.drop (j+1))) rfl (by rw[dE lV,List.length_drop]) (fun i u h=>by rw[YZ.out.cell (p:=(⟨g1,off+(j+1)*7,none⟩:Addr).add i) (by rw[Addr.add_lit];exact(dK HG.out).1)];exact wJ.out i u h) (zl _) (by unfold maxLen;omega) (by omega) ?tY))
     case tY=>
      intro cU gz w4 gQ;have HX:=hide (Wz.out cU _ gz w4 _ gQ (by omega) rfl);have abS:w4.cell? ⟨p,6,none⟩=some (.slice (some ⟨g1,off,none⟩) s2.reqs.length cap):=by rw[gQ.only.cell (p:=⟨p,6,none⟩) BU SG.out];exact R8
      have ab5:w4.frozen? ⟨p,6,none⟩=false:=by rw[gQ.only.frozen (p:=⟨p,6,none⟩) BU SG.out];exact f6'
      clear gQ Wz;go_wp2;go_end0;exact HX.out
variable{p k:Nat}{s:St}{m:MV}{g:List (Ln×Value)}{w:World}
theorem Jv{F:Ft}{g1 off cap j:Nat}(az:(aI p s m g).holds w F)(zJ:m.rv= .slice (some ⟨g1,off,none⟩) s.reqs.length cap)(hk:k<s.reqs.length)(hj:j<7)(u:Value)(y:Rq)(hy:gV y=(gV (s.reqs[k]'hk)).set j u):Goes (aI p {s with reqs:=s.reqs.set k y} m g) w F (w.setCell ⟨g1,off+k*7+j,none⟩ u):=by
 rw[oT]at az;refine Goes.eq (Goes.frame az (A':=dO m.rv (s.reqs.set k y)) fun G hG _=> ?_) ?_
 ·unfold dO at hG⊢;rw[zJ]at hG⊢;rw[List.length_set,Nat.add_assoc];have:=cu hG (k*7+j) u (by omega);rw[j4 lV s.reqs k j hk hj u y hy]at this;exact this
 ·rw[oT];rfl
theorem sW{id:Int}(h:s.reqs.findIdx? (·.id==id)=some k)(f:Rq->Rq)(hk:k<s.reqs.length):s.bu id f={s with reqs:=s.reqs.set k (f (s.reqs[k]'hk))}:=by obtain⟨_,hp,hn⟩:=List.findIdx?_eq_some_iff_getElem.1 h;unfold St.bu;rw[jd hk hp];rw[<-Nat.not_lt];intro ay;have:=List.findIdx_getElem (w:=Nat.lt_trans ay hk);have h2:=hn _ ay;simp only[this]at h2;simp at h2
theorem Tv(id:Int):((⟨#[101,114,114,32]⟩:ByteArray)++⟨(cJ id).toArray⟩)=⟨([101,114,114,32]++cJ id).toArray⟩:=by apply ByteArray.ext;simp
theorem FK(hm:MF w p s m g)(hn:0<s.reqs.length): ∃g1 off cap,m.rv= .slice (some ⟨g1,off,none⟩) s.reqs.length cap∧g1<w.heap.size∧(∃G,(dO (.slice (some ⟨g1,off,none⟩) s.reqs.length cap) s.reqs).holds w G)∧w.cell? ⟨p,6,none⟩=some (.slice (some ⟨g1,off,none⟩) s.reqs.length cap):=by obtain⟨G,hG⟩:=hm.rq;obtain⟨ao,cap,hv,_,bI⟩:=bO hG;obtain⟨g1,off,rfl⟩:=bI hn;have c6:w.cell? ⟨p,6,none⟩=some m.rv:=hm.cell 6;rw[hv]at hG c6;exact⟨g1,off,cap,hv,(dK hG).1,⟨G,hG⟩,c6⟩
theorem kZ(p:Nat)(id:Int)(counts:Bool)(s:St)(hv:Fine 16776000 s)(hid:id∈s.ks.map (·.1))(w:World)(F:Ft)(hm:(aU p s).holds w F):Calls prog 105 #[.pointer (some ⟨p,0,none⟩), .int .i64 id, .bool counts] w (fZ p (s.again id counts) w F):=by
 obtain⟨j,hj⟩:=oM hid;obtain⟨eP,yF,Sb,_⟩:=qh hj;have zI:=hv.bd.rq (s.reqs[j]'eP) (aY eP);have mX:0<=id∧id<=999999:=yF▸zI.id;obtain⟨m,g,hr,az⟩:=bD hm;have dU:=bR hr az;have hl:=hv.lens;have HW:Hid (∀w',Below w.heap.size w w'->Calls prog 107 #[.pointer (some ⟨p,0,none⟩), .int .i64 id] w' fun e dV=>e= .returned (.bool (s.waits id))∧Below w'.heap.size w' dV):=fun w' hb=>ry p id s hv.inv m g w' (dU.below hb) (by omega);have HC:Hid (∀w',Below w.heap.size w w'->Calls prog 108 #[.pointer (some ⟨p,0,none⟩), .int .i64 id] w' fun e dV=>e= .returned (.int .i64 (s.count id))∧Below w'.heap.size w' dV):=fun w' hb=>count_any p id s m g w' (dU.below hb) (by omega);have HQ:Hid (∀w',Below w.heap.size w w'->Calls prog 106 #[.pointer (some ⟨p,0,none⟩), .int .i64 id] w' fun e dV=>e= .returned (.int .i64 j)∧Below w'.heap.size w' dV):=fun w' hb=>by have h:=mK p id s m g w' (dU.below hb) (by omega);rw[hj]at h;exact h
 have Og:Hid (∀w',Below w.heap.size w w'->(s.waits id=true∨0<s.count id)->fZ p (s.again id counts) w F (.returned (.tuple #[])) w'):=fun w' hb h=>⟨rfl,by
  have e:s.again id counts=s:=by unfold St.again;rw[if_pos];rcases h with h|h<;>simp[h]
  rw[e];exact(Goes.refl hm).below hb⟩
 obtain⟨g1,off,cap,zJ,rF,⟨G,hG⟩,c6⟩:=FK dU (by omega);obtain⟨_,c1,_,_,_,c5,_⟩:=fH hG eP;have f5:=bV hG (off+j*7+5);have dc:=dU.lt;have pB:Hid (∀w':World,Calls prog 103 #[.int .i64 id] w' fun e dV=>e= .returned (.string ⟨(cJ id).toArray⟩)∧Below w'.heap.size w' dV):=fun w'=>kO id (by omega) (by omega) w';have Ed: ∀w',Below w.heap.size w w'->(aI p s m g).holds w' F:=fun w' hb=>(aI p s m g).keep az (fun q hq=>hb.block q ((aI p s m g).lt az q hq));have gq:Hid (∀w',Below w.heap.size w w'->Calls prog 102 #[.pointer (some ⟨p,0,none⟩), .int .i64 (s.reqs[j]'eP).conn, .string ((⟨#[101,114,114,32]⟩:ByteArray)++⟨(cJ id).toArray⟩)] w' fun e dV=>e= .returned (.tuple #[])∧Goes (aU p (s.say (s.reqs[j]'eP).conn ([101,114,114,32]++cJ id))) w F dV∧dV.cell? ⟨p,6,none⟩=some (.slice (some ⟨g1,off,none⟩) s.reqs.length cap)∧dV.cell? ⟨g1,off+j*7+1,none⟩=some (.int .i64 (s.reqs[j]'eP).conn)):=fun w' hb=>by rw[Tv];refine(lW p (s.reqs[j]'eP).conn ([101,114,114,32]++cJ id) s m g w' F (Ed w' hb) (by omega) (by have:=fh id;simp;omega)).mono ?_;rintro e dV⟨rfl,nk,hg⟩;obtain⟨F2,eX⟩:=hg.facts;have BP:=bR (s:=s.say (s.reqs[j]'eP).conn ([101,114,114,32]++cJ id)) hr eX;obtain⟨G2,pw⟩:=BP.rq;have X4:({m with ov:=nk}:MV).rv= .slice (some ⟨g1,off,none⟩) s.reqs.length cap:=zJ;rw[X4]at pw;refine⟨rfl, ?_,(BP.cell 6).trans ((dU.cell 6).symm.trans c6),(fH (l:=s.reqs) pw eP).2.1⟩;refine cI (s:=s.say (s.reqs[j]'eP).conn ([101,114,114,32]++cJ id)) (m:={m with ov:=nk}) hr (Goes.trans ((Goes.refl az).below hb) fun F' dR=> ?_);rw[bF dR (Ed w' hb)];exact hg
 have Z8:Hid (∀w',Goes (aU p (s.say (s.reqs[j]'eP).conn ([101,114,114,32]++cJ id))) w F w'->s.waits id=false->s.count id=0->counts=true->(s.reqs[j]'eP).left=0->Calls prog 112 #[.pointer (some ⟨p,0,none⟩), .int .i64 id] w' (fZ p (s.again id counts) w F)):=fun w' hg h1 h2 h3 h4=>by
  obtain⟨F',dR,o',n'⟩:=hg;refine(jh p id (s.say (s.reqs[j]'eP).conn ([101,114,114,32]++cJ id)) ⟨St.bM hv.inv _ _,hv.bd.say _ _,by rw[St.eZ];have:=hv.sz;omega⟩ hid w' F' dR).mono ?_;rintro e dV⟨rfl,ld⟩;refine⟨rfl, ?_⟩;have e:s.again id counts=(s.say (s.reqs[j]'eP).conn ([101,114,114,32]++cJ id)).shut id:=by unfold St.again;rw[if_neg (by simp[h1,h2]),Sb];dsimp only;rw[if_pos (by simp[h3,h4])]
  rw[e];exact Goes.trans ⟨F',dR,o',n'⟩ fun F2 eX=>by rw[eG eX dR];exact ld
 have Oi:Hid (∀w',Below w.heap.size w w'->s.waits id=false->s.count id=0->counts=false->Calls prog 109 #[.pointer (some ⟨p,0,none⟩), .int .i64 id, .bool true] w' (fZ p (s.again id counts) w F)):=fun w' hb h1 h2 h3=>by
  refine(nX p id true s hv.inv hid w' F ((aU p s).keep hm (fun q hq=>hb.block q ((aU p s).lt hm q hq))) (by omega)).mono ?_;rintro e dV⟨rfl,ld⟩;refine⟨rfl, ?_⟩;have e:s.again id counts=s.a6 id true:=by unfold St.again;rw[if_neg (by simp[h1,h2]),Sb];simp[h3]
  rw[e];exact Goes.trans ((Goes.refl hm).below hb) fun F2 eX=>by rw[eG eX ((aU p s).keep hm (fun q hq=>hb.block q ((aU p s).lt hm q hq)))];exact ld
 have WU:Hid (∀w',Below w.heap.size w w'->s.waits id=false->s.count id=0->counts=true->(s.reqs[j]'eP).left≠0->Calls prog 109 #[.pointer (some ⟨p,0,none⟩), .int .i64 id, .bool true] (w'.setCell ⟨g1,off+j*7+5,none⟩ (.int .i64 ((s.reqs[j]'eP).left-1))) (fZ p (s.again id counts) w F)):=fun w' hb h1 h2 h3 h4=>by
  have Aj:=sW hj (fun r=>{r with left:=r.left-1}) eP;have bK:=Jv (Ed w' hb) zJ eP (j:=5) (by omega) (.int .i64 ((s.reqs[j]'eP).left-1)) {s.reqs[j]'eP with left:=(s.reqs[j]'eP).left-1} rfl;have qa:Goes (aU p (s.bu id (fun r=>{r with left:=r.left-1}))) w' F (w'.setCell ⟨g1,off+j*7+5,none⟩ (.int .i64 ((s.reqs[j]'eP).left-1))):=by rw[Aj];exact cI (s:={s with reqs:=s.reqs.set j {s.reqs[j]'eP with left:=(s.reqs[j]'eP).left-1}}) hr bK
  have gQ:Goes (aU p (s.bu id (fun r=>{r with left:=r.left-1}))) w F (w'.setCell ⟨g1,off+j*7+5,none⟩ (.int .i64 ((s.reqs[j]'eP).left-1))):=
   Goes.trans ((Goes.refl az).below hb) fun F2 eX=>by rw[bF eX (Ed w' hb)];exact qa
  obtain⟨F',dR,o',n'⟩:=gQ;have kJ:=St.nS (s:=s) id (fun r=>{r with left:=r.left-1}) (fun _=>⟨rfl,rfl⟩);refine(nX p id true _ (St.iq hv.inv id (fun r=>{r with left:=r.left-1}) (fun _=>⟨rfl,rfl⟩)) (by rw[kJ];exact hid) _ F' dR (by unfold St.bu;dsimp only;rw[dh];omega)).mono ?_;rintro e dV⟨rfl,ld⟩;refine⟨rfl, ?_⟩;have e:s.again id counts=(s.bu id (fun r=>{r with left:=r.left-1})).a6 id true:=by unfold St.again;rw[if_neg (by simp[h1,h2]),Sb];simp[h3,h4]
  rw[e];exact Goes.trans ⟨F',dR,o',n'⟩ fun F2 eX=>by rw[eG eX dR];exact ld
 have aaX:=zI.left;have kK:IntKind.i64.wrap ((s.reqs[j]'eP).left-1)=(s.reqs[j]'eP).left-1:=by rw[IntKind.wrap_i64];omega
 have HS:Hid (∀w',Below w.heap.size w w'->w'.cell? ⟨p,6,none⟩=some (.slice (some ⟨g1,off,none⟩) s.reqs.length cap)∧w'.cell? ⟨g1,off+j*7+1,none⟩=some (.int .i64 (s.reqs[j]'eP).conn)∧w'.cell? ⟨g1,off+j*7+5,none⟩=some (.int .i64 (s.reqs[j]'eP).left)∧w'.frozen? ⟨g1,off+j*7+5,none⟩=false):=fun w' hb=>⟨by rw[hb.cell (p:=⟨p,6,none⟩) dc];exact c6,by rw[hb.cell (p:=⟨g1,off+j*7+1,none⟩) rF];exact c1,by rw[hb.cell (p:=⟨g1,off+j*7+5,none⟩) rF];exact c5,by rw[hb.frozen (p:=⟨g1,off+j*7+5,none⟩) rF];exact f5⟩
 have ng:(cJ id).length<=20:=fh id;have Ae: ¬9223372036854775807<4+(cJ id).length:=by omega
 have Sc:(0:Int)<=((j:Nat):Int):=by omega
 have BO:((j:Nat):Int)<((s.reqs.length:Nat):Int):=by omega
 clear hm az dU hv hid hj yF Sb zI mX hG Ed hr zJ c1 c5 c6 f5;generalize(s.reqs[j]'eP).conn=rc at*;generalize(s.reqs[j]'eP).left=rl at*;generalize cJ id=fi at*;go_enter func105,ntmps105;go_wp2_with fail;refine(HW.out _ (ah _ _)).mono ?_;rintro e w1⟨rfl,hb1⟩;cases om:s.waits id
 ·go_wp2_with fail;refine(HC.out _ hb1).mono ?_;rintro e w2⟨rfl,bN⟩;have hB2:=bj hb1 bN;by_cases NV:s.count id=0
  ·rw[NV];go_wp2_with fail;refine(HQ.out _ hB2).mono ?_;rintro e w3⟨rfl,mh⟩;have iH:=bj hB2 mh;obtain⟨e6,e1,e5,ef⟩:=HS.out _ iH;have RV:=hide iH;have Zz:=hide NV;have SM:=hide om;clear hb1 bN mh hB2 iH HW HC HQ Og NV om;cases counts
   ·go_wp2_with fail;refine(Oi.out _ RV.out SM.out Zz.out (by first|rfl|trivial)).mono ?_;rintro e w4⟨rfl,hg⟩;go_wp2;go_end0;exact⟨rfl,hg⟩
   ·cases og:(rl==0)
    ·have R6:=hide og;have aa6:rl≠0:=by simpa using og
     have abI:=hide aa6;clear aa6;go_wp2_with fail;refine(WU.out _ RV.out SM.out Zz.out (by first|rfl|trivial) abI.out).mono ?_;rintro e w4⟨rfl,hg⟩;go_wp2;go_end0;exact⟨rfl,hg⟩
    ·have R6:Hid (rl=0):=hide (by simpa using og);go_wp2_with fail;go_region_held3 (fun w'=>w'.cell? ⟨p,6,none⟩=some (.slice (some ⟨g1,off,none⟩) s.reqs.length cap)∧w'.cell? ⟨g1,off+j*7+1,none⟩=some (.int .i64 rc)) (go_keep)
      (first
       |(go_at_call 103;refine(pB.out _).mono ?_;rintro e w4⟨rfl,l9⟩;have pI:=bj (wr:=w) (by first|exact RV.out.drew|assumption) l9;obtain⟨s1,s2,s3,s4⟩:=HS.out _ pI)
       |(go_at_call 102;refine(gq.out _ (by first|exact RV.out.drew|assumption)).mono ?_;rintro e w6⟨rfl,iJ,s7,s8⟩))
     all_goals have sf:=hide iJ;go_wp2_with fail;refine(Z8.out _ sf.out SM.out Zz.out (by first|rfl|trivial) R6.out).mono ?_;rintro e w7⟨rfl,hg⟩;go_wp2;go_end0;exact⟨rfl,hg⟩
  ·have HX:=hide (Og.out _ hB2 (Or.inr (by omega)));have j7:(0:Int)<((s.count id:Nat):Int):=by omega
   clear NV;go_wp2;go_end0;exact HX.out
 ·have HX:=hide (Og.out _ hb1 (Or.inl om));go_wp2;go_end0;exact HX.out
end Mr
namespace Mr
open Go.RowKit aM Mc
variable{p:Nat}{s:St}{m:MV}{g:List (Ln×Value)}{w w2:World}{F:Ft}{v:Value}
theorem Vt{gw off cap:Nat}{c:Int}{ws:List Int}(az:(aI p s m g).holds w F)(hw:s.wait=c::ws)(N4:m.wv= .slice (some ⟨gw,off,none⟩) (ws.length+1) cap)(hv:v= .slice (some ⟨gw,off+1,none⟩) ws.length (cap-1)∨(cap=1∧v= .slice (some ⟨gw,off,none⟩) 0 0)):Goes (aI p {s with wait:=ws} {m with wv:=v} g) w F (w.setCell ⟨p,9,none⟩ v):=by
 rw[oU]at az;have h1:Goes (aa (inA v ws) (aa (iM p s m) (aa (dO m.rv s.reqs) (aa (mz m.av s.af) (aa (rX m.gv g) (aa (lz m.cv s.aq) (iB m.ov s.out))))))) w F w:=by
  refine Goes.frame az fun G hG _=>Goes.refl ?_;unfold inA at hG⊢;rw[hw,N4]at hG;rcases hv with hv|⟨h1,hv⟩
  ·have:=ll hG 1 (by simp);rw[hv];simpa[flat,mY]using this
  ·have dF:ws.length+1<=cap:=by obtain⟨_,_,e,h,_⟩:=bC hG;cases e;exact h
   have e:ws= []:=List.eq_nil_of_length_eq_zero (by omega);subst e;rw[hv];rcases hG.2 with⟨h0,_⟩|⟨g',rH,cM,cur,hv',hF,hg,hn,hm,hs,ht⟩
   ·cases h0
   ·cases hv';exact⟨rfl, .inr ⟨gw,off,0,cur,rfl,hF,hg,ae _,aJ _,by omega,by simp[flat]⟩⟩
 have h2:=(h1.eq (bq _ _ _)).store 9 v;refine h2.eq ?_;rw[oU,bq];rfl
def gG(l:Ln)(v:Value):List (Ln×Value):=(St.rest l).map fun x=>(x,v)
theorem MZ(l:Ln)(v:Value):(gG l v).map (·.1)=St.rest l:=by unfold gG;rw[aG];exact List.map_id _
theorem LS{k:Nat}(hk:k<g.length)(hr:g.map (·.1)=s.ring)(az:(aI p s m g).holds w F){vr:Value}(KH: ∀G,(inA (g[k]'hk).2 (g[k]'hk).1.ids).holds w G->(∃i r,(g[k]'hk).1.ids=i::r∧r≠ [])-> ∃i r,(g[k]'hk).1.ids=i::r∧(inA v r).holds w G)(bK:Goes (rowA 176 2 vr (g.eraseIdx k++gG (g[k]'hk).1 v).length (flat eN (g.eraseIdx k++gG (g[k]'hk).1 v))) w (fun _=>False) w2):Goes (aI p {s with ring:=s.ring.eraseIdx k++St.rest (g[k]'hk).1} {m with gv:=vr} (g.eraseIdx k++gG (g[k]'hk).1 v)) w F (w2.setCell ⟨p,8,none⟩ vr)∧(g.eraseIdx k++gG (g[k]'hk).1 v).map (·.1)=s.ring.eraseIdx k++St.rest (g[k]'hk).1:=by
 have jI:(g.eraseIdx k++gG (g[k]'hk).1 v).map (·.1)=s.ring.eraseIdx k++St.rest (g[k]'hk).1:=by rw[aH,MZ,St.gN,hr]
 refine⟨?_,jI⟩;rw[qW p s m g k hk]at az;have h0:Goes (aa (all (fun x=>inA x.2 x.1.ids) (gG (g[k]'hk).1 v)) (aa (rowA 176 2 m.gv g.length (flat eN g)) (aa (all (fun x=>inA x.2 x.1.ids) (g.eraseIdx k)) (aa (iM p s m) (aa (dO m.rv s.reqs) (aa (mz m.av s.af) (aa (inA m.wv s.wait) (aa (lz m.cv s.aq) (iB m.ov s.out))))))))) w F w:=by
  refine Goes.frame az fun G hG _=> ?_;unfold gG St.rest;split
  ·rename_i a b t wR;obtain⟨i,r,e,h⟩:=KH G hG ⟨a,b::t,wR,by simp⟩;rw[wR]at e;cases e;simp only[List.map_cons,List.map_nil];rw[oy];exact Goes.refl h
  ·simp only[List.map_nil];exact⟨fun _=>False,fun _ h=>h,Only.refl _ _,fun _ h=>h.elim⟩
 have h1:=h0.fresh bK;have h2:=(h1.eq (show _=aa (iM p s m) (aa (rowA 176 2 m.gv g.length (flat eN g)) (aa (rowA 176 2 vr (g.eraseIdx k++gG (g[k]'hk).1 v).length (flat eN (g.eraseIdx k++gG (g[k]'hk).1 v))) (aa (all (fun x=>inA x.2 x.1.ids) (gG (g[k]'hk).1 v)) (aa (all (fun x=>inA x.2 x.1.ids) (g.eraseIdx k)) (aa (dO m.rv s.reqs) (aa (mz m.av s.af) (aa (inA m.wv s.wait) (aa (lz m.cv s.aq) (iB m.ov s.out)))))))))by ac_rfl)).store 8 vr;refine Goes.drop (B:=rowA 176 2 m.gv g.length (flat eN g)) (h2.eq ?_);rw[kW];unfold rX;rw[all_append];show aa (blk p (.cells (y9 {s with ring:=s.ring.eraseIdx k++St.rest (g[k]'hk).1} {m with gv:=vr}) 162 (0,0))) _=aa (aa (aa (rowA 176 2 vr (g.eraseIdx k++gG (g[k]'hk).1 v).length (flat eN (g.eraseIdx k++gG (g[k]'hk).1 v))) _) (aa (blk p (.cells (y9 {s with ring:=s.ring.eraseIdx k++St.rest (g[k]'hk).1} {m with gv:=vr}) 162 (0,0))) (aa (dO m.rv s.reqs) (aa (mz m.av s.af) (aa (inA m.wv s.wait) (aa (lz m.cv s.aq) (iB m.ov s.out))))))) _
 ac_rfl
theorem SV{w1:World}{G:Ft}{a:At}(az:(aI p s m g).holds w F)(hb:Below w.heap.size w w1)(hG:(mz m.av s.af).holds w1 G)(bK:Goes (mz v (s.af++ [a])) w1 G w2):Goes (aI p {s with af:=s.af++ [a]} {m with av:=v} g) w F (w2.setCell ⟨p,7,none⟩ v):=by have h0:Goes (aI p s m g) w F w1:=(Goes.refl az).below hb;rw[oQ]at h0;have h1:=h0.part (cZ _ _ _ _ _) hG bK;have h2:=(h1.eq (bq _ _ _)).store 7 v;refine h2.eq ?_;rw[oQ,bq];rfl
theorem U6(r:Rq)(n:Int):((⟨#[114,117,110,32]⟩:ByteArray)++⟨(cJ r.id).toArray⟩++⟨#[32]⟩++⟨(cJ n).toArray⟩++⟨#[32]⟩++⟨r.ten.toArray⟩++⟨#[32]⟩++⟨r.txt.toArray⟩)=⟨(St.runText r n).toArray⟩:=by unfold St.runText;apply ByteArray.ext;simp
def Gy(p:Nat)(w:World):Nat:=match w.cell? ⟨p,9,none⟩with|some (.slice _ n _)=>n|_=>0
theorem Gz(hm:MF w p s m g):Gy p w=s.wait.length:=by obtain⟨ao,cap,G,c7,_,_⟩:=hm.RR;unfold Gy;rw[c7]
