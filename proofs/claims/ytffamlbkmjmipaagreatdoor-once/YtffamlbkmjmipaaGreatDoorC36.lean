import Derived.Test.YtffamlbkmjmipaaGreatDoorC25
import Derived.Test.YtffamlbkmjmipaaGreatDoorC33
set_option maxHeartbeats 8000000
set_option maxRecDepth 100000
namespace Go.Proofs.YtffamlbkmjmipaaGreatDoor
open _root_.Go.Proofs.Tryz
namespace Pj
open Go.RowKit aJ Mc bG Rel
attribute [local go_sem] ae ag
variable{base x tb:Nat}{g:Gh}{cn:List (Int×Nat×Bs)}{s:St}{w:World}{F:Ft}
structure lF(base x tb:Nat)(g:Gh)(cn:List (Int×Nat×Bs))(s:St)(L:List At)(v':Value)(w:World)(F:Ft)(k:Nat)(wr:World):Prop where
 goes:Goes (aa (stA base x tb g cn (kX s ((L.take k).map key))) (rowA 127 1 v' L.length (L.map fun a=>pt (g.ap (key a))))) w F wr
theorem lF.round{L:List At}{v':Value}{k:Nat}{wr:World}(T:Tabs base w)(hF: ∀k,F k->base<=k)(hi:Inv s)(ho:Ok s)(hz:s.sz<=16777000)(h:lF base x tb g cn s L v' w F k wr)(hk:k<L.length)(hL: ∀a∈L,a∈s.ah): ∃(b off cap:Nat),v'= .slice (some ⟨b,off,none⟩) L.length cap∧wr.cell? ⟨b,off+k,none⟩=some (pt (g.ap (key L[k])))∧wr.cell? ⟨x,5,none⟩=some (.int .i64 s.now)∧wr.cell? ⟨x,0,none⟩=some (.int .i64 s.c.le)∧wr.frozen? ⟨g.ap (key L[k]),5,none⟩=false∧(∃t,wr.cell? ⟨g.ap (key L[k]),5,none⟩=some (.int .i64 t))∧ ∃kk:Nat,(wr.setCell ⟨g.ap (key L[k]),5,none⟩ (.int .i64 (s.now+s.c.le))).cell? ⟨g.ap (key L[k]),6,none⟩=some (.int .i64 kk)∧ ∀nq,Calls prog 185 #[vy x, .int .i64 kk] ((wr.setCell ⟨g.ap (key L[k]),5,none⟩ (.int .i64 (s.now+s.c.le))).drewN nq) fun e w'=>e= .returned (.tuple #[])∧lF base x tb g cn s L v' w F (k+1) w':=by
 obtain⟨F1,bU,o1,n1⟩:=h.goes;obtain⟨G,H,ha,hb,d,e⟩:=id bU;obtain⟨i1,ok1,sz1⟩:=TH hi ho ((L.take k).map key);have Nu: ∀k,G k->base<=k:=cB ha;have T1:Tabs base wr:=T.goes hF ⟨F1,bU,o1,n1⟩;have hLk:=hL L[k] (bS hk);have ha':(if key L[k]∈(L.take k).map key then({L[k]with fx:=s.now+s.c.le}:At)else L[k])∈(kX s ((L.take k).map key)).ah:=by rw[Jj];exact az.2 ⟨L[k],hLk,rfl⟩
 generalize ea:(if key L[k]∈(L.take k).map key then({L[k]with fx:=s.now+s.c.le}:At)else L[k])=a' at ha';have BU:key a'=key L[k]:=by rw[<-ea];split<;>rfl
 obtain⟨c5,c0,fz,ct,kk,c6,NI⟩:=QA T1 ha i1 ok1 (by omega) ha' (s.now+s.c.le);rw[BU]at fz ct c6 NI;obtain⟨ao,cap,rfl,cX,bQ⟩:=Mr.cE hb;obtain⟨b,off,rfl⟩:=bQ (by omega);refine⟨b,off,cap,rfl, ?_,c5,c0,fz,⟨_,ct⟩,kk,c6,fun nq=>(NI nq).mono ?_⟩
 ·rw[bf hb k (by omega),List.getElem?_map,aY hk];rfl
 ·rintro e' w'⟨rfl,hg⟩;refine⟨rfl,⟨?_⟩⟩;have g2:=aC o1 n1 (aO hb hg d e);have e3:kX s ((L.take (k+1)).map key)={kX s ((L.take k).map key)with ah:=(kX s ((L.take k).map key)).ah.map (renew (key L[k]) (s.now+s.c.le))}:=by
   rw[iG hk,aD];exact K8 s _ _
  rw[e3];exact g2
theorem MG{n:Nat}(T:Tabs base w)(h:(stA base x tb g cn s).holds w F)(hs:Sd n s)(hn:n<=16776000)(c:Int):Calls prog 140 #[pt x, .int .i64 c] w fun e w'=>e= .returned (.tuple #[])∧Goes (stA base x tb g cn (zL s c)) w F w':=by
 have hz:=hs.sz;obtain⟨hp,ao,cap,dy,hlen,uA,c11,Gd⟩:=P8 h hs.inv (by omega) c;have C7:=hs.bd.now;have hle:=hs.bd.c.le;have Db:IntKind.i64.wrap (s.now+s.c.le)=s.now+s.c.le:=by rw[IntKind.wrap_i64];omega
 have hLs: ∀a∈hp.filter fun a=>a.conn==c,a∈s.ah:=fun a ha=>dy.subset (aL.1 ha).1;have hLl:(hp.filter fun a=>a.conn==c).length<=hp.length:=List.length_filter_le ..;have kJ:Hid (∀v' wr,lF base x tb g cn s (hp.filter fun a=>a.conn==c) v' w F (hp.filter fun a=>a.conn==c).length wr->Goes (stA base x tb g cn (zL s c)) w F wr):=fun v' wr hb=>by have:=hb.goes.drop;rw[List.take_length,K7 hs.ok dy c]at this;exact this
 generalize(hp.filter fun a=>a.conn==c)=L at*;have HC:Hid (∀w1,Below w.heap.size w w1->w1.cell? ⟨x,11,none⟩=some (.slice ao hp.length cap)):=fun w1 hB=>by rw[bN hB uA];exact c11
 have EM:Hid (∀w1,Below w.heap.size w w1->Calls prog 78 #[.slice ao hp.length cap, .func (.func 124) #[] #[.pointer (some ⟨w1.heap.size,0,none⟩)]] (w1.alloc (.cells #[.int .i64 c] 3)) fun e w'=> ∃fX bP,e= .returned (.slice fX L.length bP)∧Below w.heap.size w w'∧Hid (lF base x tb g cn s L (.slice fX L.length bP) w F 0 w')):=fun w1 hB=>by refine(Gd w1 hB).mono ?_;rintro e w'⟨v',rfl,hb,hg⟩;have fw:=hg;obtain⟨F1,bU,_⟩:=hg;obtain⟨G,H,_,cZ,_⟩:=bU;obtain⟨fX,bP,rfl⟩:=aR (Goes.refl cZ);exact⟨fX,bP,rfl,hb,⟨fw⟩⟩
 have L5:Hid (∀k (hk:k<L.length) v' wr,lF base x tb g cn s L v' w F k wr->_):=fun k hk v' wr hb=>hb.round T (cB h) hs.inv hs.ok (by omega) hk hLs;clear Gd h;unfold pt vy at*;generalize hp.length=nl at*;go_enter func140,ntmps140;go_wp2_with fail;go_region_held3 (fun w'=>w'.cell? ⟨x,11,none⟩=some (.slice ao nl cap)) (go_keep)
  (first
   |(go_at_call 79;go_must(refine(jn c _).mono ?_;rintro e w6⟨rfl,rfl⟩;have q2:=HC.out _ ((au w.heap.size w).drew.alloc (af _) (.cells #[.int .i64 c] 3))))
   |(go_at_call 78;go_must(refine(EM.out _ (au _ _).drew).mono ?_;rintro e w7⟨fX,bP,rfl,J7,L1⟩;have q3:=HC.out _ J7)))
 all_goals
  clear EM HC q2 q3 J7 c11;go_wp2;go_loopw [14] (fun i wr=> ∃k:Nat,k<=L.length∧i= .int .i64 k∧Hid (lF base x tb g cn s L (.slice fX L.length bP) w F k wr)) (fun i _=>L.length-(intOf i).toNat)
  case atStart=>exact⟨0,bh _,rfl,L1⟩
  case round=>
   obtain⟨k,hk,rfl,oa⟩:=hrel;by_cases aN:k<L.length
   ·obtain⟨b,off,cQ,ev,c0,c5,cl,fz,⟨t,ct⟩,kk,c6,NI⟩:=L5.out k aN _ _ oa.out;cases ev;have X3:=hide NI;clear L5 oa L1 kJ NI;generalize g.ap (key L[k])=ap at*;generalize s.now=now at*;generalize s.c.le=le at*;go_wp2_with fail;go_region_with (fail)
    all_goals
     go_wp2_with fail;go_region_with (first
      |(go_at_call 185;go_must(refine(X3.out 2).mono ?_;rintro e w5⟨rfl,hb⟩;have HBN:=hide hb;clear hb)))
     all_goals
      clear X3;go_wp2;go_roundw
      case rel=>exact⟨k+1,by omega,by go_num,HBN⟩
      case measure=>simp[intOf];omega
   ·obtain rfl:k=L.length:=by omega
    have HE:=hide (kJ.out _ _ oa.out);clear L5 oa L1 kJ;go_wp2;go_end0;exact⟨rfl,HE.out⟩
end Pj
namespace bG
open Go.RowKit
attribute [local go_sem] aG.ae aG.ag
theorem Ls{base:Nat}{cg:World}(L:iP base cg)(q:Nat)(k:List UInt8)(r:List (List UInt8))(ao:Option Addr)(a cap:Nat)(w:World)(hb:Below base cg w)(hB:base<=w.heap.size)(Aa:base<=q)(gL:w.heap[q]?=some (.cells (cs0 k) 149 (0,0)))(bQ:0<r.length->ao=some ⟨a,1,none⟩∧a<w.heap.size∧a≠q)(kS: ∀x∈r,x.length<=4194304)(iA:r.length<=4194304)(mC: ∀i (h:i<r.length),w.cell? ⟨a,1+i,none⟩=some (.string ⟨(r[i]'h).toArray⟩))(h0:(k== [112,117,108,108])=false)(h1:(k== [98,101,97,116])=false)(h2:(k== [100,114,97,105,110])=false)(h3:(k== [99,97,110])=false)(h4:(k== [102,97,105,108])=false)(h5:(k== [115,117,98])=false)(hv:(k== [100,111,110,101])=true):Calls prog 134 #[.pointer (some ⟨q,0,none⟩), .slice ao r.length cap] w (qX q k r w):=by
 have s5:q<w.heap.size:=(cC.1 gL).1;have sW:Hid (∀k w1,_):=fun k w1=>kz q k w1;have HK:Hid (∀W,Below w.heap.size w W->W.cell? ⟨q,0,none⟩=some (.string ⟨k.toArray⟩)):=fun W h=>by rw[h.cell (p:=⟨q,0,none⟩) s5];simp only[World.cell?,gL];rfl
 have hk:k= [100,111,110,101]:=by simpa using hv
 have HF:Hid (∀W N1 N2 B1 B2,Below w.heap.size w W->w.heap.size<=N1∧N1<W.heap.size->w.heap.size<=N2∧N2<W.heap.size->w.heap.size<=B1∧B1<W.heap.size->w.heap.size<=B2∧B2<W.heap.size->W.cell? ⟨N1,0,none⟩=some (.pointer (some ⟨q,1,none⟩))->W.cell? ⟨N2,0,none⟩=some (.pointer (some ⟨q,2,none⟩))->W.cell? ⟨B1,0,none⟩=some (.pointer (some ⟨q,4,none⟩))->W.cell? ⟨B2,0,none⟩=some (.func (.func 179) #[] #[])-> ∀nq,Calls prog 176 #[.slice ao r.length cap, .slice (some ⟨W.heap.size,0,none⟩) 3 3] ((W.drewN nq).alloc (.cells #[.func (.func 216) #[] #[.pointer (some ⟨N1,0,none⟩)], .func (.func 216) #[] #[.pointer (some ⟨N2,0,none⟩)], .func (.func 219) #[] #[.pointer (some ⟨B1,0,none⟩), .pointer (some ⟨B2,0,none⟩)]] 234)) fun e w'=>e= .returned (.bool (a6 (k::r)).2)∧Hid (Only (fun b=>b=q) w w'∧((a6 (k::r)).2=true->w'.heap[q]?=some (.cells (a6 (k::r)).1.cs 149 (0,0))))):=fun W0 N1 N2 B1 B2 h0 pG Bn Wx Wy sX zm YJ YK nq=>by
  obtain⟨W,eW⟩: ∃W,W0.drewN nq=W:=⟨_,rfl⟩;have es:W.heap.size=W0.heap.size:=by rw[<-eW];rfl
  have ec: ∀p,W.cell? p=W0.cell? p:=fun p=>by rw[<-eW];rfl
  have h:Below w.heap.size w W:=by rw[<-eW];exact⟨h0.os,h0.tape,h0.output,h0.size,h0.block⟩
  rw[eW,<-es];rw[<-es]at pG Bn Wx Wy;rw[<-ec]at sX zm YJ YK;have HW:=H7 N1 N2 B1 B2 r;have rH:Below W.heap.size W (W.alloc (.cells #[.func (.func 216) #[] #[.pointer (some ⟨N1,0,none⟩)], .func (.func 216) #[] #[.pointer (some ⟨N2,0,none⟩)], .func (.func 219) #[] #[.pointer (some ⟨B1,0,none⟩), .pointer (some ⟨B2,0,none⟩)]] 234)):=(au _ _).alloc (af _) _;have Nt:base<=W.heap.size:=ar hB h.size;have LQ:Below base cg (W.alloc (.cells #[.func (.func 216) #[] #[.pointer (some ⟨N1,0,none⟩)], .func (.func 216) #[] #[.pointer (some ⟨N2,0,none⟩)], .func (.func 219) #[] #[.pointer (some ⟨B1,0,none⟩), .pointer (some ⟨B2,0,none⟩)]] 234)):=(hb.trans (h.mono hB)).alloc Nt _;have LO:base<=(W.alloc (.cells #[.func (.func 216) #[] #[.pointer (some ⟨N1,0,none⟩)], .func (.func 216) #[] #[.pointer (some ⟨N2,0,none⟩)], .func (.func 219) #[] #[.pointer (some ⟨B1,0,none⟩), .pointer (some ⟨B2,0,none⟩)]] 234)).heap.size:=ar Nt rH.size;have aN: ∀n,n<W.heap.size->n<(W.alloc (.cells #[.func (.func 216) #[] #[.pointer (some ⟨N1,0,none⟩)], .func (.func 216) #[] #[.pointer (some ⟨N2,0,none⟩)], .func (.func 219) #[] #[.pointer (some ⟨B1,0,none⟩), .pointer (some ⟨B2,0,none⟩)]] 234)).heap.size:=fun n hn=>bD hn rH.size;refine(A5 W r [cG N1 1,cG N2 2,eV B1 B2 4 mh] ao a cap (cs0 k) ((h.block q s5).trans gL) rfl (fun f hf=> ?_) (fun h0=> ?_) kS iA (by simp) (fun i hi=> ?_)).mono ?_
  ·simp only[List.mem_cons,List.not_mem_nil,or_false]at hf;rcases hf with rfl|rfl|rfl
   ·exact jb L LQ LO Aa (by omega) (aN _ pG.2) (by omega) ((rH.cell (p:=⟨N1,0,none⟩) pG.2).trans sX)
   ·exact jb L LQ LO Aa (by omega) (aN _ Bn.2) (by omega) ((rH.cell (p:=⟨N2,0,none⟩) Bn.2).trans zm)
   ·exact qV (rM L) LQ LO Aa (by omega) (aN _ Wx.2) (by omega) (aN _ Wy.2) (by omega) ((rH.cell (p:=⟨B1,0,none⟩) Wx.2).trans YJ) ((rH.cell (p:=⟨B2,0,none⟩) Wy.2).trans YK)
  ·obtain⟨h1,h2,h3⟩:=bQ h0;exact⟨h1,bD h2 h.size,h3⟩
  ·rw[h.cell (p:=⟨a,1+i,none⟩) (bQ (by omega)).2.1];exact mC i hi
  ·rintro e w'⟨rfl,ho,hp⟩;rw[hk]at hp⊢;exact⟨by rw[HW.1],(fS h).trans ho (fun _ _ h=>h),fun h=>by rw[HW.1]at h;rw[<-HW.2 h];exact hp h⟩
 clear gL bQ kS mC L hk hb;generalize nJ:r.length=rl at*;clear nJ;have Ma:Hid (∀k g w1,_):=fun k g w1=>U0 q k g w1;have M1:True:=trivial;go_enter func134,ntmps134;go_wp2_with fail;go_region_held3 (fun _=>True) (trivial)
  (first
   |(go_at_call 175;first
     |(clear M1;go_must(refine(sW.out _ _).mono ?_;rintro e w1⟨N1,rfl,EE,Ag,bT,sX⟩))
     |(go_must(refine(sW.out _ _).mono ?_;rintro e w2⟨N2,rfl,EF,EG,cZ,zm⟩))))
 all_goals
  have fN:=cL bT;have j9:Below w1.heap.size w1 w2:=by first|exact cZ|exact cL cZ
  have HB:Below w.heap.size w w2:=fN.trans (j9.mono fN.size);have c0:=HK.out w2 HB;have pG:w.heap.size<=N1∧N1<w2.heap.size:=⟨EE,bD Ag j9.size⟩;have vT:w2.cell? ⟨N1,0,none⟩=some (.pointer (some ⟨q,1,none⟩)):=by rw[j9.cell (p:=⟨N1,0,none⟩) Ag];exact sX
  have Bn:w.heap.size<=N2∧N2<w2.heap.size:=⟨ar fN.size EF,EG⟩;have Eu:Hid (∀w3 B1 B2,Below w2.heap.size w2 w3->w2.heap.size<=B1∧B1<w3.heap.size->w2.heap.size<=B2∧B2<w3.heap.size->w3.cell? ⟨B1,0,none⟩=some (.pointer (some ⟨q,4,none⟩))->w3.cell? ⟨B2,0,none⟩=some (.func (.func 179) #[] #[])->Hid (Calls _ _ _ _ _)):=fun w3 B1 B2 h3 l1 l2 c1 c2=>HF.out w3 N1 N2 B1 B2 (HB.trans (h3.mono HB.size)) ⟨pG.1,bD pG.2 h3.size⟩ ⟨Bn.1,bD Bn.2 h3.size⟩ ⟨ar HB.size l1.1,l1.2⟩ ⟨ar HB.size l2.1,l2.2⟩ (by rw[h3.cell (p:=⟨N1,0,none⟩) pG.2];exact vT) (by rw[h3.cell (p:=⟨N2,0,none⟩) Bn.2];exact zm) c1 c2 0
  clear HF sW HK bT cZ fN j9 sX vT zm HB EE Ag EF EG pG Bn;go_wp2_with (first
   |(go_at_call 177;go_must(refine(Ma.out _ _ _).mono ?_;rintro e w3⟨B1,B2,rfl,b1,b2,b3,b4,uX,d1,d2⟩;have HF3:=Eu.out w3 B1 B2 uX ⟨b1,b2⟩ ⟨b3,b4⟩ d1 d2;clear Eu Ma uX b1 b2 b3 b4 d1 d2))
   |(go_at_call 176;go_must(refine HF3.out.mono ?_;rintro e w4⟨rfl,HP⟩)))
  go_ret;exact⟨rfl,HP.out⟩
