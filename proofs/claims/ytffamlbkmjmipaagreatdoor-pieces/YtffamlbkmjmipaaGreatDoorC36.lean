import Derived.Test.YtffamlbkmjmipaaGreatDoorC25
import Derived.Test.YtffamlbkmjmipaaGreatDoorC33
set_option maxHeartbeats 8000000
set_option maxRecDepth 100000
namespace Go.Proofs.YtffamlbkmjmipaaGreatDoor
open _root_.Go.Proofs.Tryz
namespace Pj
open Go.RowKit aD Mc bA Rel
attribute [local go_sem] ae ah
variable{base x tb:Nat}{g:Gh}{cn:List (Int×Nat×Bs)}{s:St}{w:World}{F:Ft}
structure ki(base x tb:Nat)(g:Gh)(cn:List (Int×Nat×Bs))(s:St)(L:List At)(v':Value)(w:World)(F:Ft)(k:Nat)(wr:World):Prop where
 goes:Goes (aa (stA base x tb g cn (j8 s ((L.take k).map key))) (rowA 127 1 v' L.length (L.map fun a=>pt (g.ap (key a))))) w F wr
theorem ki.round{L:List At}{v':Value}{k:Nat}{wr:World}(T:Tabs base w)(hF: ∀k,F k->base<=k)(hi:Inv s)(ho:Ok s)(hz:s.sz<=16777000)(h:ki base x tb g cn s L v' w F k wr)(hk:k<L.length)(hL: ∀a∈L,a∈s.ag): ∃(b off cap:Nat),v'= .slice (some ⟨b,off,none⟩) L.length cap∧wr.cell? ⟨b,off+k,none⟩=some (pt (g.ap (key L[k])))∧wr.cell? ⟨x,5,none⟩=some (.int .i64 s.now)∧wr.cell? ⟨x,0,none⟩=some (.int .i64 s.c.le)∧wr.frozen? ⟨g.ap (key L[k]),5,none⟩=false∧(∃t,wr.cell? ⟨g.ap (key L[k]),5,none⟩=some (.int .i64 t))∧ ∃kk:Nat,(wr.setCell ⟨g.ap (key L[k]),5,none⟩ (.int .i64 (s.now+s.c.le))).cell? ⟨g.ap (key L[k]),6,none⟩=some (.int .i64 kk)∧ ∀nq,Calls prog 185 #[sf x, .int .i64 kk] ((wr.setCell ⟨g.ap (key L[k]),5,none⟩ (.int .i64 (s.now+s.c.le))).drewN nq) fun e w'=>e= .returned (.tuple #[])∧ki base x tb g cn s L v' w F (k+1) w':=by
 obtain⟨F1,bU,o1,n1⟩:=h.goes;obtain⟨G,H,ha,hb,d,e⟩:=id bU;obtain⟨i1,ok1,sz1⟩:=Oc hi ho ((L.take k).map key);have WK: ∀k,G k->base<=k:=cr ha;have T1:Tabs base wr:=T.goes hF ⟨F1,bU,o1,n1⟩;have hLk:=hL L[k] (bY hk);have ha':(if key L[k]∈(L.take k).map key then({L[k]with cS:=s.now+s.c.le}:At)else L[k])∈(j8 s ((L.take k).map key)).ag:=by rw[Ex];exact ax.2 ⟨L[k],hLk,rfl⟩
 generalize ea:(if key L[k]∈(L.take k).map key then({L[k]with cS:=s.now+s.c.le}:At)else L[k])=a' at ha';have yA:key a'=key L[k]:=by rw[<-ea];split<;>rfl
 obtain⟨c5,c0,fz,ct,kk,c6,Jy⟩:=KY T1 ha i1 ok1 (by omega) ha' (s.now+s.c.le);rw[yA]at fz ct c6 Jy;obtain⟨ao,cap,rfl,cV,ck⟩:=Mr.cE hb;obtain⟨b,off,rfl⟩:=ck (by omega);refine⟨b,off,cap,rfl, ?_,c5,c0,fz,⟨_,ct⟩,kk,c6,fun nq=>(Jy nq).mono ?_⟩
 ·rw[aW hb k (by omega),List.getElem?_map,aV hk];rfl
 ·rintro e' w'⟨rfl,hg⟩;refine⟨rfl,⟨?_⟩⟩;have g2:=ay o1 n1 (aH hb hg d e);have e3:j8 s ((L.take (k+1)).map key)={j8 s ((L.take k).map key)with ag:=(j8 s ((L.take k).map key)).ag.map (renew (key L[k]) (s.now+s.c.le))}:=by
   rw[kV hk,aB];exact Gf s _ _
  rw[e3];exact g2
theorem Il{n:Nat}(T:Tabs base w)(h:(stA base x tb g cn s).holds w F)(hs:Sd n s)(hn:n<=16776000)(c:Int):Calls prog 140 #[pt x, .int .i64 c] w fun e w'=>e= .returned (.tuple #[])∧Goes (stA base x tb g cn (vF s c)) w F w':=by
 have hz:=hs.sz;obtain⟨hp,ao,cap,dA,hlen,rb,c11,Ce⟩:=Kv h hs.inv (by omega) c;have zR:=hs.bd.now;have hle:=hs.bd.c.le;have zV:IntKind.i64.wrap (s.now+s.c.le)=s.now+s.c.le:=by rw[IntKind.wrap_i64];omega
 have hLs: ∀a∈hp.filter fun a=>a.conn==c,a∈s.ag:=fun a ha=>dA.subset (aG.1 ha).1;have hLl:(hp.filter fun a=>a.conn==c).length<=hp.length:=List.length_filter_le ..;have jM:Hid (∀v' wr,ki base x tb g cn s (hp.filter fun a=>a.conn==c) v' w F (hp.filter fun a=>a.conn==c).length wr->Goes (stA base x tb g cn (vF s c)) w F wr):=fun v' wr hb=>by have:=hb.goes.drop;rw[List.take_length,Ge hs.ok dA c]at this;exact this
 generalize(hp.filter fun a=>a.conn==c)=L at*;have HC:Hid (∀w1,Below w.heap.size w w1->w1.cell? ⟨x,11,none⟩=some (.slice ao hp.length cap)):=fun w1 hB=>by rw[bN hB rb];exact c11
 have BI:Hid (∀w1,Below w.heap.size w w1->Calls prog 78 #[.slice ao hp.length cap, .func (.func 124) #[] #[.pointer (some ⟨w1.heap.size,0,none⟩)]] (w1.alloc (.cells #[.int .i64 c] 3)) fun e w'=> ∃eK bO,e= .returned (.slice eK L.length bO)∧Below w.heap.size w w'∧Hid (ki base x tb g cn s L (.slice eK L.length bO) w F 0 w')):=fun w1 hB=>by refine(Ce w1 hB).mono ?_;rintro e w'⟨v',rfl,hb,hg⟩;have eO:=hg;obtain⟨F1,bU,_⟩:=hg;obtain⟨G,H,_,cL,_⟩:=bU;obtain⟨eK,bO,rfl⟩:=aJ (Goes.refl cL);exact⟨eK,bO,rfl,hb,⟨eO⟩⟩
 have Hz:Hid (∀k (hk:k<L.length) v' wr,ki base x tb g cn s L v' w F k wr->_):=fun k hk v' wr hb=>hb.round T (cr h) hs.inv hs.ok (by omega) hk hLs;clear Ce h;unfold pt sf at*;generalize hp.length=nl at*;go_enter func140,ntmps140;go_wp2_with fail;go_region_held3 (fun w'=>w'.cell? ⟨x,11,none⟩=some (.slice ao nl cap)) (go_keep)
  (first
   |(go_at_call 79;go_must(refine(iR c _).mono ?_;rintro e w6⟨rfl,rfl⟩;have q2:=HC.out _ ((ar w.heap.size w).drew.alloc (af _) (.cells #[.int .i64 c] 3))))
   |(go_at_call 78;go_must(refine(BI.out _ (ar _ _).drew).mono ?_;rintro e w7⟨eK,bO,rfl,r9,Hq⟩;have q3:=HC.out _ r9)))
 all_goals
  clear BI HC q2 q3 r9 c11;go_wp2;go_loopw [14] (fun i wr=> ∃k:Nat,k<=L.length∧i= .int .i64 k∧Hid (ki base x tb g cn s L (.slice eK L.length bO) w F k wr)) (fun i _=>L.length-(intOf i).toNat)
  case atStart=>exact⟨0,bk _,rfl,Hq⟩
  case round=>
   obtain⟨k,hk,rfl,mv⟩:=hrel;by_cases aQ:k<L.length
   ·obtain⟨b,off,cJ,ev,c0,c5,cl,fz,⟨t,ct⟩,kk,c6,Jy⟩:=Hz.out k aQ _ _ mv.out;cases ev;have Sb:=hide Jy;clear Hz mv Hq jM Jy;generalize g.ap (key L[k])=ap at*;generalize s.now=now at*;generalize s.c.le=le at*;go_wp2_with fail;go_region_with (fail)
    all_goals
     go_wp2_with fail;go_region_with (first
      |(go_at_call 185;go_must(refine(Sb.out 2).mono ?_;rintro e w5⟨rfl,hb⟩;have VK:=hide hb;clear hb)))
     all_goals
      clear Sb;go_wp2;go_roundw
      case rel=>exact⟨k+1,by omega,by go_num,VK⟩
      case measure=>simp[intOf];omega
   ·obtain rfl:k=L.length:=by omega
    have HE:=hide (jM.out _ _ mv.out);clear Hz mv Hq jM;go_wp2;go_end0;exact⟨rfl,HE.out⟩
end Pj
namespace bA
open Go.RowKit
attribute [local go_sem] aP.ae aP.ah
theorem GQ{base:Nat}{bL:World}(L:ig base bL)(q:Nat)(k:List UInt8)(r:List (List UInt8))(ao:Option Addr)(a cap:Nat)(w:World)(hb:Below base bL w)(hB:base<=w.heap.size)(wj:base<=q)(fY:w.heap[q]?=some (.cells (cs0 k) 149 (0,0)))(ck:0<r.length->ao=some ⟨a,1,none⟩∧a<w.heap.size∧a≠q)(jZ: ∀x∈r,x.length<=4194304)(jg:r.length<=4194304)(kU: ∀i (h:i<r.length),w.cell? ⟨a,1+i,none⟩=some (.string ⟨(r[i]'h).toArray⟩))(h0:(k== [112,117,108,108])=false)(h1:(k== [98,101,97,116])=false)(h2:(k== [100,114,97,105,110])=false)(h3:(k== [99,97,110])=false)(h4:(k== [102,97,105,108])=false)(h5:(k== [115,117,98])=false)(hv:(k== [100,111,110,101])=true):Calls prog 134 #[.pointer (some ⟨q,0,none⟩), .slice ao r.length cap] w (nX q k r w):=by
 have pN:q<w.heap.size:=(bZ.1 fY).1;have pK:Hid (∀k w1,_):=fun k w1=>jB q k w1;have HK:Hid (∀W,Below w.heap.size w W->W.cell? ⟨q,0,none⟩=some (.string ⟨k.toArray⟩)):=fun W h=>by rw[h.cell (p:=⟨q,0,none⟩) pN];simp only[World.cell?,fY];rfl
 have hk:k= [100,111,110,101]:=by simpa using hv
 have HF:Hid (∀W N1 N2 B1 B2,Below w.heap.size w W->w.heap.size<=N1∧N1<W.heap.size->w.heap.size<=N2∧N2<W.heap.size->w.heap.size<=B1∧B1<W.heap.size->w.heap.size<=B2∧B2<W.heap.size->W.cell? ⟨N1,0,none⟩=some (.pointer (some ⟨q,1,none⟩))->W.cell? ⟨N2,0,none⟩=some (.pointer (some ⟨q,2,none⟩))->W.cell? ⟨B1,0,none⟩=some (.pointer (some ⟨q,4,none⟩))->W.cell? ⟨B2,0,none⟩=some (.func (.func 179) #[] #[])-> ∀nq,Calls prog 176 #[.slice ao r.length cap, .slice (some ⟨W.heap.size,0,none⟩) 3 3] ((W.drewN nq).alloc (.cells #[.func (.func 216) #[] #[.pointer (some ⟨N1,0,none⟩)], .func (.func 216) #[] #[.pointer (some ⟨N2,0,none⟩)], .func (.func 219) #[] #[.pointer (some ⟨B1,0,none⟩), .pointer (some ⟨B2,0,none⟩)]] 234)) fun e w'=>e= .returned (.bool (bm (k::r)).2)∧Hid (Only (fun b=>b=q) w w'∧((bm (k::r)).2=true->w'.heap[q]?=some (.cells (bm (k::r)).1.cs 149 (0,0))))):=fun W0 N1 N2 B1 B2 h0 mP xG QT QU pL uS SR SS nq=>by
  obtain⟨W,eW⟩: ∃W,W0.drewN nq=W:=⟨_,rfl⟩;have es:W.heap.size=W0.heap.size:=by rw[<-eW];rfl
  have ec: ∀p,W.cell? p=W0.cell? p:=fun p=>by rw[<-eW];rfl
  have h:Below w.heap.size w W:=by rw[<-eW];exact⟨h0.os,h0.tape,h0.output,h0.size,h0.block⟩
  rw[eW,<-es];rw[<-es]at mP xG QT QU;rw[<-ec]at pL uS SR SS;have HW:=Dl N1 N2 B1 B2 r;have oG:Below W.heap.size W (W.alloc (.cells #[.func (.func 216) #[] #[.pointer (some ⟨N1,0,none⟩)], .func (.func 216) #[] #[.pointer (some ⟨N2,0,none⟩)], .func (.func 219) #[] #[.pointer (some ⟨B1,0,none⟩), .pointer (some ⟨B2,0,none⟩)]] 234)):=(ar _ _).alloc (af _) _;have Jk:base<=W.heap.size:=au hB h.size;have Hj:Below base bL (W.alloc (.cells #[.func (.func 216) #[] #[.pointer (some ⟨N1,0,none⟩)], .func (.func 216) #[] #[.pointer (some ⟨N2,0,none⟩)], .func (.func 219) #[] #[.pointer (some ⟨B1,0,none⟩), .pointer (some ⟨B2,0,none⟩)]] 234)):=(hb.trans (h.mono hB)).alloc Jk _;have Hi:base<=(W.alloc (.cells #[.func (.func 216) #[] #[.pointer (some ⟨N1,0,none⟩)], .func (.func 216) #[] #[.pointer (some ⟨N2,0,none⟩)], .func (.func 219) #[] #[.pointer (some ⟨B1,0,none⟩), .pointer (some ⟨B2,0,none⟩)]] 234)).heap.size:=au Jk oG.size;have aQ: ∀n,n<W.heap.size->n<(W.alloc (.cells #[.func (.func 216) #[] #[.pointer (some ⟨N1,0,none⟩)], .func (.func 216) #[] #[.pointer (some ⟨N2,0,none⟩)], .func (.func 219) #[] #[.pointer (some ⟨B1,0,none⟩), .pointer (some ⟨B2,0,none⟩)]] 234)).heap.size:=fun n hn=>bE hn oG.size;refine(xk W r [cG N1 1,cG N2 2,dM B1 B2 4 qM] ao a cap (cs0 k) ((h.block q pN).trans fY) rfl (fun f hf=> ?_) (fun h0=> ?_) jZ jg (by simp) (fun i hi=> ?_)).mono ?_
  ·simp only[List.mem_cons,List.not_mem_nil,or_false]at hf;rcases hf with rfl|rfl|rfl
   ·exact iH L Hj Hi wj (by omega) (aQ _ mP.2) (by omega) ((oG.cell (p:=⟨N1,0,none⟩) mP.2).trans pL)
   ·exact iH L Hj Hi wj (by omega) (aQ _ xG.2) (by omega) ((oG.cell (p:=⟨N2,0,none⟩) xG.2).trans uS)
   ·exact nQ (oM L) Hj Hi wj (by omega) (aQ _ QT.2) (by omega) (aQ _ QU.2) (by omega) ((oG.cell (p:=⟨B1,0,none⟩) QT.2).trans SR) ((oG.cell (p:=⟨B2,0,none⟩) QU.2).trans SS)
  ·obtain⟨h1,h2,h3⟩:=ck h0;exact⟨h1,bE h2 h.size,h3⟩
  ·rw[h.cell (p:=⟨a,1+i,none⟩) (ck (by omega)).2.1];exact kU i hi
  ·rintro e w'⟨rfl,ho,hp⟩;rw[hk]at hp⊢;exact⟨by rw[HW.1],(ft h).trans ho (fun _ _ h=>h),fun h=>by rw[HW.1]at h;rw[<-HW.2 h];exact hp h⟩
 clear fY ck jZ kU L hk hb;generalize jH:r.length=rl at*;clear jH;have SC:Hid (∀k g w1,_):=fun k g w1=>PL q k g w1;have M1:True:=trivial;go_enter func134,ntmps134;go_wp2_with fail;go_region_held3 (fun _=>True) (trivial)
  (first
   |(go_at_call 175;first
     |(clear M1;go_must(refine(pK.out _ _).mono ?_;rintro e w1⟨N1,rfl,BF,wD,bP,pL⟩))
     |(go_must(refine(pK.out _ _).mono ?_;rintro e w2⟨N2,rfl,BG,BH,cL,uS⟩))))
 all_goals
  have fe:=cI bP;have jh:Below w1.heap.size w1 w2:=by first|exact cL|exact cI cL
  have HB:Below w.heap.size w w2:=fe.trans (jh.mono fe.size);have c0:=HK.out w2 HB;have mP:w.heap.size<=N1∧N1<w2.heap.size:=⟨BF,bE wD jh.size⟩;have sQ:w2.cell? ⟨N1,0,none⟩=some (.pointer (some ⟨q,1,none⟩)):=by rw[jh.cell (p:=⟨N1,0,none⟩) wD];exact pL
  have xG:w.heap.size<=N2∧N2<w2.heap.size:=⟨au fe.size BG,BH⟩;have uO:Hid (∀w3 B1 B2,Below w2.heap.size w2 w3->w2.heap.size<=B1∧B1<w3.heap.size->w2.heap.size<=B2∧B2<w3.heap.size->w3.cell? ⟨B1,0,none⟩=some (.pointer (some ⟨q,4,none⟩))->w3.cell? ⟨B2,0,none⟩=some (.func (.func 179) #[] #[])->Hid (Calls _ _ _ _ _)):=fun w3 B1 B2 h3 l1 l2 c1 c2=>HF.out w3 N1 N2 B1 B2 (HB.trans (h3.mono HB.size)) ⟨mP.1,bE mP.2 h3.size⟩ ⟨xG.1,bE xG.2 h3.size⟩ ⟨au HB.size l1.1,l1.2⟩ ⟨au HB.size l2.1,l2.2⟩ (by rw[h3.cell (p:=⟨N1,0,none⟩) mP.2];exact sQ) (by rw[h3.cell (p:=⟨N2,0,none⟩) xG.2];exact uS) c1 c2 0
  clear HF pK HK bP cL fe jh pL sQ uS HB BF wD BG BH mP xG;go_wp2_with (first
   |(go_at_call 177;go_must(refine(SC.out _ _ _).mono ?_;rintro e w3⟨B1,B2,rfl,b1,b2,b3,b4,nU,d1,d2⟩;have VQ:=uO.out w3 B1 B2 nU ⟨b1,b2⟩ ⟨b3,b4⟩ d1 d2;clear uO SC nU b1 b2 b3 b4 d1 d2))
   |(go_at_call 176;go_must(refine VQ.out.mono ?_;rintro e w4⟨rfl,HP⟩)))
  go_ret;exact⟨rfl,HP.out⟩
