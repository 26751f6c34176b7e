import Derived.Test.YtffamlbkmjmipaaGreatDoorB37
import Derived.Test.YtffamlbkmjmipaaGreatDoorB40
set_option maxHeartbeats 8000000
set_option maxRecDepth 100000
namespace Go.Proofs.YtffamlbkmjmipaaGreatDoor
open _root_.Go.Proofs.Tryz
namespace Pj
open Go.RowKit aM Mc bJ Rel
attribute [local go_sem] ag ar
variable{base x tb:Nat}{g:Gh}{cn:List (Int×Nat×Bs)}{s:St}{w:World}{F:Ft}
structure oq(base x tb:Nat)(g:Gh)(cn:List (Int×Nat×Bs))(s:St)(L:List At)(v':Value)(w:World)(F:Ft)(k:Nat)(wr:World):Prop where
 goes:Goes (aa (stA base x tb g cn (nQ s ((L.take k).map key))) (rowA 127 1 v' L.length (L.map fun a=>pt (g.ap (key a))))) w F wr
theorem oq.round{L:List At}{v':Value}{k:Nat}{wr:World}(T:Tabs base w)(hF: ∀k,F k->base<=k)(hi:Inv s)(ho:Ok s)(hz:s.sz<=16777000)(h:oq base x tb g cn s L v' w F k wr)(hk:k<L.length)(hL: ∀a∈L,a∈s.af): ∃(b off cap:Nat),v'= .slice (some ⟨b,off,none⟩) L.length cap∧wr.cell? ⟨b,off+k,none⟩=some (pt (g.ap (key L[k])))∧wr.cell? ⟨x,5,none⟩=some (.int .i64 s.now)∧wr.cell? ⟨x,0,none⟩=some (.int .i64 s.c.le)∧wr.frozen? ⟨g.ap (key L[k]),5,none⟩=false∧(∃t,wr.cell? ⟨g.ap (key L[k]),5,none⟩=some (.int .i64 t))∧ ∃kk:Nat,(wr.setCell ⟨g.ap (key L[k]),5,none⟩ (.int .i64 (s.now+s.c.le))).cell? ⟨g.ap (key L[k]),6,none⟩=some (.int .i64 kk)∧ ∀nq,Calls prog 185 #[xA x, .int .i64 kk] ((wr.setCell ⟨g.ap (key L[k]),5,none⟩ (.int .i64 (s.now+s.c.le))).drewN nq) fun e w'=>e= .returned (.tuple #[])∧oq base x tb g cn s L v' w F (k+1) w':=by
 obtain⟨F1,cd,o1,n1⟩:=h.goes;obtain⟨G,H,ha,hb,d,e⟩:=id cd;obtain⟨i1,ok1,sz1⟩:=U2 hi ho ((L.take k).map key);have hGb: ∀k,G k->base<=k:=dx ha;have T1:Tabs base wr:=T.goes hF ⟨F1,cd,o1,n1⟩;have hLk:=hL L[k] (aY hk);have ha':(if key L[k]∈(L.take k).map key then({L[k]with eV:=s.now+s.c.le}:At)else L[k])∈(nQ s ((L.take k).map key)).af:=by rw[KY];exact aA.2 ⟨L[k],hLk,rfl⟩
 generalize ea:(if key L[k]∈(L.take k).map key then({L[k]with eV:=s.now+s.c.le}:At)else L[k])=a' at ha';have CX:key a'=key L[k]:=by rw[<-ea];split<;>rfl
 obtain⟨c5,c0,fz,ct,kk,c6,PH⟩:=Q4 T1 ha i1 ok1 (by omega) ha' (s.now+s.c.le);rw[CX]at fz ct c6 PH;obtain⟨ao,cap,rfl,dF,bI⟩:=Mr.bO hb;obtain⟨b,off,rfl⟩:=bI (by omega);refine⟨b,off,cap,rfl, ?_,c5,c0,fz,⟨_,ct⟩,kk,c6,fun nq=>(PH nq).mono ?_⟩
 ·rw[bm hb k (by omega),List.getElem?_map,a7 hk];rfl
 ·rintro e' w'⟨rfl,hg⟩;refine⟨rfl,⟨?_⟩⟩;have g2:=aF o1 n1 (aV hb hg d e);have e3:nQ s ((L.take (k+1)).map key)={nQ s ((L.take k).map key)with af:=(nQ s ((L.take k).map key)).af.map (renew (key L[k]) (s.now+s.c.le))}:=by
   rw[fp hk,aH];exact MX s _ _
  rw[e3];exact g2
theorem OC{n:Nat}(T:Tabs base w)(h:(stA base x tb g cn s).holds w F)(hs:Sd n s)(hn:n<=16776000)(c:Int):Calls prog 140 #[pt x, .int .i64 c] w fun e w'=>e= .returned (.tuple #[])∧Goes (stA base x tb g cn (AL s c)) w F w':=by
 have hz:=hs.sz;obtain⟨hp,ao,cap,fw,hlen,vd,c11,u5⟩:=Qy h hs.inv (by omega) c;have BS:=hs.bd.now;have hle:=hs.bd.c.le;have En:IntKind.i64.wrap (s.now+s.c.le)=s.now+s.c.le:=by rw[IntKind.wrap_i64];omega
 have hLs: ∀a∈hp.filter fun a=>a.conn==c,a∈s.af:=fun a ha=>fw.subset (aR.1 ha).1;have hLl:(hp.filter fun a=>a.conn==c).length<=hp.length:=List.length_filter_le ..;have fg:Hid (∀v' wr,oq base x tb g cn s (hp.filter fun a=>a.conn==c) v' w F (hp.filter fun a=>a.conn==c).length wr->Goes (stA base x tb g cn (AL s c)) w F wr):=fun v' wr hb=>by have:=hb.goes.drop;rw[List.take_length,MW hs.ok fw c]at this;exact this
 generalize(hp.filter fun a=>a.conn==c)=L at*;have HC:Hid (∀w1,Below w.heap.size w w1->w1.cell? ⟨x,11,none⟩=some (.slice ao hp.length cap)):=fun w1 hB=>by rw[cL hB vd];exact c11
 have Hb:Hid (∀w1,Below w.heap.size w w1->Calls prog 78 #[.slice ao hp.length cap, .func (.func 124) #[] #[.pointer (some ⟨w1.heap.size,0,none⟩)]] (w1.alloc (.cells #[.int .i64 c] 3)) fun e w'=> ∃iw cM,e= .returned (.slice iw L.length cM)∧Below w.heap.size w w'∧Hid (oq base x tb g cn s L (.slice iw L.length cM) w F 0 w')):=fun w1 hB=>by refine(u5 w1 hB).mono ?_;rintro e w'⟨v',rfl,hb,hg⟩;have ld:=hg;obtain⟨F1,cd,_⟩:=hg;obtain⟨G,H,_,bN,_⟩:=cd;obtain⟨iw,cM,rfl⟩:=aX (Goes.refl bN);exact⟨iw,cM,rfl,hb,⟨ld⟩⟩
 have pM:Hid (∀k (hk:k<L.length) v' wr,oq base x tb g cn s L v' w F k wr->_):=fun k hk v' wr hb=>hb.round T (dx h) hs.inv hs.ok (by omega) hk hLs;clear u5 h;unfold pt xA at*;generalize hp.length=nl at*;go_enter func140,ntmps140;go_wp2_with fail;go_region_held3 (fun w'=>w'.cell? ⟨x,11,none⟩=some (.slice ao nl cap)) (go_keep)
  (first
   |(go_at_call 79;go_must(refine(lJ c _).mono ?_;rintro e w6⟨rfl,rfl⟩;have q2:=HC.out _ ((ah w.heap.size w).drew.alloc (ae _) (.cells #[.int .i64 c] 3))))
   |(go_at_call 78;go_must(refine(Hb.out _ (ah _ _).drew).mono ?_;rintro e w7⟨iw,cM,rfl,D1,NH⟩;have q3:=HC.out _ D1)))
 all_goals
  clear Hb HC q2 q3 D1 c11;go_wp2;go_loopw [14] (fun i wr=> ∃k:Nat,k<=L.length∧i= .int .i64 k∧Hid (oq base x tb g cn s L (.slice iw L.length cM) w F k wr)) (fun i _=>L.length-(intOf i).toNat)
  case atStart=>exact⟨0,aJ _,rfl,NH⟩
  case round=>
   obtain⟨k,hk,rfl,pL⟩:=hrel;by_cases ay:k<L.length
   ·obtain⟨b,off,b9,ev,c0,c5,cl,fz,⟨t,ct⟩,kk,c6,PH⟩:=pM.out k ay _ _ pL.out;cases ev;have ZG:=hide PH;clear pM pL NH fg PH;generalize g.ap (key L[k])=ap at*;generalize s.now=now at*;generalize s.c.le=le at*;go_wp2_with fail;go_region_with (fail)
    all_goals
     go_wp2_with fail;go_region_with (first
      |(go_at_call 185;go_must(refine(ZG.out 2).mono ?_;rintro e w5⟨rfl,hb⟩;have HBN:=hide hb;clear hb)))
     all_goals
      clear ZG;go_wp2;go_roundw
      case rel=>exact⟨k+1,by omega,by go_num,HBN⟩
      case measure=>simp[intOf];omega
   ·obtain rfl:k=L.length:=by omega
    have HE:=hide (fg.out _ _ pL.out);clear pM pL NH fg;go_wp2;go_end0;exact⟨rfl,HE.out⟩
end Pj
namespace bJ
open Go.RowKit
attribute [local go_sem] aL.ag aL.ar
theorem Nr{base:Nat}{dz:World}(L:kE base dz)(q:Nat)(k:List UInt8)(r:List (List UInt8))(ao:Option Addr)(a cap:Nat)(w:World)(hb:Below base dz w)(hB:base<=w.heap.size)(Ba:base<=q)(jm:w.heap[q]?=some (.cells (cs0 k) 149 (0,0)))(bI:0<r.length->ao=some ⟨a,1,none⟩∧a<w.heap.size∧a≠q)(mi: ∀x∈r,x.length<=4194304)(gS:r.length<=4194304)(pJ: ∀i (h:i<r.length),w.cell? ⟨a,1+i,none⟩=some (.string ⟨(r[i]'h).toArray⟩))(h0:(k== [112,117,108,108])=false)(h1:(k== [98,101,97,116])=false)(h2:(k== [100,114,97,105,110])=false)(h3:(k== [99,97,110])=false)(h4:(k== [102,97,105,108])=false)(h5:(k== [115,117,98])=false)(hv:(k== [100,111,110,101])=true):Calls prog 134 #[.pointer (some ⟨q,0,none⟩), .slice ao r.length cap] w (tq q k r w):=by
 have uK:q<w.heap.size:=(cT.1 jm).1;have uG:Hid (∀k w1,_):=fun k w1=>mJ q k w1;have HK:Hid (∀W,Below w.heap.size w W->W.cell? ⟨q,0,none⟩=some (.string ⟨k.toArray⟩)):=fun W h=>by rw[h.cell (p:=⟨q,0,none⟩) uK];simp only[World.cell?,jm];rfl
 have hk:k= [100,111,110,101]:=by simpa using hv
 have HF:Hid (∀W N1 N2 B1 B2,Below w.heap.size w W->w.heap.size<=N1∧N1<W.heap.size->w.heap.size<=N2∧N2<W.heap.size->w.heap.size<=B1∧B1<W.heap.size->w.heap.size<=B2∧B2<W.heap.size->W.cell? ⟨N1,0,none⟩=some (.pointer (some ⟨q,1,none⟩))->W.cell? ⟨N2,0,none⟩=some (.pointer (some ⟨q,2,none⟩))->W.cell? ⟨B1,0,none⟩=some (.pointer (some ⟨q,4,none⟩))->W.cell? ⟨B2,0,none⟩=some (.func (.func 179) #[] #[])-> ∀nq,Calls prog 176 #[.slice ao r.length cap, .slice (some ⟨W.heap.size,0,none⟩) 3 3] ((W.drewN nq).alloc (.cells #[.func (.func 216) #[] #[.pointer (some ⟨N1,0,none⟩)], .func (.func 216) #[] #[.pointer (some ⟨N2,0,none⟩)], .func (.func 219) #[] #[.pointer (some ⟨B1,0,none⟩), .pointer (some ⟨B2,0,none⟩)]] 234)) fun e w'=>e= .returned (.bool (aT (k::r)).2)∧Hid (Only (fun b=>b=q) w w'∧((aT (k::r)).2=true->w'.heap[q]?=some (.cells (aT (k::r)).1.cs 149 (0,0))))):=fun W0 N1 N2 B1 B2 h0 rW Cb Yq Yr uH zU cB1 cB2 nq=>by
  obtain⟨W,eW⟩: ∃W,W0.drewN nq=W:=⟨_,rfl⟩;have es:W.heap.size=W0.heap.size:=by rw[<-eW];rfl
  have ec: ∀p,W.cell? p=W0.cell? p:=fun p=>by rw[<-eW];rfl
  have h:Below w.heap.size w W:=by rw[<-eW];exact⟨h0.os,h0.tape,h0.output,h0.size,h0.block⟩
  rw[eW,<-es];rw[<-es]at rW Cb Yq Yr;rw[<-ec]at uH zU cB1 cB2;have HW:=JN N1 N2 B1 B2 r;have tR:Below W.heap.size W (W.alloc (.cells #[.func (.func 216) #[] #[.pointer (some ⟨N1,0,none⟩)], .func (.func 216) #[] #[.pointer (some ⟨N2,0,none⟩)], .func (.func 219) #[] #[.pointer (some ⟨B1,0,none⟩), .pointer (some ⟨B2,0,none⟩)]] 234)):=(ah _ _).alloc (ae _) _;have Po:base<=W.heap.size:=aw hB h.size;have NS:Below base dz (W.alloc (.cells #[.func (.func 216) #[] #[.pointer (some ⟨N1,0,none⟩)], .func (.func 216) #[] #[.pointer (some ⟨N2,0,none⟩)], .func (.func 219) #[] #[.pointer (some ⟨B1,0,none⟩), .pointer (some ⟨B2,0,none⟩)]] 234)):=(hb.trans (h.mono hB)).alloc Po _;have NQ:base<=(W.alloc (.cells #[.func (.func 216) #[] #[.pointer (some ⟨N1,0,none⟩)], .func (.func 216) #[] #[.pointer (some ⟨N2,0,none⟩)], .func (.func 219) #[] #[.pointer (some ⟨B1,0,none⟩), .pointer (some ⟨B2,0,none⟩)]] 234)).heap.size:=aw Po tR.size;have ay: ∀n,n<W.heap.size->n<(W.alloc (.cells #[.func (.func 216) #[] #[.pointer (some ⟨N1,0,none⟩)], .func (.func 216) #[] #[.pointer (some ⟨N2,0,none⟩)], .func (.func 219) #[] #[.pointer (some ⟨B1,0,none⟩), .pointer (some ⟨B2,0,none⟩)]] 234)).heap.size:=fun n hn=>bP hn tR.size;refine(BK W r [dI N1 1,dI N2 2,fR B1 B2 4 m6] ao a cap (cs0 k) ((h.block q uK).trans jm) rfl (fun f hf=> ?_) (fun h0=> ?_) mi gS (by simp) (fun i hi=> ?_)).mono ?_
  ·simp only[List.mem_cons,List.not_mem_nil,or_false]at hf;rcases hf with rfl|rfl|rfl
   ·exact lh L NS NQ Ba (by omega) (ay _ rW.2) (by omega) ((tR.cell (p:=⟨N1,0,none⟩) rW.2).trans uH)
   ·exact lh L NS NQ Ba (by omega) (ay _ Cb.2) (by omega) ((tR.cell (p:=⟨N2,0,none⟩) Cb.2).trans zU)
   ·exact td (tT L) NS NQ Ba (by omega) (ay _ Yq.2) (by omega) (ay _ Yr.2) (by omega) ((tR.cell (p:=⟨B1,0,none⟩) Yq.2).trans cB1) ((tR.cell (p:=⟨B2,0,none⟩) Yr.2).trans cB2)
  ·obtain⟨h1,h2,h3⟩:=bI h0;exact⟨h1,bP h2 h.size,h3⟩
  ·rw[h.cell (p:=⟨a,1+i,none⟩) (bI (by omega)).2.1];exact pJ i hi
  ·rintro e w'⟨rfl,ho,hp⟩;rw[hk]at hp⊢;exact⟨by rw[HW.1],(ic h).trans ho (fun _ _ h=>h),fun h=>by rw[HW.1]at h;rw[<-HW.2 h];exact hp h⟩
 clear jm bI mi pJ L hk hb;generalize og:r.length=rl at*;clear og;have HWD:Hid (∀k g w1,_):=fun k g w1=>Wq q k g w1;have M1:True:=trivial;go_enter func134,ntmps134;go_wp2_with fail;go_region_held3 (fun _=>True) (trivial)
  (first
   |(go_at_call 175;first
     |(clear M1;go_must(refine(uG.out _ _).mono ?_;rintro e w1⟨N1,rfl,GV,Bi,hb1,uH⟩))
     |(go_must(refine(uG.out _ _).mono ?_;rintro e w2⟨N2,rfl,GW,GY,bN,zU⟩))))
 all_goals
  have gO:=dQ hb1;have mf:Below w1.heap.size w1 w2:=by first|exact bN|exact dQ bN
  have HB:Below w.heap.size w w2:=gO.trans (mf.mono gO.size);have c0:=HK.out w2 HB;have rW:w.heap.size<=N1∧N1<w2.heap.size:=⟨GV,bP Bi mf.size⟩;have xZ:w2.cell? ⟨N1,0,none⟩=some (.pointer (some ⟨q,1,none⟩)):=by rw[mf.cell (p:=⟨N1,0,none⟩) Bi];exact uH
  have Cb:w.heap.size<=N2∧N2<w2.heap.size:=⟨aw gO.size GW,GY⟩;have zN:Hid (∀w3 B1 B2,Below w2.heap.size w2 w3->w2.heap.size<=B1∧B1<w3.heap.size->w2.heap.size<=B2∧B2<w3.heap.size->w3.cell? ⟨B1,0,none⟩=some (.pointer (some ⟨q,4,none⟩))->w3.cell? ⟨B2,0,none⟩=some (.func (.func 179) #[] #[])->Hid (Calls _ _ _ _ _)):=fun w3 B1 B2 h3 l1 l2 c1 c2=>HF.out w3 N1 N2 B1 B2 (HB.trans (h3.mono HB.size)) ⟨rW.1,bP rW.2 h3.size⟩ ⟨Cb.1,bP Cb.2 h3.size⟩ ⟨aw HB.size l1.1,l1.2⟩ ⟨aw HB.size l2.1,l2.2⟩ (by rw[h3.cell (p:=⟨N1,0,none⟩) rW.2];exact xZ) (by rw[h3.cell (p:=⟨N2,0,none⟩) Cb.2];exact zU) c1 c2 0
  clear HF uG HK hb1 bN gO mf uH xZ zU HB GV Bi GW GY rW Cb;go_wp2_with (first
   |(go_at_call 177;go_must(refine(HWD.out _ _ _).mono ?_;rintro e w3⟨B1,B2,rfl,b1,b2,b3,b4,mh,d1,d2⟩;have HF3:=zN.out w3 B1 B2 mh ⟨b1,b2⟩ ⟨b3,b4⟩ d1 d2;clear zN HWD mh b1 b2 b3 b4 d1 d2))
   |(go_at_call 176;go_must(refine HF3.out.mono ?_;rintro e w4⟨rfl,HP⟩)))
  go_ret;exact⟨rfl,HP.out⟩
