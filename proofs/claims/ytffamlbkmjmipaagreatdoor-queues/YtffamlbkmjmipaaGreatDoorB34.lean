import Derived.Test.YtffamlbkmjmipaaGreatDoorB33
set_option maxHeartbeats 8000000
set_option maxRecDepth 100000
namespace Go.Proofs.YtffamlbkmjmipaaGreatDoor
open _root_.Go.Proofs.Tryz
namespace Pj
open Go.RowKit aM Mc
theorem TF{base x tb:Nat}{g:Gh}{cn:List (Int×Nat×Bs)}{s:St}{w:World}{F:Ft}{n:Nat}(T:Tabs base w)(h:(stA base x tb g cn s).holds w F)(hs:Sd n s)(hn:n<=16775000){c:Int}{ws:List Int}{k:Nat}{l:Ln}{id:Int}{q:Rq}(hw:s.wait=c::ws)(hl:s.ring[k]?=some l)(hid:l.ids.head?=some id)(hq:s.req id=some q)(bx:Nat)(vQ:bx<w.heap.size)(Ml: ¬F bx)(ye:w.cell? ⟨bx,0,none⟩=some (pt x)):Calls prog 73 #[pt x, .int .i64 c] w fun e w1=>e= .returned (.tuple #[])∧w1.cell? ⟨bx,0,none⟩=some (pt x)∧Hid (Calls prog 74 #[pt x,pt (g.rp id)] w1 fun e w2=>e= .returned (.tuple #[])∧w2.cell? ⟨bx,0,none⟩=some (pt x)∧Hid (Calls prog 75 #[pt x,pt (g.tp l.ten)] w2 fun e w3=>e= .returned (.tuple #[])∧w3.cell? ⟨bx,0,none⟩=some (pt x)∧Hid (Calls prog 76 #[pt x,pt tb, .int .i64 c,pt (g.rp id)] w3 fun e w4=>e= .returned (.tuple #[])∧ ∃g',Goes (stA base x tb g' cn (s.give c ws k)) w F w4))):=by
 obtain⟨j,r1,r2,r3,hF,hh⟩:=h;have hz:=hs.sz;have wf:=fI r1 hs.inv (by omega);obtain⟨r,hr,t,ht,er,ei,et,zY,CT⟩:=je r1 hq;have KC:=dn hl;have Ak:s.ten id=l.ten:=St.zw hs.inv ((hs.inv.ring l KC).2 id (List.mem_of_head? hid));have etl:t.nm=l.ten:=by rw[<-zY,Ak]
 subst er;subst ei;have rT:j.pull=c::ws:=by rw[r1.pull,hw]
 have hcell: ∀{A:aM} {w'},Goes A w F w'->w'.cell? ⟨bx,0,none⟩=some (pt x):=fun hg=>by obtain⟨_,_,o,_⟩:=hg;rw[o.cell (p:=⟨bx,0,none⟩) vQ Ml];exact ye
 have e1:({j with pull:=j.pull.erase c}:Js)={j with pull:=ws}:=by rw[rT,yq]
 have R1:Rel g {j with pull:=ws} {s with wait:=ws}:=r1.pulls ws;have Sj:=hs.inv.wt;rw[hw,List.nodup_cons]at Sj;have I1:Inv {s with wait:=ws}:=⟨hs.inv.rid,hs.inv.bS,hs.inv.ring,hs.inv.fP,hs.inv.once,hs.inv.cn,Sj.2⟩;have z1:({s with wait:=ws}:St).sz<=16777000:=by unfold St.sz at hz⊢;rw[hw]at hz;simp only[List.length_cons]at hz;dsimp only;omega
 have wf1:=fI R1 I1 z1;have R2:Rel g (({j with pull:=ws}:Js).left t r.q.id) (({s with wait:=ws}:St).left r.q.id):=R1.left I1 ht zY.symm;have I2:=St.tW I1 r.q.id;have z2:(({s with wait:=ws}:St).left r.q.id).sz<=16777000:=z1;have wf2:=fI R2 I2 z2;have ht2:({t with wt:=t.wt.erase r.q.id}:Tr)∈(({j with pull:=ws}:Js).left t r.q.id).aW:=CO (f:=fun t:Tr=>{t with wt:=t.wt.erase r.q.id}) ht rfl;have og:(({j with pull:=ws}:Js).left t r.q.id).ring.length<=16777200:=by
  rw[R2.ring,bf];have:=St.kg I2;have h2:(({s with wait:=ws}:St).left r.q.id).reqs.length<=s.sz:=by show s.reqs.length<=s.sz;unfold St.sz;omega
  omega
 have wf3:=wf2.turn ht2 og;refine(BX hh (by have:=wf.b3;omega) c).mono ?_;rintro e w1⟨rfl,g1⟩;rw[e1]at g1;refine⟨rfl,hcell g1, ?_⟩;obtain⟨F1,cd,o1,n1⟩:=g1;show Calls _ _ _ _ _;refine(jD cd fun G hG=>tV x g _ r t w1 G hG wf1 hr ht et).mono ?_;rintro e w2⟨rfl,g2⟩;have g2':=aF o1 n1 g2;refine⟨rfl,hcell g2', ?_⟩;obtain⟨F2,eX,o2,n2⟩:=g2';show Calls _ _ _ _ _;rw[<-etl];refine(jD eX fun G hG=>RI x g _ r {t with wt:=t.wt.erase r.q.id} w2 G hG wf2 hr ht2).mono ?_;rintro e w3⟨rfl,g3⟩;have Zf:=aF o2 n2 g3;refine⟨rfl,hcell Zf, ?_⟩;have T3:=T.goes hF Zf;obtain⟨F3,iX,o3,n3⟩:=Zf;show Calls _ _ _ _ _;obtain⟨a,ea⟩: ∃a:At,a=⟨r.q.id,r.q.n+1,c,s.now,s.now+s.c.le⟩:=⟨_,rfl⟩;have yH:r.q∈s.reqs:=dT hq;have pG:=hs.bd.rq r.q yH;have eka:key a=(r.q.id,r.q.n+1):=by rw[ea];rfl
 have fr: ∀b∈s.af,key b≠key a:=fun b hb e=>by rw[eka]at e;have e1:b.id=r.q.id:=congrArg Prod.fst e;have e2:b.n=r.q.n+1:=congrArg Prod.snd e;have:=hs.ok.num b hb r.q yH e1.symm;omega
 have hgi:=St.xq (c:=c) (ws:=ws) hl hid hq;have hinv:=St.lF hs.inv c ws (by rw[hw];exact List.sublist_cons_self ..) k;rw[hgi]at hinv;have cg:=St.xr hw k;rw[hgi,St.eZ]at cg;have u7:(s.giving c ws k l r.q.id r.q).req r.q.id=some {r.q with n:=r.q.n+1}:=by have:=St.lT hs.inv r.q.id r.q.id (fun r=>{r with n:=r.n+1}) (fun _=>rfl);rw[hq]at this;simp only[Option.map_some,if_true]at this;exact this
 have B:Beg base x tb g cn ((({j with pull:=ws}:Js).left t r.q.id).turn {t with wt:=t.wt.erase r.q.id}) r {t with wt:=t.wt.erase r.q.id} c a w3.heap.size (s.giving c ws k l r.q.id r.q):=
  {wf:=wf3,hr:=hr,ht:=ht2,et:=et,ea:=by rw[ea];show _=(⟨r.q.id,r.q.n+1,c,j.now,j.now+j.c.le⟩:At);rw[r1.now,r1.c],f1:=fun b hb=>fr b (r1.hp.subset hb),f2:=fun y hy m hm e=>by
    have Mp:y∈j.reqs:=hy;rw[r1.al y Mp]at hm;obtain⟨b,hb,b1,b2⟩:=qo.1 hm;exact fr b hb (by rw[<-e];unfold key;rw[b1,b2])
   heap:=r1.heap
   cw:=⟨r2.1,fun d hd=>r2.2 d (by rw[rT];exact bt _ hd)⟩
   hc:=r2.2 c (by rw[rT];exact dy ..)
   hcn:=r3
   rel:=fun bB fw vR=>by have hge:=TB wf (a:=a) hr ht (by rw[ea]) rT bB;rw[e1]at hge;rw[hge];exact r1.gave hs.inv hw hl hid hq ht etl ea (fun y hy=>Gh.xC (fr y hy)) (by rw[Gh.QF];show((j.begun:Int))+1=_;rw[r1.begun]) bB fw vR
   inv:=⟨hinv.rid,hinv.bS,hinv.ring,hinv.fP,hinv.once,hinv.cn,hinv.wt⟩
   sz:=by omega
   req:=u7
   bS:=by show a∈s.af++ [_];rw[ea];simp
   ok:=⟨pG.id,by have:=pG.n;rw[hw]at this;simp only[List.length_cons]at this;omega,pG.left,pG.ten,pG.txt⟩
   now:=by have:=hs.bd.now;show 0<=j.now∧j.now<=_;rw[r1.now];exact this
   le:=by have:=hs.bd.c.le;show 0<=j.c.le∧j.c.le<=20;rw[r1.c];omega
   beg:=by show j.begun<=_;rw[r1.begun];unfold St.sz at hz;omega}
 have aca: ∀k,F3 k->base<=k:=fun k hk=>by
  rcases n3 k hk with e|e
  ·exact hF k e
  ·exact aw T.1 e
 refine(Lm (s':=s.giving c ws k l r.q.id r.q) T3 aca iX B).mono ?_;rintro e w4⟨rfl,g4⟩;have g5:=aF o3 n3 g4;rw[<-hgi]at g5;exact⟨rfl,_,g5⟩
end Pj
namespace Pj
open Go.RowKit aM Mc
attribute [local go_sem] ag ar
theorem LV(p bx x:Nat)(rn ca:Int)(w:World)(hp:w.cell? ⟨p,2,none⟩=some (.int .i64 rn))(hb:w.cell? ⟨bx,0,none⟩=some (.pointer (some ⟨x,0,none⟩)))(hx:w.cell? ⟨x,2,none⟩=some (.int .i64 ca)):Calls prog 72 #[.pointer (some ⟨p,0,none⟩), .pointer (some ⟨bx,0,none⟩)] w fun e w'=>e= .returned (.bool (decide (rn<ca)))∧ ∃q,w'=w.drewN q:=by
 go_enter func72,ntmps72;go_wp2
 go_quiet (fail)
 go_wp2;go_ret;exact⟨rfl,_,rfl⟩
section
variable{base x tb:Nat}{g:Gh}{cn:List (Int×Nat×Bs)}{s:St}{j:Js}{w w':World}{F:Ft}
theorem Qd{v:Dv}(h:(bk x g j v).holds w F){t:Tr}(ht:t∈j.aW): ∃wv G,w.heap[g.tp t.nm]?=some (.cells (JI t wv) 92 (0,0))∧(l8 g wv t.wt).holds w G:=by
 have e:bk x g j v=aa (all (gA g) j.aW) (aa (dB x j v) (aa (kN v.cm j.bT) (aa (jS g v.rm j.reqs) (aa (jk g v.tm j.aW) (aa (all jo j.bT) (aa (all (dO g j.c.re) j.reqs) (aa (fK g v.rv j.ring) (aa (jw v.pv j.pull) (aa (eY g v.lv j.hp) (hpA g j.hp)))))))))):=by unfold bk;ac_rfl
 obtain⟨G,hG,_⟩:=aM.left (aB h e);obtain⟨G',wv,jU⟩:=Mr.tv hG t ht;obtain⟨G1,G2,a1,a2,_⟩:=id jU;exact⟨wv,G2,(dC jU).1,a2⟩
structure Hand(g:Gh)(x bx:Nat)(s:St)(w:World)(ao:Option Addr)(cap:Nat)(R7:Option Addr)(zW:Nat):Prop where
 pu:w.cell? ⟨x,10,none⟩=some (.slice ao s.wait.length cap)
 pu0: ∀c ws,s.wait=c::ws-> ∃b off,ao=some ⟨b,off,none⟩∧w.cell? ⟨b,off,none⟩=some (.int .i64 c)
 ri:w.cell? ⟨x,9,none⟩=some (.slice R7 s.ring.length zW)
 Dm:s.wait.length<=16777210∧s.ring.length<=16777210
 find:Calls prog 71 #[.slice R7 s.ring.length zW, .func (.func 72) #[] #[pt bx]] w fun e w'=>e= .returned (ep ((s.ring.find? fun l=>decide ((s.runs l.ten:Int)<s.c.ca)).map fun l=>g.tp l.ten))∧ ∃q,w'=w.drewN q
 wt: ∀l∈s.ring,∀id,l.ids.head?=some id-> ∃b off cp,w.cell? ⟨g.tp l.ten,1,none⟩=some (.slice (some ⟨b,off,none⟩) l.ids.length cp)∧w.cell? ⟨b,off,none⟩=some (pt (g.rp id))∧0<l.ids.length∧l.ids.length<=16777210
theorem A5(h:(stA base x tb g cn s).holds w F)(hi:Inv s)(hz:s.sz<=16777000)(bx:Nat)(ye:w.cell? ⟨bx,0,none⟩=some (pt x)): ∃ao cap R7 zW,Hand g x bx s w ao cap R7 zW:=by
 obtain⟨j,r1,r2,r3,hF,hh⟩:=h;have wf:=fI r1 hi hz;unfold jA at hh;rw[cx]at hh;obtain⟨v,hv⟩:=hh;obtain⟨Gj,rC,_⟩:=aM.left hv;have D:=yN rC;have hPU: ∃G,(jw v.pv j.pull).holds w G:=by obtain⟨G,hG,_⟩:=aM.left (aB rC (show _=aa (jw v.pv j.pull) (aa (dB x j v) (aa (kN v.cm j.bT) (aa (jS g v.rm j.reqs) (aa (jk g v.tm j.aW) (aa (all jo j.bT) (aa (all (dO g j.c.re) j.reqs) (aa (all (gA g) j.aW) (aa (fK g v.rv j.ring) (aa (eY g v.lv j.hp) (hpA g j.hp))))))))))by unfold bk;ac_rfl));exact⟨G,hG⟩
 have hRI: ∃G,(fK g v.rv j.ring).holds w G:=by obtain⟨G,hG,_⟩:=aM.left (aB rC (show _=aa (fK g v.rv j.ring) (aa (dB x j v) (aa (kN v.cm j.bT) (aa (jS g v.rm j.reqs) (aa (jk g v.tm j.aW) (aa (all jo j.bT) (aa (all (dO g j.c.re) j.reqs) (aa (all (gA g) j.aW) (aa (jw v.pv j.pull) (aa (eY g v.lv j.hp) (hpA g j.hp))))))))))by unfold bk;ac_rfl));exact⟨G,hG⟩
 obtain⟨Gp,GK⟩:=hPU;obtain⟨Gr,kG⟩:=hRI;obtain⟨ao,cap,ep'⟩:=aX (Goes.refl GK);obtain⟨R7,zW,er'⟩:=aX (Goes.refl kG);have lw:j.pull.length=s.wait.length:=by rw[r1.pull]
 have lr:j.ring.length=s.ring.length:=by rw[r1.ring,bf]
 have b2:=wf.b2;have b3:=wf.b3;have zM: ∀l∈s.ring,∃t∈j.aW,t.nm=l.ten:=fun l hl=>by obtain⟨t,ht,e⟩:=aA.1 (wf.ring l.ten (by rw[r1.ring];exact aA.2 ⟨l,hl,rfl⟩));exact⟨t,ht,e⟩
 refine⟨ao,cap,R7,zW,by rw[D.1 10];show some v.pv=_;rw[ep',lw],fun c ws hw=> ?_,by rw[D.1 9];show some v.rv=_;rw[er',lr],⟨by omega,by omega⟩, ?_,fun l hl id hid=> ?_⟩
 ·have hG:=GK;unfold jw at hG;have:j.pull=c::ws:=by rw[r1.pull,hw]
  rw[ep',this,List.map_cons]at hG;obtain⟨b,off,cp,e1,e2⟩:=qZ hG (by simp);cases e1;exact⟨b,off,rfl,e2⟩
 ·have hG:=kG;unfold fK at hG;rw[er',lr,r1.ring,aG]at hG;have hf:=fiT (.slice R7 s.ring.length zW) s.ring (fun l=>g.tp l.ten) (fun l=>decide ((s.runs l.ten:Int)<s.c.ca)) 72 #[pt bx] (enters_of func72 (by kernel_rfl) rfl) w Gr hG (fun wr hB l hl=> ?_) (by omega)
  ·exact hf
  ·obtain⟨t,ht,et⟩:=zM l hl;obtain⟨wv,G,hb,_⟩:=Qd rC ht;rw[et]at hb;have ay:g.tp l.ten<w.heap.size:=(cT.1 hb).1;have px:bx<w.heap.size:=World.block_lt_of_cell? w ⟨bx,0,none⟩ ye;refine LV _ bx x _ _ wr ?_ ?_ ?_
   ·rw[hB.cell (p:=⟨_,2,none⟩) ay];simp only[World.cell?,hb];show some (Value.int .i64 t.rn)=_;rw[r1.rn t ht,et]
   ·rw[hB.cell (p:=⟨_,0,none⟩) px];exact ye
   ·rw[hB.cell (p:=⟨_,2,none⟩) D.2.2,D.1 2];show some (Value.int .i64 j.c.ca)=_;rw[r1.c]
 ·obtain⟨t,ht,et⟩:=zM l hl;obtain⟨wv,G,hb,hG⟩:=Qd rC ht;have ew:t.wt=l.ids:=by rw[r1.wt t ht,et,St.lL hi hl]
  obtain⟨l',el⟩: ∃l',l.ids=id::l':=by
   cases PN:l.ids with
   |nil=>rw[PN]at hid;cases hid
   |cons y l'=>rw[PN]at hid;simp at hid;exact⟨l',by rw[hid]⟩
  have yz:=wf.b1 t ht;rw[ew]at yz;unfold l8 at hG;rw[ew,el,List.map_cons]at hG;obtain⟨b,off,cp,e1,e2⟩:=qZ hG (by simp);refine⟨b,off,cp, ?_,e2,by rw[el];simp,yz⟩;rw[<-et];simp only[World.cell?,hb];show some wv=_;rw[e1,el]
end
variable{n f:Nat}{s:St}
theorem Sd.give(h:Sd n s){c:Int}{ws:List Int}(hw:s.wait=c::ws)(k:Nat):Sd n (s.give c ws k):=
 ⟨St.lF h.inv c ws (by rw[hw];exact List.sublist_cons_self ..) k,h.ok.give h.inv c ws k hw,aw (St.xr hw k) h.sz,h.bd.give hw k⟩
theorem JA(h:s.wait= []):St.cS f s=s:=by
 cases f with
 |zero=>rfl
 |succ f=>unfold St.cS;rw[h]
theorem FP(h:s.ring.find? (fun l=>decide ((s.runs l.ten:Int)<s.c.ca))=none):St.cS f s=s:=by
 cases f with
 |zero=>rfl
 |succ f=>
  unfold St.cS;split
  ·rfl
  ·have:s.ring.findIdx? (fun l=>decide ((s.runs l.ten:Int)<s.c.ca))=none:=by
    rw[List.findIdx?_eq_none_iff];intro l hl;have:=List.find?_eq_none.1 h l hl;simpa using this
   rw[this]
theorem DT{α:Type}{p:α->Bool}: ∀{l:List α} {y:α},l.find? p=some y-> ∃k,l.findIdx? p=some k∧l[k]?=some y
 | [],y,h=>by cases h
 |z::l,y,h=>by
  rw[List.find?_cons]at h;rw[List.findIdx?_cons];cases hp:p z with
  |true=>rw[hp]at h;simp at h;exact⟨0,by simp,by simp[h]⟩
  |false=>rw[hp]at h;obtain⟨k,h1,h2⟩:=DT h;exact⟨k+1,by simp[h1],by simpa using h2⟩
def Fp(x:Nat)(w:World):Nat:=match w.cell? ⟨x,10,none⟩with|some (.slice _ n _)=>n|_=>0
structure gY(base x tb:Nat)(cn:List (Int×Nat×Bs))(n:Nat)(s:St)(w:World)(F:Ft)(g':Gh)(s':St)(wr:World):Prop where
 sd:Sd n s'
 goes:Goes (stA base x tb g' cn s') w F wr
 done: ∃f,s'.wait.length<=f∧St.cS f s'=s.serve
theorem yx{base x tb:Nat}{g:Gh}{cn:List (Int×Nat×Bs)}{w:World}{F:Ft}(T:Tabs base w)(h:(stA base x tb g cn s).holds w F)(hs:Sd n s)(hn:n<=16775000):Calls prog 42 #[pt x,pt tb] w fun e w'=>e= .returned (.tuple #[])∧ ∃g',Goes (stA base x tb g' cn s.serve) w F w':=by
 obtain⟨w1,kK⟩: ∃w1,w1=w.alloc (.cells #[pt x] 40):=⟨_,rfl⟩;obtain⟨bx,vQ⟩: ∃bx,bx=w.heap.size:=⟨_,rfl⟩;have HT:Hid (Tabs base w1):=by show Tabs base w1;rw[kK];exact T.new ((ah _ _).alloc (ae _) _)
 have HF:=hide (dx h);have px:bx<w1.heap.size:=by rw[kK,vQ];simp
 have Ml: ¬F bx:=fun hf=>by have:=aM.lt _ h bx hf;omega
 have cb1:w1.cell? ⟨bx,0,none⟩=some (pt x):=by rw[kK,vQ];simp only[World.cell?,heap_alloc_new];rfl
 have uN:Hid (gY base x tb cn n s w1 F g s w1):=⟨hs,by rw[kK];exact Goes.refl (fM h _),_,ae _,rfl⟩;have pL:Hid (∀(s2:St) (g':Gh) w',Goes (stA base x tb g' cn s2) w1 F w'->Goes (stA base x tb g' cn s2) w F w'):=fun s2 g' w' hg=>by rw[kK]at hg;exact ft hg
 have HCB:Hid (∀{A:aM} {w'},Goes A w1 F w'->w'.cell? ⟨bx,0,none⟩=some (pt x)):=fun hg=>by obtain⟨_,_,o,_⟩:=hg;rw[o.cell (p:=⟨bx,0,none⟩) px Ml];exact cb1
 have ZZ:=hide Ml;clear T h hs cb1 Ml;unfold pt at*;go_enter func42,ntmps42;go_wp2;rw[<-vQ,<-kK];clear kK vQ;go_loopw [] (fun wr=> ∃(g':Gh) (s':St),Hid (gY base x tb cn n s w1 F g' s' wr)) (fun wr=>Fp x wr)
 case atStart=>exact⟨g,s,uN⟩
 case round=>
  obtain⟨g',s',gB⟩:=hrel;have hz:=gB.out.sd.sz;have cb:=HCB.out gB.out.goes;have T1:=HT.out.goes HF.out gB.out.goes;obtain⟨F1,cd,o1,n1⟩:=gB.out.goes;obtain⟨ao,cap,R7,zW,HD⟩:=A5 cd gB.out.sd.inv (by omega) bx cb;have hlen:Fp x wr=s'.wait.length:=by unfold Fp;rw[HD.pu]
  have wL:=hide hlen;have c10:=HD.pu;have c9:=HD.ri;have LW:=HD.Dm;cases om:s'.wait with
  |nil=>
   have HX:Hid (∃g',Goes (stA base x tb g' cn s.serve) w F wr):=by obtain⟨f,_,e⟩:=gB.out.done;rw[JA om]at e;exact⟨g',pL.out _ _ _ (by rw[<-e];exact gB.out.goes)⟩
   rw[om]at c10;clear gB HD cd o1 n1 hlen LW T1;go_wp2;go_end0;exact⟨rfl,HX.out⟩
  |cons c ws=>
   obtain⟨b,off,rfl,cb0⟩:=HD.pu0 c ws om;have gS:s'.wait.length=ws.length+1:=by rw[om];rfl
   have jY:=hide HD.find;have j7:(0:Int)<((ws.length:Nat):Int)+1:=by omega
   cases hfd:(s'.ring.find? fun l=>decide ((s'.runs l.ten:Int)<s'.c.ca))with
   |none=>
    have HX:Hid (∀q,∃g',Goes (stA base x tb g' cn s.serve) w F (wr.drewN q)):=fun q=>by obtain⟨f,_,e⟩:=gB.out.done;rw[FP hfd]at e;exact⟨g',pL.out _ _ _ (by rw[<-e];exact gB.out.goes.drewN q)⟩
    rw[hfd]at jY;change Hid (Calls prog 71 _ wr fun e w'=>e= .returned (.pointer none)∧ ∃q,w'=wr.drewN q)at jY;rw[gS]at c10 LW;clear gB HD cd o1 n1 hlen T1;unfold pt at*;generalize ws.length=nw at*;generalize s'.ring.length=nr at*;go_wp2_with (first
     |(go_at_call 71;go_must(refine jY.out.mono ?_;rintro e w2⟨rfl,q,rfl⟩)))
    exact bodyPost_ret (results_none rfl _ _ _) rfl ⟨rfl,HX.out q⟩
   |some l=>
    obtain⟨k,hk,hl⟩:=DT hfd;obtain⟨id,q,hid,hq,hqt⟩:=St.zo gB.out.sd.inv hl;have KC:=dn hl;obtain⟨b2,fl,gz,ct1,cb2,Ae,oJ⟩:=HD.wt l KC id hid;rw[hfd]at jY;change Hid (Calls prog 71 _ wr fun e w'=>e= .returned (.pointer (some ⟨g'.tp l.ten,0,none⟩))∧ ∃q,w'=wr.drewN q)at jY;have NJ:Hid (∀q0,Calls prog 73 #[.pointer (some ⟨x,0,none⟩), .int .i64 c] (wr.drewN q0) fun e w1=>e= .returned (.tuple #[])∧w1.cell? ⟨bx,0,none⟩=some (.pointer (some ⟨x,0,none⟩))∧
      Hid (Calls prog 74 #[.pointer (some ⟨x,0,none⟩), .pointer (some ⟨g'.rp id,0,none⟩)] w1 fun e w2=>e= .returned (.tuple #[])∧w2.cell? ⟨bx,0,none⟩=some (.pointer (some ⟨x,0,none⟩))∧
       Hid (Calls prog 75 #[.pointer (some ⟨x,0,none⟩), .pointer (some ⟨g'.tp l.ten,0,none⟩)] w2 fun e w3=>e= .returned (.tuple #[])∧w3.cell? ⟨bx,0,none⟩=some (.pointer (some ⟨x,0,none⟩))∧
        Hid (Calls prog 76 #[.pointer (some ⟨x,0,none⟩), .pointer (some ⟨tb,0,none⟩), .int .i64 c, .pointer (some ⟨g'.rp id,0,none⟩)] w3 fun e w4=>e= .returned (.tuple #[])∧ ∃Ph,Goes (stA base x tb Ph cn (s'.give c ws k)) (wr.drewN q0) F1 w4)))):=fun q0=>
     TF (T1.below (uQ (ah _ _) q0)) (cB cd q0) gB.out.sd (by omega) om hl hid hq bx (by have:=o1.size;show bx<wr.heap.size;omega) (fun hf=>by
      rcases n1 bx hf with e|e
      ·exact ZZ.out e
      ·omega) cb
    have uM:Hid (∀q0 w4 Ph,Goes (stA base x tb Ph cn (s'.give c ws k)) (wr.drewN q0) F1 w4->gY base x tb cn n s w1 F Ph (s'.give c ws k) w4∧Fp x w4<s'.wait.length):=fun q0 w4 Ph hg=>by
     have kQ:=aF o1 n1 (eT hg);have vW:=gB.out.sd.give om k;have Yf:(s'.give c ws k).wait=ws:=by rw[St.xq hl hid hq];rfl
     refine⟨⟨vW,kQ, ?_⟩, ?_⟩
     ·obtain⟨f,hf,e⟩:=gB.out.done;rw[gS]at hf;obtain⟨f',rfl⟩: ∃f',f=f'+1:=⟨f-1,by omega⟩;refine⟨f',by rw[Yf];omega, ?_⟩;rw[<-e]
      conv=>rhs;unfold St.cS
      rw[om];dsimp only;rw[hk]
     ·have cb4:=HCB.out kQ;obtain⟨F4,th,_⟩:=kQ;obtain⟨_,_,_,_,HD4⟩:=A5 th vW.inv (by have:=vW.sz;omega) bx cb4;unfold Fp;rw[HD4.pu];dsimp only;rw[Yf,gS];omega
    rw[gS]at c10 LW uM wL;clear gB HD cd o1 n1 hlen T1 hq hqt hk hl KC hid hfd uN pL HCB ZZ HT HF;unfold pt at*;generalize ws.length=nw at*;generalize s'.ring.length=nr at*;generalize l.ids.length=ni at*;generalize g'.tp l.ten=tp at*;generalize g'.rp id=rp at*;go_wp2_with (first
     |(go_at_call 71;go_must(refine jY.out.mono ?_;rintro e w2⟨rfl,q0,rfl⟩)))
    go_quiet (fail)
    go_wp2_with (first
     |(go_at_call 73;go_must(refine(NJ.out _).mono ?_;rintro e w3⟨rfl,y1,JU⟩;clear NJ jY))
     |(go_at_call 74;go_must(refine JU.out.mono ?_;rintro e w4⟨rfl,y2,wJ⟩;clear JU))
     |(go_at_call 75;go_must(refine wJ.out.mono ?_;rintro e w5⟨rfl,y3,JV⟩;clear wJ))
     |(go_at_call 76;go_must(refine JV.out.mono ?_;rintro e w6⟨rfl,Ph,iJ⟩;obtain⟨hsv,PO⟩:=uM.out _ _ _ iJ;have abL:=hide hsv;have WH:=hide PO;clear JV iJ hsv PO)))
    go_roundw
    case rel=>exact⟨Ph,_,abL⟩
    case measure=>have:=WH.out;have:=wL.out;omega
variable{s:St}
theorem YX(w:World):(zeroValue 124).run prog w= .ok (.pointer none) w:=by kernel_rfl
section
variable{base x tb:Nat}{g:Gh}{cn:List (Int×Nat×Bs)}{s:St}{w:World}{F:Ft}
theorem yV(h:(stA base x tb g cn s).holds w F)(hi:Inv s)(id:Int)(hid:I6 id): ∃rm,w.cell? ⟨x,7,none⟩=some (.map (some rm))∧x<w.heap.size∧ ∀w1,Below w.heap.size w w1->(Instr.lookup 82 (.map (some rm)) (.int .i64 id) false).run prog w1= .ok (match s.req id with|some _=>pt (g.rp id)|none=> .pointer none) w1:=by
 obtain⟨j,r1,r2,r3,hF,hh⟩:=h;unfold jA at hh;rw[cx]at hh;obtain⟨v,hv⟩:=hh;obtain⟨Gj,rC,_⟩:=aM.left hv;have D:=yN rC;refine⟨v.rm,D.1 7,D.2.2,fun w1 hB=> ?_⟩;obtain⟨G,hG,_⟩:=aM.left (aB rC (show _=aa (jS g v.rm j.reqs) (aa (dB x j v) (aa (kN v.cm j.bT) (aa (jk g v.tm j.aW) (aa (all jo j.bT) (aa (all (dO g j.c.re) j.reqs) (aa (all (gA g) j.aW) (aa (fK g v.rv j.ring) (aa (jw v.pv j.pull) (aa (eY g v.lv j.hp) (hpA g j.hp))))))))))by unfold bk;ac_rfl));have od:=nN (Mr.au hG hB) (t:=82) (e:=124) underlying82 (YX w1) id hid;have Mf:(Instr.lookup 82 (.map (some v.rm)) (.int .i64 id) false).run prog w1= .ok (rY (j.reqs.map fun r=>(r.q.id,g.rp r.q.id)) id) w1:=od;rw[Mf];have kJ:(j.reqs.map fun r=>(r.q.id,g.rp r.q.id)).map (·.1)=s.reqs.map (·.id):=by rw[<-r1.reqs,aG,aG];rfl
 have jJ:=hi.rid;unfold St.ks at jJ;rw[aG]at jJ;cases hq:s.req id with
 |none=>
  have:id∉(j.reqs.map fun r=>(r.q.id,g.rp r.q.id)).map (·.1):=by rw[kJ];intro hm;obtain⟨r,hr,e⟩:=aA.1 hm;exact List.find?_eq_none.1 hq r hr (by simpa using e)
  rw[lO this]
 |some q=>obtain⟨r,hr,t,ht,er,ei,et,zY,CT⟩:=je r1 hq;have hl:=lQ (m:=j.reqs.map fun r=>(r.q.id,g.rp r.q.id)) (by rw[kJ];exact jJ) (aA.2 ⟨r,hr,rfl⟩);dsimp only at hl;rw[er,ei]at hl;rw[hl]
end
theorem OB(p nb cb:Nat)(n m c d:Int)(w:World)(h0:w.cell? ⟨p,0,none⟩=some (.int .i64 n))(h2:w.cell? ⟨p,2,none⟩=some (.int .i64 d))(hn:w.cell? ⟨nb,0,none⟩=some (.int .i64 m))(hc:w.cell? ⟨cb,0,none⟩=some (.int .i64 c)):Calls prog 225 #[.pointer (some ⟨p,0,none⟩), .pointer (some ⟨nb,0,none⟩), .pointer (some ⟨cb,0,none⟩)] w fun e w'=>e= .returned (.bool (n==m &&d==c))∧ ∃q,w'=w.drewN q:=by
 cases NZ:(n==m)with
 |true=>
  go_enter func225,ntmps225;go_wp2
  go_quiet (fail)
  go_wp2;go_ret;exact⟨by simp,_,rfl⟩
 |false=>
  go_enter func225,ntmps225;go_wp2
  go_quiet (fail)
  go_wp2;go_ret;exact⟨by simp,_,rfl⟩
theorem LO(ho:Ok s)(c id m:Int):(((s.af.filter (·.id==id)).find? fun a=>a.n==m &&a.conn==c).map fun a=>(key a:Int×Int))=(s.mine c id m).map fun _=>(id,m):=by
 cases hm:s.mine c id m with
 |none=>
  have h:=St.qV ho hm;have:((s.af.filter (·.id==id)).find? fun a=>a.n==m &&a.conn==c)=none:=by rw[List.find?_eq_none];intro a ha;rw[aR]at ha;intro e;simp only[bZ,beq_iff_eq]at e;exact h a ha.1 ⟨by simpa using ha.2,e.1,e.2⟩
  rw[this];rfl
 |some i=>
  obtain⟨a,h1,h2,h3,h4,_⟩:=St.qU hm;cases hf:((s.af.filter (·.id==id)).find? fun a=>a.n==m &&a.conn==c)with
  |none=>have:=List.find?_eq_none.1 hf a (aR.2 ⟨dn h1,by simpa using h2⟩);simp[h3,h4]at this
  |some b=>
   have hb:=dT hf;have hbp:=List.find?_some hf;rw[aR]at hb;simp only[bZ,beq_iff_eq]at hbp;have e1:b.id=id:=by simpa using hb.2
   simp only[Option.map_some];unfold key;rw[e1,hbp.1]
theorem vL{base x tb:Nat}{g:Gh}{cn:List (Int×Nat×Bs)}{w:World}{F:Ft}(h:(stA base x tb g cn s).holds w F)(hi:Inv s)(ho:Ok s)(hz:s.sz<=16777000)(c id m:Int)(hid:I6 id):Calls prog 186 #[pt x, .int .i64 c, .int .i64 id, .int .i64 m] w fun e w'=>e= .returned (ep ((s.mine c id m).map fun _=>g.ap (id,m)))∧Below w.heap.size w w':=by
 obtain⟨rm,c7,IC,zC⟩:=yV h hi id hid;have hB1:Below w.heap.size w ((w.alloc (.cells #[.int .i64 c] 3)).alloc (.cells #[.int .i64 m] 3)):=((ah _ _).alloc (ae _) _).alloc (by simp) _;have od:=zC _ hB1;have W8:((w.alloc (.cells #[.int .i64 c] 3)).alloc (.cells #[.int .i64 m] 3)).cell? ⟨x,7,none⟩=some (.map (some rm)):=by rw[hB1.cell (p:=⟨x,7,none⟩) IC];exact c7
 have HB:=hide hB1;cases hq:s.req id with
 |none=>
  rw[hq]at od;have hm:s.mine c id m=none:=by
   cases hm:s.mine c id m with
   |none=>rfl
   |some i=>obtain⟨a,h1,h2,_⟩:=St.qU hm;obtain⟨q,wT,_⟩:=St.cz (hi.bS a (dn h1));rw[h2,hq]at wT;cases wT
  rw[hm];have adn:=od;clear zC h hB1 od;unfold pt ep at*;go_enter func186,ntmps186;go_wp2;go_ret;exact⟨rfl,HB.out⟩
 |some q=>
  rw[hq]at od;obtain⟨ao,cap,cU,b9,RA⟩:=gK h hi hz hq;have c7r:((w.alloc (.cells #[.int .i64 c] 3)).alloc (.cells #[.int .i64 m] 3)).cell? ⟨g.rp id,7,none⟩=some (.slice ao (s.nums id).length cap):=by rw[hB1.cell (p:=⟨g.rp id,7,none⟩) RA.lt.1];exact RA.al
  have jY:Hid (Calls prog 166 #[.slice ao (s.nums id).length cap, .func (.func 225) #[] #[.pointer (some ⟨w.heap.size+1,0,none⟩), .pointer (some ⟨w.heap.size,0,none⟩)]] ((w.alloc (.cells #[.int .i64 c] 3)).alloc (.cells #[.int .i64 m] 3)) fun e w'=>e= .returned (ep ((s.mine c id m).map fun _=>g.ap (id,m)))∧Below w.heap.size w w'):=by
   have h0:=h;obtain⟨j,r1,r2,r3,hF,hh⟩:=h0;have wf:=fI r1 hi hz;obtain⟨r,hr,t,ht,er,ei,et,zY,CT⟩:=je r1 hq;obtain⟨v,av,wv,Md,hw⟩:=pc hh wf hr ht;obtain⟨G0,pD,_⟩:=RN hw;have Zd:av= .slice ao (s.nums id).length cap:=by have:=(Sn hw).1 7;rw[er,ei,RA.al]at this;have h2:some av=some (Value.slice ao (s.nums id).length cap):=this.symm;exact Option.some.inj h2
   have hL:(rowA 127 1 (.slice ao (s.nums id).length cap) (s.af.filter (·.id==id)).length ((s.af.filter (·.id==id)).map fun a=>pt (g.ap (key a)))).holds w G0:=by
    unfold lx at pD;rw[Zd,CT,er,ei]at pD;have e1:(s.nums id).length=(s.af.filter (·.id==id)).length:=by unfold St.nums;rw[bf]
    have e2:(s.nums id).map (fun n=>pt (g.ap (id,n)))=(s.af.filter (·.id==id)).map fun a=>pt (g.ap (key a)):=by
     unfold St.nums;rw[aG];refine bY fun a ha=> ?_;have:a.id=id:=by simpa using(aR.1 ha).2
     simp only[Function.comp_def];unfold key;rw[this]
    rw[e2]at pD;rw[<-e1];exact pD
   have px:=RA.Dm.1;have hfm:=LO ho c id m;show Calls _ _ _ _ _;have hf:=fiA (.slice ao (s.nums id).length cap) (s.af.filter (·.id==id)) (fun a=>g.ap (key a)) (fun a=>a.n==m &&a.conn==c) 225 #[.pointer (some ⟨w.heap.size+1,0,none⟩), .pointer (some ⟨w.heap.size,0,none⟩)] (enters_of func225 (by kernel_rfl) rfl) _ G0 (Mr.au hL hB1) (fun wr xB a ha=> ?_) (by unfold St.nums at px;rw[bf]at px;omega)
   ·refine hf.mono ?_;rintro e w'⟨rfl,q0,rfl⟩;refine⟨?_,uQ hB1 q0⟩;have:((s.af.filter (·.id==id)).find? fun a=>a.n==m &&a.conn==c).map (fun a=>g.ap (key a))=(((s.af.filter (·.id==id)).find? fun a=>a.n==m &&a.conn==c).map fun a=>(key a:Int×Int)).map g.ap:=by rw[Option.map_map];rfl
    rw[this,hfm,Option.map_map];rfl
   ·rw[aR]at ha;obtain⟨p0,p1,p2,p3⟩:=lY h hi hz ha.1;have ay:g.ap (key a)<w.heap.size:=World.block_lt_of_cell? w ⟨_,0,none⟩ p0;have iA:=hB1.size;refine OB (g.ap (key a)) (w.heap.size+1) w.heap.size a.n m c a.conn wr ?_ ?_ ?_ ?_
    ·rw[xB.cell (p:=⟨_,0,none⟩) (bP ay iA),hB1.cell (p:=⟨_,0,none⟩) ay];exact p0
    ·rw[xB.cell (p:=⟨_,2,none⟩) (bP ay iA),hB1.cell (p:=⟨_,2,none⟩) ay];exact p2
    ·rw[xB.cell (p:=⟨w.heap.size+1,0,none⟩) (by simp)];have:=heap_alloc_new (w.alloc (.cells #[.int .i64 c] 3)) (.cells #[.int .i64 m] 3);have cg:(w.alloc (.cells #[.int .i64 c] 3)).heap.size=w.heap.size+1:=by simp
     rw[cg]at this;simp only[World.cell?,this];rfl
    ·rw[xB.cell (p:=⟨w.heap.size,0,none⟩) (by simp;omega)];have h1:=heap_alloc_new w (.cells #[.int .i64 c] 3);have h2:=Below.heap_alloc (w.alloc (.cells #[.int .i64 c] 3)) (.cells #[.int .i64 m] 3) w.heap.size (by simp);rw[h1]at h2;simp only[World.cell?,h2];rfl
  clear zC h hB1 RA c7;unfold pt at*;generalize ep ((s.mine c id m).map fun _=>g.ap (id,m))=oo at*;generalize g.rp id=rp at*;generalize(s.nums id).length=nn at*;go_enter func186,ntmps186;go_wp2_with (first
   |(go_at_call 166;go_must(refine jY.out.mono ?_;rintro e w2⟨rfl,bN⟩;have Wt:=hide bN;clear bN)))
  go_ret;exact⟨rfl,Wt.out⟩
end Pj
namespace Pj
open Go.RowKit aM Mc bJ
attribute [local go_sem] ag ar
variable{s:St}{base x tb n:Nat}{g:Gh}{cn:List (Int×Nat×Bs)}{w:World}{F:Ft}
theorem Rh(id:Int)(t:Bs):said [.s [118,97,108], .n id, .s t]= [118,97,108,32]++cJ id++ [32]++t:=by simp[said,Lib.join,Part.txt]
theorem Busy.any(h:Busy s (fun _=>False))(P:Int->Prop):Busy s P:=h.mono (fun _ hf=>hf.elim)
def AV(s:St)(c:Int)(m:Mg):St:=
 match s.mine c m.id m.bS with
 |none=>s
 |some i=>match s.req m.id with|none=>s|some r=>((s.say r.conn ([118,97,108,32]++cJ m.id++ [32]++m.txt)).aS i).shut m.id
def AX(s:St)(c:Int)(m:Mg):St:=match s.mine c m.id m.bS with|none=>s|some i=>(s.aS i).again m.id true
theorem O2(T:Tabs base w)(h:(stA base x tb g cn s).holds w F)(hs:Sd n s)(hn:n<=16775000)(hb:Busy s (fun _=>False))(c:Int)(m:Mg)(hid:0<=m.id∧m.id<=999999)(htx:m.txt.length<=64):Calls prog 141 #[pt x,pt tb, .int .i64 c, .agg m.cs] w fun e w'=>e= .returned (.tuple #[])∧Goes (stA base x tb g cn (AV s c m)) w F w':=by
 obtain⟨w1,kK⟩: ∃w1,w1=w.alloc (.cells m.cs 149):=⟨_,rfl⟩;obtain⟨bx,vQ⟩: ∃bx,bx=w.heap.size:=⟨_,rfl⟩;have hB1:Below w.heap.size w w1:=by rw[kK];exact(ah _ _).alloc (ae _) _
 have T1:=T.new hB1;have h1:(stA base x tb g cn s).holds w1 F:=Mr.au h hB1;have px:bx<w1.heap.size:=by rw[kK,vQ];simp
 have Ml: ¬F bx:=fun hf=>by have:=aM.lt _ h bx hf;omega
 have ye: ∀k,w1.cell? ⟨bx,k,none⟩=m.cs[k]?:=fun k=>by rw[kK,vQ];simp only[World.cell?,heap_alloc_new];rfl
 have pL:Hid (∀(s2:St) w',Goes (stA base x tb g cn s2) w1 F w'->Goes (stA base x tb g cn s2) w F w'):=fun s2 w' hg=>by rw[kK]at hg;exact ft hg
 have hz:=hs.sz;have Hc:=vL h1 hs.inv hs.ok (by omega) c m.id m.bS (I6.of (by omega) (by omega));have b1:w1.cell? ⟨bx,1,none⟩=some (.int .i64 m.id):=ye 1;have b2:w1.cell? ⟨bx,2,none⟩=some (.int .i64 m.bS):=ye 2;have b4:w1.cell? ⟨bx,4,none⟩=some (.string ⟨m.txt.toArray⟩):=ye 4;cases hm:s.mine c m.id m.bS with
 |none=>
  have es:AV s c m=s:=by unfold AV;rw[hm]
  rw[es];have HX:Hid (∀w',Below w1.heap.size w1 w'->Goes (stA base x tb g cn s) w F w'):=fun w' iI=>pL.out _ _ ((Goes.refl h1).below iI);rw[hm]at Hc;change Calls prog 186 _ w1 fun e w'=>e= .returned (.pointer none)∧Below w1.heap.size w1 w' at Hc;have HW:=hide kK;have N6:=hide vQ;clear T h hs hB1 T1 h1 ye hb Ml kK vQ;unfold pt Mg.cs at*;go_enter func141,ntmps141;go_wp2_with fail;rw[<-N6.out,<-HW.out];go_wp2_with (first
   |(go_at_call 186;go_must(refine Hc.mono ?_;rintro e w2⟨rfl,bN⟩;have Wt:=hide bN;clear bN)))
  (try simp only[Exit.inBlock,Exit.then])
  exact bodyPost_ret (results_none rfl _ _ _) rfl ⟨rfl,HX.out _ Wt.out⟩
 |some i=>
  obtain⟨a,ha,DG,Ke,eac,_⟩:=St.qU hm;have rR:=dn ha;obtain⟨q,hq,yH,Ix⟩:=St.cz (hs.inv.bS a rR);rw[DG]at hq Ix;have CX:key a=(m.id,m.bS):=by unfold key;rw[DG,Ke]
  have es:AV s c m=((s.say q.conn ([118,97,108,32]++cJ m.id++ [32]++m.txt)).aS i).shut m.id:=by unfold AV;rw[hm];dsimp only;rw[hq]
  rw[es];rw[hm]at Hc;change Calls prog 186 _ w1 fun e w'=>e= .returned (.pointer (some ⟨g.ap (m.id,m.bS),0,none⟩))∧Below w1.heap.size w1 w' at Hc;have iA:=hs.say q.conn ([118,97,108,32]++cJ m.id++ [32]++m.txt);have Iz:=hs.stop q.conn ([118,97,108,32]++cJ m.id++ [32]++m.txt) ha;have HC:Hid (∀w2,Below w1.heap.size w1 w2->w2.cell? ⟨g.ap (m.id,m.bS),1,none⟩=some (pt (g.rp m.id))∧(w2.cell? ⟨g.rp m.id,0,none⟩=some (.int .i64 m.id)∧w2.cell? ⟨g.rp m.id,1,none⟩=some (.int .i64 q.conn)∧w2.cell? ⟨bx,4,none⟩=some (.string ⟨m.txt.toArray⟩))∧
    Hid (∀nq,Calls prog 89 #[pt tb, .int .i64 q.conn, .slice (some ⟨w2.heap.size,0,none⟩) 3 3] ((w2.alloc (.cells #[.iface 9 (.string ⟨#[118,97,108]⟩), .iface 3 (.int .i64 m.id), .iface 9 (.string ⟨m.txt.toArray⟩)] 20)).drewN nq) fun e w5=>e= .returned (.tuple #[])∧
     (w5.cell? ⟨g.rp m.id,0,none⟩=some (.int .i64 m.id)∧w5.cell? ⟨g.rp m.id,1,none⟩=some (.int .i64 q.conn)∧w5.cell? ⟨bx,4,none⟩=some (.string ⟨m.txt.toArray⟩))∧
     Hid (Calls prog 80 #[pt x,pt tb,pt (g.ap (m.id,m.bS))] w5 fun e w6=>e= .returned (.tuple #[])∧
      Hid (Calls prog 81 #[pt x,pt tb,pt (g.rp m.id)] w6 fun e w7=>e= .returned (.tuple #[])∧Goes (stA base x tb g cn (((s.say q.conn ([118,97,108,32]++cJ m.id++ [32]++m.txt)).aS i).shut m.id)) w F w7)))):=fun w2 hB2=>by
   have T2:=T1.new hB2;have h2:(stA base x tb g cn s).holds w2 F:=Mr.au h1 hB2;obtain⟨p0,p1,p2,p3⟩:=lY h2 hs.inv (by omega) rR;obtain⟨_,_,_,_,RA⟩:=gK h2 hs.inv (by omega) hq;rw[CX,DG]at p1;refine⟨p1,⟨RA.ci,RA.conn,by rw[hB2.cell (p:=⟨bx,4,none⟩) px];exact b4⟩,fun nq=> ?_⟩;have X5:=mM T2 h2 (by omega) q.conn [.s [118,97,108], .n m.id, .s m.txt] ([118,97,108,32]++cJ m.id++ [32]++m.txt) (Rh _ _) (by simp) (by simp) (by
    intro p hp;simp only[List.mem_cons,List.not_mem_nil,or_false]at hp;rcases hp with rfl|rfl|rfl
    ·exact Part.vy (by decide)
    ·exact Part.Cy (yI hid)
    ·exact Part.vy htx) nq
   refine X5.mono ?_;rintro e w5⟨rfl,g5⟩;have T5:=T2.goes (dx h) g5;obtain⟨F5,nZ,o5,n5⟩:=g5;obtain⟨_,_,_,_,RA5⟩:=gK nZ iA.inv (by have:=iA.sz;omega) (id:=m.id) (q:=q) hq;refine⟨rfl,⟨RA5.ci,RA5.conn, ?_⟩, ?_⟩
   ·have cg:=hB2.size;rw[o5.cell (p:=⟨bx,4,none⟩) (by show bx<w2.heap.size;omega) Ml,hB2.cell (p:=⟨bx,4,none⟩) px];exact b4
   show Calls _ _ _ _ _;rw[<-CX];refine(hE T5 nZ iA.inv iA.ok (by have:=iA.sz;omega) (i:=i) (a:=a) ha).mono ?_;rintro e w6⟨rfl,k,g6⟩;have g6':=aF o5 n5 g6.drop;have T6:=T2.goes (dx h) g6';refine⟨rfl, ?_⟩;obtain⟨F6,xu,o6,n6⟩:=g6';show Calls _ _ _ _ _;refine(jh T6 xu Iz (by omega) (id:=m.id) (q:=q) (by rw[qu];exact hq) ?_).mono ?_
   ·have:=Busy.aS (i:=i) (a:=a) ((Busy.any hb (fun y=>y=m.id)).say q.conn ([118,97,108,32]++cJ m.id++ [32]++m.txt)) ha;exact this.mono (fun y hy=>hy.elim (fun h=>h) (fun h=>h.trans DG))
   ·rintro e w7⟨rfl,g7⟩;refine⟨rfl,pL.out _ _ (aF ((Only.refl F w1).below hB2) (fun k hk=> .inl hk) (aF o6 n6 g7))⟩
  have HW:=hide kK;have N6:=hide vQ;clear T h hs hB1 T1 h1 ye hb Ml kK vQ iA Iz hm hq CX rR ha DG Ke eac;unfold pt Mg.cs at*;generalize g.ap (m.id,m.bS)=ap at*;generalize g.rp m.id=rp at*;go_enter func141,ntmps141;go_wp2_with fail;rw[<-N6.out,<-HW.out];go_wp2_with (first
   |(go_at_call 186;go_must(refine Hc.mono ?_;rintro e w2⟨rfl,bN⟩;obtain⟨y1,⟨y2,y3,y4⟩,gq⟩:=HC.out w2 bN;clear bN HC Hc)))
  have ny2:=World.new_ne w2 _ y2;have ny3:=World.new_ne w2 _ y3;have ny4:=World.new_ne w2 _ y4;go_region_held3 (fun w'=>w'.cell? ⟨rp,0,none⟩=some (.int .i64 m.id)∧w'.cell? ⟨rp,1,none⟩=some (.int .i64 q.conn)∧w'.cell? ⟨bx,4,none⟩=some (.string ⟨m.txt.toArray⟩)) (go_keep) (first
   |(go_at_call 89;go_must(refine(gq.out _).mono ?_;rintro e w5⟨rfl,⟨z0,z1,z2⟩,jq⟩)))
  all_goals
   go_wp2_with (first
    |(go_at_call 80;go_must(refine jq.out.mono ?_;rintro e w6⟨rfl,CS⟩;clear jq))
    |(go_at_call 81;go_must(refine CS.out.mono ?_;rintro e w7⟨rfl,u6⟩;have Hg:=hide u6;clear u6 CS)))
   go_end0;exact⟨rfl,Hg.out⟩
theorem O8(T:Tabs base w)(h:(stA base x tb g cn s).holds w F)(hs:Sd n s)(hn:n<=16775000)(hb:Busy s (fun _=>False))(c:Int)(m:Mg)(hid:0<=m.id∧m.id<=999999):Calls prog 142 #[pt x,pt tb, .int .i64 c, .agg m.cs] w fun e w'=>e= .returned (.tuple #[])∧Goes (stA base x tb g cn (AX s c m)) w F w':=by
 obtain⟨w1,kK⟩: ∃w1,w1=w.alloc (.cells m.cs 149):=⟨_,rfl⟩;obtain⟨bx,vQ⟩: ∃bx,bx=w.heap.size:=⟨_,rfl⟩;have hB1:Below w.heap.size w w1:=by rw[kK];exact(ah _ _).alloc (ae _) _
 have T1:=T.new hB1;have h1:(stA base x tb g cn s).holds w1 F:=Mr.au h hB1;have ye: ∀k,w1.cell? ⟨bx,k,none⟩=m.cs[k]?:=fun k=>by rw[kK,vQ];simp only[World.cell?,heap_alloc_new];rfl
 have pL:Hid (∀(s2:St) w',Goes (stA base x tb g cn s2) w1 F w'->Goes (stA base x tb g cn s2) w F w'):=fun s2 w' hg=>by rw[kK]at hg;exact ft hg
 have hz:=hs.sz;have Hc:=vL h1 hs.inv hs.ok (by omega) c m.id m.bS (I6.of (by omega) (by omega));have b1:w1.cell? ⟨bx,1,none⟩=some (.int .i64 m.id):=ye 1;have b2:w1.cell? ⟨bx,2,none⟩=some (.int .i64 m.bS):=ye 2;cases hm:s.mine c m.id m.bS with
 |none=>
  have es:AX s c m=s:=by unfold AX;rw[hm]
  rw[es];have HX:Hid (∀w',Below w1.heap.size w1 w'->Goes (stA base x tb g cn s) w F w'):=fun w' iI=>pL.out _ _ ((Goes.refl h1).below iI);rw[hm]at Hc;change Calls prog 186 _ w1 fun e w'=>e= .returned (.pointer none)∧Below w1.heap.size w1 w' at Hc;have HW:=hide kK;have N6:=hide vQ;clear T h hs hB1 T1 h1 ye hb kK vQ;unfold pt Mg.cs at*;go_enter func142,ntmps142;go_wp2_with fail;rw[<-N6.out,<-HW.out];go_wp2_with (first
   |(go_at_call 186;go_must(refine Hc.mono ?_;rintro e w2⟨rfl,bN⟩;have Wt:=hide bN;clear bN)))
  (try simp only[Exit.inBlock,Exit.then])
  exact bodyPost_ret (results_none rfl _ _ _) rfl ⟨rfl,HX.out _ Wt.out⟩
 |some i=>
  obtain⟨a,ha,DG,Ke,eac,_⟩:=St.qU hm;have rR:=dn ha;obtain⟨q,hq,yH,Ix⟩:=St.cz (hs.inv.bS a rR);rw[DG]at hq Ix;have CX:key a=(m.id,m.bS):=by unfold key;rw[DG,Ke]
  have es:AX s c m=(s.aS i).again m.id true:=by unfold AX;rw[hm]
  rw[es];rw[hm]at Hc;change Calls prog 186 _ w1 fun e w'=>e= .returned (.pointer (some ⟨g.ap (m.id,m.bS),0,none⟩))∧Below w1.heap.size w1 w' at Hc;have Iz:=hs.Kf i;have HC:Hid (∀w2,Below w1.heap.size w1 w2->Calls prog 80 #[pt x,pt tb,pt (g.ap (m.id,m.bS))] w2 fun e w6=>e= .returned (.tuple #[])∧w6.cell? ⟨g.ap (m.id,m.bS),1,none⟩=some (pt (g.rp m.id))∧
      Hid (Calls prog 67 #[pt x,pt tb,pt (g.rp m.id)] w6 fun e w7=>e= .returned (.tuple #[])∧Goes (stA base x tb g cn ((s.aS i).again m.id true)) w F w7)):=fun w2 hB2=>by
   have T2:=T1.new hB2;have h2:(stA base x tb g cn s).holds w2 F:=Mr.au h1 hB2;rw[<-CX];refine(hE T2 h2 hs.inv hs.ok (by omega) (i:=i) (a:=a) ha).mono ?_;rintro e w6⟨rfl,k,g6⟩;have g6c:=g6;obtain⟨F6',acb,_⟩:=g6c;have rD:=(dC (aB acb (cA _ _))).1;have g6':=g6.drop;have T6:=T2.goes (dx h) g6';refine⟨rfl,by simp only[World.cell?,rD];show some (pt (g.rp a.id))=_;rw[DG], ?_⟩;obtain⟨F6,xu,o6,n6⟩:=g6';show Calls _ _ _ _ _;refine(kZ T6 xu Iz (by omega) (id:=m.id) (q:=q) (by rw[qu];exact hq) ?_).mono ?_
   ·have:=Busy.aS (i:=i) (a:=a) (Busy.any hb (fun y=>y=m.id)) ha;exact this.mono (fun y hy=>hy.elim (fun h=>h) (fun h=>h.trans DG))
   ·rintro e w7⟨rfl,g7⟩;refine⟨rfl,pL.out _ _ (aF ((Only.refl F w1).below hB2) (fun k hk=> .inl hk) (aF o6 n6 g7))⟩
  have HW:=hide kK;have N6:=hide vQ;clear T h hs hB1 T1 h1 ye hb kK vQ Iz hm hq CX rR ha DG Ke eac;unfold pt Mg.cs at*;generalize g.ap (m.id,m.bS)=ap at*;generalize g.rp m.id=rp at*;go_enter func142,ntmps142;go_wp2_with fail;rw[<-N6.out,<-HW.out];go_wp2_with (first
   |(go_at_call 186;go_must(refine Hc.mono ?_;rintro e w2⟨rfl,bN⟩;have jq:=hide (HC.out w2 bN);clear bN HC Hc))
   |(go_at_call 80;go_must(refine jq.out.mono ?_;rintro e w6⟨rfl,y1,CS⟩;clear jq))
   |(go_at_call 67;go_must(refine CS.out.mono ?_;rintro e w7⟨rfl,u6⟩;have Hg:=hide u6;clear u6 CS)))
  go_end0;exact⟨rfl,Hg.out⟩
theorem Na(id:Int):said [.s [110,111,110,101], .n id]= [110,111,110,101,32]++cJ id:=by simp[said,Lib.join,Part.txt]
theorem M9(id:Int):said [.s [103,111,110,101], .n id]= [103,111,110,101,32]++cJ id:=by simp[said,Lib.join,Part.txt]
def Dq(s:St)(c id:Int):St:=
 match s.req id with
 |none=>s.say c ([110,111,110,101,32]++cJ id)
 |some r=>if r.conn==c then(s.say c ([103,111,110,101,32]++cJ id)).shut id else s.say c ([110,111,110,101,32]++cJ id)
theorem Hq{base x tb:Nat}{g:Gh}{cn:List (Int×Nat×Bs)}{s:St}{w:World}{F:Ft}{n:Nat}(T:Tabs base w)(h:(stA base x tb g cn s).holds w F)(hs:Sd n s)(hn:n<=16775000)(hb:Busy s (fun _=>False))(c id:Int)(hid:0<=id∧id<=999999):Calls prog 138 #[pt x,pt tb, .int .i64 c, .int .i64 id] w fun e w'=>e= .returned (.tuple #[])∧Goes (stA base x tb g cn (Dq s c id)) w F w':=by
 have hz:=hs.sz;obtain⟨rm,c7,IC,zC⟩:=yV h hs.inv id (I6.of (by omega) (by omega));have od:=zC w (ah _ _);have PS: ∀b:Bs,b.length<=64-> ∀p∈ [Part.s b,Part.n id],p.ok:=fun b hl p hp=>by
  simp only[List.mem_cons,List.not_mem_nil,or_false]at hp;rcases hp with rfl|rfl
  ·exact Part.vy hl
  ·exact Part.Cy (yI hid)
 have jr:=hide (mM T h (by omega) c [.s [110,111,110,101], .n id] ([110,111,110,101,32]++cJ id) (Na _) (by simp) (by simp) (PS _ (by decide)) 0);cases hq:s.req id with
 |none=>
  have es:Dq s c id=s.say c ([110,111,110,101,32]++cJ id):=by unfold Dq;rw[hq]
  rw[es];rw[hq]at od;clear T h hs zC hb PS;unfold pt at*;go_enter func138,ntmps138;go_wp2_with (first
   |(go_at_call 89;go_must(refine jr.out.mono ?_;rintro e w5⟨rfl,hg5⟩;have xf:=hide hg5;clear hg5)))
  (try simp only[Exit.inBlock,Exit.then])
  exact bodyPost_ret (results_none rfl _ _ _) rfl ⟨rfl,xf.out⟩
 |some q=>
  rw[hq]at od;obtain⟨_,_,_,_,RA⟩:=gK h hs.inv (by omega) hq;have c1:=RA.conn;cases hc:(q.conn==c)with
  |false=>
   have es:Dq s c id=s.say c ([110,111,110,101,32]++cJ id):=by unfold Dq;rw[hq];dsimp only;rw[hc];rfl
   rw[es];clear T h hs zC hb PS RA;unfold pt at*;generalize g.rp id=rp at*;go_enter func138,ntmps138;go_wp2_with (first
    |(go_at_call 89;go_must(refine jr.out.mono ?_;rintro e w5⟨rfl,hg5⟩;have xf:=hide hg5;clear hg5)))
   (try simp only[Exit.inBlock,Exit.then])
   exact bodyPost_ret (results_none rfl _ _ _) rfl ⟨rfl,xf.out⟩
  |true=>
   have es:Dq s c id=(s.say c ([103,111,110,101,32]++cJ id)).shut id:=by unfold Dq;rw[hq];dsimp only;rw[hc];rfl
   rw[es];have nt:=hide (mM T h (by omega) c [.s [103,111,110,101], .n id] ([103,111,110,101,32]++cJ id) (M9 _) (by simp) (by simp) (PS _ (by decide)) 0);have iA:=hs.say c ([103,111,110,101,32]++cJ id);have CS:Hid (∀w5,Goes (stA base x tb g cn (s.say c ([103,111,110,101,32]++cJ id))) w F w5->Calls prog 81 #[pt x,pt tb,pt (g.rp id)] w5 fun e w7=>e= .returned (.tuple #[])∧Goes (stA base x tb g cn ((s.say c ([103,111,110,101,32]++cJ id)).shut id)) w F w7):=fun w5 g5=>by have T5:=T.goes (dx h) g5;obtain⟨F5,nZ,o5,n5⟩:=g5;refine(jh T5 nZ iA (by omega) (id:=id) (q:=q) hq ((Busy.any hb _).say _ _)).mono ?_;rintro e w7⟨rfl,g7⟩;exact⟨rfl,aF o5 n5 g7⟩
   clear T h hs zC hb PS RA jr;unfold pt at*;generalize g.rp id=rp at*;go_enter func138,ntmps138;go_wp2_with (first
    |(go_at_call 89;go_must(refine nt.out.mono ?_;rintro e w5⟨rfl,hg5⟩;have HS5:=hide (CS.out _ hg5);clear hg5))
    |(go_at_call 81;go_must(refine HS5.out.mono ?_;rintro e w7⟨rfl,u6⟩;have Hg:=hide u6;clear u6)))
   go_end0;exact⟨rfl,Hg.out⟩
