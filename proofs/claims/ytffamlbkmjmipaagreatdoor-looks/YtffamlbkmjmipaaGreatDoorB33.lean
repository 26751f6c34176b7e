import Derived.Test.YtffamlbkmjmipaaGreatDoorB32
set_option maxHeartbeats 8000000
set_option maxRecDepth 100000
namespace Go.Proofs.YtffamlbkmjmipaaGreatDoor
open _root_.Go.Proofs.Tryz
namespace Pj
open Go.RowKit aM Mc
def jQ(g:Gh)(j:Js)(v:Dv)(r:Rr)(t:Tr):aM:=
 aa (kN v.cm j.bT) (aa (jS g v.rm j.reqs) (aa (jk g v.tm j.aW) (aa (all jo j.bT) (aa (all (dO g j.c.re) (j.reqs.filter fun y=>decide (y.q.id≠r.q.id))) (aa (all (gA g) (j.aW.filter fun y=>decide (y.nm≠t.nm))) (jw v.pv j.pull))))))
def jW(x:Nat)(g:Gh)(j:Js)(v:Dv)(q:Rq)(al:List Int)(t:Tr)(av wv:Value)(Q:aM):aM:=
 aa (dB x j v) (aa (fK g v.rv j.ring) (aa (eY g v.lv j.hp) (aa (hpA g j.hp) (aa (mj g j.c.re q av) (aa (lx g av q.id al) (aa (mS g t wv) (aa (l8 g wv t.wt) Q)))))))
def Js.at2(j:Js)(id:Int)(nm:Bs)(q:Rq)(al:List Int)(t:Tr):Js:=
 {j with reqs:=upd (fun r:Rr=>r.q.id) id (fun _=>⟨q,al⟩) j.reqs,aW:=upd (fun t:Tr=>t.nm) nm (fun _=>t) j.aW}
theorem lq{α κ:Type} [DecidableEq κ]{k:α->κ}{l:List α}(hn:(l.map k).Nodup){y:α}(hy:y∈l)(f:α->α):upd k (k y) f l=upd k (k y) (fun _=>f y) l:=by
 unfold upd;refine bY fun z hz=> ?_;split
 ·rename_i e;rw[ck (k:=k) hn hz hy e]
 ·rfl
section
variable{x:Nat}{g:Gh}{j:Js}{v:Dv}{r:Rr}{t:Tr}{q:Rq}{al:List Int}{av wv:Value}{B Q:aM}{w w':World}{F:Ft}
theorem QR(h1:(j.reqs.map fun r=>r.q.id).Nodup)(h2:(j.aW.map (·.nm)).Nodup)(hr:r∈j.reqs)(ht:t∈j.aW):aa (bk x g j v) B=ex fun av=>ex fun wv=>jW x g j v r.q r.al t av wv (aa (jQ g j v r t) B):=by
 have e1:bk x g j v=aa (dB x j v) (aa (fK g v.rv j.ring) (aa (eY g v.lv j.hp) (aa (hpA g j.hp) (aa (dO g j.c.re r) (aa (gA g t) (jQ g j v r t)))))):=by
  unfold bk jQ;rw[my (A:=dO g j.c.re) (k:=fun r:Rr=>r.q.id) h1 hr,my (A:=gA g) (k:=fun t:Tr=>t.nm) h2 ht]
  ac_rfl
 have e2:aa (dB x j v) (aa (fK g v.rv j.ring) (aa (eY g v.lv j.hp) (aa (hpA g j.hp) (aa (dO g j.c.re r) (aa (gA g t) (jQ g j v r t))))))=aa (dO g j.c.re r) (aa (gA g t) (aa (dB x j v) (aa (fK g v.rv j.ring) (aa (eY g v.lv j.hp) (aa (hpA g j.hp) (jQ g j v r t)))))):=by ac_rfl
 rw[e1,e2,bX,bX];unfold dO gA;rw[cx];congr 1;funext av;rw[cx,im];congr 1;funext wv;unfold jW
 ac_rfl
theorem pc(h:(aa (jA x g j) B).holds w F)(wf:Wf j)(hr:r∈j.reqs)(ht:t∈j.aW): ∃v av wv,(aa (bk x g j v) B).holds w F∧(jW x g j v r.q r.al t av wv (aa (jQ g j v r t) B)).holds w F:=by unfold jA at h;rw[cx]at h;obtain⟨v,h⟩:=h;obtain⟨av,wv,h2⟩:=aB h (QR wf.rid wf.rj hr ht);exact⟨v,av,wv,h,h2⟩
theorem w_shut(j':Js)(v':Dv){t':Tr}(wf:Wf j)(hr:r∈j.reqs)(ht:t∈j.aW)(eq:q.id=r.q.id)(et:t'.nm=t.nm)(e1:j'.c=j.c)(e2:j'.bT=j.bT)(e3:j'.reqs=j.reqs)(e4:j'.aW=j.aW)(e5:j'.pull=j.pull)(e6:v'.cm=v.cm)(e7:v'.rm=v.rm)(e8:v'.tm=v.tm)(e9:v'.pv=v.pv)(h:Goes (jW x g j' v' q al t' av wv (aa (jQ g j v r t) B)) w F w'):Goes (aa (jA x g (j'.at2 r.q.id t.nm q al t')) B) w F w':=by
 refine h.mono fun F' h'=> ?_;unfold jA;rw[cx];refine⟨v', ?_⟩;have qO:(⟨q,al⟩:Rr)∈(j'.at2 r.q.id t.nm q al t').reqs:=by show _∈upd _ _ _ _;rw[e3];exact CO (f:=fun _=>(⟨q,al⟩:Rr)) hr rfl
 have El:t'∈(j'.at2 r.q.id t.nm q al t').aW:=by show _∈upd _ _ _ _;rw[e4];exact CO (f:=fun _=>t') ht rfl
 have m1:(j'.at2 r.q.id t.nm q al t').reqs.map (fun r=>r.q.id)=j.reqs.map fun r=>r.q.id:=by show(upd _ _ _ j'.reqs).map _=_;rw[e3];exact ib _ (fun y _ ey=>eq.trans ey.symm)
 have m2:(j'.at2 r.q.id t.nm q al t').aW.map (·.nm)=j.aW.map (·.nm):=by show(upd _ _ _ j'.aW).map _=_;rw[e4];exact ib _ (fun y _ ey=>et.trans ey.symm)
 show(aa (bk x g (j'.at2 r.q.id t.nm q al t') v') B).holds w' F';rw[QR (r:=⟨q,al⟩) (t:=t') (by rw[m1];exact wf.rid) (by rw[m2];exact wf.rj) qO El];refine⟨av,wv,aB h' ?_⟩;have f1:(j'.at2 r.q.id t.nm q al t').reqs.filter (fun y=>decide (y.q.id≠q.id))=j.reqs.filter fun y=>decide (y.q.id≠r.q.id):=by
  show(upd _ _ _ j'.reqs).filter _=_;rw[e3,eq];unfold upd;rw[List.filter_map];have: ∀l:List Rr,(l.filter ((fun y=>decide (y.q.id≠r.q.id))∘fun z=>if z.q.id=r.q.id then⟨q,al⟩else z)).map (fun z=>if z.q.id=r.q.id then⟨q,al⟩else z)=l.filter fun y=>decide (y.q.id≠r.q.id):=by
   intro l
   induction l with
   |nil=>rfl
   |cons z l ih=>
    by_cases ez:z.q.id=r.q.id
    ·rw[List.filter_cons_of_neg (by simp[ez,eq]),List.filter_cons_of_neg (by simp[ez]),ih]
    ·rw[List.filter_cons_of_pos (by simp[ez]),List.filter_cons_of_pos (by simp[ez]),List.map_cons,if_neg ez,ih]
  exact this _
 have f2:(j'.at2 r.q.id t.nm q al t').aW.filter (fun y=>decide (y.nm≠t'.nm))=j.aW.filter fun y=>decide (y.nm≠t.nm):=by
  show(upd _ _ _ j'.aW).filter _=_;rw[e4,et];unfold upd;rw[List.filter_map];have: ∀l:List Tr,(l.filter ((fun y=>decide (y.nm≠t.nm))∘fun z=>if z.nm=t.nm then t' else z)).map (fun z=>if z.nm=t.nm then t' else z)=l.filter fun y=>decide (y.nm≠t.nm):=by
   intro l
   induction l with
   |nil=>rfl
   |cons z l ih=>
    by_cases ez:z.nm=t.nm
    ·rw[List.filter_cons_of_neg (by simp[ez,et]),List.filter_cons_of_neg (by simp[ez]),ih]
    ·rw[List.filter_cons_of_pos (by simp[ez]),List.filter_cons_of_pos (by simp[ez]),List.map_cons,if_neg ez,ih]
  exact this _
 have g1:jS g v'.rm (j'.at2 r.q.id t.nm q al t').reqs=jS g v.rm j.reqs:=by
  unfold jS;rw[e7];congr 1;have: ∀l:List Rr,l.map (fun r=>(r.q.id,g.rp r.q.id))=(l.map fun r=>r.q.id).map fun i=>(i,g.rp i):=fun l=>by rw[aG];rfl
  rw[this,m1,<-this]
 have g2:jk g v'.tm (j'.at2 r.q.id t.nm q al t').aW=jk g v.tm j.aW:=by
  unfold jk;rw[e8];congr 1;have: ∀l:List Tr,l.map (fun t=>(t.nm,g.tp t.nm))=(l.map fun t=>t.nm).map fun i=>(i,g.tp i):=fun l=>by rw[aG];rfl
  rw[this,m2,<-this]
 have g3:jQ g (j'.at2 r.q.id t.nm q al t') v' ⟨q,al⟩ t'=jQ g j v r t:=by unfold jQ;rw[g1,g2];dsimp only;rw[f1,f2];show aa (kN v'.cm j'.bT) (aa _ (aa _ (aa (all jo j'.bT) (aa (all (dO g j'.c.re) _) (aa _ (jw v'.pv j'.pull))))))=_;rw[e1,e2,e5,e6,e9]
 rw[g3];rfl
theorem YU(h:(jW x g j v q al t av wv Q).holds w F):(∀k,w.cell? ⟨x,k,none⟩=(zE j v)[k]?)∧(∀k,w.frozen? ⟨x,k,none⟩=false)∧mn w x:=by have:=bQ h;exact⟨this.1,this.2.1,_,_,this.2.2⟩
theorem Sn(h:(jW x g j v q al t av wv Q).holds w F):(∀k,w.cell? ⟨g.rp q.id,k,none⟩=(gV g j.c.re q av)[k]?)∧(∀k,w.frozen? ⟨g.rp q.id,k,none⟩=false)∧mn w (g.rp q.id):=by have:=bQ (aB h (show _=aa (mj g j.c.re q av) (aa (dB x j v) (aa (fK g v.rv j.ring) (aa (eY g v.lv j.hp) (aa (hpA g j.hp) (aa (lx g av q.id al) (aa (mS g t wv) (aa (l8 g wv t.wt) Q)))))))by unfold jW;ac_rfl));exact⟨this.1,this.2.1,_,_,this.2.2⟩
theorem Zr(h:(jW x g j v q al t av wv Q).holds w F):(∀k,w.cell? ⟨g.tp t.nm,k,none⟩=(JI t wv)[k]?)∧(∀k,w.frozen? ⟨g.tp t.nm,k,none⟩=false)∧mn w (g.tp t.nm):=by have:=bQ (aB h (show _=aa (mS g t wv) (aa (dB x j v) (aa (fK g v.rv j.ring) (aa (eY g v.lv j.hp) (aa (hpA g j.hp) (aa (mj g j.c.re q av) (aa (lx g av q.id al) (aa (l8 g wv t.wt) Q)))))))by unfold jW;ac_rfl));exact⟨this.1,this.2.1,_,_,this.2.2⟩
theorem RO(h:Goes (jW x g j v q al t av wv Q) w F w')(k:Nat)(u:Value)(q':Rq)(e:(gV g j.c.re q av).setIfInBounds k u=gV g j.c.re q' av)(ei:q'.id=q.id):Goes (jW x g j v q' al t av wv Q) w F (w'.setCell ⟨g.rp q.id,k,none⟩ u):=by
 have h2:=h.eq (show _=aa (blk (g.rp q.id) (.cells (gV g j.c.re q av) 132 (0,0))) (aa (dB x j v) (aa (fK g v.rv j.ring) (aa (eY g v.lv j.hp) (aa (hpA g j.hp) (aa (lx g av q.id al) (aa (mS g t wv) (aa (l8 g wv t.wt) Q)))))))by unfold jW mj;ac_rfl);refine(h2.store k u).eq ?_;rw[e,<-ei];unfold jW mj;rw[ei]
 ac_rfl
theorem RP(h:Goes (jW x g j v q al t av wv Q) w F w')(rn:Int):Goes (jW x g j v q al {t with rn:=rn} av wv Q) w F (w'.setCell ⟨g.tp t.nm,2,none⟩ (.int .i64 rn)):=by
 have h2:=h.eq (show _=aa (blk (g.tp t.nm) (.cells (JI t wv) 92 (0,0))) (aa (dB x j v) (aa (fK g v.rv j.ring) (aa (eY g v.lv j.hp) (aa (hpA g j.hp) (aa (mj g j.c.re q av) (aa (lx g av q.id al) (aa (l8 g wv t.wt) Q)))))))by unfold jW mS;ac_rfl);refine(h2.store 2 (.int .i64 rn)).eq ?_;show aa (mS g {t with rn:=rn} wv) _=_;unfold jW
 ac_rfl
theorem Vp(h:Goes (jW x g j v q al t av wv Q) w F w')(b:Nat):Goes (jW x g {j with begun:=b} v q al t av wv Q) w F (w'.setCell ⟨x,12,none⟩ (.int .i64 b)):=by have h2:=h.eq (show _=aa (blk x (.cells (zE j v) 88 (0,0))) (aa (fK g v.rv j.ring) (aa (eY g v.lv j.hp) (aa (hpA g j.hp) (aa (mj g j.c.re q av) (aa (lx g av q.id al) (aa (mS g t wv) (aa (l8 g wv t.wt) Q)))))))by unfold jW dB;rfl);exact h2.store 12 (.int .i64 b)
theorem RN(h:(jW x g j v q al t av wv Q).holds w F): ∃G,(lx g av q.id al).holds w G∧ ∀al' J4 w2,Goes (lx g J4 q.id al') w G w2->w2.cell? ⟨g.rp q.id,7,none⟩=some av∧w2.frozen? ⟨g.rp q.id,7,none⟩=false∧Goes (jW x g j v q al' t J4 wv Q) w F (w2.setCell ⟨g.rp q.id,7,none⟩ J4):=by
 have h2:=aB h (show _=aa (lx g av q.id al) (aa (mj g j.c.re q av) (aa (dB x j v) (aa (fK g v.rv j.ring) (aa (eY g v.lv j.hp) (aa (hpA g j.hp) (aa (mS g t wv) (aa (l8 g wv t.wt) Q)))))))by unfold jW;ac_rfl);obtain⟨G,H,ha,hb,d,e⟩:=h2;refine⟨G,ha,fun al' J4 w2 hg=> ?_⟩;have g1:=aV hb hg d e;have g2:=g1.eq (show _=aa (blk (g.rp q.id) (.cells (gV g j.c.re q av) 132 (0,0))) (aa (lx g J4 q.id al') (aa (dB x j v) (aa (fK g v.rv j.ring) (aa (eY g v.lv j.hp) (aa (hpA g j.hp) (aa (mS g t wv) (aa (l8 g wv t.wt) Q)))))))by unfold mj;ac_rfl);obtain⟨F2,eX,_⟩:=id g2;obtain⟨cl,fz,_⟩:=bQ eX;refine⟨cl 7,fz 7,(g2.store 7 J4).eq ?_⟩;show aa (mj g j.c.re q J4) _=_;unfold jW
 ac_rfl
theorem ac9(h:(jW x g j v q al t av wv Q).holds w F): ∃G,(gy x (zE j v) g v.lv j.hp).holds w G∧ ∀bB mI R w2,Goes (aa (gy x ((zE j v).setIfInBounds 11 mI) g mI bB) R) w G w2->Goes (jW x g {j with hp:=bB} {v with lv:=mI} q al t av wv (aa Q R)) w F w2:=by
 have h2:=aB h (show _=aa (gy x (zE j v) g v.lv j.hp) (aa (fK g v.rv j.ring) (aa (mj g j.c.re q av) (aa (lx g av q.id al) (aa (mS g t wv) (aa (l8 g wv t.wt) Q)))))by unfold jW gy Av dB;ac_rfl);obtain⟨G,H,ha,hb,d,e⟩:=h2;refine⟨G,ha,fun bB mI R w2 hg=> ?_⟩;refine(aV hb hg d e).eq ?_;have:gy x ((zE j v).setIfInBounds 11 mI) g mI bB=aa (dB x {j with hp:=bB} {v with lv:=mI}) (aa (eY g mI bB) (hpA g bB)):=rfl;rw[this];unfold jW;dsimp only
 ac_rfl
theorem w_at(h:(jW x g j v q al t av wv Q).holds w F): ∀i (hi:i<j.hp.length),w.heap[g.ap (key j.hp[i])]?=some (.cells (fW g j.hp[i] i) 126 (0,0)):=by
 have h4:=aB h (show _=aa (hpA g j.hp) (aa (dB x j v) (aa (fK g v.rv j.ring) (aa (eY g v.lv j.hp) (aa (mj g j.c.re q av) (aa (lx g av q.id al) (aa (mS g t wv) (aa (l8 g wv t.wt) Q)))))))by unfold jW;ac_rfl);intro i hi;have hz:i<j.hp.zipIdx.length:=by simpa using hi
 have h5:=aB h4 (show _=aa (gD g j.hp[i] i) (aa (all (fun x:At×Nat=>gD g x.1 x.2) (j.hp.zipIdx.eraseIdx i)) (aa (dB x j v) (aa (fK g v.rv j.ring) (aa (eY g v.lv j.hp) (aa (mj g j.c.re q av) (aa (lx g av q.id al) (aa (mS g t wv) (aa (l8 g wv t.wt) Q))))))))by unfold hpA;rw[sw hz,bX];simp)
 exact(dC h5).1
end
end Pj
namespace Pj
open Go.RowKit aM Mc
attribute [local go_sem] ag ar
section
variable{base x tb:Nat}{g:Gh}{cn:List (Int×Nat×Bs)}{s:St}{j:Js}{w w':World}{F:Ft}
theorem YO{j':Js}{s':St}{R:aM}(T:Tabs base w)(hF: ∀k,F k->base<=k)(h1:Rel g j' s')(h2:Cw j')(h3:jx j'=cn)(h:Goes (aa (jA x g j') (aa (wD tb s'.out) R)) w F w'):Goes (aa (stA base x tb g cn s') R) w F w':=by
 rw[<-bX]at h;obtain⟨F',h',o,n⟩:=h;refine⟨F', ?_,o,n⟩;obtain⟨G,H,ha,hb,d,e⟩:=h';refine⟨G,H,⟨j',h1,h2,h3,fun k hk=> ?_,ha⟩,hb,d,e⟩;rcases n k ((e k).2 (.inl hk))with e'|e'
 ·exact hF k e'
 ·exact aw T.1 e'
theorem Jr(h:Rel g j s)(hi:Inv s){a:At}(ha:a∈s.af): ∃r∈j.reqs,∃t∈j.aW,r.q.id=a.id∧s.req a.id=some r.q∧t.nm=r.q.ten∧s.ten a.id=t.nm∧r.al=s.nums a.id:=by obtain⟨q0,Ba,ng,qN⟩:=St.cz (hi.bS a ha);rw[<-h.reqs]at ng;obtain⟨r,hr,rfl⟩:=aA.1 ng;obtain⟨t,ht,et⟩:=aA.1 (h.ten r.q (by rw[<-h.reqs];exact aA.2 ⟨r,hr,rfl⟩));refine⟨r,hr,t,ht,qN,Ba,et, ?_,by rw[h.al r hr,qN]⟩;unfold St.ten;rw[Ba];exact et.symm
theorem qo{id n:Int}:n∈s.nums id↔ ∃a∈s.af,a.id=id∧a.n=n:=by
 unfold St.nums;rw[aA];constructor
 ·rintro⟨a,h,e⟩;rw[aR]at h;exact⟨a,h.1,by simpa using h.2,e⟩
 ·rintro⟨a,h,e1,e2⟩;exact⟨a,aR.2 ⟨h,by simpa using e1⟩,e2⟩
theorem AW(hi:Inv s){c:Int}(h:(s.aq.any fun x=>x.n==c &&x.drains && !x.gone)=true):s.drains c=true:=by
 obtain⟨y,hy,e⟩:=List.any_eq_true.1 h;simp only[bZ,beq_iff_eq]at e;unfold St.drains;cases hf:s.aq.find? (·.n==c)with
 |none=>exact absurd e.1.1 (by simpa using List.find?_eq_none.1 hf y hy)
 |some z=>
  have hz:=dT hf;have ez:z.n=c:=by simpa using List.find?_some hf
  rw[ck (k:=fun x:Cn=>x.n) hi.cn hz hy (by rw[ez,e.1.1])];exact e.1.2
end
theorem hE{base x tb:Nat}{g:Gh}{cn:List (Int×Nat×Bs)}{s:St}{w:World}{F:Ft}(T:Tabs base w)(h:(stA base x tb g cn s).holds w F)(hi:Inv s)(ho:Ok s)(hz:s.sz<=16777000){i:Nat}{a:At}(ha:s.af[i]?=some a):Calls prog 80 #[pt x,pt tb,pt (g.ap (key a))] w fun e w'=>e= .returned (.tuple #[])∧ ∃k,Goes (aa (stA base x tb g cn (s.aS i)) (gD g a k)) w F w':=by
 obtain⟨j,r1,r2,r3,hF,hh⟩:=id h;have wf:=fI r1 hi hz;have rR:a∈s.af:=dn ha;obtain⟨r,hr,t,ht,er,eq,et,zY,CT⟩:=Jr r1 hi rR;obtain⟨v,av,wv,Md,hw⟩:=pc hh wf hr ht;obtain⟨kk,nC,oc⟩:=List.mem_iff_getElem.1 (r1.hp.symm.subset rR);have oa:=w_at hw kk nC;rw[oc]at oa;obtain⟨Gj,rC,_⟩:=aM.left Md;obtain⟨hpn,hpb⟩:=ac1 rC;have ca1:w.cell? ⟨g.ap (key a),1,none⟩=some (pt (g.rp r.q.id)):=by simp only[World.cell?,oa];rw[er];rfl
 have cr7:w.cell? ⟨g.rp r.q.id,7,none⟩=some av:=(Sn hw).1 7;obtain⟨G0,pD,uN⟩:=RN hw;obtain⟨ao,cap,rfl⟩:=aX (Goes.refl pD);have Ag: ∀y∈r.al,∃b∈j.hp,key b=(r.q.id,y):=fun y hy=>by rw[CT]at hy;obtain⟨b,hb,e1,e2⟩:=qo.1 hy;exact⟨b,r1.hp.symm.subset hb,by unfold key;rw[e1,e2,er]⟩
 have CX:key a=(r.q.id,a.n):=by unfold key;rw[er]
 have hpa:a∈j.hp:=r1.hp.symm.subset rR;have NM:=woA _ r.al (fun n=>g.ap (r.q.id,n)) a.n w G0 pD (fun y hy e=>by
  obtain⟨b,hb,eb⟩:=Ag y hy;have:b=a:=ck (k:=fun a=>g.ap (key a)) hpn hb hpa (by show g.ap (key b)=g.ap (key a);rw[eb,CX];exact e);rw[this,CX]at eb;exact(congrArg Prod.snd eb).symm) (fun y hy=>by
  obtain⟨b,hb,eb⟩:=Ag y hy;show mn w (g.ap (r.q.id,y));rw[<-eb];exact hpb b hb) (by show mn w (g.ap (r.q.id,a.n));rw[<-CX];exact hpb a hpa) (by have:=wf.al r hr;omega)
 have Sh:=wf.b5 t ht;have l9:=wf.b4;have Od:Hid (∀v1 w1,Goes (rowA 127 1 v1 (r.al.erase a.n).length ((r.al.erase a.n).map fun n=>pt (g.ap (r.q.id,n)))) w G0 w1->
   w1.cell? ⟨g.rp r.q.id,7,none⟩=some (.slice ao r.al.length cap)∧w1.frozen? ⟨g.rp r.q.id,7,none⟩=false∧
   (w1.setCell ⟨g.rp r.q.id,7,none⟩ v1).cell? ⟨g.rp r.q.id,2,none⟩=some (pt (g.tp t.nm))∧
   (w1.setCell ⟨g.rp r.q.id,7,none⟩ v1).cell? ⟨g.tp t.nm,2,none⟩=some (.int .i64 t.rn)∧
   (w1.setCell ⟨g.rp r.q.id,7,none⟩ v1).frozen? ⟨g.tp t.nm,2,none⟩=false∧
   ((w1.setCell ⟨g.rp r.q.id,7,none⟩ v1).setCell ⟨g.tp t.nm,2,none⟩ (.int .i64 (t.rn-1))).cell? ⟨g.ap (key a),6,none⟩=some (.int .i64 (kk:Int))∧
   Hid (Calls prog 126 #[xA x, .int .i64 (kk:Int)] ((w1.setCell ⟨g.rp r.q.id,7,none⟩ v1).setCell ⟨g.tp t.nm,2,none⟩ (.int .i64 (t.rn-1))).drew fun e w5=> ∃u,e= .returned u∧w5.cell? ⟨g.ap (key a),2,none⟩=some (.int .i64 a.conn)∧
    Hid (Calls prog 127 #[pt x,pt tb, .int .i64 a.conn] w5 fun e w'=>e= .returned (.tuple #[])∧ ∃k,Goes (aa (stA base x tb g cn (s.aS i)) (gD g a k)) w F w'))):=fun v1 w1 hg=>by
  obtain⟨d1,d2,d3⟩:=uN _ v1 w1 hg;obtain⟨F2,eX,_⟩:=id d3;have q2:=(Sn eX).1 2;have t2:=(Zr eX).1 2;have d4:=RP d3 (t.rn-1);obtain⟨F3,iX,o3,n3⟩:=d4;have aaz:=w_at iX kk nC;rw[oc]at aaz;refine⟨d1,d2,by rw[q2,et];rfl,t2,(Zr eX).2.1 2,by simp only[World.cell?,aaz];rfl, ?_⟩;obtain⟨G3,Kr,HL⟩:=ac9 (cB iX 1);show Calls _ _ _ _ _;refine(Ek x _ g _ j.hp kk _ G3 (by rfl) Kr nC r1.heap (by omega)).mono ?_;rintro e w5⟨u,bB,mI,k,rfl,fw,vR,hg5⟩;rw[oc]at fw hg5;have g5:=HL bB mI (gD g a k) w5 hg5;have g6:=aF o3 n3 (eT (q:=1) g5);obtain⟨F6,xu,o6,n6⟩:=id g6;have ach:w5.heap[g.ap (key a)]?=some (.cells (fW g a k) 126 (0,0)):=by have:=aB xu (show _=aa (gD g a k) (aa (dB x {j with hp:=bB} {v with lv:=mI}) (aa (fK g v.rv j.ring) (aa (eY g mI bB) (aa (hpA g bB) (aa (mj g j.c.re r.q v1) (aa (lx g v1 r.q.id (r.al.erase a.n)) (aa (mS g {t with rn:=t.rn-1} wv) (aa (l8 g wv t.wt) (aa (jQ g j v r t) (wD tb s.out))))))))))by unfold jW;ac_rfl);exact(dC this).1
  refine⟨u,rfl,by simp only[World.cell?,ach];rfl, ?_⟩;have g7:=g6.eq (show _=jW x g {j with hp:=bB} {v with lv:=mI} r.q (r.al.erase a.n) {t with rn:=t.rn-1} v1 wv (aa (jQ g j v r t) (aa (wD tb s.out) (gD g a k)))by rw[<-bX]);have g8:=w_shut (v:=v) (q:=r.q) (t':={t with rn:=t.rn-1}) {j with hp:=bB} {v with lv:=mI} wf hr ht rfl rfl rfl rfl rfl rfl rfl rfl rfl rfl rfl g7;have ej:Js.at2 {j with hp:=bB} r.q.id t.nm r.q (r.al.erase a.n) {t with rn:=t.rn-1}=j.ended a (s.ten a.id) bB:=by unfold Js.at2 Js.ended;rw[zY,<-er];rw[lq (k:=fun r:Rr=>r.q.id) wf.rid hr (fun r=>{r with al:=r.al.erase a.n}),lq (k:=fun t:Tr=>t.nm) wf.rj ht (fun t=>{t with rn:=t.rn-1})]
  rw[ej]at g8;have r8:=r1.ended ho ha bB fw vR;have cw8:Cw (j.ended a (s.ten a.id) bB):=⟨fun b hb=>r2.1 b (fw.subset (bt _ hb)),r2.2⟩;have g9:=YO (s':={s with af:=s.af.eraseIdx i}) T hF r8 cw8 r3 g8;have T5:Tabs base w5:=T.goes hF g9;obtain⟨F9,hF9,o9,n9⟩:=g9;have GP:Inv {s with af:=s.af.eraseIdx i}:=St.tB hi _ (fun b hb=>hi.bS b (List.mem_of_mem_eraseIdx hb));have dN:({s with af:=s.af.eraseIdx i}:St).sz<=16777000:=by unfold St.sz at hz⊢;have:(s.af.eraseIdx i).length<=s.af.length:=List.length_eraseIdx_le ..;dsimp only;omega
  have wQ:s.aS i=({s with af:=s.af.eraseIdx i}:St).fJ a.conn:=by unfold St.aS;rw[ha]
  show Calls _ _ _ _ _;refine(jD (v:= .returned (.tuple #[])) hF9 fun G hG=>xg T5 hG GP dN a.conn (r2.1 a hpa) (fun hd _=> ?_) (fun he=>AW GP he)).mono ?_
  ·have CV:s.drains a.conn=true:=hd;unfold St.drains at CV;cases hf:s.aq.find? (·.n==a.conn)with
   |none=>rw[hf]at CV;cases CV
   |some z=>
    rw[hf]at CV;have hz:=dT hf;have ez:z.n=a.conn:=by simpa using List.find?_some hf
    have aaO:s.held a.conn≠0:=by unfold St.held;intro e0;have:=List.countP_eq_zero.1 e0 a rR;simp at this
    refine List.any_eq_true.2 ⟨z,hz, ?_⟩;have Zl:z.gone=false:=by
     cases hgz:z.gone with
     |false=>rfl
     |true=>exact absurd ((ho.dr z hz CV).1.1 hgz) (by rw[ez];exact aaO)
    simp only[bZ,beq_iff_eq];exact⟨⟨ez,CV⟩,by rw[Zl];rfl⟩
  ·rintro e w'⟨rfl,kQ⟩;rw[<-wQ]at kQ;exact⟨rfl,k,aF o9 n9 kQ⟩
 have abN:Hid (Calls prog 125 #[.slice ao r.al.length cap,pt (g.ap (key a))] w fun e w'=> ∃v',e= .returned v'∧Goes (rowA 127 1 v' (r.al.erase a.n).length ((r.al.erase a.n).map fun n=>pt (g.ap (r.q.id,n)))) w G0 w'):=by show Calls _ _ _ _ _;rw[CX];exact NM
 clear h hh hw Md oa rC hpn hpb pD uN Ag CX hpa NM wf hr ht er eq et zY CT r1 r2 r3;unfold pt xA at*;generalize g.ap (key a)=ap at*;generalize g.rp r.q.id=rp at*;generalize g.tp t.nm=tp at*;generalize t.rn=rn at*;generalize r.al.length=nal at*;go_enter func80,ntmps80;go_wp2_with (first
  |(go_at_call 125;go_must(refine abN.out.mono ?_;rintro e w1⟨v1,rfl,hg⟩;obtain⟨dP,kn,rfl⟩:=aX hg;obtain⟨d1,d2,d3,d4,d5,d6,abH⟩:=Od.out _ w1 hg;clear hg Od)))
 go_region_with (first
   |(go_at_call 126;go_must(refine abH.out.mono ?_;rintro e w5⟨u,rfl,d7,N7⟩)))
 all_goals
  go_wp2_with (first
   |(go_at_call 127;go_must(refine N7.out.mono ?_;rintro e w6⟨rfl,iJ⟩;have sf:=hide iJ;clear iJ)))
  go_end0;exact⟨rfl,sf.out⟩
end Pj
namespace Pj
open Go.RowKit aM Mc
attribute [local go_sem] ag ar
structure Sd(n:Nat)(s:St):Prop where
 inv:Inv s
 ok:Ok s
 sz:s.sz<=n
 bd:Bd 4398046511104 s
namespace Sd
variable{n m:Nat}{s:St}
theorem le(h:Sd n s)(hn:n<=m):Sd m s:=⟨h.inv,h.ok,aw h.sz hn,h.bd⟩
theorem say(h:Sd n s)(c:Int)(t:Bs):Sd (n+1) (s.say c t):=⟨St.bM h.inv c t,h.ok.say c t,by rw[St.eZ];have:=h.sz;omega,h.bd.say c t⟩
theorem aS(h:Sd (n+3) s){i:Nat}{a:At}(ha:s.af[i]?=some a):Sd n (s.aS i):=⟨St.br h.inv i,h.ok.aS h.inv i,by have:=St.mD ha;have:=h.sz;omega,h.bd.aS i⟩
theorem Kf(h:Sd n s)(i:Nat):Sd n (s.aS i):=⟨St.br h.inv i,h.ok.aS h.inv i,aw (St.jT i) h.sz,h.bd.aS i⟩
end Sd
theorem Yx{x P:Int}{q:Nat}(h1:0<=x∧x+q<=P)(hP:P<=4398046511104):0<=x∧x<=9223372036854775807:=by omega
theorem yI{x:Int}(h1:0<=x∧x<=999999):0<=x∧x<=9223372036854775807:=by omega
section
variable{base x tb:Nat}{g:Gh}{cn:List (Int×Nat×Bs)}{s:St}{j:Js}{w w':World}{F:Ft}
theorem K5(h:(stA base x tb g cn s).holds w F)(hi:Inv s)(hz:s.sz<=16777000){a:At}(ha:a∈s.af): ∃k:Nat,∃q:Rq,s.req a.id=some q∧q.id=a.id∧w.heap[g.ap (key a)]?=some (.cells (fW g a k) 126 (0,0))∧ ∃av,w.heap[g.rp a.id]?=some (.cells (gV g s.c.re q av) 132 (0,0)):=by obtain⟨j,r1,r2,r3,hF,hh⟩:=h;have wf:=fI r1 hi hz;obtain⟨r,hr,t,ht,er,eq,et,zY,CT⟩:=Jr r1 hi ha;obtain⟨v,av,wv,Md,hw⟩:=pc hh wf hr ht;obtain⟨kk,nC,oc⟩:=List.mem_iff_getElem.1 (r1.hp.symm.subset ha);have oa:=w_at hw kk nC;rw[oc]at oa;refine⟨kk,r.q,eq,er,oa,av, ?_⟩;have:=bQ (aB hw (show _=aa (mj g j.c.re r.q av) (aa (dB x j v) (aa (fK g v.rv j.ring) (aa (eY g v.lv j.hp) (aa (hpA g j.hp) (aa (lx g av r.q.id r.al) (aa (mS g t wv) (aa (l8 g wv t.wt) (aa (jQ g j v r t) (wD tb s.out)))))))))by unfold jW;ac_rfl));rw[<-er,<-r1.c];exact this.2.2
end
theorem lY{base x tb:Nat}{g:Gh}{cn:List (Int×Nat×Bs)}{s:St}{w:World}{F:Ft}(h:(stA base x tb g cn s).holds w F)(hi:Inv s)(hz:s.sz<=16777000){a:At}(ha:a∈s.af):w.cell? ⟨g.ap (key a),0,none⟩=some (.int .i64 a.n)∧w.cell? ⟨g.ap (key a),1,none⟩=some (pt (g.rp a.id))∧w.cell? ⟨g.ap (key a),2,none⟩=some (.int .i64 a.conn)∧w.cell? ⟨g.rp a.id,0,none⟩=some (.int .i64 a.id):=by obtain⟨kk,q,_,Ix,oa,av,zI⟩:=K5 h hi hz ha;exact⟨by simp only[World.cell?,oa];rfl,by simp only[World.cell?,oa];rfl,by simp only[World.cell?,oa];rfl,by simp only[World.cell?,zI];rw[<-Ix];rfl⟩
theorem Nb(id n:Int):said [.s [115,116,111,112], .n id, .n n]=St.aD id n:=by simp[said,Lib.join,Part.txt,St.aD]
theorem FX{base x tb:Nat}{g:Gh}{cn:List (Int×Nat×Bs)}{s:St}{w:World}{F:Ft}{n:Nat}(T:Tabs base w)(h:(stA base x tb g cn s).holds w F)(hs:Sd n s)(hn:n<=16776000){i:Nat}{a:At}(ha:s.af[i]?=some a):Calls prog 66 #[pt x,pt tb,pt (g.ap (key a))] w fun e w'=>e= .returned (.tuple #[])∧ ∃k,Goes (aa (stA base x tb g cn ((s.say a.conn (St.aD a.id a.n)).aS i)) (gD g a k)) w F w':=by
 have rR:a∈s.af:=dn ha;have Xt:=hs.bd.at' a rR;have hz:=hs.sz;obtain⟨ca0,ca1,ca2,cr0⟩:=lY h hs.inv (by omega) rR;have C2:Hid (∀w1,Goes (stA base x tb g cn (s.say a.conn (St.aD a.id a.n))) w F w1->w1.cell? ⟨g.ap (key a),0,none⟩=some (.int .i64 a.n)∧w1.cell? ⟨g.ap (key a),1,none⟩=some (pt (g.rp a.id))∧w1.cell? ⟨g.ap (key a),2,none⟩=some (.int .i64 a.conn)∧w1.cell? ⟨g.rp a.id,0,none⟩=some (.int .i64 a.id)):=fun w1 hg=>by obtain⟨F1,cd,_⟩:=hg;have iA:=hs.say a.conn (St.aD a.id a.n);exact lY cd iA.inv (by have:=iA.sz;omega) (show a∈s.af from rR)
 have VG:=CE T h (by omega) a.conn [.s [115,116,111,112], .n a.id, .n a.n] (St.aD a.id a.n) (Nb _ _) (by simp) (by simp) (by
  intro p hp;simp only[List.mem_cons,List.not_mem_nil,or_false]at hp;rcases hp with rfl|rfl|rfl
  ·exact Part.vy (by decide)
  ·exact Part.Cy (yI Xt.id)
  ·exact Part.Cy (Yx Xt.n (Int.le_refl _)))
 have gq:=hide (VG w.drew (ah _ _).drew);have jq:Hid (∀w1,Goes (stA base x tb g cn (s.say a.conn (St.aD a.id a.n))) w F w1->Calls prog 80 #[pt x,pt tb,pt (g.ap (key a))] w1 fun e w'=>e= .returned (.tuple #[])∧ ∃k,Goes (aa (stA base x tb g cn ((s.say a.conn (St.aD a.id a.n)).aS i)) (gD g a k)) w F w'):=fun w1 hg=>by have T1:=T.goes (dx h) hg;obtain⟨F1,cd,o1,n1⟩:=hg;have iA:=hs.say a.conn (St.aD a.id a.n);refine(hE T1 cd iA.inv iA.ok (by have:=iA.sz;omega) (i:=i) (a:=a) ha).mono ?_;rintro e w'⟨rfl,k,kQ⟩;exact⟨rfl,k,aF o1 n1 kQ⟩
 clear VG h Xt;unfold pt at*;generalize g.ap (key a)=ap at*;generalize g.rp a.id=rp at*;go_enter func66,ntmps66;go_wp2_with fail;go_region_held3 (fun w'=>w'.cell? ⟨ap,0,none⟩=some (.int .i64 a.n)∧w'.cell? ⟨ap,1,none⟩=some (.pointer (some ⟨rp,0,none⟩))∧w'.cell? ⟨ap,2,none⟩=some (.int .i64 a.conn)∧w'.cell? ⟨rp,0,none⟩=some (.int .i64 a.id)) (go_keep) (first
   |(go_at_call 89;go_must(refine gq.out.mono ?_;rintro e w5⟨rfl,hg5⟩;obtain⟨z0,z1,z2,z3⟩:=C2.out _ hg5;have HE5:=hide (jq.out _ hg5);clear hg5)))
 all_goals
  go_wp2_with (first
   |(go_at_call 80;go_must(refine HE5.out.mono ?_;rintro e w6⟨rfl,iJ⟩;have sf:=hide iJ;clear iJ)))
  go_end0;exact⟨rfl,sf.out⟩
end Pj
namespace Pj
open Go.RowKit aM Mc
attribute [local go_sem] ag ar
section
variable{base x tb:Nat}{g:Gh}{cn:List (Int×Nat×Bs)}{s:St}{j:Js}{w w':World}{F:Ft}
theorem je(h:Rel g j s){id:Int}{q:Rq}(hq:s.req id=some q): ∃r∈j.reqs,∃t∈j.aW,r.q=q∧q.id=id∧t.nm=q.ten∧s.ten id=t.nm∧r.al=s.nums id:=by
 have hm:=dT hq;have e:q.id=id:=by simpa using List.find?_some hq
 rw[<-h.reqs]at hm;obtain⟨r,hr,rfl⟩:=aA.1 hm;obtain⟨t,ht,et⟩:=aA.1 (h.ten r.q (by rw[<-h.reqs];exact aA.2 ⟨r,hr,rfl⟩));refine⟨r,hr,t,ht,rfl,e,et, ?_,by rw[h.al r hr,e]⟩;unfold St.ten;rw[hq];exact et.symm
structure aad(g:Gh)(x:Nat)(s:St)(id:Int)(q:Rq)(w:World)(ao:Option Addr)(cap:Nat)(cU:Option Addr)(b9:Nat):Prop where
 ci:w.cell? ⟨g.rp id,0,none⟩=some (.int .i64 id)
 conn:w.cell? ⟨g.rp id,1,none⟩=some (.int .i64 q.conn)
 ten:w.cell? ⟨g.rp id,2,none⟩=some (pt (g.tp q.ten))
 txt:w.cell? ⟨g.rp id,3,none⟩=some (bs q.txt)
 adq:w.cell? ⟨g.rp id,4,none⟩=some (.int .i64 q.n)
 again:w.cell? ⟨g.rp id,5,none⟩=some (.int .i64 (s.c.re-q.left))
 bn:w.cell? ⟨g.rp id,6,none⟩=some (.bool q.bn)
 al:w.cell? ⟨g.rp id,7,none⟩=some (.slice ao (s.nums id).length cap)
 fz: ∀k,w.frozen? ⟨g.rp id,k,none⟩=false
 al0: ∀n l,s.nums id=n::l-> ∃b off,ao=some ⟨b,off,none⟩∧w.cell? ⟨b,off,none⟩=some (pt (g.ap (id,n)))
 nm:w.cell? ⟨g.tp q.ten,0,none⟩=some (bs q.ten)
 wt:w.cell? ⟨g.tp q.ten,1,none⟩=some (.slice cU (s.aZ q.ten).length b9)
 rn:w.cell? ⟨g.tp q.ten,2,none⟩=some (.int .i64 (s.runs q.ten))
 fzt: ∀k,w.frozen? ⟨g.tp q.ten,k,none⟩=false
 lt:g.rp id<w.heap.size∧g.tp q.ten<w.heap.size∧x<w.heap.size
 Dm:(s.nums id).length<=16777210∧(s.aZ q.ten).length<=16777210∧s.runs q.ten<=16777216
 cc:w.cell? ⟨x,1,none⟩=some (.int .i64 s.c.re)
theorem qZ{e:TypeId}{v:Value}{n:Nat}{y:Value}{ys:List Value}{w:World}{F:Ft}(h:(rowA e 1 v n (y::ys)).holds w F)(hn:0<n): ∃b off cap,v= .slice (some ⟨b,off,none⟩) n cap∧w.cell? ⟨b,off,none⟩=some y:=by obtain⟨ao,cap,rfl,_,_,h4,_⟩:=bC h;obtain⟨b,off,rfl,_⟩:=h4 hn;refine⟨b,off,cap,rfl, ?_⟩;have:=bm h 0 (by omega);simpa using this
theorem gK(h:(stA base x tb g cn s).holds w F)(hi:Inv s)(hz:s.sz<=16777000){id:Int}{q:Rq}(hq:s.req id=some q): ∃ao cap cU b9,aad g x s id q w ao cap cU b9:=by
 obtain⟨j,r1,r2,r3,hF,hh⟩:=h;have wf:=fI r1 hi hz;obtain⟨r,hr,t,ht,er,ei,et,zY,CT⟩:=je r1 hq;obtain⟨v,av,wv,Md,hw⟩:=pc hh wf hr ht;have Q:=Sn hw;have TT:=Zr hw;have D:=YU hw;obtain⟨G0,pD,_⟩:=RN hw;obtain⟨ao,cap,rfl⟩:=aX (Goes.refl pD);have hWT: ∃G,(l8 g wv t.wt).holds w G:=by have h2:=aB hw (show _=aa (l8 g wv t.wt) (aa (dB x j v) (aa (fK g v.rv j.ring) (aa (eY g v.lv j.hp) (aa (hpA g j.hp) (aa (mj g j.c.re r.q (.slice ao r.al.length cap)) (aa (lx g (.slice ao r.al.length cap) r.q.id r.al) (aa (mS g t wv) (aa (jQ g j v r t) (wD tb s.out)))))))))by unfold jW;ac_rfl);obtain⟨G,hG,_⟩:=aM.left h2;exact⟨G,hG⟩
 obtain⟨G1,lH⟩:=hWT;obtain⟨cU,b9,rfl⟩:=aX (Goes.refl lH);have Sh:=r1.rn t ht;have om:=r1.wt t ht;have b1:=wf.b1 t ht;have b5:=wf.b5 t ht;have bal:=wf.al r hr;subst er;have lt1:g.rp id<w.heap.size:=by obtain⟨cs,tt,hb⟩:=Q.2.2;rw[ei]at hb;exact(cT.1 hb).1
 have lt2:g.tp r.q.ten<w.heap.size:=by obtain⟨cs,tt,hb⟩:=TT.2.2;rw[et]at hb;exact(cT.1 hb).1
 have lt3:x<w.heap.size:=by obtain⟨cs,tt,hb⟩:=D.2.2;exact(cT.1 hb).1
 rw[ei,CT]at Q;rw[et]at TT;rw[om,et]at b1;have eb:t.rn=s.runs r.q.ten:=by rw[Sh,et]
 rw[eb]at b5;rw[CT]at bal pD;refine⟨ao,cap,cU,b9,by rw[Q.1];show some (Value.int _ r.q.id)=_;rw[ei],Q.1 1,Q.1 2,Q.1 3,Q.1 4,by rw[Q.1];show some (Value.int _ (j.c.re-r.q.left))=_;rw[r1.c],Q.1 6,Q.1 7,Q.2.1,fun n l e=> ?_,by rw[TT.1];show some (bs t.nm)=_;rw[et],by rw[TT.1];show some (Value.slice cU t.wt.length b9)=_;rw[om,et],by rw[TT.1];show some (Value.int .i64 t.rn)=_;rw[eb],TT.2.1,⟨lt1,lt2,lt3⟩,⟨bal,b1,by omega⟩,by rw[D.1];show some (Value.int .i64 j.c.re)=_;rw[r1.c]⟩;unfold lx at pD;rw[e,List.map_cons]at pD;obtain⟨b,off,cp,e1,e2⟩:=qZ pD (by simp);cases e1;exact⟨b,off,rfl,by rw[e2,ei]⟩
theorem Ur(T:Tabs base w)(h:(stA base x tb g cn s).holds w F)(hi:Inv s)(hz:s.sz<=16777000){id:Int}{q:Rq}(hq:s.req id=some q):Calls prog 74 #[pt x,pt (g.rp id)] w fun e w'=>e= .returned (.tuple #[])∧Goes (stA base x tb g cn (s.left id)) w F w':=by obtain⟨j,r1,r2,r3,hF,hh⟩:=h;have wf:=fI r1 hi hz;obtain⟨r,hr,t,ht,er,ei,et,zY,CT⟩:=je r1 hq;subst er;subst ei;refine(jD hh fun G hG=>tV x g j r t w G hG wf hr ht et).mono ?_;rintro e w'⟨rfl,hg⟩;exact⟨rfl,iD T hF (r1.left hi ht zY.symm) r2 r3 hg⟩
theorem uC(T:Tabs base w)(h:(stA base x tb g cn s).holds w F)(hi:Inv s)(hz:s.sz<=16777000){id:Int}{q:Rq}(hq:s.req id=some q):Calls prog 83 #[pt x,pt (g.rp id)] w fun e w'=>e= .returned (.tuple #[])∧Goes (stA base x tb g cn (s.a6 id true)) w F w':=by
 obtain⟨j,r1,r2,r3,hF,hh⟩:=h;have wf:=fI r1 hi hz;obtain⟨r,hr,t,ht,er,ei,et,zY,CT⟩:=je r1 hq;subst er;subst ei;refine(jD hh fun G hG=>AD x g j r t w G hG wf hr ht et).mono ?_;rintro e w'⟨rfl,hg⟩;have eo:(s.a6 r.q.id true).out=s.out:=by unfold St.a6;split<;>rfl
 exact⟨rfl,iD T hF (r1.wait hi ht zY.symm true) r2 r3 (by rw[eo];exact hg)⟩
theorem wF(T:Tabs base w)(h:(stA base x tb g cn s).holds w F)(hi:Inv s)(hz:s.sz<=16777000){id:Int}{q:Rq}(hq:s.req id=some q):Calls prog 70 #[pt x,pt (g.rp id)] w fun e w'=>e= .returned (.tuple #[])∧Goes (stA base x tb g cn (s.a6 id false)) w F w':=by
 obtain⟨j,r1,r2,r3,hF,hh⟩:=h;have wf:=fI r1 hi hz;obtain⟨r,hr,t,ht,er,ei,et,zY,CT⟩:=je r1 hq;subst er;subst ei;refine(jD hh fun G hG=>CP x g j r t w G hG wf hr ht et).mono ?_;rintro e w'⟨rfl,hg⟩;have eo:(s.a6 r.q.id false).out=s.out:=by unfold St.a6;split<;>rfl
 exact⟨rfl,iD T hF (r1.wait hi ht zY.symm false) r2 r3 (by rw[eo];exact hg)⟩
end
variable{g:Gh}{w:World}{F:Ft}
theorem Wp{t:Tr}{wv:Value}{Z:aM}(h:(aa (mS g t wv) (aa (l8 g wv t.wt) Z)).holds w F):(aa (gA g t) Z).holds w F:=by unfold gA;rw[cx];exact⟨wv,by show(aa (aa (mS g t wv) (l8 g wv t.wt)) Z).holds w F;rw[bX];exact h⟩
theorem qI{A B:aM}{w':World}(h:Goes (aa A B) w F w'):Goes B w F w':=(h.eq (cA _ _)).drop
theorem DN(l:List Rr)(id:Int):l.filter (fun r=>r.q.id !=id)=l.filter fun y=>decide (y.q.id≠id):=List.filter_congr fun y _=>by by_cases e:y.q.id=id<;>simp[e]
theorem Tx(l:List Tr)(nm:Bs):l.filter (fun t=>t.nm !=nm)=l.filter fun y=>decide (y.nm≠nm):=List.filter_congr fun y _=>by by_cases e:y.nm=nm<;>simp[e]
theorem K2(g:Gh)(l:List Rr)(id:Int):(l.map fun r=>(r.q.id,g.rp r.q.id)).filter (fun x=>decide (x.1≠id))=(l.filter fun y=>decide (y.q.id≠id)).map fun r=>(r.q.id,g.rp r.q.id):=by rw[List.filter_map];rfl
theorem Vk(g:Gh)(l:List Tr)(nm:Bs):(l.map fun t=>(t.nm,g.tp t.nm)).filter (fun x=>decide (x.1≠nm))=(l.filter fun y=>decide (y.nm≠nm)).map fun t=>(t.nm,g.tp t.nm):=by rw[List.filter_map];rfl
theorem Ts{base x tb:Nat}{cn:List (Int×Nat×Bs)}{s:St}(T:Tabs base w)(h:(stA base x tb g cn s).holds w F)(hi:Inv s)(hz:s.sz<=16777000){id:Int}{q:Rq}(hq:s.req id=some q)(ha: ∀a∈s.af,a.id≠id)(om:s.waits id=false)(hb:Busy s (fun x=>x=id))(hid:I6 id)(Ak:q.ten.length<=64): ∃rm tm cU b9 w4,w.cell? ⟨x,7,none⟩=some (.map (some rm))∧w.cell? ⟨g.rp id,0,none⟩=some (.int .i64 id)∧(Builtin.delete_ #[82,3] 0 #[.map (some rm), .int .i64 id]).run prog w.drew= .ok (.tuple #[]) w4∧w4.cell? ⟨g.rp id,2,none⟩=some (pt (g.tp q.ten))∧w4.cell? ⟨g.tp q.ten,0,none⟩=some (bs q.ten)∧w4.cell? ⟨g.tp q.ten,1,none⟩=some (.slice cU (s.aZ q.ten).length b9)∧w4.cell? ⟨g.tp q.ten,2,none⟩=some (.int .i64 (s.runs q.ten))∧w4.cell? ⟨x,8,none⟩=some (.map (some tm))∧(¬(s.aZ q.ten= []∧s.runs q.ten=0)->Goes (stA base x tb g cn {s with reqs:=dropFirst (·.id==id) s.reqs}) w F w4)∧((s.aZ q.ten= []∧s.runs q.ten=0)-> ∃w5,(Builtin.delete_ #[83,9] 0 #[.map (some tm),bs q.ten]).run prog w4.drew= .ok (.tuple #[]) w5∧Goes (stA base x tb g cn {s with reqs:=dropFirst (·.id==id) s.reqs}) w F w5):=by
 obtain⟨ao,cap,cU,b9,RA⟩:=gK h hi hz hq;obtain⟨j,r1,r2,r3,hF,hh⟩:=h;have wf:=fI r1 hi hz;obtain⟨r,hr,t,ht,er,ei,et,zY,CT⟩:=je r1 hq;subst er;subst ei;obtain⟨v,av,wv,Md,hw⟩:=pc hh wf hr ht;have erw:=(r1.wt t ht);have ern:=(r1.rn t ht);rw[et]at erw ern;have hrel:=r1.dropped hi ha om hb ht zY.symm;obtain⟨Z,hZ⟩: ∃Z:aM,Z=aa (dB x j v) (aa (fK g v.rv j.ring) (aa (eY g v.lv j.hp) (aa (hpA g j.hp) (aa (kN v.cm j.bT) (aa (all jo j.bT) (aa (all (dO g j.c.re) (j.reqs.filter fun y=>decide (y.q.id≠r.q.id))) (aa (all (gA g) (j.aW.filter fun y=>decide (y.nm≠t.nm))) (aa (jw v.pv j.pull) (wD tb s.out))))))))):=⟨_,rfl⟩;have h1:=aB hw (show _=aa (jS g v.rm j.reqs) (aa (jk g v.tm j.aW) (aa (mj g j.c.re r.q av) (aa (lx g av r.q.id r.al) (aa (mS g t wv) (aa (l8 g wv t.wt) Z)))))by rw[hZ];unfold jW jQ;ac_rfl);obtain⟨G,H,ha1,hb1,d1,e1⟩:=cB h1 1;obtain⟨w4,yB,kI⟩:=za ha1 underlying82 0 r.q.id hid;have g4:=eT (q:=1) (aV hb1 kI d1 e1);obtain⟨F4,th,o4,n4⟩:=id g4;have B1:=bQ (aB th (show _=aa (mj g j.c.re r.q av) (aa (mapA kS v.rm ((j.reqs.map fun r=>(r.q.id,g.rp r.q.id)).filter fun x=>decide (x.1≠r.q.id))) (aa (jk g v.tm j.aW) (aa (lx g av r.q.id r.al) (aa (mS g t wv) (aa (l8 g wv t.wt) Z)))))by ac_rfl));have B2:=bQ (aB th (show _=aa (mS g t wv) (aa (mapA kS v.rm ((j.reqs.map fun r=>(r.q.id,g.rp r.q.id)).filter fun x=>decide (x.1≠r.q.id))) (aa (jk g v.tm j.aW) (aa (mj g j.c.re r.q av) (aa (lx g av r.q.id r.al) (aa (l8 g wv t.wt) Z)))))by ac_rfl));have B3:=bQ (aB th (show _=aa (dB x j v) (aa (mapA kS v.rm ((j.reqs.map fun r=>(r.q.id,g.rp r.q.id)).filter fun x=>decide (x.1≠r.q.id))) (aa (jk g v.tm j.aW) (aa (mj g j.c.re r.q av) (aa (lx g av r.q.id r.al) (aa (mS g t wv) (aa (l8 g wv t.wt) (aa (fK g v.rv j.ring) (aa (eY g v.lv j.hp) (aa (hpA g j.hp) (aa (kN v.cm j.bT) (aa (all jo j.bT) (aa (all (dO g j.c.re) (j.reqs.filter fun y=>decide (y.q.id≠r.q.id))) (aa (all (gA g) (j.aW.filter fun y=>decide (y.nm≠t.nm))) (aa (jw v.pv j.pull) (wD tb s.out)))))))))))))))by rw[hZ];ac_rfl));rw[et]at B2;have lH: ∃G,(l8 g wv t.wt).holds w4 G:=by obtain⟨G,hG,_⟩:=aM.left (aB th (show _=aa (l8 g wv t.wt) (aa (mapA kS v.rm ((j.reqs.map fun r=>(r.q.id,g.rp r.q.id)).filter fun x=>decide (x.1≠r.q.id))) (aa (jk g v.tm j.aW) (aa (mj g j.c.re r.q av) (aa (lx g av r.q.id r.al) (aa (mS g t wv) Z)))))by ac_rfl));exact⟨G,hG⟩
 obtain⟨G1,lH⟩:=lH;obtain⟨iN,eA,rfl⟩:=aX (Goes.refl lH);refine⟨v.rm,v.tm,iN,eA,w4,(YU hw).1 7,RA.ci,yB,B1.1 2,by rw[B2.1 0];show some (bs t.nm)=_;rw[et],by rw[B2.1 1];show some (Value.slice iN t.wt.length eA)=_;rw[erw],by rw[B2.1 2];show some (Value.int .i64 t.rn)=_;rw[ern],B3.1 8,fun sI=> ?_,fun rG=> ?_⟩
 ·refine iD (s':={s with reqs:=dropFirst (·.id==r.q.id) s.reqs}) T hF hrel r2 r3 ?_;have g5:=g4.eq (show _=aa (aa (mj g j.c.re r.q av) (lx g av r.q.id r.al)) (aa (mS g t (.slice iN t.wt.length eA)) (aa (l8 g (.slice iN t.wt.length eA) t.wt) (aa (jS g v.rm (j.reqs.filter fun y=>decide (y.q.id≠r.q.id))) (aa (jk g v.tm j.aW) Z))))by rw[K2];unfold jS;ac_rfl);refine(qI g5).mono fun F' h'=> ?_;have h'':=Wp h';unfold jA;rw[cx];refine⟨v,aB h'' ?_⟩;unfold bk Js.dropped;rw[if_neg (by rw[erw,ern];intro e;exact sI ⟨e.1,by have:=e.2;omega⟩)];dsimp only;rw[DN,my (A:=gA g) (k:=fun t:Tr=>t.nm) wf.rj ht,hZ];show _=aa (aa (dB x j v) _) _
  ac_rfl
 ·have h5:=aB th (show _=aa (jk g v.tm j.aW) (aa (mapA kS v.rm ((j.reqs.map fun r=>(r.q.id,g.rp r.q.id)).filter fun x=>decide (x.1≠r.q.id))) (aa (mj g j.c.re r.q av) (aa (lx g av r.q.id r.al) (aa (mS g t (.slice iN t.wt.length eA)) (aa (l8 g (.slice iN t.wt.length eA) t.wt) Z)))))by ac_rfl);obtain⟨G5,H5,ha5,uI,d5,e5⟩:=cB h5 1;obtain⟨w5,aaH,hg5⟩:=za ha5 underlying83 0 r.q.ten (show r.q.ten.length<=maxLen by unfold maxLen;omega);refine⟨w5,aaH, ?_⟩;have g5:=aF o4 n4 (eT (q:=1) (aV uI hg5 d5 e5));refine iD (s':={s with reqs:=dropFirst (·.id==r.q.id) s.reqs}) T hF hrel r2 r3 ?_;have g6:=g5.eq (show _=aa (aa (mj g j.c.re r.q av) (aa (lx g av r.q.id r.al) (aa (mS g t (.slice iN t.wt.length eA)) (l8 g (.slice iN t.wt.length eA) t.wt)))) (aa (jS g v.rm (j.reqs.filter fun y=>decide (y.q.id≠r.q.id))) (aa (jk g v.tm (j.aW.filter fun y=>decide (y.nm≠r.q.ten))) Z))by rw[K2,Vk];unfold jS jk;ac_rfl);refine(qI g6).mono fun F' h'=> ?_;unfold jA;rw[cx];refine⟨v,aB h' ?_⟩;unfold bk Js.dropped;rw[if_pos (by rw[erw,ern];exact⟨rG.1,by have:=rG.2;omega⟩)];dsimp only;rw[DN,Tx,hZ,et];show _=aa (aa (dB x j v) _) _
  ac_rfl
variable{n i:Nat}{s:St}{a:At}
theorem I6.of{c:Int}(h1: -9223372036854775808<=c)(h2:c<=9223372036854775807):I6 c:=by unfold I6;simp only[Lit.wf,bZ,decide_eq_true_eq];exact⟨h1,h2⟩
theorem Sd.stop(h:Sd n s)(c:Int)(t:Bs)(ha:s.af[i]?=some a):Sd n ((s.say c t).aS i):=by have h1:=h.say c t;refine⟨St.br h1.inv i,h1.ok.aS h1.inv i, ?_,h1.bd.aS i⟩;have:=St.mD (s:=s.say c t) (i:=i) (a:=a) ha;have:=h1.sz;omega
theorem yo(ha:s.af[i]?=some a):s.aS i=({s with af:=s.af.eraseIdx i}:St).fJ a.conn:=by unfold St.aS;rw[ha]
theorem tC(s:St)(c:Int):(s.fJ c).af=s.af∧(s.fJ c).reqs=s.reqs∧(s.fJ c).ring=s.ring∧(s.fJ c).wait=s.wait∧(s.fJ c).c=s.c∧(s.fJ c).now=s.now:=by unfold St.fJ;split<;>exact⟨rfl,rfl,rfl,rfl,rfl,rfl⟩
theorem MK(ho:Ok s)(ha:s.af[i]?=some a)(id:Int):(s.aS i).nums id=if id=a.id then(s.nums id).erase a.n else s.nums id:=by
 rw[yo ha];have:(({s with af:=s.af.eraseIdx i}:St).fJ a.conn).nums id=({s with af:=s.af.eraseIdx i}:St).nums id:=by unfold St.nums;rw[(tC _ _).1]
 rw[this];exact St.zj ho ha id
theorem qu(i:Nat)(id:Int):(s.aS i).req id=s.req id:=by
 unfold St.aS;split
 ·unfold St.req;rw[(tC _ _).2.1]
 ·rfl
theorem Busy.left{P:Int->Prop}(h:Busy s P)(id:Int)(hp:P id):Busy (s.left id) P:=fun r hr hn=>by
 rcases h r hr hn with h1|h1
 ·exact .inl ((St.pg r.id id).2 ⟨fun e=>hn (e▸hp),h1⟩)
 ·exact .inr h1
def De(rp:Nat)(w:World):Nat:=match w.cell? ⟨rp,7,none⟩with|some (.slice _ n _)=>n|_=>0
structure xO(base x tb:Nat)(g:Gh)(cn:List (Int×Nat×Bs))(n:Nat)(s:St)(id:Int)(q:Rq)(w:World)(F:Ft)(s':St)(wr:World):Prop where
 sd:Sd n s'
 busy:Busy s' (fun y=>y=id)
 req:s'.req id=some q
 goes:Goes (stA base x tb g cn s') w F wr
 done: ∃f,s'.af.length<=f∧St.stops f s' id=St.stops s.af.length s id
theorem jh{base x tb:Nat}{g:Gh}{cn:List (Int×Nat×Bs)}{w:World}{F:Ft}(T:Tabs base w)(h:(stA base x tb g cn s).holds w F)(hs:Sd n s)(hn:n<=16776000){id:Int}{q:Rq}(hq:s.req id=some q)(hb:Busy s (fun y=>y=id)):Calls prog 81 #[pt x,pt tb,pt (g.rp id)] w fun e w'=>e= .returned (.tuple #[])∧Goes (stA base x tb g cn (s.shut id)) w F w':=by
 have uN:Hid (xO base x tb g cn n s id q w F s w):=⟨hs,hb,hq,Goes.refl h,_,ae _,rfl⟩;have hF:=dx h;have HT:=hide T;have HF:=hide hF;clear hs hb hq h T hF;unfold pt;go_enter func81,ntmps81;go_wp2;go_loopw [] (fun wr=> ∃s':St,Hid (xO base x tb g cn n s id q w F s' wr)) (fun wr=>De (g.rp id) wr)
 case atStart=>exact⟨s,uN⟩
 case round=>
  obtain⟨s',gB⟩:=hrel;obtain⟨F1,cd,o1,n1⟩:=gB.out.goes;have T1:=HT.out.goes HF.out gB.out.goes;have hz:=gB.out.sd.sz;obtain⟨ao,cap,cU,b9,RA⟩:=gK cd gB.out.sd.inv (by omega) gB.out.req;have c7:=RA.al;have wL:Hid (De (g.rp id) wr=(s'.nums id).length):=by show(_=_);unfold De;rw[c7]
  have px:=RA.Dm.1;cases NZ:s'.nums id with
  |nil=>
   have iA:=gB.out.sd;have HLF:Hid (Calls prog 74 #[pt x,pt (g.rp id)] wr fun e w'=>e= .returned (.tuple #[])∧Goes (stA base x tb g cn (s'.left id)) w F w'):=by refine(Ur T1 cd iA.inv (by omega) gB.out.req).mono ?_;rintro e w'⟨rfl,hg⟩;exact⟨rfl,aF o1 n1 hg⟩
   have ha0: ∀a∈s'.af,a.id≠id:=fun a ha e=>by have:a.n∈s'.nums id:=qo.2 ⟨a,ha,e,rfl⟩;rw[NZ]at this;cases this
   have oh:s.shut id={s'.left id with reqs:=dropFirst (·.id==id) (s'.left id).reqs}:=by obtain⟨f,hf,e⟩:=gB.out.done;rw[St.Ge NZ]at e;unfold St.shut;rw[<-e]
   have yH:=dT gB.out.req;have VO:q.id=id:=by simpa using List.find?_some gB.out.req
   have pG:=iA.bd.rq q yH;have C3:Hid (∀w2,Goes (stA base x tb g cn (s'.left id)) w F w2->_):=fun w2 hg=>by
    have T2:=HT.out.goes HF.out hg;obtain⟨F2,eX,o2,n2⟩:=hg;have d:=Ts T2 eX (St.tW iA.inv id) (show s'.sz<=16777000 by omega) (id:=id) (q:=q) gB.out.req ha0 (by rw[St.iF,St.pg];simp) (Busy.left gB.out.busy id rfl) (by have:=pG.id;rw[VO]at this;exact I6.of (by omega) (by omega)) pG.ten;obtain⟨rm,tm,iN,eA,w4,p1,p2,p3,p4,p5,p6,p7,p8,p9,p10⟩:=d;rw[<-oh]at p9 p10;exact(⟨rm,tm,iN,eA,w4,p1,p2,p3,p4,p5,p6,p7,p8,fun h=>aF o2 n2 (p9 h),fun h=>by obtain⟨w5,a1,a2⟩:=p10 h;exact⟨w5,a1,aF o2 n2 a2⟩⟩: ∃rm tm iN eA w4,w2.cell? ⟨x,7,none⟩=some (.map (some rm))∧w2.cell? ⟨g.rp id,0,none⟩=some (.int .i64 id)∧
     (Builtin.delete_ #[82,3] 0 #[.map (some rm), .int .i64 id]).run prog w2.drew= .ok (.tuple #[]) w4∧
     w4.cell? ⟨g.rp id,2,none⟩=some (pt (g.tp q.ten))∧w4.cell? ⟨g.tp q.ten,0,none⟩=some (bs q.ten)∧w4.cell? ⟨g.tp q.ten,1,none⟩=some (.slice iN ((s'.left id).aZ q.ten).length eA)∧w4.cell? ⟨g.tp q.ten,2,none⟩=some (.int .i64 ((s'.left id).runs q.ten))∧w4.cell? ⟨x,8,none⟩=some (.map (some tm))∧
     (¬((s'.left id).aZ q.ten= []∧(s'.left id).runs q.ten=0)->Goes (stA base x tb g cn (s.shut id)) w F w4)∧
     (((s'.left id).aZ q.ten= []∧(s'.left id).runs q.ten=0)-> ∃w5,(Builtin.delete_ #[83,9] 0 #[.map (some tm),bs q.ten]).run prog w4.drew= .ok (.tuple #[]) w5∧Goes (stA base x tb g cn (s.shut id)) w F w5))
   have acP:=RA.Dm;have Me:(s'.nums id).length=0:=by rw[NZ];rfl
   rw[Me]at c7;clear gB cd o1 n1 RA uN HT HF iA oh pG ha0;unfold pt bs at*;generalize g.rp id=rp at*;generalize g.tp q.ten=tp at*;go_wp2_with (first
    |(go_at_call 74;go_must(refine HLF.out.mono ?_;rintro e w2⟨rfl,hg⟩;obtain⟨rm,tm,iN,eA,w4,p1,p2,p3,p4,p5,p6,p7,p8,p9,p10⟩:=C3.out w2 hg;have Z3:=hide p9;have SF:=hide p10;clear p9 p10 hg C3 HLF)))
   have zI:=acP;by_cases kR:(s'.left id).aZ q.ten= []
   ·have dM:((s'.left id).aZ q.ten).length=0:=by rw[kR];rfl
    rw[dM]at p6;by_cases X0:(s'.left id).runs q.ten=0
    ·obtain⟨w5,u1,u2⟩:=SF.out ⟨kR,X0⟩;have HU2:=hide u2;rw[X0]at p7;change _=some (Value.int .i64 0)at p7;clear Z3 SF u2 kR X0 dM;go_region_with (fail)
     all_goals
      go_wp2;go_region_with (fail)
      all_goals go_end0;exact⟨rfl,HU2.out⟩
    ·have HU2:=hide (Z3.out (fun e=>X0 e.2));have X2:(((((s'.left id).runs q.ten:Nat):Int))==0)=false:=by simpa using X0
     clear Z3 SF kR dM;generalize(s'.left id).runs q.ten=rr at*;go_region_with (fail)
     all_goals go_wp2;go_end0;exact⟨rfl,HU2.out⟩
   ·have HU2:=hide (Z3.out (fun e=>kR e.1));have X2:(((((s'.left id).aZ q.ten).length:Nat):Int)==0)=false:=by
     have:((s'.left id).aZ q.ten).length≠0:=fun e=>kR (List.eq_nil_of_length_eq_zero e);simpa using this
    clear Z3 SF kR;generalize((s'.left id).aZ q.ten).length=rr at*;go_region_with (fail)
    all_goals go_wp2;go_end0;exact⟨rfl,HU2.out⟩
  |cons n0 l=>
   obtain⟨i,a,ju,sB,DG,Ke⟩:=St.MJ NZ;obtain⟨b,off,rfl,cb⟩:=RA.al0 n0 l NZ;have CX:key a=(id,n0):=by unfold key;rw[DG,Ke]
   have iP:Hid (Calls prog 66 #[pt x,pt tb,pt (g.ap (id,n0))] wr fun e w'=>e= .returned (.tuple #[])∧ ∃wy,xO base x tb g cn n s id q w F wy w'∧De (g.rp id) w'<(s'.nums id).length):=by
    show Calls _ _ _ _ _;rw[<-CX];refine(FX T1 cd gB.out.sd (by omega) sB).mono ?_;rintro e w'⟨rfl,k,hg⟩;have kQ:=aF o1 n1 hg.drop;rw[DG]at kQ;have vW:=gB.out.sd.stop a.conn (St.aD id a.n) sB;have Mn:((s'.say a.conn (St.aD id a.n)).aS i).req id=some q:=by rw[qu];exact gB.out.req
    refine⟨rfl,_,⟨vW, ?_,Mn,kQ, ?_⟩, ?_⟩
    ·have:=Busy.aS (i:=i) (a:=a) (gB.out.busy.say a.conn (St.aD id a.n)) sB;exact this.mono (fun y hy=>hy.elim (fun h=>h) (fun h=>h.trans DG))
    ·obtain⟨f,hf,e⟩:=gB.out.done;have hlen:i<s'.af.length:=(cK.1 sB).1;obtain⟨f',rfl⟩: ∃f',f=f'+1:=⟨f-1,by omega⟩;rw[St.JD ju sB]at e;refine⟨f', ?_,e⟩;rw[yo (s:=s'.say a.conn (St.aD id a.n)) sB,(tC _ _).1];show(s'.af.eraseIdx i).length<=f';rw[List.length_eraseIdx_of_lt hlen];omega
    ·obtain⟨F3,iX,_⟩:=kQ;obtain⟨iw,cM,_,_,RA'⟩:=gK iX vW.inv (by have:=vW.sz;omega) Mn;unfold De;rw[RA'.al];dsimp only;rw[MK (s:=s'.say a.conn (St.aD id a.n)) (gB.out.sd.ok.say _ _) sB,if_pos DG.symm];have hm:a.n∈s'.nums id:=qo.2 ⟨a,dn sB,DG,rfl⟩;have h1:((s'.nums id).erase a.n).length=(s'.nums id).length-1:=List.length_erase_of_mem hm;have h2:=List.length_pos_of_mem hm;show((s'.nums id).erase a.n).length<_;omega
   have Ae:(s'.nums id).length=l.length+1:=by rw[NZ];rfl
   rw[Ae]at c7 wL iP px;have adi:(0:Int)<((l.length:Nat):Int)+1:=by omega
   clear gB cd o1 n1 RA uN HT HF;unfold pt at*;generalize g.rp id=rp at*;generalize g.ap (id,n0)=pa at*;generalize l.length=ln at*;go_wp2_with (first
    |(go_at_call 66;go_must(refine iP.out.mono ?_;rintro e w2⟨rfl,wy,oh,PO⟩;have CS:=hide oh;have WH:=hide PO;clear oh PO)))
   go_roundw
   case rel=>exact⟨wy,CS⟩
   case measure=>have:=WH.out;have:=wL.out;omega
theorem upd_same{α κ:Type} [DecidableEq κ]{k:α->κ}{l:List α}(hn:(l.map k).Nodup){y:α}(hy:y∈l):upd k (k y) (fun _=>y) l=l:=by have:=lq hn hy (fun z=>z);rw[<-this];exact RJ k (k y) l
theorem Q0{base x tb:Nat}{g:Gh}{cn:List (Int×Nat×Bs)}{s:St}{w:World}{F:Ft}(T:Tabs base w)(h:(stA base x tb g cn s).holds w F)(hi:Inv s)(hz:s.sz<=16777000){id:Int}{q:Rq}(hq:s.req id=some q)(f:Rq->Rq)(h1: ∀r,(f r).id=r.id)(h2: ∀r,(f r).ten=r.ten)(k:Nat)(u:Value)(he: ∀av,(gV g s.c.re q av).setIfInBounds k u=gV g s.c.re (f q) av):Goes (stA base x tb g cn (s.bu id f)) w F (w.setCell ⟨g.rp id,k,none⟩ u):=by
 obtain⟨j,r1,r2,r3,hF,hh⟩:=h;have wf:=fI r1 hi hz;obtain⟨r,hr,t,ht,er,ei,et,zY,CT⟩:=je r1 hq;subst er;subst ei;obtain⟨v,av,wv,Md,hw⟩:=pc hh wf hr ht;have g1:=RO (Goes.refl hw) k u (f r.q) (by rw[r1.c];exact he av) (h1 _);have g2:=w_shut (v:=v) (q:=f r.q) (t':=t) j v wf hr ht (h1 _) rfl rfl rfl rfl rfl rfl rfl rfl rfl rfl g1;have ej:Js.at2 j r.q.id t.nm (f r.q) r.al t=j.Vl r.q.id (fun r=>{r with q:=f r.q}):=by unfold Js.at2 Js.Vl;rw[lq (k:=fun r:Rr=>r.q.id) wf.rid hr (fun r=>{r with q:=f r.q}),upd_same (k:=fun t:Tr=>t.nm) wf.rj ht]
 rw[ej]at g2;exact iD (s':=s.bu r.q.id f) T hF (r1.bu hi r.q.id f h1 h2) r2 r3 g2
section
variable{base x tb:Nat}{g:Gh}{cn:List (Int×Nat×Bs)}{s:St}{w:World}{F:Ft}
theorem Qb{κ:Type} [DecidableEq κ]{l:List κ}{x:κ}:decide (0<=Mr.jV (l.findIdx? fun y=>decide (y=x)))=decide (x∈l):=by
 cases hf:l.findIdx? fun y=>decide (y=x)with
 |none=>
  have:x∉l:=fun hm=>by have:=List.findIdx?_eq_none_iff.1 hf x hm;simp at this
  simp[Mr.jV,this]
 |some i=>
  obtain⟨h1,h2,_⟩:=List.findIdx?_eq_some_iff_getElem.1 hf;have hx:x∈l:=by
   have:l[i]=x:=by simpa using h2
   rw[<-this];exact aY h1
  have h0:0<=Mr.jV (some i):=by simp[Mr.jV]
  simp[hx,h0]
theorem aah{κ:Type} [DecidableEq κ](v:Value)(l:List κ)(f:κ->Nat)(x:κ)(w:World)(G:Ft)(h:(rowA 124 1 v l.length (l.map fun i=>pt (f i))).holds w G)(j5: ∀y∈l,f y=f x->y=x)(hb: ∀y∈l,mn w (f y))(hx:mn w (f x))(hl:l.length<=16777216):Calls prog 167 #[v,pt (f x)] w fun e w'=>e= .returned (.bool (decide (x∈l)))∧w'=w:=by
 have rz:=ixR v l f x w G h j5 hb hx hl;have HE:=Qb (l:=l) (x:=x);obtain⟨ao,cap,rfl,_⟩:=Mr.bO h;rw[<-HE];clear h j5 hb hx HE;generalize Mr.jV (l.findIdx? fun y=>decide (y=x))=ii at*;unfold pt at*;go_enter func167,ntmps167;go_wp2_with (first
  |(go_at_call 156;go_must(refine rz.mono ?_;rintro e w1⟨rfl,rfl⟩)))
 go_ret;exact⟨rfl,rfl⟩
theorem ry(h:(stA base x tb g cn s).holds w F)(hi:Inv s)(hz:s.sz<=16777000){id:Int}{q:Rq}(hq:s.req id=some q):Calls prog 128 #[pt (g.rp id)] w fun e w'=>e= .returned (.bool (s.waits id))∧w'=w:=by
 obtain⟨ao,cap,cU,b9,RA⟩:=gK h hi hz hq;obtain⟨j,r1,r2,r3,hF,hh⟩:=h;have wf:=fI r1 hi hz;obtain⟨r,hr,t,ht,er,ei,et,zY,CT⟩:=je r1 hq;subst er;subst ei;obtain⟨v,av,wv,Md,hw⟩:=pc hh wf hr ht;obtain⟨Gj,rC,_⟩:=aM.left Md;obtain⟨k1,k2,k3⟩:=GC rC wf hr ht;have hWT: ∃G,(l8 g wv t.wt).holds w G:=by have h2:=aB hw (show _=aa (l8 g wv t.wt) (aa (dB x j v) (aa (fK g v.rv j.ring) (aa (eY g v.lv j.hp) (aa (hpA g j.hp) (aa (mj g j.c.re r.q av) (aa (lx g av r.q.id r.al) (aa (mS g t wv) (aa (jQ g j v r t) (wD tb s.out)))))))))by unfold jW;ac_rfl);obtain⟨G,hG,_⟩:=aM.left h2;exact⟨G,hG⟩
 obtain⟨G1,lH⟩:=hWT;have c1:w.cell? ⟨g.tp t.nm,1,none⟩=some wv:=(Zr hw).1 1;have hb1:=wf.b1 t ht;have HC:=aah wv t.wt g.rp r.q.id w G1 lH k1 k2 k3 (by omega);have ew:decide (r.q.id∈t.wt)=s.waits r.q.id:=by
  have h1:=St.vG hi (i:=r.q.id);rw[zY,<-r1.wt t ht]at h1;by_cases hm:r.q.id∈t.wt
  ·rw[h1.2 hm];simpa using hm
  ·have: ¬s.waits r.q.id=true:=fun e=>hm (h1.1 e);rw[Bool.not_eq_true]at this;rw[this];simpa using hm
 rw[ew]at HC;have c2:=RA.ten;rw[<-et]at c2;obtain⟨iN,eA,rfl⟩:=aX (Goes.refl lH);clear hh Md hw rC k1 k2 k3 lH RA hq;unfold pt at*;generalize g.rp r.q.id=rp at*;generalize g.tp t.nm=tp at*;generalize t.wt.length=nw at*;generalize s.waits r.q.id=bw at*;go_enter func128,ntmps128;go_wp2_with (first
  |(go_at_call 167;go_must(refine HC.mono ?_;rintro e w1⟨rfl,rfl⟩)))
 go_ret;exact⟨rfl,rfl⟩
theorem Ht(s:St)(id:Int):s.count id=(s.nums id).length:=by unfold St.count St.nums;rw[bf,List.countP_eq_length_filter]
theorem yw(h:(stA base x tb g cn s).holds w F)(hi:Inv s)(hz:s.sz<=16777000){id:Int}{q:Rq}(hq:s.req id=some q):Calls prog 82 #[pt (g.rp id)] w fun e w'=>e= .returned (.bool (s.waits id||decide (0<s.count id)))∧w'=w:=by
 obtain⟨ao,cap,cU,b9,RA⟩:=gK h hi hz hq;have c7:=RA.al;have px:=RA.Dm.1;have HW:=ry h hi hz hq;rw[Ht];clear RA h;unfold pt at*;generalize g.rp id=rp at*;generalize(s.nums id).length=nn at*;have KD:decide ((0:Int)<(nn:Int))=decide (0<nn):=by by_cases e:0<nn<;>simp[e]
 cases hw:s.waits id with
 |true=>
  rw[hw]at HW;go_enter func82,ntmps82;go_wp2_with (first
   |(go_at_call 128;go_must(refine HW.mono ?_;rintro e w1⟨rfl,rfl⟩)))
  go_ret;exact⟨rfl,rfl⟩
 |false=>
  rw[hw]at HW;go_enter func82,ntmps82;go_wp2_with (first
   |(go_at_call 128;go_must(refine HW.mono ?_;rintro e w1⟨rfl,rfl⟩)))
  go_ret;exact⟨by simp,rfl⟩
end
variable{base x tb n:Nat}{g:Gh}{cn:List (Int×Nat×Bs)}{s:St}{w:World}{F:Ft}
theorem mM(T:Tabs base w)(h:(stA base x tb g cn s).holds w F)(hz:s.sz<=16777000)(c:Int)(ps:List Part)(t:Bs)(ht:said ps=t)(qM:0<ps.length)(hn:ps.length<=16)(Ah: ∀p∈ps,p.ok): ∀nq,Calls prog 89 #[pt tb, .int .i64 c, .slice (some ⟨w.heap.size,0,none⟩) ps.length ps.length] ((w.alloc (.cells (ps.map Part.val).toArray 20)).drewN nq) fun e w'=>e= .returned (.tuple #[])∧Goes (stA base x tb g cn (s.say c t)) w F w':=fun nq=>CE T h hz c ps t ht qM hn Ah (w.drewN nq) (uQ (ah _ _) nq)
theorem Rf(id:Int):said [.s [101,114,114], .n id]= [101,114,114,32]++cJ id:=by simp[said,Lib.join,Part.txt]
theorem Sd.bu(h:Sd n s)(id:Int)(f:Rq->Rq)(h1: ∀r,(f r).id=r.id∧(f r).ten=r.ten)(h2: ∀r,r.n<=(f r).n)(h3: ∀r,(f r).bn=false->r.bn=false)(h4: ∀r,r∈s.reqs->(r.id==id)=true->(f r).ok 4398046511104 s.wait.length):Sd n (s.bu id f):=
 ⟨St.iq h.inv id f h1,h.ok.bu id f (fun r=>(h1 r).1) h2 h3,by rw[St.ra];exact h.sz,h.bd.bu id f h4⟩
theorem kZ(T:Tabs base w)(h:(stA base x tb g cn s).holds w F)(hs:Sd n s)(hn:n<=16775000){id:Int}{q:Rq}(hq:s.req id=some q)(hb:Busy s (fun y=>y=id)):Calls prog 67 #[pt x,pt tb,pt (g.rp id)] w fun e w'=>e= .returned (.tuple #[])∧Goes (stA base x tb g cn (s.again id true)) w F w':=by
 have hz:=hs.sz;have nt:=yw h hs.inv (by omega) hq;have yH:=dT hq;have VO:q.id=id:=by simpa using List.find?_some hq
 have pG:=hs.bd.rq q yH;have aaX:=pG.left;have hre:=hs.bd.c.re;have wK:=hide (Goes.refl h);cases bK:(s.waits id||decide (0<s.count id))with
 |true=>
  have ea:s.again id true=s:=by unfold St.again;rw[if_pos];simpa using bK
  rw[ea];rw[bK]at nt;clear h;unfold pt at*;generalize g.rp id=rp at*;go_enter func67,ntmps67;go_wp2_with (first
   |(go_at_call 82;go_must(refine nt.mono ?_;rintro e w1⟨rfl,rfl⟩)))
  go_end0;exact⟨rfl,wK.out⟩
 |false=>
  rw[bK]at nt;obtain⟨ao,cap,cU,b9,RA⟩:=gK h hs.inv (by omega) hq;have c5:=RA.again;have cc:=RA.cc;have c0:=RA.ci;have c1:=RA.conn;have fz:=RA.fz 5;have Zl: ¬((s.waits id||decide (0<s.count id))=true):=by rw[bK];simp
  by_cases hl:q.left=0
  ·have ea:s.again id true=(s.say q.conn ([101,114,114,32]++cJ id)).shut id:=by
    unfold St.again;rw[if_neg (by simpa using Zl),hq];simp[hl]
   rw[ea];have iA:=hs.say q.conn ([101,114,114,32]++cJ id);have ng:(s.say q.conn ([101,114,114,32]++cJ id)).req id=some q:=hq;have gq:=hide (mM T h (by omega) q.conn [.s [101,114,114], .n id] ([101,114,114,32]++cJ id) (Rf _) (by simp) (by simp) (by
    intro p hp;simp only[List.mem_cons,List.not_mem_nil,or_false]at hp;rcases hp with rfl|rfl
    ·exact Part.vy (by decide)
    ·exact Part.Cy (yI (by rw[<-VO];exact pG.id))))
   have iP:Hid (∀w1,Goes (stA base x tb g cn (s.say q.conn ([101,114,114,32]++cJ id))) w F w1->w1.cell? ⟨g.rp id,0,none⟩=some (.int .i64 id)∧w1.cell? ⟨g.rp id,1,none⟩=some (.int .i64 q.conn)∧
     Calls prog 81 #[pt x,pt tb,pt (g.rp id)] w1 fun e w'=>e= .returned (.tuple #[])∧Goes (stA base x tb g cn ((s.say q.conn ([101,114,114,32]++cJ id)).shut id)) w F w'):=fun w1 hg=>by
    have T1:=T.goes (dx h) hg;obtain⟨F1,cd,o1,n1⟩:=hg;obtain⟨_,_,_,_,RA1⟩:=gK cd iA.inv (by have:=iA.sz;omega) ng;refine⟨RA1.ci,RA1.conn,(jh T1 cd iA (by omega) ng (hb.say _ _)).mono ?_⟩;rintro e w'⟨rfl,kQ⟩;exact⟨rfl,aF o1 n1 kQ⟩
   rw[hl,Int.sub_zero]at c5;clear h RA wK pG Zl hb;unfold pt at*;generalize g.rp id=rp at*;generalize s.c.re=re at*;go_enter func67,ntmps67;go_wp2_with (first
    |(go_at_call 82;go_must(refine nt.mono ?_;rintro e w1⟨rfl,rfl⟩)))
   go_quiet (fail)
   go_wp2_with fail;go_region_held3 (fun w'=>w'.cell? ⟨rp,0,none⟩=some (.int .i64 id)∧w'.cell? ⟨rp,1,none⟩=some (.int .i64 q.conn)) (go_keep) (first
    |(go_at_call 89;go_must(refine(gq.out _).mono ?_;rintro e w5⟨rfl,hg5⟩;obtain⟨z0,z1,z2⟩:=iP.out _ hg5;have HZ2:=hide z2;clear hg5 z2)))
   all_goals
    go_wp2_with (first
     |(go_at_call 81;go_must(refine HZ2.out.mono ?_;rintro e w6⟨rfl,iJ⟩;have sf:=hide iJ;clear iJ)))
    go_end0;exact⟨rfl,sf.out⟩
  ·have ea:s.again id true=(s.bu id (fun r=>{r with left:=r.left-1})).a6 id true:=by
    unfold St.again;rw[if_neg (by simpa using Zl),hq];simp[hl]
   rw[ea];have iA:Sd n (s.bu id (fun r=>{r with left:=r.left-1})):=hs.bu id _ (fun _=>⟨rfl,rfl⟩) (fun _=>Int.le_refl _) (fun _ h=>h) (fun r hr e=>by have:r=q:=Bd.Q6 hs.inv hq hr e;subst this;exact⟨pG.id,pG.n,by show 0<=r.left-1∧r.left-1<=5;omega,pG.ten,pG.txt⟩)
   have ng:(s.bu id (fun r=>{r with left:=r.left-1})).req id=some {q with left:=q.left-1}:=by rw[St.lT hs.inv id id (fun r=>{r with left:=r.left-1}) (fun _=>rfl),hq];simp
   have HP:Hid (∀nq,Calls prog 83 #[pt x,pt (g.rp id)] ((w.setCell ⟨g.rp id,5,none⟩ (.int .i64 (s.c.re-q.left+1))).drewN nq) fun e w'=>e= .returned (.tuple #[])∧Goes (stA base x tb g cn ((s.bu id (fun r=>{r with left:=r.left-1})).a6 id true)) w F w'):=fun nq=>by
    have hg:=Q0 T h hs.inv (by omega) hq (fun r=>{r with left:=r.left-1}) (fun _=>rfl) (fun _=>rfl) 5 (.int .i64 (s.c.re-q.left+1)) (fun av=>by
     have e1:s.c.re-(q.left-1)=s.c.re-q.left+1:=by omega
     unfold gV;dsimp only;rw[e1];rfl)
    have hg:=hg.drewN nq;have T1:=T.goes (dx h) hg;obtain⟨F1,cd,o1,n1⟩:=hg;refine(uC T1 cd iA.inv (by have:=iA.sz;omega) ng).mono ?_;rintro e w'⟨rfl,kQ⟩;exact⟨rfl,aF o1 n1 kQ⟩
   have hge:decide (s.c.re<=s.c.re-q.left)=false:=by simp;omega
   clear h RA wK pG Zl hb;have hlb:1<=q.left:=by omega
   unfold pt at*;generalize g.rp id=rp at*;generalize s.c.re=re at*;generalize q.left=ql at*;go_enter func67,ntmps67;go_wp2_with (first
    |(go_at_call 82;go_must(refine nt.mono ?_;rintro e w1⟨rfl,rfl⟩)))
   go_quiet (fail)
   go_wp2_with (first
    |(go_at_call 83;go_must(refine(HP.out _).mono ?_;rintro e w6⟨rfl,iJ⟩;have sf:=hide iJ;clear iJ)))
   go_end0;exact⟨rfl,sf.out⟩
end Pj
namespace Pj
open Go.RowKit aM Mc
variable{g:Gh}{k y:Int×Int}{p:Nat}{sr:Int}
def Gh.new(g:Gh)(k:Int×Int)(p:Nat)(sr:Int):Gh:={g with ap:=fun y=>if y=k then p else g.ap y,sr:=fun y=>if y=k then sr else g.sr y}
theorem Gh.Yv(g:Gh)(k:Int×Int)(p:Nat)(sr:Int):(g.new k p sr).ap k=p:=by simp[Gh.new]
theorem Gh.QF(g:Gh)(k:Int×Int)(p:Nat)(sr:Int):(g.new k p sr).sr k=sr:=by simp[Gh.new]
theorem Gh.Cu(h:y≠k):(g.new k p sr).ap y=g.ap y:=by simp[Gh.new,h]
theorem Gh.xC(h:y≠k):(g.new k p sr).sr y=g.sr y:=by simp[Gh.new,h]
theorem Mu(x:Nat)(g:Gh)(j:Js)(v:Dv)(k:Int×Int)(p:Nat)(sr:Int)(h1: ∀b∈j.hp,key b≠k)(h2: ∀y∈j.reqs,∀n∈y.al,(y.q.id,n)≠k):bk x (g.new k p sr) j v=bk x g j v:=by
 have e1:all (dO (g.new k p sr) j.c.re) j.reqs=all (dO g j.c.re) j.reqs:=all_congr fun y hy=>by
  unfold dO;congr 1;funext av;have:lx (g.new k p sr) av y.q.id y.al=lx g av y.q.id y.al:=by unfold lx;congr 1;exact bY fun n hn=>by rw[Gh.Cu (h2 y hy n hn)]
  rw[this];rfl
 have e2:eY (g.new k p sr) v.lv j.hp=eY g v.lv j.hp:=by unfold eY;congr 1;exact bY fun b hb=>by rw[Gh.Cu (h1 b hb)]
 have e3:hpA (g.new k p sr) j.hp=hpA g j.hp:=all_congr fun y hy=>by
  have hb:y.1∈j.hp:=by obtain⟨b,i⟩:=y;have:=List.mem_zipIdx_iff_getElem?.1 hy;exact dn this
  show gD _ _ _=gD _ _ _;unfold gD fW;rw[Gh.Cu (h1 _ hb),Gh.xC (h1 _ hb)];rfl
 unfold bk;rw[e1,e2,e3];rfl
theorem Yl(x:Nat)(g:Gh)(j:Js)(k:Int×Int)(p:Nat)(sr:Int)(h1: ∀b∈j.hp,key b≠k)(h2: ∀y∈j.reqs,∀n∈y.al,(y.q.id,n)≠k):jA x (g.new k p sr) j=jA x g j:=by unfold jA;congr 1;funext v;exact Mu x g j v k p sr h1 h2
theorem PD{hp:List At}{n:Nat}(h1: ∀b∈hp,key b≠k)(h:Hp.Heap (gH g) hp n):Hp.Heap (gH (g.new k p sr)) hp n:=by intro i h0 hn;intro a b ha hb;have h3:=h i h0 hn a b ha hb;have e1:=h1 a (dn ha);have e2:=h1 b (dn hb);unfold gH at h3⊢;rw[Gh.xC e1,Gh.xC e2];exact h3
end Pj
namespace Pj
open Go.RowKit aM Mc
attribute [local go_sem] ag ar
theorem Rg(id n:Int)(ten txt:Bs):said [.s [114,117,110], .n id, .n n, .s ten, .s txt]= [114,117,110,32]++cJ id++ [32]++cJ n++ [32]++ten++ [32]++txt:=by simp[said,Lib.join,Part.txt]
def Js.begin(j:Js)(r:Rr)(t:Tr)(a:At)(hp:List At):Js:=
 ({j with begun:=j.begun+1,hp:=hp}:Js).at2 r.q.id t.nm {r.q with n:=r.q.n+1} (r.al++ [a.n]) {t with rn:=t.rn+1}
section
variable{x:Nat}{g:Gh}{j:Js}{v:Dv}{r:Rr}{t:Tr}{q:Rq}{al:List Int}{av wv:Value}{B Q P:aM}{w w':World}{F:Ft}
theorem abw(h:(jW x g j v q al t av wv (aa Q P)).holds w F): ∃G,(aa (gy x (zE j v) g v.lv j.hp) P).holds w G∧ ∀bB mI w2,Goes (gy x ((zE j v).setIfInBounds 11 mI) g mI bB) w G w2->Goes (jW x g {j with hp:=bB} {v with lv:=mI} q al t av wv Q) w F w2:=by
 have h2:=aB h (show _=aa (aa (gy x (zE j v) g v.lv j.hp) P) (aa (fK g v.rv j.ring) (aa (mj g j.c.re q av) (aa (lx g av q.id al) (aa (mS g t wv) (aa (l8 g wv t.wt) Q)))))by unfold jW gy Av dB;ac_rfl);obtain⟨G,H,ha,hb,d,e⟩:=h2;refine⟨G,ha,fun bB mI w2 hg=> ?_⟩;refine(aV hb hg d e).eq ?_;have:gy x ((zE j v).setIfInBounds 11 mI) g mI bB=aa (dB x {j with hp:=bB} {v with lv:=mI}) (aa (eY g mI bB) (hpA g bB)):=rfl;rw[this];unfold jW;dsimp only
 ac_rfl
end
structure Beg(base x tb:Nat)(g:Gh)(cn:List (Int×Nat×Bs))(j:Js)(r:Rr)(t:Tr)(c:Int)(a:At)(N:Nat)(s':St):Prop where
 wf:Wf j
 hr:r∈j.reqs
 ht:t∈j.aW
 et:t.nm=r.q.ten
 ea:a=⟨r.q.id,r.q.n+1,c,j.now,j.now+j.c.le⟩
 f1: ∀b∈j.hp,key b≠key a
 f2: ∀y∈j.reqs,∀n∈y.al,(y.q.id,n)≠key a
 heap:Hp.Heap (gH g) j.hp j.hp.length
 cw:Cw j
 hc:I6 c
 hcn:jx j=cn
 rel: ∀bB,bB.Perm (a::j.hp)->Hp.Heap (gH (g.new (key a) N ((j.begun:Int)+1))) bB bB.length->Rel (g.new (key a) N ((j.begun:Int)+1)) (j.begin r t a bB) s'
 inv:Inv s'
 sz:s'.sz<=16776000
 req:s'.req r.q.id=some {r.q with n:=r.q.n+1}
 bS:a∈s'.af
 ok:r.q.ok 4398046511104 1
 now:0<=j.now∧j.now<=4398046511104
 le:0<=j.c.le∧j.c.le<=20
 beg:j.begun<=16777216
theorem Lm{base x tb:Nat}{g:Gh}{cn:List (Int×Nat×Bs)}{j:Js}{r:Rr}{t:Tr}{c:Int}{a:At}{s':St}{w:World}{F:Ft}(T:Tabs base w)(hF: ∀k,F k->base<=k)(h:(aa (jA x g j) (wD tb s'.out)).holds w F)(b:Beg base x tb g cn j r t c a w.heap.size s'):Calls prog 76 #[pt x,pt tb, .int .i64 c,pt (g.rp r.q.id)] w fun e w'=>e= .returned (.tuple #[])∧Goes (stA base x tb (g.new (key a) w.heap.size ((j.begun:Int)+1)) cn (s'.say c (St.runText r.q (r.q.n+1)))) w F w':=by
 obtain⟨i0,kR,gI,dN,fS⟩:=ia II;obtain⟨N,hN⟩: ∃N,N=w.heap.size:=⟨_,rfl⟩;obtain⟨g',kQ⟩: ∃g',g'=g.new (key a) N ((j.begun:Int)+1):=⟨_,rfl⟩;rw[<-hN]at b⊢;rw[<-kQ];rw[<-Yl x g j (key a) N ((j.begun:Int)+1) b.f1 b.f2,<-kQ]at h;have hrp:g.rp r.q.id=g'.rp r.q.id:=by rw[kQ];rfl
 rw[hrp];have DZ:g'.ap (key a)=N:=by rw[kQ];exact Gh.Yv _ _ _ _
 have hsr:g'.sr (key a)=(j.begun:Int)+1:=by rw[kQ];exact Gh.QF _ _ _ _
 have vR:Hp.Heap (gH g') j.hp j.hp.length:=by rw[kQ];exact PD b.f1 b.heap
 have hrel:=b.rel;rw[<-kQ]at hrel;have wf:=b.wf;have hr:=b.hr;have ht:=b.ht;have et:=b.et;have Tu:key a=(r.q.id,r.q.n+1):=by rw[b.ea];rfl
 have Ke:a.n=r.q.n+1:=by rw[b.ea]
 obtain⟨v,av,wv,Md,hw⟩:=pc h wf hr ht;have S7: ∀(s2:St) w7,Inv s2->s2.sz<=16777000->s2.req r.q.id=some {r.q with n:=r.q.n+1}->a∈s2.af->Goes (stA base x tb g' cn s2) w F w7->w7.cell? ⟨g'.rp r.q.id,0,none⟩=some (.int .i64 r.q.id)∧w7.cell? ⟨N,0,none⟩=some (.int .i64 (r.q.n+1))∧w7.cell? ⟨g'.rp r.q.id,2,none⟩=some (pt (g'.tp t.nm))∧w7.cell? ⟨g'.tp t.nm,0,none⟩=some (bs r.q.ten)∧w7.cell? ⟨g'.rp r.q.id,3,none⟩=some (bs r.q.txt):=fun s2 w7 XK fS qN ha2 hg=>by obtain⟨F7,Xn,_⟩:=hg;obtain⟨_,_,_,_,RA⟩:=gK Xn XK fS qN;obtain⟨p0,p1,p2,p3⟩:=lY Xn XK fS ha2;rw[DZ,Ke]at p0;exact⟨RA.ci,p0,by rw[et];exact RA.ten,by rw[et];exact RA.nm,RA.txt⟩
 have S7':Hid (∀w7,Goes (stA base x tb g' cn s') w F w7->(w7.cell? ⟨g'.rp r.q.id,0,none⟩=some (.int .i64 r.q.id)∧w7.cell? ⟨N,0,none⟩=some (.int .i64 (r.q.n+1))∧w7.cell? ⟨g'.rp r.q.id,2,none⟩=some (pt (g'.tp t.nm))∧w7.cell? ⟨g'.tp t.nm,0,none⟩=some (bs r.q.ten)∧w7.cell? ⟨g'.rp r.q.id,3,none⟩=some (bs r.q.txt))∧
   Hid (∀nq,Calls prog 89 #[pt tb, .int .i64 c, .slice (some ⟨w7.heap.size,0,none⟩) 5 5] ((w7.alloc (.cells #[.iface 9 (.string ⟨#[114,117,110]⟩), .iface 3 (.int .i64 r.q.id), .iface 3 (.int .i64 (r.q.n+1)), .iface 9 (bs r.q.ten), .iface 9 (bs r.q.txt)] 20)).drewN nq) fun e w'=>e= .returned (.tuple #[])∧
    (w'.cell? ⟨g'.rp r.q.id,0,none⟩=some (.int .i64 r.q.id)∧w'.cell? ⟨N,0,none⟩=some (.int .i64 (r.q.n+1))∧w'.cell? ⟨g'.rp r.q.id,2,none⟩=some (pt (g'.tp t.nm))∧w'.cell? ⟨g'.tp t.nm,0,none⟩=some (bs r.q.ten)∧w'.cell? ⟨g'.rp r.q.id,3,none⟩=some (bs r.q.txt))∧
    Goes (stA base x tb g' cn (s'.say c (St.runText r.q (r.q.n+1)))) w F w')):=fun w7 hg=>by
  refine⟨S7 s' w7 b.inv (by have:=b.sz;omega) b.req b.bS hg,fun nq=> ?_⟩;have T7:=T.goes hF hg;obtain⟨F7,Xn,o7,n7⟩:=hg;have Ah:=b.ok;have X5:=mM T7 Xn (by have:=b.sz;omega) c [.s [114,117,110], .n r.q.id, .n (r.q.n+1), .s r.q.ten, .s r.q.txt] (St.runText r.q (r.q.n+1)) (by rw[Rg];rfl) (by simp) (by simp) (by
   intro p hp;simp only[List.mem_cons,List.not_mem_nil,or_false]at hp;rcases hp with rfl|rfl|rfl|rfl|rfl
   ·exact Part.vy (by decide)
   ·exact Part.Cy (yI Ah.id)
   ·exact Part.Cy (by have:=Ah.n;omega)
   ·exact Part.vy Ah.ten
   ·exact Part.vy Ah.txt) nq
  refine X5.mono ?_;rintro e w'⟨rfl,kQ⟩;have ld:=aF o7 n7 kQ;exact⟨rfl,S7 _ w' (St.bM b.inv _ _) (by rw[St.eZ];have:=b.sz;omega) b.req b.bS ld,ld⟩
 have S6: ∀J4 w6,Goes (jW x g' {j with begun:=j.begun+1} v {r.q with n:=r.q.n+1} (r.al++ [a.n]) {t with rn:=t.rn+1} J4 wv (aa (aa (jQ g' j v r t) (wD tb s'.out)) (gD g' a 0))) w F w6->
   Calls prog 121 #[xA x, .iface 127 (pt N)] w6 fun e w'=>e= .returned (.tuple #[])∧Goes (stA base x tb g' cn s') w F w':=fun J4 w6 hg=>by
  obtain⟨F6,xu,o6,n6⟩:=hg;obtain⟨G6,zG,HL⟩:=abw xu;have PW:=Mm x _ g' v.lv j.hp a 0 w6 G6 (by rfl) zG vR (by have:=wf.b4;omega);rw[DZ]at PW;refine PW.mono ?_;rintro e w'⟨rfl,bB,mI,fw,XJ,iJ⟩;refine⟨rfl, ?_⟩;have g7:=aF o6 n6 (HL bB mI w' iJ);have g8:=w_shut (v:=v) (q:={r.q with n:=r.q.n+1}) (t':={t with rn:=t.rn+1}) {j with begun:=j.begun+1,hp:=bB} {v with lv:=mI} wf hr ht rfl rfl rfl rfl rfl rfl rfl rfl rfl rfl rfl g7;exact iD T hF (hrel bB fw XJ) ⟨fun y hy=>by
   rcases List.mem_cons.1 (fw.subset hy)with e|e
   ·rw[e,b.ea];exact b.hc
   ·exact b.cw.1 y e,b.cw.2⟩ b.hcn g8
 have S5: ∀J4 w5,Goes (jW x g' {j with begun:=j.begun+1} v {r.q with n:=r.q.n+1} (r.al++ [a.n]) t J4 wv (aa (aa (jQ g' j v r t) (wD tb s'.out)) (gD g' a 0))) w F w5->
   w5.cell? ⟨g'.rp r.q.id,2,none⟩=some (pt (g'.tp t.nm))∧w5.cell? ⟨g'.tp t.nm,2,none⟩=some (.int .i64 t.rn)∧w5.frozen? ⟨g'.tp t.nm,2,none⟩=false∧
   Hid (Calls prog 121 #[xA x, .iface 127 (pt N)] (w5.setCell ⟨g'.tp t.nm,2,none⟩ (.int .i64 (t.rn+1))) fun e w'=>e= .returned (.tuple #[])∧Goes (stA base x tb g' cn s') w F w'):=fun J4 w5 hg=>by
  obtain⟨F5,nZ,_⟩:=id hg;refine⟨by rw[et];exact(Sn nZ).1 2,(Zr nZ).1 2,(Zr nZ).2.1 2,S6 J4 _ (RP hg (t.rn+1))⟩
 have S3:Hid (∀w3,Goes (jW x g' {j with begun:=j.begun+1} v {r.q with n:=r.q.n+1} r.al t av wv (aa (aa (jQ g' j v r t) (wD tb s'.out)) (gD g' a 0))) w F w3->
   ∃ao cap G0,av= .slice ao r.al.length cap∧w3.cell? ⟨g'.rp r.q.id,7,none⟩=some (.slice ao r.al.length cap)∧Hid ((rowA 127 1 (.slice ao r.al.length cap) r.al.length (r.al.map fun n=>pt (g'.ap (r.q.id,n)))).holds (w3.alloc (.cells #[pt N] 127)) G0)∧
   Hid (∀iN eA w4,Goes (rowA 127 1 (.slice iN (r.al.length+1) eA) (r.al.length+1) ((r.al.map fun n=>pt (g'.ap (r.q.id,n)))++ [pt N])) (w3.alloc (.cells #[pt N] 127)) G0 w4->
    w4.cell? ⟨g'.rp r.q.id,7,none⟩=some (.slice ao r.al.length cap)∧w4.frozen? ⟨g'.rp r.q.id,7,none⟩=false∧
    (w4.setCell ⟨g'.rp r.q.id,7,none⟩ (.slice iN (r.al.length+1) eA)).cell? ⟨g'.rp r.q.id,2,none⟩=some (pt (g'.tp t.nm))∧(w4.setCell ⟨g'.rp r.q.id,7,none⟩ (.slice iN (r.al.length+1) eA)).cell? ⟨g'.tp t.nm,2,none⟩=some (.int .i64 t.rn)∧(w4.setCell ⟨g'.rp r.q.id,7,none⟩ (.slice iN (r.al.length+1) eA)).frozen? ⟨g'.tp t.nm,2,none⟩=false∧
    Hid (Calls prog 121 #[xA x, .iface 127 (pt N)] ((w4.setCell ⟨g'.rp r.q.id,7,none⟩ (.slice iN (r.al.length+1) eA)).setCell ⟨g'.tp t.nm,2,none⟩ (.int .i64 (t.rn+1))) fun e w'=>e= .returned (.tuple #[])∧Goes (stA base x tb g' cn s') w F w'))):=fun w3 hg=>by
  obtain⟨F3,iX,o3,n3⟩:=hg;obtain⟨G0,pD,uN⟩:=RN iX;obtain⟨ao,cap,Zd⟩:=aX (Goes.refl pD);have acd:(rowA 127 1 (.slice ao r.al.length cap) r.al.length (r.al.map fun n=>pt (g'.ap (r.q.id,n)))).holds w3 G0:=by rw[<-Zd];exact pD
  refine⟨ao,cap,G0,Zd,by rw[(Sn iX).1 7];show some av=_;rw[Zd],fM acd _,fun iN eA w4 kI=> ?_⟩;have hg5:=ft kI;have e5:lx g' (.slice iN (r.al.length+1) eA) r.q.id (r.al++ [a.n])=rowA 127 1 (.slice iN (r.al.length+1) eA) (r.al.length+1) ((r.al.map fun n=>pt (g'.ap (r.q.id,n)))++ [pt N]):=by
   unfold lx;rw[aN,aH];have:g'.ap (r.q.id,a.n)=N:=by rw[<-DZ,Tu,Ke]
   simp[this]
  obtain⟨d1,d2,d3⟩:=uN (r.al++ [a.n]) (.slice iN (r.al.length+1) eA) w4 (by rw[e5];exact hg5);obtain⟨d4,d5,d6,d7⟩:=S5 _ _ (aF o3 n3 d3);exact⟨by rw[d1,Zd],d2,d4,d5,d6,d7⟩
 have ebg:((j.begun+1:Nat):Int)=(j.begun:Int)+1:=by omega
 have G1:=Vp (Goes.refl hw) (j.begun+1);rw[ebg]at G1;have G2:=RO G1 4 (.int .i64 (r.q.n+1)) {r.q with n:=r.q.n+1} rfl rfl;have sH:((w.setCell ⟨x,12,none⟩ (.int .i64 ((j.begun:Int)+1))).setCell ⟨g'.rp r.q.id,4,none⟩ (.int .i64 (r.q.n+1))).heap.size=N:=by rw[hN];simp[World.setCell]
 have S2:Hid (∀nq,Goes (jW x g' {j with begun:=j.begun+1} v {r.q with n:=r.q.n+1} r.al t av wv (aa (aa (jQ g' j v r t) (wD tb s'.out)) (gD g' a 0))) w F ((((w.setCell ⟨x,12,none⟩ (.int .i64 ((j.begun:Int)+1))).setCell ⟨g'.rp r.q.id,4,none⟩ (.int .i64 (r.q.n+1))).alloc (.cells #[.int .i64 (r.q.n+1),pt (g'.rp r.q.id), .int .i64 c, .int .i64 ((j.begun:Int)+1), .int .i64 j.now, .int .i64 (j.now+j.c.le), .int .i64 0] 126)).drewN nq)):=fun nq=>by
  refine((G2.alloc (.cells #[.int .i64 (r.q.n+1),pt (g'.rp r.q.id), .int .i64 c, .int .i64 ((j.begun:Int)+1), .int .i64 j.now, .int .i64 (j.now+j.c.le), .int .i64 0] 126)).eq ?_).drewN nq;have e1:blk ((w.setCell ⟨x,12,none⟩ (.int .i64 ((j.begun:Int)+1))).setCell ⟨g'.rp r.q.id,4,none⟩ (.int .i64 (r.q.n+1))).heap.size (.cells #[.int .i64 (r.q.n+1),pt (g'.rp r.q.id), .int .i64 c, .int .i64 ((j.begun:Int)+1), .int .i64 j.now, .int .i64 (j.now+j.c.le), .int .i64 0] 126)=gD g' a 0:=by rw[sH];unfold gD fW;rw[DZ,hsr,b.ea];rfl
  rw[e1];unfold jW
  ac_rfl
 obtain⟨F2,eX,_⟩:=id G2;obtain⟨F1,cd,_⟩:=id G1;have c12:w.cell? ⟨x,12,none⟩=some (.int .i64 (j.begun:Int)):=(YU hw).1 12;have z12:w.frozen? ⟨x,12,none⟩=false:=(YU hw).2.1 12;have c4:=(Sn cd).1 4;have z4:=(Sn cd).2.1 4;change _=some (Value.int .i64 r.q.n)at c4;have d4:=(Sn eX).1 4;change _=some (Value.int .i64 (r.q.n+1))at d4;have d12:=(YU eX).1 12;change _=some (Value.int .i64 ((j.begun+1:Nat):Int))at d12;rw[ebg]at d12;have d5:=(YU eX).1 5;change _=some (Value.int .i64 j.now)at d5;have d0:=(YU eX).1 0;change _=some (Value.int .i64 j.c.le)at d0;have hb1:=b.beg;have bN:=b.ok.n;have mh:=b.now;have l9:=b.le;have uI:=wf.b5 t ht;have hb6:=wf.al r hr;clear h Md hw G1 G2 cd eX S5 S6 S7 b vR hrel wf hr ht et Tu Ke hsr kQ hrp DZ;unfold pt bs xA at*;generalize g'.rp r.q.id=rp at*;generalize g'.tp t.nm=tp at*;generalize j.now=now at*;generalize j.c.le=le at*;generalize t.rn=rn at*;have En:IntKind.i64.wrap (now+le)=now+le:=by rw[IntKind.wrap_i64];omega
 go_enter func76,ntmps76;go_wp2_with fail;generalize((w.setCell {block:=x,off:=12} (Value.int IntKind.i64 (↑j.begun+1))).setCell {block:=rp,off:=4} (Value.int IntKind.i64 (r.q.n+1)))=w2 at*;have ne4:=World.new_ne w2 _ d4;have ac4:=World.new_ne w2 _ d12;have ne5:=World.new_ne w2 _ d5;have ne0:=World.new_ne w2 _ d0;go_region_held3 (fun w'=>w'.cell? ⟨rp,4,none⟩=some (.int .i64 (r.q.n+1))∧w'.cell? ⟨x,12,none⟩=some (.int .i64 ((j.begun:Int)+1))∧w'.cell? ⟨x,5,none⟩=some (.int .i64 now)∧w'.cell? ⟨x,0,none⟩=some (.int .i64 le)) (go_keep) (fail);rw[<-hN];have Kr:=S2.out 1;change Goes _ w F (w2.alloc _).drew at Kr;generalize(w2.alloc (.cells #[.int .i64 (r.q.n+1), .pointer (some ⟨rp,0,none⟩), .int .i64 c, .int .i64 ((j.begun:Int)+1), .int .i64 now, .int .i64 (now+le), .int .i64 0] 126)).drew=w3 at*;obtain⟨ao,cap,G0,rfl,q7,fy,Sq⟩:=S3.out w3 Kr;clear hN sH Kr S2 S3 d4 d12 d5 d0 ne4 ac4 ne5 ne0 c12 z12 c4 z4 En;generalize r.al.length=nal at*;go_wp2_with (first
  |(at_builtin;go_must(refine aC _ rfl _ _ 85 rfl 127 i0 (.pointer none) 1 8 underlying85 kR gI dN fS rfl (by decide) (F:=G0) _ nal _ rfl fy.out ⟨w3.heap.size,0,none⟩ 1 1 [.pointer (some ⟨N,0,none⟩)] rfl rfl (World.news_of_block (cs:= #[.pointer (some ⟨N,0,none⟩)]) (t:=127) (fr:=(0,0)) (heap_alloc_new w3 _)) (by simp[Value.oneCell']) (by unfold maxLen;omega) (by omega) ?_;intro iN eA w4 bK;obtain⟨e7,z7,e2,et2,zt2,SJ⟩:=Sq.out iN eA w4 bK;clear bK fy Sq))
  |(go_at_call 121;go_must(refine SJ.out.mono ?_;rintro e w7⟨rfl,u6⟩;obtain⟨⟨y0,y1,y2,y3,y4⟩,gq⟩:=S7'.out w7 u6;clear u6)))
 have ny0:=World.new_ne w7 _ y0;have ny1:=World.new_ne w7 _ y1;have ny2:=World.new_ne w7 _ y2;have ny3:=World.new_ne w7 _ y3;have ny4:=World.new_ne w7 _ y4;go_region_held3 (fun w'=>w'.cell? ⟨rp,0,none⟩=some (.int .i64 r.q.id)∧w'.cell? ⟨N,0,none⟩=some (.int .i64 (r.q.n+1))∧w'.cell? ⟨rp,2,none⟩=some (.pointer (some ⟨tp,0,none⟩))∧w'.cell? ⟨tp,0,none⟩=some (.string ⟨r.q.ten.toArray⟩)∧w'.cell? ⟨rp,3,none⟩=some (.string ⟨r.q.txt.toArray⟩)) (go_keep) (first
  |(go_at_call 89;go_must(refine(gq.out _).mono ?_;rintro e w8⟨rfl,⟨x0,x1,x2,x3,x4⟩,TQ⟩;have Y3:=hide TQ;clear TQ)))
 all_goals go_end0;exact⟨rfl,Y3.out⟩
section
variable{x:Nat}{g:Gh}{j:Js}{B:aM}{w w':World}{F:Ft}
theorem BX(h:(aa (jA x g j) B).holds w F)(hl:j.pull.length<=16777210)(c:Int):Calls prog 73 #[pt x, .int .i64 c] w fun e w'=>e= .returned (.tuple #[])∧Goes (aa (jA x g {j with pull:=j.pull.erase c}) B) w F w':=by
 unfold jA at h;rw[cx]at h;obtain⟨v,h⟩:=h;have h2:=aB h (show _=aa (aa (dB x j v) (jw v.pv j.pull)) (aa (kN v.cm j.bT) (aa (jS g v.rm j.reqs) (aa (jk g v.tm j.aW) (aa (all jo j.bT) (aa (all (dO g j.c.re) j.reqs) (aa (all (gA g) j.aW) (aa (fK g v.rv j.ring) (aa (eY g v.lv j.hp) (aa (hpA g j.hp) B)))))))))by unfold bk;ac_rfl);obtain⟨G,H,ha,hb,d,e⟩:=h2;refine(Mq x (zE j v) c j.pull v.pv w G rfl ha (by omega)).mono ?_;rintro e' w'⟨rfl,Jj,hg⟩;refine⟨rfl,(aV hb hg d e).mono fun F' h'=> ?_⟩;unfold jA;rw[cx];refine⟨{v with pv:=Jj},aB h' ?_⟩;have:blk x (.cells ((zE j v).setIfInBounds 10 Jj) 88 (0,0))=dB x {j with pull:=j.pull.erase c} {v with pv:=Jj}:=rfl;rw[this];unfold bk;dsimp only
 ac_rfl
theorem yq{c:Int}{ws:List Int}:(c::ws).erase c=ws:=List.erase_cons_head ..
theorem Wf.turn(wf:Wf j){t:Tr}(ht:t∈j.aW)(hb:j.ring.length<=16777200):Wf (j.turn t):=by
 by_cases he:t.wt= []
 ·have:j.turn t=j:=by unfold Js.turn;rw[if_pos he]
  rw[this];exact wf
 ·have e:(j.turn t).ring=j.ring.erase t.nm++ [t.nm]:=by unfold Js.turn;rw[if_neg he]
  refine⟨wf.rid,wf.rj,wf.RR,fun n hn=> ?_,wf.fP,wf.b1, ?_,wf.b3,wf.b4,wf.b5,wf.b6,wf.b7,wf.b8,wf.al⟩
  ·rw[e]at hn;rcases List.mem_append.1 hn with h|h
   ·exact wf.ring n (List.mem_of_mem_erase h)
   ·rw[cY.1 h];exact aA.2 ⟨t,ht,rfl⟩
  ·rw[e,aN];have h2:(j.ring.erase t.nm).length<=j.ring.length:=List.length_erase_le ..;simp only[List.length_cons,List.length_nil];omega
theorem Vm{α κ:Type} [DecidableEq κ]{k:α->κ}{c:κ}{f1 f2:α->α}{l:List α}(h: ∀y,k (f1 y)=k y):upd k c f2 (upd k c f1 l)=upd k c (fun y=>f2 (f1 y)) l:=by
 unfold upd;rw[aG];refine bY fun y _=> ?_;simp only[Function.comp_def];by_cases e:k y=c
 ·rw[if_pos e,if_pos (by rw[h];exact e),if_pos e]
 ·rw[if_neg e,if_neg e,if_neg e]
theorem TB(wf:Wf j){r:Rr}{t:Tr}{a:At}(hr:r∈j.reqs)(ht:t∈j.aW)(ea:a.id=r.q.id){c:Int}{ws:List Int}(hp:j.pull=c::ws)(bB:List At):((({j with pull:=j.pull.erase c}:Js).left t r.q.id).turn {t with wt:=t.wt.erase r.q.id}).begin r {t with wt:=t.wt.erase r.q.id} a bB=j.gave t a bB:=by
 have e1:upd (fun t:Tr=>t.nm) t.nm (fun _=>{t with wt:=t.wt.erase r.q.id,rn:=t.rn+1}) (upd (fun t:Tr=>t.nm) t.nm (fun t=>{t with wt:=t.wt.erase r.q.id}) j.aW)=upd (fun t:Tr=>t.nm) t.nm (fun t=>{t with wt:=t.wt.erase r.q.id,rn:=t.rn+1}) j.aW:=by rw[Vm (f1:=fun t:Tr=>{t with wt:=t.wt.erase r.q.id}) (fun _=>rfl),lq (k:=fun t:Tr=>t.nm) wf.rj ht (fun t=>{t with wt:=t.wt.erase r.q.id,rn:=t.rn+1})]
 have e2:=lq (k:=fun r:Rr=>r.q.id) wf.rid hr (fun r=>⟨{r.q with n:=r.q.n+1},r.al++ [a.n]⟩);unfold Js.begin Js.at2 Js.turn Js.left Js.gave;dsimp only;rw[e1,ea,e2,hp,yq];by_cases he:t.wt.erase r.q.id= []
 ·simp[he]
 ·simp[he]
