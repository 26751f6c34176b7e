import Derived.Test.YtffamlbkmjmipaaGreatDoorC08
import Derived.Test.YtffamlbkmjmipaaGreatDoorC09
import Derived.Test.YtffamlbkmjmipaaGreatDoorC10
import Derived.Test.YtffamlbkmjmipaaGreatDoorC19
set_option maxHeartbeats 8000000
set_option maxRecDepth 100000
namespace Go.Proofs.YtffamlbkmjmipaaGreatDoor
open _root_.Go.Proofs.Tryz
namespace Pj
open Go.RowKit aD Mc
attribute [local go_sem] ae ah
variable{w:World}{F:Ft}
theorem bq{p:Nat}{cs:Array Value}{t:TypeId}{B:aD}(h:(aa (blk p (.cells cs t (0,0))) B).holds w F):(∀j,w.cell? ⟨p,j,none⟩=cs[j]?)∧(∀j,w.frozen? ⟨p,j,none⟩=false)∧w.heap[p]?=some (.cells cs t (0,0)):=by have:=(bQ h).1;exact⟨fun j=>by simp only[World.cell?,this];rfl,fun j=>by simp only[World.frozen?,this];simp,this⟩
theorem aJ{e:TypeId}{n:Nat}{v:Value}{xs:List Value}{w':World}(h:Goes (rowA e 1 v n xs) w F w'): ∃ao cap,v= .slice ao n cap:=by obtain⟨_,h,_⟩:=h;obtain⟨ao,cap,e,_⟩:=bS h;exact⟨ao,cap,e⟩
theorem FC(x:Nat)(cs:Array Value)(c:Int)(pull:List Int)(pv:Value)(w:World)(F:Ft)(hc:cs[10]?=some pv)(h:(aa (blk x (.cells cs 88 (0,0))) (gm pv pull)).holds w F)(hl:pull.length<=16777216):Calls prog 73 #[pt x, .int .i64 c] w fun e w'=>e= .returned (.tuple #[])∧ ∃CU,Goes (aa (blk x (.cells (cs.setIfInBounds 10 CU) 88 (0,0))) (gm CU (pull.erase c))) w F w':=by
 obtain⟨cl,fz,_⟩:=bq h;have c10:w.cell? ⟨x,10,none⟩=some pv:=(cl 10).trans hc;obtain⟨G,H,ha,hb,d,e⟩:=h;have hx:x<w.heap.size:=(bZ.1 ha.1).1;obtain⟨ao,cap,rfl⟩:=aJ (Goes.refl hb);have Hg:=woI _ pull c w H hb hl;have HX:Hid (∀v' w1,Goes (rowA 3 1 v' (pull.erase c).length ((pull.erase c).map fun i=> .int .i64 i)) w H w1->w1.cell? ⟨x,10,none⟩=some (.slice ao pull.length cap)∧w1.frozen? ⟨x,10,none⟩=false∧Goes (aa (blk x (.cells (cs.setIfInBounds 10 v') 88 (0,0))) (gm v' (pull.erase c))) w F (w1.setCell ⟨x,10,none⟩ v')):=fun v' w1 hg=>by have g1:Goes (aa (gm v' (pull.erase c)) (blk x (.cells cs 88 (0,0)))) w F w1:=aH (A':=gm v' (pull.erase c)) ha hg (fun k hk hg=>d k hg hk) (fun k=>(e k).trans or_comm);have g2:=g1.eq (aZ _ _);obtain⟨F1,bU,o1,n1⟩:=g2;obtain⟨cl1,fz1,_⟩:=bq bU;exact⟨(cl1 10).trans hc,fz1 10,Goes.store ⟨F1,bU,o1,n1⟩ 10 v'⟩
 clear ha hb d e cl fz;unfold pt;go_enter func73,ntmps73;go_wp2_with (first|(go_at_call 118;go_must(refine Hg.mono ?_;rintro e w1⟨v',rfl,hg⟩;obtain⟨c1,f1,qX⟩:=HX.out v' w1 hg;obtain⟨eK,bO,rfl⟩:=aJ hg;have Hu:=hide qX;clear hg qX)));go_end0;exact⟨rfl,_,Hu.out⟩
end Pj
namespace Pj
open Go.RowKit aD Mc
variable{x:Nat}{g:Gh}{j:Js}{v:Dv}{r:Rr}{t:Tr}
theorem aw{A B:aD}{w:World}{F:Ft}(h:A.holds w F)(e:A=B):B.holds w F:=e▸h
section
variable{x:Nat}{g:Gh}{j:Js}{v:Dv}{w:World}{F:Ft}
theorem km{α:Type}{A:α->aD}{p:α->Nat}(hA: ∀y w G,(A y).holds w G->jk w (p y)∧G (p y)): ∀{l:List α} {w:World} {F:Ft},(all A l).holds w F->(l.map p).Nodup∧ ∀y∈l,jk w (p y)∧F (p y)
 | [],_,_,_=>⟨by simp,fun y hy=>by cases hy⟩
 |y::l,w,F,h=>by
  obtain⟨G,H,ha,hb,d,e⟩:=h;obtain⟨hn,hm⟩:=km hA hb;have h1:=hA y w G ha;refine⟨?_,fun z hz=> ?_⟩
  ·rw[List.map_cons,List.nodup_cons];refine⟨fun BC=> ?_,hn⟩;obtain⟨z,hz,ez⟩:=ax.1 BC;exact d _ h1.2 (ez▸(hm z hz).2)
  ·rcases List.mem_cons.1 hz with e3|e3
   ·rw[e3];exact⟨h1.1,(e _).2 (.inl h1.2)⟩
   ·exact⟨(hm z e3).1,(e _).2 (.inr (hm z e3).2)⟩
theorem K4(re:Int)(y:Rr)(w:World)(G:Ft)(h:(dP g re y).holds w G):jk w (g.rp y.q.id)∧G (g.rp y.q.id):=by obtain⟨av,h⟩:=h;have:=bQ h;exact⟨⟨_,_,this.1⟩,this.2⟩
theorem Ls(y:Tr)(w:World)(G:Ft)(h:(eC g y).holds w G):jk w (g.tp y.nm)∧G (g.tp y.nm):=by obtain⟨av,h⟩:=h;have:=bQ h;exact⟨⟨_,_,this.1⟩,this.2⟩
theorem Ih(y:At×Nat)(w:World)(G:Ft)(h:(eN g y.1 y.2).holds w G):jk w (g.ap (key y.1))∧G (g.ap (key y.1)):=by have:=Mv h;exact⟨⟨_,_,this.1⟩,this.2⟩
theorem QQ(h:(aS x g j v).holds w F):(j.reqs.map fun r=>g.rp r.q.id).Nodup∧ ∀r∈j.reqs,jk w (g.rp r.q.id):=by
 have e:aS x g j v=aa (all (dP g j.c.re) j.reqs) (aa (dB x j v) (aa (iu v.cm j.br) (aa (gJ g v.rm j.reqs) (aa (fW g v.tm j.aI) (aa (all gi j.br) (aa (all (eC g) j.aI) (aa (dF g v.rv j.ring) (aa (gm v.pv j.pull) (aa (dm g v.lv j.hp) (hpA g j.hp)))))))))):=by unfold aS;ac_rfl
 obtain⟨G,hG,_⟩:=aD.left (aw h e);obtain⟨h1,h2⟩:=km (p:=fun r:Rr=>g.rp r.q.id) (fun y w G h=>K4 j.c.re y w G h) hG;exact⟨h1,fun r hr=>(h2 r hr).1⟩
theorem Pw(h:(aS x g j v).holds w F):(j.aI.map fun t=>g.tp t.nm).Nodup∧ ∀t∈j.aI,jk w (g.tp t.nm):=by
 have e:aS x g j v=aa (all (eC g) j.aI) (aa (dB x j v) (aa (iu v.cm j.br) (aa (gJ g v.rm j.reqs) (aa (fW g v.tm j.aI) (aa (all gi j.br) (aa (all (dP g j.c.re) j.reqs) (aa (dF g v.rv j.ring) (aa (gm v.pv j.pull) (aa (dm g v.lv j.hp) (hpA g j.hp)))))))))):=by unfold aS;ac_rfl
 obtain⟨G,hG,_⟩:=aD.left (aw h e);obtain⟨h1,h2⟩:=km (p:=fun t:Tr=>g.tp t.nm) (fun y w G h=>Ls y w G h) hG;exact⟨h1,fun r hr=>(h2 r hr).1⟩
theorem zip_fst(l:List At):l.zipIdx.map (fun y=>g.ap (key y.1))=l.map fun a=>g.ap (key a):=by
 have:l.zipIdx.map (fun y=>g.ap (key y.1))=(l.zipIdx.map (·.1)).map fun a=>g.ap (key a):=by rw[az];rfl
 rw[this];simp
theorem XY(h:(aS x g j v).holds w F):(j.hp.map fun a=>g.ap (key a)).Nodup∧ ∀a∈j.hp,jk w (g.ap (key a)):=by
 have e:aS x g j v=aa (hpA g j.hp) (aa (dB x j v) (aa (iu v.cm j.br) (aa (gJ g v.rm j.reqs) (aa (fW g v.tm j.aI) (aa (all gi j.br) (aa (all (dP g j.c.re) j.reqs) (aa (all (eC g) j.aI) (aa (dF g v.rv j.ring) (aa (gm v.pv j.pull) (dm g v.lv j.hp)))))))))):=by unfold aS;ac_rfl
 obtain⟨G,hG,_⟩:=aD.left (aw h e);obtain⟨h1,h2⟩:=km (p:=fun y:At×Nat=>g.ap (key y.1)) (fun y w G h=>Ih y w G h) hG;rw[zip_fst]at h1;refine⟨h1,fun a ha=> ?_⟩;obtain⟨i,hi⟩:=List.getElem?_of_mem ha;have:(a,i)∈j.hp.zipIdx:=by rw[List.mem_zipIdx_iff_getElem?];exact hi
 exact(h2 _ this).1
theorem CD{α κ:Type}{l:List α}{p:κ->Nat}{k:α->κ}(hn:(l.map fun y=>p (k y)).Nodup){a b:κ}(ha:a∈l.map k)(hb:b∈l.map k)(e:p a=p b):a=b:=by obtain⟨y,hy,rfl⟩:=ax.1 ha;obtain⟨z,hz,rfl⟩:=ax.1 hb;rw[bC (k:=fun y=>p (k y)) hn hy hz e]
end
structure Wf(j:Js):Prop where
 rid:(j.reqs.map fun r=>r.q.id).Nodup
 mn:(j.aI.map (·.nm)).Nodup
 UX: ∀t∈j.aI,∀i∈t.wt,i∈j.reqs.map fun r=>r.q.id
 ring: ∀n∈j.ring,n∈j.aI.map (·.nm)
 dV: ∀r∈j.reqs,r.q.ten∈j.aI.map (·.nm)
 b1: ∀t∈j.aI,t.wt.length<=16777210
 b2:j.ring.length<=16777210
 b3:j.pull.length<=16777210
 b4:j.hp.length<=16777190
 b5: ∀t∈j.aI,0<=t.rn∧t.rn<=16777216
 b6:j.reqs.length<=16777210
 b7:j.aI.length<=16777210
 b8:j.br.length<=16777210
 al: ∀r∈j.reqs,r.al.length<=16777210
def jR(g:Gh)(j:Js)(v:Dv)(r:Rr)(t:Tr):aD:=
 aa (iu v.cm j.br) (aa (gJ g v.rm j.reqs) (aa (fW g v.tm j.aI) (aa (all gi j.br) (aa (all (dP g j.c.re) (j.reqs.filter fun y=>decide (y.q.id≠r.q.id))) (aa (all (eC g) (j.aI.filter fun y=>decide (y.nm≠t.nm))) (aa (gm v.pv j.pull) (aa (dm g v.lv j.hp) (hpA g j.hp))))))))
theorem NY(h1:(j.reqs.map fun r=>r.q.id).Nodup)(h2:(j.aI.map (·.nm)).Nodup)(hr:r∈j.reqs)(ht:t∈j.aI):aS x g j v=aa (dB x j v) (aa (dF g v.rv j.ring) (aa (dP g j.c.re r) (aa (eC g t) (jR g j v r t)))):=by
 unfold aS jR;rw[jm (A:=dP g j.c.re) (k:=fun r:Rr=>r.q.id) h1 hr,jm (A:=eC g) (k:=fun t:Tr=>t.nm) h2 ht]
 ac_rfl
theorem Oh(h1:(j.reqs.map fun r=>r.q.id).Nodup)(h2:(j.aI.map (·.nm)).Nodup)(hr:r∈j.reqs)(ht:t∈j.aI)(f:Tr->Tr)(hf:(f t).nm=t.nm)(ring:List Bs)(rv:Value):aS x g {j with ring:=ring,aI:=upd (fun t:Tr=>t.nm) t.nm f j.aI} {v with rv:=rv}=aa (dB x j {v with rv:=rv}) (aa (dF g rv ring) (aa (dP g j.c.re r) (aa (eC g (f t)) (jR g j v r t)))):=by
 have e:(upd (fun t:Tr=>t.nm) t.nm f j.aI).map (fun t=>(t.nm,g.tp t.nm))=j.aI.map fun t=>(t.nm,g.tp t.nm):=fp _ (fun y hy ey=>by have:y=t:=bC (k:=fun t:Tr=>t.nm) h2 hy ht ey;rw[this,hf])
 unfold aS jR fW;dsimp only;rw[e,jm (A:=dP g j.c.re) (k:=fun r:Rr=>r.q.id) h1 hr,Dy (A:=eC g) (k:=fun t:Tr=>t.nm) h2 ht];show aa (dB x j {v with rv:=rv}) _=_
 ac_rfl
end Pj
namespace Pj
open Go.RowKit aD Mc
attribute [local go_sem] ae ah
variable{x:Nat}{g:Gh}{j:Js}{r:Rr}{t:Tr}{w:World}{F:Ft}
theorem fx{α:Type}(A:aD)(B:α->aD):aa A (ex B)=ex fun b=>aa A (B b):=by rw[aZ,bF];congr 1;funext b;exact aZ _ _
def qs(x:Nat)(g:Gh)(j:Js)(v:Dv)(q:Rq)(al:List Int)(t:Tr)(ring:List Bs)(rv av wv:Value)(R:aD):aD:=
 aa (dB x j {v with rv:=rv}) (aa (dF g rv ring) (aa (ji g j.c.re q av) (aa (iM g av q.id al) (aa (jF g t wv) (aa (je g wv t.wt) R)))))
theorem sy(h:(jA x g j).holds w F)(wf:Wf j)(hr:r∈j.reqs)(ht:t∈j.aI): ∃v av wv,(aS x g j v).holds w F∧(qs x g j v r.q r.al t j.ring v.rv av wv (jR g j v r t)).holds w F:=by
 obtain⟨v,h⟩:=h;have h1:=aw h (NY wf.rid wf.mn hr ht);unfold dP eC at h1;have e:aa (dB x j v) (aa (dF g v.rv j.ring) (aa (ex fun av=>aa (ji g j.c.re r.q av) (iM g av r.q.id r.al)) (aa (ex fun wv=>aa (jF g t wv) (je g wv t.wt)) (jR g j v r t))))=ex fun av=>ex fun wv=>qs x g j v r.q r.al t j.ring v.rv av wv (jR g j v r t):=by
  rw[bF,fx,fx];congr 1;funext av;rw[bF,fx,fx,fx];congr 1;funext wv;unfold qs
  ac_rfl
 obtain⟨av,wv,h2⟩:=aw h1 e;exact⟨v,av,wv,h,h2⟩
theorem pk{v:Dv}(wf:Wf j)(hr:r∈j.reqs)(ht:t∈j.aI)(f:Tr->Tr)(hf:(f t).nm=t.nm)(ring:List Bs)(rv av wv:Value){w':World}(h:Goes (qs x g j v r.q r.al (f t) ring rv av wv (jR g j v r t)) w F w'):Goes (jA x g {j with ring:=ring,aI:=upd (fun t:Tr=>t.nm) t.nm f j.aI}) w F w':=by
 refine h.mono fun F' h'=>⟨{v with rv:=rv}, ?_⟩;show(aS x g _ _).holds _ _;rw[Oh wf.rid wf.mn hr ht f hf];unfold dP eC;have e:aa (dB x j {v with rv:=rv}) (aa (dF g rv ring) (aa (ex fun av=>aa (ji g j.c.re r.q av) (iM g av r.q.id r.al)) (aa (ex fun wv=>aa (jF g (f t) wv) (je g wv (f t).wt)) (jR g j v r t))))=ex fun av=>ex fun wv=>qs x g j v r.q r.al (f t) ring rv av wv (jR g j v r t):=by
  rw[bF,fx,fx];congr 1;funext av;rw[bF,fx,fx,fx];congr 1;funext wv;unfold qs
  ac_rfl
 rw[e];exact⟨av,wv,h'⟩
section
variable{x:Nat}{g:Gh}{j:Js}{v:Dv}{q:Rq}{al:List Int}{t:Tr}{ring:List Bs}{rv av wv:Value}{R:aD}{w:World}{F:Ft}
theorem Q5(h:(qs x g j v q al t ring rv av wv R).holds w F):(∀k,w.cell? ⟨x,k,none⟩=(uI j {v with rv:=rv})[k]?)∧(∀k,w.frozen? ⟨x,k,none⟩=false):=by have:=bq h;exact⟨this.1,this.2.1⟩
theorem Q6(h:(qs x g j v q al t ring rv av wv R).holds w F):(∀k,w.cell? ⟨g.rp q.id,k,none⟩=(mD g j.c.re q av)[k]?)∧(∀k,w.frozen? ⟨g.rp q.id,k,none⟩=false)∧jk w (g.rp q.id):=by have:=bq (aw h (show _=aa (ji g j.c.re q av) (aa (dB x j {v with rv:=rv}) (aa (dF g rv ring) (aa (iM g av q.id al) (aa (jF g t wv) (aa (je g wv t.wt) R)))))by unfold qs;ac_rfl));exact⟨this.1,this.2.1,_,_,this.2.2⟩
theorem Gn(h:(qs x g j v q al t ring rv av wv R).holds w F):(∀k,w.cell? ⟨g.tp t.nm,k,none⟩=(Dg t wv)[k]?)∧(∀k,w.frozen? ⟨g.tp t.nm,k,none⟩=false)∧jk w (g.tp t.nm):=by have:=bq (aw h (show _=aa (jF g t wv) (aa (dB x j {v with rv:=rv}) (aa (dF g rv ring) (aa (ji g j.c.re q av) (aa (iM g av q.id al) (aa (je g wv t.wt) R)))))by unfold qs;ac_rfl));exact⟨this.1,this.2.1,_,_,this.2.2⟩
theorem pn(h:(qs x g j v q al t ring rv av wv R).holds w F): ∃G,(je g wv t.wt).holds w G∧ ∀UW Bu w2,Goes (je g Bu UW) w G w2->w2.cell? ⟨g.tp t.nm,1,none⟩=some wv∧w2.frozen? ⟨g.tp t.nm,1,none⟩=false∧Goes (qs x g j v q al {t with wt:=UW} ring rv av Bu R) w F (w2.setCell ⟨g.tp t.nm,1,none⟩ Bu):=by
 have h2:=aw h (show _=aa (je g wv t.wt) (aa (jF g t wv) (aa (dB x j {v with rv:=rv}) (aa (dF g rv ring) (aa (ji g j.c.re q av) (aa (iM g av q.id al) R)))))by unfold qs;ac_rfl);obtain⟨G,H,ha,hb,d,e⟩:=h2;refine⟨G,ha,fun UW Bu w2 hg=> ?_⟩;have g1:=aH hb hg d e;have g2:=g1.eq (show _=aa (blk (g.tp t.nm) (.cells (Dg t wv) 92 (0,0))) (aa (je g Bu UW) (aa (dB x j {v with rv:=rv}) (aa (dF g rv ring) (aa (ji g j.c.re q av) (aa (iM g av q.id al) R)))))by unfold jF;ac_rfl);obtain⟨F2,gl,_⟩:=id g2;obtain⟨cl,fz,_⟩:=bq gl;refine⟨cl 1,fz 1,(g2.store 1 Bu).eq ?_⟩;show aa (jF g {t with wt:=UW} Bu) _=_;unfold qs
 ac_rfl
theorem x7(h:(qs x g j v q al t ring rv av wv R).holds w F): ∃G,(dF g rv ring).holds w G∧ ∀EA Q8 w2,Goes (dF g Q8 EA) w G w2->w2.cell? ⟨x,9,none⟩=some rv∧w2.frozen? ⟨x,9,none⟩=false∧Goes (qs x g j v q al t EA Q8 av wv R) w F (w2.setCell ⟨x,9,none⟩ Q8):=by
 have h2:=aw h (show _=aa (dF g rv ring) (aa (dB x j {v with rv:=rv}) (aa (ji g j.c.re q av) (aa (iM g av q.id al) (aa (jF g t wv) (aa (je g wv t.wt) R)))))by unfold qs;ac_rfl);obtain⟨G,H,ha,hb,d,e⟩:=h2;refine⟨G,ha,fun EA Q8 w2 hg=> ?_⟩;have g1:=aH hb hg d e;have g2:=g1.eq (show _=aa (blk x (.cells (uI j {v with rv:=rv}) 88 (0,0))) (aa (dF g Q8 EA) (aa (ji g j.c.re q av) (aa (iM g av q.id al) (aa (jF g t wv) (aa (je g wv t.wt) R)))))by unfold dB;ac_rfl);obtain⟨F2,gl,_⟩:=id g2;obtain⟨cl,fz,_⟩:=bq gl;refine⟨cl 9,fz 9,(g2.store 9 Q8).eq ?_⟩;show aa (dB x j {v with rv:=Q8}) _=_;unfold qs
 ac_rfl
end
variable{x:Nat}{g:Gh}{j:Js}{v:Dv}{w:World}{F:Ft}{r:Rr}{t:Tr}
theorem Im{κ:Type} [DecidableEq κ](i:BEq κ) [@LawfulBEq κ i]:(instBEqOfDecidableEq:BEq κ)=i:=by
 cases i with
 |mk f=>
  show(⟨fun a b=>decide (a=b)⟩:BEq κ)=⟨f⟩;congr 1;funext a b;by_cases e:a=b
  ·subst e;have: @BEq.beq κ ⟨f⟩ a a=true:= @beq_self_eq_true κ ⟨f⟩ _ a;have h2:f a a=true:=this;rw[h2];simp
  ·have: ¬(@BEq.beq κ ⟨f⟩ a b=true):=fun h=>e (@eq_of_beq κ ⟨f⟩ _ a b h);have h2: ¬f a b=true:=this;have h3:f a b=false:=by simpa using h2
   rw[h3];simpa using e
theorem y9(l:List Bs)(a:Bs): @List.erase Bs instBEqOfDecidableEq l a=l.erase a:=by rw[Im (inferInstance:BEq Bs)]
theorem Bt(h:(aS x g j v).holds w F)(wf:Wf j)(hr:r∈j.reqs)(ht:t∈j.aI):(∀i∈t.wt,g.rp i=g.rp r.q.id->i=r.q.id)∧(∀i∈t.wt,jk w (g.rp i))∧jk w (g.rp r.q.id):=by obtain⟨h1,h2⟩:=QQ h;refine⟨fun i hi e=>CD (l:=j.reqs) (p:=g.rp) (k:=fun r:Rr=>r.q.id) h1 (wf.UX t ht i hi) (ax.2 ⟨r,hr,rfl⟩) e,fun i hi=> ?_,h2 r hr⟩;obtain⟨y,hy,e⟩:=ax.1 (wf.UX t ht i hi);rw[<-e];exact h2 y hy
theorem K3(h:(aS x g j v).holds w F)(wf:Wf j)(ht:t∈j.aI):(∀n∈j.ring,g.tp n=g.tp t.nm->n=t.nm)∧(∀n∈j.ring,jk w (g.tp n))∧jk w (g.tp t.nm):=by obtain⟨h1,h2⟩:=Pw h;refine⟨fun i hi e=>CD (l:=j.aI) (p:=g.tp) (k:=fun t:Tr=>t.nm) h1 (wf.ring i hi) (ax.2 ⟨t,ht,rfl⟩) e,fun i hi=> ?_,h2 t ht⟩;obtain⟨y,hy,e⟩:=ax.1 (wf.ring i hi);rw[<-e];exact h2 y hy
theorem Q7(wf:Wf j)(hr:r∈j.reqs)(ht:t∈j.aI)(f:Tr->Tr)(hf:(f t).nm=t.nm){ring:List Bs}{rv av wv:Value}(h:(qs x g j v r.q r.al (f t) ring rv av wv (jR g j v r t)).holds w F)(Pn: ∀n∈ring,n∈j.aI.map (·.nm)):(∀n∈ring,g.tp n=g.tp t.nm->n=t.nm)∧(∀n∈ring,jk w (g.tp n))∧jk w (g.tp t.nm):=by
 have h2:Goes (jA x g {j with ring:=ring,aI:=upd (fun t:Tr=>t.nm) t.nm f j.aI}) w F w:=pk wf hr ht f hf ring rv av wv (Goes.refl h);obtain⟨F',⟨v',h3⟩,_⟩:=h2;obtain⟨h4,h5⟩:=Pw h3;have em:(upd (fun t:Tr=>t.nm) t.nm f j.aI).map (·.nm)=j.aI.map (·.nm):=fp _ (fun y hy ey=>by rw[bC (k:=fun t:Tr=>t.nm) wf.mn hy ht ey,hf]);have Pb: ∀n,n∈j.aI.map (·.nm)->n∈(upd (fun t:Tr=>t.nm) t.nm f j.aI).map (fun t=>t.nm):=fun n hn=>by rw[em];exact hn
 have hB: ∀n,n∈j.aI.map (·.nm)->jk w (g.tp n):=fun n hn=>by obtain⟨y,hy,e⟩:=ax.1 (Pb n hn);rw[<-e];exact h5 y hy
 have uK:t.nm∈j.aI.map (·.nm):=ax.2 ⟨t,ht,rfl⟩;exact⟨fun n hn e=>CD (p:=g.tp) (k:=fun t:Tr=>t.nm) h4 (Pb n (Pn n hn)) (Pb _ uK) e,fun n hn=>hB n (Pn n hn),hB _ uK⟩
theorem Au(x:Nat)(g:Gh)(j:Js)(r:Rr)(t:Tr)(w:World)(F:Ft)(h:(jA x g j).holds w F)(wf:Wf j)(hr:r∈j.reqs)(ht:t∈j.aI)(et:t.nm=r.q.ten):Calls prog 74 #[pt x,pt (g.rp r.q.id)] w fun e w'=>e= .returned (.tuple #[])∧Goes (jA x g (j.left t r.q.id)) w F w':=by
 obtain⟨v,av,wv,ho,qj⟩:=sy h wf hr ht;obtain⟨k1,k2,k3⟩:=Bt ho wf hr ht;have c2:w.cell? ⟨g.rp r.q.id,2,none⟩=some (pt (g.tp t.nm)):=by rw[(Q6 qj).1,et];rfl
 have c1:w.cell? ⟨g.tp t.nm,1,none⟩=some wv:=(Gn qj).1 1;obtain⟨G0,kP,uG⟩:=pn qj;obtain⟨ao,cap,rfl⟩:=aJ (Goes.refl kP);have bP:=wf.b1 t ht;have cL:=wf.b2;have Hg:=woR _ t.wt g.rp r.q.id w G0 kP k1 k2 k3 (by omega);obtain⟨f,hf⟩: ∃f:Tr->Tr,f=fun y=>{y with wt:=y.wt.erase r.q.id}:=⟨_,rfl⟩;have LS:f t={t with wt:=t.wt.erase r.q.id}:=by rw[hf]
 have hlen:(t.wt.erase r.q.id).length<=16777216:=au (List.length_erase_le ..) (by omega);have pR:Hid (∀gp kn w1,Goes (rowA 124 1 (.slice gp (t.wt.erase r.q.id).length kn) (t.wt.erase r.q.id).length ((t.wt.erase r.q.id).map fun i=>pt (g.rp i))) w G0 w1->
   w1.cell? ⟨g.tp t.nm,1,none⟩=some (.slice ao t.wt.length cap)∧w1.frozen? ⟨g.tp t.nm,1,none⟩=false∧Goes (qs x g j v r.q r.al (f t) j.ring v.rv av (.slice gp (t.wt.erase r.q.id).length kn) (jR g j v r t)) w F (w1.setCell ⟨g.tp t.nm,1,none⟩ (.slice gp (t.wt.erase r.q.id).length kn))):=fun gp kn w1 hg=>by
  rw[LS];exact uG _ _ w1 hg
 have uP:Hid (t.wt.erase r.q.id= []-> ∀Bu w2,Goes (qs x g j v r.q r.al (f t) j.ring v.rv av Bu (jR g j v r t)) w F w2->
   ∃dz cJ,v.rv= .slice dz j.ring.length cJ∧w2.cell? ⟨x,9,none⟩=some (.slice dz j.ring.length cJ)∧
   Calls prog 120 #[.slice dz j.ring.length cJ,pt (g.tp t.nm)] w2 fun e w'=> ∃gY n3 cP,e= .returned (.slice gY n3 cP)∧w'.cell? ⟨x,9,none⟩=some (.slice dz j.ring.length cJ)∧w'.frozen? ⟨x,9,none⟩=false∧Goes (jA x g (j.left t r.q.id)) w F (w'.setCell ⟨x,9,none⟩ (.slice gY n3 cP))):=fun he Bu w2 hg=>by
  obtain⟨F2,gl,o2,n2⟩:=hg;obtain⟨G2,O5,HS⟩:=x7 gl;obtain⟨t1,t2,t3⟩:=Q7 wf hr ht f (by rw[LS]) gl wf.ring;obtain⟨dz,cJ,e2⟩:=aJ (Goes.refl O5);have hc9:w2.cell? ⟨x,9,none⟩=some v.rv:=(Q5 gl).1 9;refine⟨dz,cJ,e2,by rw[hc9,e2], ?_⟩;have hwo:=woT v.rv j.ring g.tp t.nm w2 G2 O5 t1 t2 t3 (by omega);rw[e2]at hwo;refine hwo.mono ?_;rintro e w'⟨v',rfl,iG⟩;rw[y9]at iG;obtain⟨gY,cP,rfl⟩:=aJ iG;obtain⟨p1,p2,p3⟩:=HS _ _ w' iG;refine⟨gY,_,cP,rfl,by rw[p1,e2],p2, ?_⟩;have p4:=pk wf hr ht f (by rw[LS]) (j.ring.erase t.nm) _ _ _ (ay o2 n2 p3);unfold Js.left;rw[if_pos he];rw[hf]at p4;exact p4
 have HF:Hid (t.wt.erase r.q.id≠ []-> ∀Bu w2,Goes (qs x g j v r.q r.al (f t) j.ring v.rv av Bu (jR g j v r t)) w F w2->Goes (jA x g (j.left t r.q.id)) w F w2):=fun cz Bu w2 hg=>by have p4:=pk wf hr ht f (by rw[LS]) j.ring _ _ _ hg;unfold Js.left;rw[if_neg cz];rw[hf]at p4;exact p4
 have HC:Hid (∀Bu w2,Goes (qs x g j v r.q r.al (f t) j.ring v.rv av Bu (jR g j v r t)) w F w2->w2.cell? ⟨g.tp t.nm,1,none⟩=some Bu):=fun Bu w2 hg=>by
  obtain⟨F2,gl,_⟩:=hg;have:=(Gn gl).1 1;have en:(f t).nm=t.nm:=by rw[LS]
  rw[en]at this;exact this
 clear h ho qj k1 k2 k3 kP uG wf hr ht LS hf;unfold pt at*;generalize g.tp t.nm=tp at*;generalize g.rp r.q.id=rp at*;generalize jg:t.wt.length=nw at*;by_cases he:t.wt.erase r.q.id= []
 ·have LM:=uP.out he;have D7:(t.wt.erase r.q.id).length=0:=by rw[he];rfl
  rw[D7]at Hg;have Sx:Hid _:=pR.out;rw[D7]at Sx;clear pR uP HF hlen;go_enter func74,ntmps74;go_wp2_with (first
   |(go_at_call 119;go_must(refine Hg.mono ?_;rintro e w1⟨v',rfl,hg⟩;obtain⟨gp,kn,rfl⟩:=aJ hg;obtain⟨d1,d2,d3⟩:=Sx.out gp kn w1 hg;have d4:=HC.out _ _ d3;obtain⟨dz,cJ,_,d5,d6⟩:=LM _ _ d3;have HCT:=hide d6;clear hg d3 d6))
   |(go_at_call 120;go_must(refine HCT.out.mono ?_;rintro e w2⟨gY,n3,cP,rfl,f1,f2,f3⟩;have HE:=hide f3;clear f3)))
  go_end0;exact⟨rfl,HE.out⟩
 ·have HF':=HF.out he;have D7:((((t.wt.erase r.q.id).length:Nat):Int)==0)=false:=by
   have:(t.wt.erase r.q.id).length≠0:=fun e=>he (List.eq_nil_of_length_eq_zero e);simpa using this
  generalize(t.wt.erase r.q.id).length=ne at*;clear uP HF;go_enter func74,ntmps74;go_wp2_with (first
   |(go_at_call 119;go_must(refine Hg.mono ?_;rintro e w1⟨v',rfl,hg⟩;obtain⟨gp,kn,rfl⟩:=aJ hg;obtain⟨d1,d2,d3⟩:=pR.out gp kn w1 hg;have d4:=HC.out _ _ d3;have HE:=hide (HF' _ _ d3);clear hg d3)))
  go_end0;exact⟨rfl,HE.out⟩
variable{w:World}{F:Ft}
theorem dy{A:aD}{w2:World}{o:Obj}(h:Goes A (w.alloc o) F w2):Goes A w F w2:=ay ((Only.refl F w).alloc o) (fun _ h=> .inl h) h
theorem dG{A:aD}(h:A.holds w F)(o:Obj):A.holds (w.alloc o) F:=A.keep h (fun k hk=>Below.heap_alloc w o k (A.lt h k hk))
theorem J0:(prog.info? 89).map (fun i=>(i.zero,i.size,i.bytes))=some (some (.pointer none),1,8):=by kernel_rfl
theorem Bp(x:Nat)(g:Gh)(j:Js)(r:Rr)(t:Tr)(first:Bool)(w:World)(F:Ft)(h:(jA x g j).holds w F)(wf:Wf j)(hr:r∈j.reqs)(ht:t∈j.aI)(et:t.nm=r.q.ten)(pl:Int)(LU:pl=if first then 0 else(t.wt.length:Int)):Calls prog 117 #[pt x,pt (g.rp r.q.id), .int .i64 pl] w fun e w'=>e= .returned (.tuple #[])∧Goes (jA x g (j.wait t r.q.id first)) w F w':=by
 obtain⟨i0,kg,nV,j0,kC⟩:=fo J0;obtain⟨v,av,wv,ho,qj⟩:=sy h wf hr ht;have c2:w.cell? ⟨g.rp r.q.id,2,none⟩=some (pt (g.tp t.nm)):=by rw[(Q6 qj).1,et];rfl
 have c1:w.cell? ⟨g.tp t.nm,1,none⟩=some wv:=(Gn qj).1 1;obtain⟨G0,kP,_⟩:=pn qj;obtain⟨ao,cap,rfl⟩:=aJ (Goes.refl kP);have bP:=wf.b1 t ht;have cL:=wf.b2;obtain⟨f,hf⟩: ∃f:Tr->Tr,f=fun y=>{y with wt:=if first then r.q.id::y.wt else y.wt++ [r.q.id]}:=⟨_,rfl⟩;have LS:f t={t with wt:=if first then r.q.id::t.wt else t.wt++ [r.q.id]}:=by rw[hf]
 have VV:Hid (∀ring rv w3 N,N=w3.heap.size->Goes (qs x g j v r.q r.al t ring rv av (.slice ao t.wt.length cap) (jR g j v r t)) w F w3->
   w3.cell? ⟨g.tp t.nm,1,none⟩=some (.slice ao t.wt.length cap)∧
   Calls prog 153 #[.slice ao t.wt.length cap, .int .i64 pl, .slice (some ⟨N,0,none⟩) 1 1] (w3.alloc (.cells #[pt (g.rp r.q.id)] 124)) fun e w'=> ∃P4 n4 BR,e= .returned (.slice P4 n4 BR)∧w'.cell? ⟨g.tp t.nm,1,none⟩=some (.slice ao t.wt.length cap)∧w'.frozen? ⟨g.tp t.nm,1,none⟩=false∧
    Goes (jA x g {j with ring:=ring,aI:=upd (fun t:Tr=>t.nm) t.nm f j.aI}) w F (w'.setCell ⟨g.tp t.nm,1,none⟩ (.slice P4 n4 BR))):=fun ring rv w3 N hN hg=>by
  subst hN;obtain⟨F3,kT,o3,n3⟩:=hg;refine⟨(Gn kT).1 1, ?_⟩;obtain⟨G3,LP,HS⟩:=pn kT;have hnG: ¬G3 w3.heap.size:=fun hk=>by have:=aD.lt _ LP _ hk;omega
  have TX:=QM (.slice ao t.wt.length cap) t.wt g.rp r.q.id first w3.heap.size _ G3 (dG LP (.cells #[pt (g.rp r.q.id)] 124)) (by omega) (heap_alloc_new w3 _) hnG
  rw[<-LU]at TX;refine TX.mono ?_;rintro e w'⟨v',rfl,iG⟩;obtain⟨P4,BR,rfl⟩:=aJ iG;obtain⟨p1,p2,p3⟩:=HS _ _ w' (dy iG);refine⟨P4,_,BR,rfl,p1,p2, ?_⟩;have p4:=ay o3 n3 p3;rw[<-LS]at p4;exact pk wf hr ht f (by rw[LS]) ring rv av _ p4
 have V6:Hid (∃G1 gp kn,w.cell? ⟨x,9,none⟩=some (.slice gp j.ring.length kn)∧(rowA 89 1 (.slice gp j.ring.length kn) j.ring.length (j.ring.map fun n=>pt (g.tp n))).holds (w.alloc (.cells #[pt (g.tp t.nm)] 89)) G1∧
   ∀dz cJ w2,Goes (rowA 89 1 (.slice dz (j.ring.length+1) cJ) (j.ring.length+1) ((j.ring.map fun n=>pt (g.tp n))++ [pt (g.tp t.nm)])) (w.alloc (.cells #[pt (g.tp t.nm)] 89)) G1 w2->
    w2.cell? ⟨x,9,none⟩=some (.slice gp j.ring.length kn)∧w2.frozen? ⟨x,9,none⟩=false∧Goes (qs x g j v r.q r.al t (j.ring++ [t.nm]) (.slice dz (j.ring.length+1) cJ) av (.slice ao t.wt.length cap) (jR g j v r t)) w F (w2.setCell ⟨x,9,none⟩ (.slice dz (j.ring.length+1) cJ))):=by
  obtain⟨G1,Bw,HS⟩:=x7 qj;obtain⟨gp,kn,e1⟩:=aJ (Goes.refl Bw);have c9:w.cell? ⟨x,9,none⟩=some v.rv:=(Q5 qj).1 9;refine⟨G1,gp,kn,by rw[c9,e1], ?_,fun dz cJ w2 hg=> ?_⟩
  ·have:=dG Bw (.cells #[pt (g.tp t.nm)] 89);rw[e1]at this;exact this
  ·obtain⟨p1,p2,p3⟩:=HS (j.ring++ [t.nm]) (.slice dz (j.ring.length+1) cJ) w2 (by
    unfold dF;rw[aC,aB];exact dy hg)
   exact⟨by rw[p1,e1],p2,p3⟩
 have Wa:Hid (Goes (qs x g j v r.q r.al t j.ring v.rv av (.slice ao t.wt.length cap) (jR g j v r t)) w F w):=Goes.refl qj;have Vz:Hid (if t.wt= []then j.wait t r.q.id first={j with ring:=j.ring++ [t.nm],aI:=upd (fun t:Tr=>t.nm) t.nm f j.aI}else j.wait t r.q.id first={j with ring:=j.ring,aI:=upd (fun t:Tr=>t.nm) t.nm f j.aI}):=by
  by_cases he:t.wt= []
  ·show(if _ then _ else _);rw[if_pos he];unfold Js.wait;rw[if_pos he,hf]
  ·show(if _ then _ else _);rw[if_neg he];unfold Js.wait;rw[if_neg he,hf]
 clear h ho qj kP wf hr ht LS hf LU;unfold pt at*;generalize g.tp t.nm=tp at*;generalize g.rp r.q.id=rp at*;by_cases he:t.wt= []
 ·have ej:Hid (j.wait t r.q.id first={j with ring:=j.ring++ [t.nm],aI:=upd (fun t:Tr=>t.nm) t.nm f j.aI}):=by have:=Vz.out;rw[if_pos he]at this;exact this
  obtain⟨G1,gp,kn,c9,FB,HS⟩:=V6.out;have iL:=hide FB;have HS':=hide HS;have D7:t.wt.length=0:=by rw[he];rfl
  clear V6 Wa Vz FB HS he;generalize t.wt.length=nw at*;subst D7;generalize j.ring.length=nr at*;go_enter func117,ntmps117;go_wp2_with (first
   |(at_builtin;go_must(refine bh _ rfl _ _ 84 rfl 89 i0 (.pointer none) 1 8 underlying84 kg nV j0 kC rfl (by decide) (F:=G1) _ nr _ rfl iL.out ⟨w.heap.size,0,none⟩ 1 1 [.pointer (some ⟨tp,0,none⟩)] rfl rfl (World.news_of_block (cs:= #[.pointer (some ⟨tp,0,none⟩)]) (t:=89) (fr:=(0,0)) (heap_alloc_new w _)) (by simp[Value.oneCell']) (by unfold maxLen;omega) (by omega) ?_;intro dz cJ w2 bz;obtain⟨d1,d2,d3⟩:=HS'.out dz cJ w2 bz;obtain⟨d4,d5⟩:=VV.out _ _ _ w2.heap.size (by simp[World.setCell]) d3;have HI:=hide d5;clear bz d3 d5))
   |(go_at_call 153;go_must(refine HI.out.mono ?_;rintro e w5⟨P4,n4,BR,rfl,f1,f2,f3⟩;have HE:=hide f3;clear f3)))
  go_end0;rw[ej.out];exact⟨rfl,HE.out⟩
 ·have ej:Hid (j.wait t r.q.id first={j with ring:=j.ring,aI:=upd (fun t:Tr=>t.nm) t.nm f j.aI}):=by have:=Vz.out;rw[if_neg he]at this;exact this
  have D7:(((t.wt.length:Nat):Int)==0)=false:=by have:t.wt.length≠0:=fun e=>he (List.eq_nil_of_length_eq_zero e);simpa using this
  obtain⟨_,d5⟩:=VV.out _ _ _ _ rfl Wa.out;have HI:=hide d5;clear V6 Wa Vz VV d5 he;generalize t.wt.length=nw at*;go_enter func117,ntmps117;go_wp2_with (first
   |(go_at_call 153;go_must(refine HI.out.mono ?_;rintro e w5⟨P4,n4,BR,rfl,f1,f2,f3⟩;have HE:=hide f3;clear f3)))
  go_end0;rw[ej.out];exact⟨rfl,HE.out⟩
theorem vC(x:Nat)(g:Gh)(j:Js)(r:Rr)(t:Tr)(w:World)(F:Ft)(h:(jA x g j).holds w F)(wf:Wf j)(hr:r∈j.reqs)(ht:t∈j.aI)(et:t.nm=r.q.ten):Calls prog 83 #[pt x,pt (g.rp r.q.id)] w fun e w'=>e= .returned (.tuple #[])∧Goes (jA x g (j.wait t r.q.id true)) w F w':=by have HW:=Bp x g j r t true w F h wf hr ht et 0 rfl;clear h;unfold pt at*;go_enter func83,ntmps83;go_wp2_with (first|(go_at_call 117;go_must(refine HW.mono ?_;rintro e w1⟨rfl,hg⟩;have HG:=hide hg;clear hg)));go_end0;exact⟨rfl,HG.out⟩
theorem yo(x:Nat)(g:Gh)(j:Js)(r:Rr)(t:Tr)(w:World)(F:Ft)(h:(jA x g j).holds w F)(wf:Wf j)(hr:r∈j.reqs)(ht:t∈j.aI)(et:t.nm=r.q.ten):Calls prog 70 #[pt x,pt (g.rp r.q.id)] w fun e w'=>e= .returned (.tuple #[])∧Goes (jA x g (j.wait t r.q.id false)) w F w':=by
 have HW:=Bp x g j r t false w F h wf hr ht et t.wt.length rfl;obtain⟨v,av,wv,ho,qj⟩:=sy h wf hr ht;have c2:w.cell? ⟨g.rp r.q.id,2,none⟩=some (pt (g.tp t.nm)):=by rw[(Q6 qj).1,et];rfl
 have c1:w.cell? ⟨g.tp t.nm,1,none⟩=some wv:=(Gn qj).1 1;obtain⟨G0,kP,_⟩:=pn qj;obtain⟨ao,cap,rfl⟩:=aJ (Goes.refl kP);have bP:=wf.b1 t ht;clear h ho qj kP;unfold pt at*;generalize g.tp t.nm=tp at*;go_enter func70,ntmps70;go_wp2_with (first|(go_at_call 117;go_must(refine HW.mono ?_;rintro e w1⟨rfl,hg⟩;have HG:=hide hg;clear hg)));go_end0;exact⟨rfl,HG.out⟩
theorem LC{α κ:Type} [DecidableEq κ](k:α->κ)(c:κ)(l:List α):upd k c (fun y=>y) l=l:=by unfold upd;refine(bu fun x _=> ?_).trans (List.map_id _);split<;>rfl
def Js.turn(j:Js)(t:Tr):Js:={j with ring:=if t.wt= []then j.ring else j.ring.erase t.nm++ [t.nm]}
theorem Lu(x:Nat)(g:Gh)(j:Js)(r:Rr)(t:Tr)(w:World)(F:Ft)(h:(jA x g j).holds w F)(wf:Wf j)(hr:r∈j.reqs)(ht:t∈j.aI):Calls prog 75 #[pt x,pt (g.tp t.nm)] w fun e w'=>e= .returned (.tuple #[])∧Goes (jA x g (j.turn t)) w F w':=by
 obtain⟨i0,kg,nV,j0,kC⟩:=fo J0;obtain⟨v,av,wv,ho,qj⟩:=sy h wf hr ht;have c1:w.cell? ⟨g.tp t.nm,1,none⟩=some wv:=(Gn qj).1 1;obtain⟨G0,kP,_⟩:=pn qj;obtain⟨ao,cap,rfl⟩:=aJ (Goes.refl kP);have bP:=wf.b1 t ht;have cL:=wf.b2;have Ma:=hide (Goes.refl h);by_cases he:t.wt= []
 ·have ej:j.turn t=j:=by unfold Js.turn;rw[if_pos he]
  rw[ej];have D7:t.wt.length=0:=by rw[he];rfl
  clear h ho qj kP;unfold pt at*;generalize g.tp t.nm=tp at*;generalize t.wt.length=nw at*;subst D7;go_enter func75,ntmps75;go_wp2;go_end0;exact⟨rfl,Ma.out⟩
 ·have ej:Hid (j.turn t={j with ring:=j.ring.erase t.nm++ [t.nm],aI:=upd (fun t:Tr=>t.nm) t.nm (fun y=>y) j.aI}):=by show(_=_);unfold Js.turn;rw[if_neg he,LC]
  have D7:0<t.wt.length:=List.length_pos_iff.2 he;have aar:((0:Int)<((t.wt.length:Nat):Int)):=by omega
  obtain⟨G1,Bw,HS⟩:=x7 qj;obtain⟨gp,kn,e1⟩:=aJ (Goes.refl Bw);have c9:w.cell? ⟨x,9,none⟩=some (.slice gp j.ring.length kn):=by rw[(Q5 qj).1 9];show some v.rv=_;rw[e1]
  obtain⟨t1,t2,t3⟩:=K3 ho wf ht;have Hg:=woT v.rv j.ring g.tp t.nm w G1 Bw t1 t2 t3 (by omega);rw[e1]at Hg;have hel:(j.ring.erase t.nm).length<=16777210:=au (List.length_erase_le ..) cL;have L8:Hid (∀v2 w1,Goes (rowA 89 1 v2 (j.ring.erase t.nm).length ((j.ring.erase t.nm).map fun n=>pt (g.tp n))) w G1 w1->
    ∃dz cJ G2,v2= .slice dz (j.ring.erase t.nm).length cJ∧(rowA 89 1 (.slice dz (j.ring.erase t.nm).length cJ) (j.ring.erase t.nm).length ((j.ring.erase t.nm).map fun n=>pt (g.tp n))).holds (w1.alloc (.cells #[pt (g.tp t.nm)] 89)) G2∧
    ∀gY cP w3,Goes (rowA 89 1 (.slice gY ((j.ring.erase t.nm).length+1) cP) ((j.ring.erase t.nm).length+1) (((j.ring.erase t.nm).map fun n=>pt (g.tp n))++ [pt (g.tp t.nm)])) (w1.alloc (.cells #[pt (g.tp t.nm)] 89)) G2 w3->
     w3.cell? ⟨x,9,none⟩=some (.slice gp j.ring.length kn)∧w3.frozen? ⟨x,9,none⟩=false∧Goes (jA x g {j with ring:=j.ring.erase t.nm++ [t.nm],aI:=upd (fun t:Tr=>t.nm) t.nm (fun y=>y) j.aI}) w F (w3.setCell ⟨x,9,none⟩ (.slice gY ((j.ring.erase t.nm).length+1) cP))):=fun v2 w1 hg=>by
   obtain⟨dz,cJ,rfl⟩:=aJ hg;obtain⟨G2,O5,o2,n2⟩:=hg;refine⟨dz,cJ,G2,rfl,dG O5 _,fun gY cP w3 eP=> ?_⟩;have gL:=ay o2 n2 (dy eP);obtain⟨p1,p2,p3⟩:=HS (j.ring.erase t.nm++ [t.nm]) (.slice gY ((j.ring.erase t.nm).length+1) cP) w3 (by unfold dF;rw[aC,aB];exact gL)
   exact⟨by rw[p1,e1],p2,pk wf hr ht (fun y=>y) rfl _ _ _ _ p3⟩
  rw[y9]at Hg;clear h ho qj kP Bw HS Ma t1 t2 t3 he e1;unfold pt at*;generalize g.tp t.nm=tp at*;generalize t.wt.length=nw at*;generalize cz:(j.ring.erase t.nm).length=ne at*;generalize j.ring.length=nr at*;go_enter func75,ntmps75;go_wp2_with (first
   |(go_at_call 120;go_must(refine Hg.mono ?_;rintro e w1⟨v2,rfl,hg⟩;obtain⟨dz,cJ,G2,rfl,d1,d2⟩:=L8.out v2 w1 hg;have iL:=hide d1;have Rt:=hide d2;clear hg d1 d2))
   |(at_builtin;go_must(refine bh _ rfl _ _ 84 rfl 89 i0 (.pointer none) 1 8 underlying84 kg nV j0 kC rfl (by decide) (F:=G2) _ ne _ rfl iL.out ⟨w1.heap.size,0,none⟩ 1 1 [.pointer (some ⟨tp,0,none⟩)] rfl rfl (World.news_of_block (cs:= #[.pointer (some ⟨tp,0,none⟩)]) (t:=89) (fr:=(0,0)) (heap_alloc_new w1 _)) (by simp[Value.oneCell']) (by unfold maxLen;omega) (by omega) ?_;intro gY cP w3 bz;obtain⟨d3,d4,d5⟩:=Rt.out gY cP w3 bz;have HE:=hide d5;clear bz d5)))
  go_end0;rw[ej.out];exact⟨rfl,HE.out⟩
