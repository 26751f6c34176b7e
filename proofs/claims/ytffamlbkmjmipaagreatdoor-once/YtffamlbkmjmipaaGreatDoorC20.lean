import Derived.Test.YtffamlbkmjmipaaGreatDoorC08
import Derived.Test.YtffamlbkmjmipaaGreatDoorC09
import Derived.Test.YtffamlbkmjmipaaGreatDoorC10
import Derived.Test.YtffamlbkmjmipaaGreatDoorC19
set_option maxHeartbeats 8000000
set_option maxRecDepth 100000
namespace Go.Proofs.YtffamlbkmjmipaaGreatDoor
open _root_.Go.Proofs.Tryz
namespace Pj
open Go.RowKit aJ Mc
attribute [local go_sem] ae ag
variable{w:World}{F:Ft}
theorem br{p:Nat}{cs:Array Value}{t:TypeId}{B:aJ}(h:(aa (blk p (.cells cs t (0,0))) B).holds w F):(∀j,w.cell? ⟨p,j,none⟩=cs[j]?)∧(∀j,w.frozen? ⟨p,j,none⟩=false)∧w.heap[p]?=some (.cells cs t (0,0)):=by have:=(cK h).1;exact⟨fun j=>by simp only[World.cell?,this];rfl,fun j=>by simp only[World.frozen?,this];simp,this⟩
theorem aR{e:TypeId}{n:Nat}{v:Value}{xs:List Value}{w':World}(h:Goes (rowA e 1 v n xs) w F w'): ∃ao cap,v= .slice ao n cap:=by obtain⟨_,h,_⟩:=h;obtain⟨ao,cap,e,_⟩:=bX h;exact⟨ao,cap,e⟩
theorem Ky(x:Nat)(cs:Array Value)(c:Int)(pull:List Int)(pv:Value)(w:World)(F:Ft)(hc:cs[10]?=some pv)(h:(aa (blk x (.cells cs 88 (0,0))) (gN pv pull)).holds w F)(hl:pull.length<=16777216):Calls prog 73 #[pt x, .int .i64 c] w fun e w'=>e= .returned (.tuple #[])∧ ∃G9,Goes (aa (blk x (.cells (cs.setIfInBounds 10 G9) 88 (0,0))) (gN G9 (pull.erase c))) w F w':=by
 obtain⟨cl,fz,_⟩:=br h;have c10:w.cell? ⟨x,10,none⟩=some pv:=(cl 10).trans hc;obtain⟨G,H,ha,hb,d,e⟩:=h;have hx:x<w.heap.size:=(cC.1 ha.1).1;obtain⟨ao,cap,rfl⟩:=aR (Goes.refl hb);have LL:=woI _ pull c w H hb hl;have HX:Hid (∀v' w1,Goes (rowA 3 1 v' (pull.erase c).length ((pull.erase c).map fun i=> .int .i64 i)) w H w1->w1.cell? ⟨x,10,none⟩=some (.slice ao pull.length cap)∧w1.frozen? ⟨x,10,none⟩=false∧Goes (aa (blk x (.cells (cs.setIfInBounds 10 v') 88 (0,0))) (gN v' (pull.erase c))) w F (w1.setCell ⟨x,10,none⟩ v')):=fun v' w1 hg=>by have g1:Goes (aa (gN v' (pull.erase c)) (blk x (.cells cs 88 (0,0)))) w F w1:=aO (A':=gN v' (pull.erase c)) ha hg (fun k hk hg=>d k hg hk) (fun k=>(e k).trans or_comm);have g2:=g1.eq (bq _ _);obtain⟨F1,bU,o1,n1⟩:=g2;obtain⟨cl1,fz1,_⟩:=br bU;exact⟨(cl1 10).trans hc,fz1 10,Goes.store ⟨F1,bU,o1,n1⟩ 10 v'⟩
 clear ha hb d e cl fz;unfold pt;go_enter func73,ntmps73;go_wp2_with (first|(go_at_call 118;go_must(refine LL.mono ?_;rintro e w1⟨v',rfl,hg⟩;obtain⟨c1,f1,ur⟩:=HX.out v' w1 hg;obtain⟨fX,bP,rfl⟩:=aR hg;have EO:=hide ur;clear hg ur)));go_end0;exact⟨rfl,_,EO.out⟩
end Pj
namespace Pj
open Go.RowKit aJ Mc
variable{x:Nat}{g:Gh}{j:Js}{v:Dv}{r:Rr}{t:Tr}
theorem aA{A B:aJ}{w:World}{F:Ft}(h:A.holds w F)(e:A=B):B.holds w F:=e▸h
section
variable{x:Nat}{g:Gh}{j:Js}{v:Dv}{w:World}{F:Ft}
theorem lH{α:Type}{A:α->aJ}{p:α->Nat}(hA: ∀y w G,(A y).holds w G->kg w (p y)∧G (p y)): ∀{l:List α} {w:World} {F:Ft},(all A l).holds w F->(l.map p).Nodup∧ ∀y∈l,kg w (p y)∧F (p y)
 | [],_,_,_=>⟨by simp,fun y hy=>by cases hy⟩
 |y::l,w,F,h=>by
  obtain⟨G,H,ha,hb,d,e⟩:=h;obtain⟨hn,hm⟩:=lH hA hb;have h1:=hA y w G ha;refine⟨?_,fun z hz=> ?_⟩
  ·rw[List.map_cons,List.nodup_cons];refine⟨fun EB=> ?_,hn⟩;obtain⟨z,hz,ez⟩:=az.1 EB;exact d _ h1.2 (ez▸(hm z hz).2)
  ·rcases List.mem_cons.1 hz with e3|e3
   ·rw[e3];exact⟨h1.1,(e _).2 (.inl h1.2)⟩
   ·exact⟨(hm z e3).1,(e _).2 (.inr (hm z e3).2)⟩
theorem QE(re:Int)(y:Rr)(w:World)(G:Ft)(h:(fc g re y).holds w G):kg w (g.rp y.q.id)∧G (g.rp y.q.id):=by obtain⟨av,h⟩:=h;have:=cK h;exact⟨⟨_,_,this.1⟩,this.2⟩
theorem Q2(y:Tr)(w:World)(G:Ft)(h:(fD g y).holds w G):kg w (g.tp y.nm)∧G (g.tp y.nm):=by obtain⟨av,h⟩:=h;have:=cK h;exact⟨⟨_,_,this.1⟩,this.2⟩
theorem Ml(y:At×Nat)(w:World)(G:Ft)(h:(fH g y.1 y.2).holds w G):kg w (g.ap (key y.1))∧G (g.ap (key y.1)):=by have:=RX h;exact⟨⟨_,_,this.1⟩,this.2⟩
theorem Wt(h:(aW x g j v).holds w F):(j.reqs.map fun r=>g.rp r.q.id).Nodup∧ ∀r∈j.reqs,kg w (g.rp r.q.id):=by
 have e:aW x g j v=aa (all (fc g j.c.re) j.reqs) (aa (dB x j v) (aa (iU v.cm j.bu) (aa (ib g v.rm j.reqs) (aa (gK g v.tm j.aQ) (aa (all gM j.bu) (aa (all (fD g) j.aQ) (aa (dL g v.rv j.ring) (aa (gN v.pv j.pull) (aa (dh g v.lv j.hp) (hpA g j.hp)))))))))):=by unfold aW;ac_rfl
 obtain⟨G,hG,_⟩:=aJ.left (aA h e);obtain⟨h1,h2⟩:=lH (p:=fun r:Rr=>g.rp r.q.id) (fun y w G h=>QE j.c.re y w G h) hG;exact⟨h1,fun r hr=>(h2 r hr).1⟩
theorem UO(h:(aW x g j v).holds w F):(j.aQ.map fun t=>g.tp t.nm).Nodup∧ ∀t∈j.aQ,kg w (g.tp t.nm):=by
 have e:aW x g j v=aa (all (fD g) j.aQ) (aa (dB x j v) (aa (iU v.cm j.bu) (aa (ib g v.rm j.reqs) (aa (gK g v.tm j.aQ) (aa (all gM j.bu) (aa (all (fc g j.c.re) j.reqs) (aa (dL g v.rv j.ring) (aa (gN v.pv j.pull) (aa (dh g v.lv j.hp) (hpA g j.hp)))))))))):=by unfold aW;ac_rfl
 obtain⟨G,hG,_⟩:=aJ.left (aA h e);obtain⟨h1,h2⟩:=lH (p:=fun t:Tr=>g.tp t.nm) (fun y w G h=>Q2 y w G h) hG;exact⟨h1,fun r hr=>(h2 r hr).1⟩
theorem zip_fst(l:List At):l.zipIdx.map (fun y=>g.ap (key y.1))=l.map fun a=>g.ap (key a):=by
 have:l.zipIdx.map (fun y=>g.ap (key y.1))=(l.zipIdx.map (·.1)).map fun a=>g.ap (key a):=by rw[aB];rfl
 rw[this];simp
theorem aa6(h:(aW x g j v).holds w F):(j.hp.map fun a=>g.ap (key a)).Nodup∧ ∀a∈j.hp,kg w (g.ap (key a)):=by
 have e:aW x g j v=aa (hpA g j.hp) (aa (dB x j v) (aa (iU v.cm j.bu) (aa (ib g v.rm j.reqs) (aa (gK g v.tm j.aQ) (aa (all gM j.bu) (aa (all (fc g j.c.re) j.reqs) (aa (all (fD g) j.aQ) (aa (dL g v.rv j.ring) (aa (gN v.pv j.pull) (dh g v.lv j.hp)))))))))):=by unfold aW;ac_rfl
 obtain⟨G,hG,_⟩:=aJ.left (aA h e);obtain⟨h1,h2⟩:=lH (p:=fun y:At×Nat=>g.ap (key y.1)) (fun y w G h=>Ml y w G h) hG;rw[zip_fst]at h1;refine⟨h1,fun a ha=> ?_⟩;obtain⟨i,hi⟩:=List.getElem?_of_mem ha;have:(a,i)∈j.hp.zipIdx:=by rw[List.mem_zipIdx_iff_getElem?];exact hi
 exact(h2 _ this).1
theorem GL{α κ:Type}{l:List α}{p:κ->Nat}{k:α->κ}(hn:(l.map fun y=>p (k y)).Nodup){a b:κ}(ha:a∈l.map k)(hb:b∈l.map k)(e:p a=p b):a=b:=by obtain⟨y,hy,rfl⟩:=az.1 ha;obtain⟨z,hz,rfl⟩:=az.1 hb;rw[bC (k:=fun y=>p (k y)) hn hy hz e]
end
structure Wf(j:Js):Prop where
 rid:(j.reqs.map fun r=>r.q.id).Nodup
 nX:(j.aQ.map (·.nm)).Nodup
 wts: ∀t∈j.aQ,∀i∈t.wt,i∈j.reqs.map fun r=>r.q.id
 ring: ∀n∈j.ring,n∈j.aQ.map (·.nm)
 fu: ∀r∈j.reqs,r.q.ten∈j.aQ.map (·.nm)
 b1: ∀t∈j.aQ,t.wt.length<=16777210
 b2:j.ring.length<=16777210
 b3:j.pull.length<=16777210
 b4:j.hp.length<=16777190
 b5: ∀t∈j.aQ,0<=t.rn∧t.rn<=16777216
 b6:j.reqs.length<=16777210
 b7:j.aQ.length<=16777210
 b8:j.bu.length<=16777210
 al: ∀r∈j.reqs,r.al.length<=16777210
def jR(g:Gh)(j:Js)(v:Dv)(r:Rr)(t:Tr):aJ:=
 aa (iU v.cm j.bu) (aa (ib g v.rm j.reqs) (aa (gK g v.tm j.aQ) (aa (all gM j.bu) (aa (all (fc g j.c.re) (j.reqs.filter fun y=>decide (y.q.id≠r.q.id))) (aa (all (fD g) (j.aQ.filter fun y=>decide (y.nm≠t.nm))) (aa (gN v.pv j.pull) (aa (dh g v.lv j.hp) (hpA g j.hp))))))))
theorem Tz(h1:(j.reqs.map fun r=>r.q.id).Nodup)(h2:(j.aQ.map (·.nm)).Nodup)(hr:r∈j.reqs)(ht:t∈j.aQ):aW x g j v=aa (dB x j v) (aa (dL g v.rv j.ring) (aa (fc g j.c.re r) (aa (fD g t) (jR g j v r t)))):=by
 unfold aW jR;rw[ki (A:=fc g j.c.re) (k:=fun r:Rr=>r.q.id) h1 hr,ki (A:=fD g) (k:=fun t:Tr=>t.nm) h2 ht]
 ac_rfl
theorem TN(h1:(j.reqs.map fun r=>r.q.id).Nodup)(h2:(j.aQ.map (·.nm)).Nodup)(hr:r∈j.reqs)(ht:t∈j.aQ)(f:Tr->Tr)(hf:(f t).nm=t.nm)(ring:List Bs)(rv:Value):aW x g {j with ring:=ring,aQ:=upd (fun t:Tr=>t.nm) t.nm f j.aQ} {v with rv:=rv}=aa (dB x j {v with rv:=rv}) (aa (dL g rv ring) (aa (fc g j.c.re r) (aa (fD g (f t)) (jR g j v r t)))):=by
 have e:(upd (fun t:Tr=>t.nm) t.nm f j.aQ).map (fun t=>(t.nm,g.tp t.nm))=j.aQ.map fun t=>(t.nm,g.tp t.nm):=fR _ (fun y hy ey=>by have:y=t:=bC (k:=fun t:Tr=>t.nm) h2 hy ht ey;rw[this,hf])
 unfold aW jR gK;dsimp only;rw[e,ki (A:=fc g j.c.re) (k:=fun r:Rr=>r.q.id) h1 hr,Ig (A:=fD g) (k:=fun t:Tr=>t.nm) h2 ht];show aa (dB x j {v with rv:=rv}) _=_
 ac_rfl
end Pj
namespace Pj
open Go.RowKit aJ Mc
attribute [local go_sem] ae ag
variable{x:Nat}{g:Gh}{j:Js}{r:Rr}{t:Tr}{w:World}{F:Ft}
theorem fU{α:Type}(A:aJ)(B:α->aJ):aa A (ex B)=ex fun b=>aa A (B b):=by rw[bq,bH];congr 1;funext b;exact bq _ _
def tH(x:Nat)(g:Gh)(j:Js)(v:Dv)(q:Rq)(al:List Int)(t:Tr)(ring:List Bs)(rv av wv:Value)(R:aJ):aJ:=
 aa (dB x j {v with rv:=rv}) (aa (dL g rv ring) (aa (kd g j.c.re q av) (aa (jh g av q.id al) (aa (kC g t wv) (aa (jH g wv t.wt) R)))))
theorem vC(h:(jA x g j).holds w F)(wf:Wf j)(hr:r∈j.reqs)(ht:t∈j.aQ): ∃v av wv,(aW x g j v).holds w F∧(tH x g j v r.q r.al t j.ring v.rv av wv (jR g j v r t)).holds w F:=by
 obtain⟨v,h⟩:=h;have h1:=aA h (Tz wf.rid wf.nX hr ht);unfold fc fD at h1;have e:aa (dB x j v) (aa (dL g v.rv j.ring) (aa (ex fun av=>aa (kd g j.c.re r.q av) (jh g av r.q.id r.al)) (aa (ex fun wv=>aa (kC g t wv) (jH g wv t.wt)) (jR g j v r t))))=ex fun av=>ex fun wv=>tH x g j v r.q r.al t j.ring v.rv av wv (jR g j v r t):=by
  rw[bH,fU,fU];congr 1;funext av;rw[bH,fU,fU,fU];congr 1;funext wv;unfold tH
  ac_rfl
 obtain⟨av,wv,h2⟩:=aA h1 e;exact⟨v,av,wv,h,h2⟩
theorem r5{v:Dv}(wf:Wf j)(hr:r∈j.reqs)(ht:t∈j.aQ)(f:Tr->Tr)(hf:(f t).nm=t.nm)(ring:List Bs)(rv av wv:Value){w':World}(h:Goes (tH x g j v r.q r.al (f t) ring rv av wv (jR g j v r t)) w F w'):Goes (jA x g {j with ring:=ring,aQ:=upd (fun t:Tr=>t.nm) t.nm f j.aQ}) w F w':=by
 refine h.mono fun F' h'=>⟨{v with rv:=rv}, ?_⟩;show(aW x g _ _).holds _ _;rw[TN wf.rid wf.nX hr ht f hf];unfold fc fD;have e:aa (dB x j {v with rv:=rv}) (aa (dL g rv ring) (aa (ex fun av=>aa (kd g j.c.re r.q av) (jh g av r.q.id r.al)) (aa (ex fun wv=>aa (kC g (f t) wv) (jH g wv (f t).wt)) (jR g j v r t))))=ex fun av=>ex fun wv=>tH x g j v r.q r.al (f t) ring rv av wv (jR g j v r t):=by
  rw[bH,fU,fU];congr 1;funext av;rw[bH,fU,fU,fU];congr 1;funext wv;unfold tH
  ac_rfl
 rw[e];exact⟨av,wv,h'⟩
section
variable{x:Nat}{g:Gh}{j:Js}{v:Dv}{q:Rq}{al:List Int}{t:Tr}{ring:List Bs}{rv av wv:Value}{R:aJ}{w:World}{F:Ft}
theorem WQ(h:(tH x g j v q al t ring rv av wv R).holds w F):(∀k,w.cell? ⟨x,k,none⟩=(yY j {v with rv:=rv})[k]?)∧(∀k,w.frozen? ⟨x,k,none⟩=false):=by have:=br h;exact⟨this.1,this.2.1⟩
theorem WR(h:(tH x g j v q al t ring rv av wv R).holds w F):(∀k,w.cell? ⟨g.rp q.id,k,none⟩=(ot g j.c.re q av)[k]?)∧(∀k,w.frozen? ⟨g.rp q.id,k,none⟩=false)∧kg w (g.rp q.id):=by have:=br (aA h (show _=aa (kd g j.c.re q av) (aa (dB x j {v with rv:=rv}) (aa (dL g rv ring) (aa (jh g av q.id al) (aa (kC g t wv) (aa (jH g wv t.wt) R)))))by unfold tH;ac_rfl));exact⟨this.1,this.2.1,_,_,this.2.2⟩
theorem Lb(h:(tH x g j v q al t ring rv av wv R).holds w F):(∀k,w.cell? ⟨g.tp t.nm,k,none⟩=(Hw t wv)[k]?)∧(∀k,w.frozen? ⟨g.tp t.nm,k,none⟩=false)∧kg w (g.tp t.nm):=by have:=br (aA h (show _=aa (kC g t wv) (aa (dB x j {v with rv:=rv}) (aa (dL g rv ring) (aa (kd g j.c.re q av) (aa (jh g av q.id al) (aa (jH g wv t.wt) R)))))by unfold tH;ac_rfl));exact⟨this.1,this.2.1,_,_,this.2.2⟩
theorem r6(h:(tH x g j v q al t ring rv av wv R).holds w F): ∃G,(jH g wv t.wt).holds w G∧ ∀wt' Et w2,Goes (jH g Et wt') w G w2->w2.cell? ⟨g.tp t.nm,1,none⟩=some wv∧w2.frozen? ⟨g.tp t.nm,1,none⟩=false∧Goes (tH x g j v q al {t with wt:=wt'} ring rv av Et R) w F (w2.setCell ⟨g.tp t.nm,1,none⟩ Et):=by
 have h2:=aA h (show _=aa (jH g wv t.wt) (aa (kC g t wv) (aa (dB x j {v with rv:=rv}) (aa (dL g rv ring) (aa (kd g j.c.re q av) (aa (jh g av q.id al) R)))))by unfold tH;ac_rfl);obtain⟨G,H,ha,hb,d,e⟩:=h2;refine⟨G,ha,fun wt' Et w2 hg=> ?_⟩;have g1:=aO hb hg d e;have g2:=g1.eq (show _=aa (blk (g.tp t.nm) (.cells (Hw t wv) 92 (0,0))) (aa (jH g Et wt') (aa (dB x j {v with rv:=rv}) (aa (dL g rv ring) (aa (kd g j.c.re q av) (aa (jh g av q.id al) R)))))by unfold kC;ac_rfl);obtain⟨F2,gV,_⟩:=id g2;obtain⟨cl,fz,_⟩:=br gV;refine⟨cl 1,fz 1,(g2.store 1 Et).eq ?_⟩;show aa (kC g {t with wt:=wt'} Et) _=_;unfold tH
 ac_rfl
theorem BD(h:(tH x g j v q al t ring rv av wv R).holds w F): ∃G,(dL g rv ring).holds w G∧ ∀Jl WT w2,Goes (dL g WT Jl) w G w2->w2.cell? ⟨x,9,none⟩=some rv∧w2.frozen? ⟨x,9,none⟩=false∧Goes (tH x g j v q al t Jl WT av wv R) w F (w2.setCell ⟨x,9,none⟩ WT):=by
 have h2:=aA h (show _=aa (dL g rv ring) (aa (dB x j {v with rv:=rv}) (aa (kd g j.c.re q av) (aa (jh g av q.id al) (aa (kC g t wv) (aa (jH g wv t.wt) R)))))by unfold tH;ac_rfl);obtain⟨G,H,ha,hb,d,e⟩:=h2;refine⟨G,ha,fun Jl WT w2 hg=> ?_⟩;have g1:=aO hb hg d e;have g2:=g1.eq (show _=aa (blk x (.cells (yY j {v with rv:=rv}) 88 (0,0))) (aa (dL g WT Jl) (aa (kd g j.c.re q av) (aa (jh g av q.id al) (aa (kC g t wv) (aa (jH g wv t.wt) R)))))by unfold dB;ac_rfl);obtain⟨F2,gV,_⟩:=id g2;obtain⟨cl,fz,_⟩:=br gV;refine⟨cl 9,fz 9,(g2.store 9 WT).eq ?_⟩;show aa (dB x j {v with rv:=WT}) _=_;unfold tH
 ac_rfl
end
variable{x:Nat}{g:Gh}{j:Js}{v:Dv}{w:World}{F:Ft}{r:Rr}{t:Tr}
theorem MH{κ:Type} [DecidableEq κ](i:BEq κ) [@LawfulBEq κ i]:(instBEqOfDecidableEq:BEq κ)=i:=by
 cases i with
 |mk f=>
  show(⟨fun a b=>decide (a=b)⟩:BEq κ)=⟨f⟩;congr 1;funext a b;by_cases e:a=b
  ·subst e;have: @BEq.beq κ ⟨f⟩ a a=true:= @beq_self_eq_true κ ⟨f⟩ _ a;have h2:f a a=true:=this;rw[h2];simp
  ·have: ¬(@BEq.beq κ ⟨f⟩ a b=true):=fun h=>e (@eq_of_beq κ ⟨f⟩ _ a b h);have h2: ¬f a b=true:=this;have h3:f a b=false:=by simpa using h2
   rw[h3];simpa using e
theorem Cp(l:List Bs)(a:Bs): @List.erase Bs instBEqOfDecidableEq l a=l.erase a:=by rw[MH (inferInstance:BEq Bs)]
theorem Es(h:(aW x g j v).holds w F)(wf:Wf j)(hr:r∈j.reqs)(ht:t∈j.aQ):(∀i∈t.wt,g.rp i=g.rp r.q.id->i=r.q.id)∧(∀i∈t.wt,kg w (g.rp i))∧kg w (g.rp r.q.id):=by obtain⟨h1,h2⟩:=Wt h;refine⟨fun i hi e=>GL (l:=j.reqs) (p:=g.rp) (k:=fun r:Rr=>r.q.id) h1 (wf.wts t ht i hi) (az.2 ⟨r,hr,rfl⟩) e,fun i hi=> ?_,h2 r hr⟩;obtain⟨y,hy,e⟩:=az.1 (wf.wts t ht i hi);rw[<-e];exact h2 y hy
theorem QD(h:(aW x g j v).holds w F)(wf:Wf j)(ht:t∈j.aQ):(∀n∈j.ring,g.tp n=g.tp t.nm->n=t.nm)∧(∀n∈j.ring,kg w (g.tp n))∧kg w (g.tp t.nm):=by obtain⟨h1,h2⟩:=UO h;refine⟨fun i hi e=>GL (l:=j.aQ) (p:=g.tp) (k:=fun t:Tr=>t.nm) h1 (wf.ring i hi) (az.2 ⟨t,ht,rfl⟩) e,fun i hi=> ?_,h2 t ht⟩;obtain⟨y,hy,e⟩:=az.1 (wf.ring i hi);rw[<-e];exact h2 y hy
theorem WS(wf:Wf j)(hr:r∈j.reqs)(ht:t∈j.aQ)(f:Tr->Tr)(hf:(f t).nm=t.nm){ring:List Bs}{rv av wv:Value}(h:(tH x g j v r.q r.al (f t) ring rv av wv (jR g j v r t)).holds w F)(UH: ∀n∈ring,n∈j.aQ.map (·.nm)):(∀n∈ring,g.tp n=g.tp t.nm->n=t.nm)∧(∀n∈ring,kg w (g.tp n))∧kg w (g.tp t.nm):=by
 have h2:Goes (jA x g {j with ring:=ring,aQ:=upd (fun t:Tr=>t.nm) t.nm f j.aQ}) w F w:=r5 wf hr ht f hf ring rv av wv (Goes.refl h);obtain⟨F',⟨v',h3⟩,_⟩:=h2;obtain⟨h4,h5⟩:=UO h3;have em:(upd (fun t:Tr=>t.nm) t.nm f j.aQ).map (·.nm)=j.aQ.map (·.nm):=fR _ (fun y hy ey=>by rw[bC (k:=fun t:Tr=>t.nm) wf.nX hy ht ey,hf]);have Uy: ∀n,n∈j.aQ.map (·.nm)->n∈(upd (fun t:Tr=>t.nm) t.nm f j.aQ).map (fun t=>t.nm):=fun n hn=>by rw[em];exact hn
 have hB: ∀n,n∈j.aQ.map (·.nm)->kg w (g.tp n):=fun n hn=>by obtain⟨y,hy,e⟩:=az.1 (Uy n hn);rw[<-e];exact h5 y hy
 have za:t.nm∈j.aQ.map (·.nm):=az.2 ⟨t,ht,rfl⟩;exact⟨fun n hn e=>GL (p:=g.tp) (k:=fun t:Tr=>t.nm) h4 (Uy n (UH n hn)) (Uy _ za) e,fun n hn=>hB n (UH n hn),hB _ za⟩
theorem Du(x:Nat)(g:Gh)(j:Js)(r:Rr)(t:Tr)(w:World)(F:Ft)(h:(jA x g j).holds w F)(wf:Wf j)(hr:r∈j.reqs)(ht:t∈j.aQ)(et:t.nm=r.q.ten):Calls prog 74 #[pt x,pt (g.rp r.q.id)] w fun e w'=>e= .returned (.tuple #[])∧Goes (jA x g (j.left t r.q.id)) w F w':=by
 obtain⟨v,av,wv,ho,tF⟩:=vC h wf hr ht;obtain⟨k1,k2,k3⟩:=Es ho wf hr ht;have c2:w.cell? ⟨g.rp r.q.id,2,none⟩=some (pt (g.tp t.nm)):=by rw[(WR tF).1,et];rfl
 have c1:w.cell? ⟨g.tp t.nm,1,none⟩=some wv:=(Lb tF).1 1;obtain⟨G0,mv,yV⟩:=r6 tF;obtain⟨ao,cap,rfl⟩:=aR (Goes.refl mv);have bT:=wf.b1 t ht;have cZ:=wf.b2;have LL:=woR _ t.wt g.rp r.q.id w G0 mv k1 k2 k3 (by omega);obtain⟨f,hf⟩: ∃f:Tr->Tr,f=fun y=>{y with wt:=y.wt.erase r.q.id}:=⟨_,rfl⟩;have Rj:f t={t with wt:=t.wt.erase r.q.id}:=by rw[hf]
 have hlen:(t.wt.erase r.q.id).length<=16777216:=ar (List.length_erase_le ..) (by omega);have RL:Hid (∀iQ lI w1,Goes (rowA 124 1 (.slice iQ (t.wt.erase r.q.id).length lI) (t.wt.erase r.q.id).length ((t.wt.erase r.q.id).map fun i=>pt (g.rp i))) w G0 w1->
   w1.cell? ⟨g.tp t.nm,1,none⟩=some (.slice ao t.wt.length cap)∧w1.frozen? ⟨g.tp t.nm,1,none⟩=false∧Goes (tH x g j v r.q r.al (f t) j.ring v.rv av (.slice iQ (t.wt.erase r.q.id).length lI) (jR g j v r t)) w F (w1.setCell ⟨g.tp t.nm,1,none⟩ (.slice iQ (t.wt.erase r.q.id).length lI))):=fun iQ lI w1 hg=>by
  rw[Rj];exact yV _ _ w1 hg
 have Yh:Hid (t.wt.erase r.q.id= []-> ∀Et w2,Goes (tH x g j v r.q r.al (f t) j.ring v.rv av Et (jR g j v r t)) w F w2->
   ∃dK cQ,v.rv= .slice dK j.ring.length cQ∧w2.cell? ⟨x,9,none⟩=some (.slice dK j.ring.length cQ)∧
   Calls prog 120 #[.slice dK j.ring.length cQ,pt (g.tp t.nm)] w2 fun e w'=> ∃fE n3 cT,e= .returned (.slice fE n3 cT)∧w'.cell? ⟨x,9,none⟩=some (.slice dK j.ring.length cQ)∧w'.frozen? ⟨x,9,none⟩=false∧Goes (jA x g (j.left t r.q.id)) w F (w'.setCell ⟨x,9,none⟩ (.slice fE n3 cT))):=fun he Et w2 hg=>by
  obtain⟨F2,gV,o2,n2⟩:=hg;obtain⟨G2,BP,HS⟩:=BD gV;obtain⟨t1,t2,t3⟩:=WS wf hr ht f (by rw[Rj]) gV wf.ring;obtain⟨dK,cQ,e2⟩:=aR (Goes.refl BP);have hc9:w2.cell? ⟨x,9,none⟩=some v.rv:=(WQ gV).1 9;refine⟨dK,cQ,e2,by rw[hc9,e2], ?_⟩;have hwo:=woT v.rv j.ring g.tp t.nm w2 G2 BP t1 t2 t3 (by omega);rw[e2]at hwo;refine hwo.mono ?_;rintro e w'⟨v',rfl,jI⟩;rw[Cp]at jI;obtain⟨fE,cT,rfl⟩:=aR jI;obtain⟨p1,p2,p3⟩:=HS _ _ w' jI;refine⟨fE,_,cT,rfl,by rw[p1,e2],p2, ?_⟩;have p4:=r5 wf hr ht f (by rw[Rj]) (j.ring.erase t.nm) _ _ _ (aC o2 n2 p3);unfold Js.left;rw[if_pos he];rw[hf]at p4;exact p4
 have HF:Hid (t.wt.erase r.q.id≠ []-> ∀Et w2,Goes (tH x g j v r.q r.al (f t) j.ring v.rv av Et (jR g j v r t)) w F w2->Goes (jA x g (j.left t r.q.id)) w F w2):=fun cA Et w2 hg=>by have p4:=r5 wf hr ht f (by rw[Rj]) j.ring _ _ _ hg;unfold Js.left;rw[if_neg cA];rw[hf]at p4;exact p4
 have HC:Hid (∀Et w2,Goes (tH x g j v r.q r.al (f t) j.ring v.rv av Et (jR g j v r t)) w F w2->w2.cell? ⟨g.tp t.nm,1,none⟩=some Et):=fun Et w2 hg=>by
  obtain⟨F2,gV,_⟩:=hg;have:=(Lb gV).1 1;have en:(f t).nm=t.nm:=by rw[Rj]
  rw[en]at this;exact this
 clear h ho tF k1 k2 k3 mv yV wf hr ht Rj hf;unfold pt at*;generalize g.tp t.nm=tp at*;generalize g.rp r.q.id=rp at*;generalize iA:t.wt.length=nw at*;by_cases he:t.wt.erase r.q.id= []
 ·have HS3:=Yh.out he;have qW:(t.wt.erase r.q.id).length=0:=by rw[he];rfl
  rw[qW]at LL;have Yg:Hid _:=RL.out;rw[qW]at Yg;clear RL Yh HF hlen;go_enter func74,ntmps74;go_wp2_with (first
   |(go_at_call 119;go_must(refine LL.mono ?_;rintro e w1⟨v',rfl,hg⟩;obtain⟨iQ,lI,rfl⟩:=aR hg;obtain⟨d1,d2,d3⟩:=Yg.out iQ lI w1 hg;have d4:=HC.out _ _ d3;obtain⟨dK,cQ,_,d5,d6⟩:=HS3 _ _ d3;have HCT:=hide d6;clear hg d3 d6))
   |(go_at_call 120;go_must(refine HCT.out.mono ?_;rintro e w2⟨fE,n3,cT,rfl,f1,f2,f3⟩;have HE:=hide f3;clear f3)))
  go_end0;exact⟨rfl,HE.out⟩
 ·have HF':=HF.out he;have qW:((((t.wt.erase r.q.id).length:Nat):Int)==0)=false:=by
   have:(t.wt.erase r.q.id).length≠0:=fun e=>he (List.eq_nil_of_length_eq_zero e);simpa using this
  generalize(t.wt.erase r.q.id).length=ne at*;clear Yh HF;go_enter func74,ntmps74;go_wp2_with (first
   |(go_at_call 119;go_must(refine LL.mono ?_;rintro e w1⟨v',rfl,hg⟩;obtain⟨iQ,lI,rfl⟩:=aR hg;obtain⟨d1,d2,d3⟩:=RL.out iQ lI w1 hg;have d4:=HC.out _ _ d3;have HE:=hide (HF' _ _ d3);clear hg d3)))
  go_end0;exact⟨rfl,HE.out⟩
variable{w:World}{F:Ft}
theorem dx{A:aJ}{w2:World}{o:Obj}(h:Goes A (w.alloc o) F w2):Goes A w F w2:=aC ((Only.refl F w).alloc o) (fun _ h=> .inl h) h
theorem dM{A:aJ}(h:A.holds w F)(o:Obj):A.holds (w.alloc o) F:=A.keep h (fun k hk=>Below.heap_alloc w o k (A.lt h k hk))
theorem N4:(prog.info? 89).map (fun i=>(i.zero,i.size,i.bytes))=some (some (.pointer none),1,8):=by kernel_rfl
theorem Eo(x:Nat)(g:Gh)(j:Js)(r:Rr)(t:Tr)(first:Bool)(w:World)(F:Ft)(h:(jA x g j).holds w F)(wf:Wf j)(hr:r∈j.reqs)(ht:t∈j.aQ)(et:t.nm=r.q.ten)(pl:Int)(Rn:pl=if first then 0 else(t.wt.length:Int)):Calls prog 117 #[pt x,pt (g.rp r.q.id), .int .i64 pl] w fun e w'=>e= .returned (.tuple #[])∧Goes (jA x g (j.wait t r.q.id first)) w F w':=by
 obtain⟨i0,jo,mz,ja,jK⟩:=fQ N4;obtain⟨v,av,wv,ho,tF⟩:=vC h wf hr ht;have c2:w.cell? ⟨g.rp r.q.id,2,none⟩=some (pt (g.tp t.nm)):=by rw[(WR tF).1,et];rfl
 have c1:w.cell? ⟨g.tp t.nm,1,none⟩=some wv:=(Lb tF).1 1;obtain⟨G0,mv,_⟩:=r6 tF;obtain⟨ao,cap,rfl⟩:=aR (Goes.refl mv);have bT:=wf.b1 t ht;have cZ:=wf.b2;obtain⟨f,hf⟩: ∃f:Tr->Tr,f=fun y=>{y with wt:=if first then r.q.id::y.wt else y.wt++ [r.q.id]}:=⟨_,rfl⟩;have Rj:f t={t with wt:=if first then r.q.id::t.wt else t.wt++ [r.q.id]}:=by rw[hf]
 have HIN:Hid (∀ring rv w3 N,N=w3.heap.size->Goes (tH x g j v r.q r.al t ring rv av (.slice ao t.wt.length cap) (jR g j v r t)) w F w3->
   w3.cell? ⟨g.tp t.nm,1,none⟩=some (.slice ao t.wt.length cap)∧
   Calls prog 153 #[.slice ao t.wt.length cap, .int .i64 pl, .slice (some ⟨N,0,none⟩) 1 1] (w3.alloc (.cells #[pt (g.rp r.q.id)] 124)) fun e w'=> ∃Ex n4 JG,e= .returned (.slice Ex n4 JG)∧w'.cell? ⟨g.tp t.nm,1,none⟩=some (.slice ao t.wt.length cap)∧w'.frozen? ⟨g.tp t.nm,1,none⟩=false∧
    Goes (jA x g {j with ring:=ring,aQ:=upd (fun t:Tr=>t.nm) t.nm f j.aQ}) w F (w'.setCell ⟨g.tp t.nm,1,none⟩ (.slice Ex n4 JG))):=fun ring rv w3 N hN hg=>by
  subst hN;obtain⟨F3,mB,o3,n3⟩:=hg;refine⟨(Lb mB).1 1, ?_⟩;obtain⟨G3,Ur,HS⟩:=r6 mB;have hnG: ¬G3 w3.heap.size:=fun hk=>by have:=aJ.lt _ Ur _ hk;omega
  have Zv:=Wn (.slice ao t.wt.length cap) t.wt g.rp r.q.id first w3.heap.size _ G3 (dM Ur (.cells #[pt (g.rp r.q.id)] 124)) (by omega) (heap_alloc_new w3 _) hnG
  rw[<-Rn]at Zv;refine Zv.mono ?_;rintro e w'⟨v',rfl,jI⟩;obtain⟨Ex,JG,rfl⟩:=aR jI;obtain⟨p1,p2,p3⟩:=HS _ _ w' (dx jI);refine⟨Ex,_,JG,rfl,p1,p2, ?_⟩;have p4:=aC o3 n3 p3;rw[<-Rj]at p4;exact r5 wf hr ht f (by rw[Rj]) ring rv av _ p4
 have HRI:Hid (∃G1 iQ lI,w.cell? ⟨x,9,none⟩=some (.slice iQ j.ring.length lI)∧(rowA 89 1 (.slice iQ j.ring.length lI) j.ring.length (j.ring.map fun n=>pt (g.tp n))).holds (w.alloc (.cells #[pt (g.tp t.nm)] 89)) G1∧
   ∀dK cQ w2,Goes (rowA 89 1 (.slice dK (j.ring.length+1) cQ) (j.ring.length+1) ((j.ring.map fun n=>pt (g.tp n))++ [pt (g.tp t.nm)])) (w.alloc (.cells #[pt (g.tp t.nm)] 89)) G1 w2->
    w2.cell? ⟨x,9,none⟩=some (.slice iQ j.ring.length lI)∧w2.frozen? ⟨x,9,none⟩=false∧Goes (tH x g j v r.q r.al t (j.ring++ [t.nm]) (.slice dK (j.ring.length+1) cQ) av (.slice ao t.wt.length cap) (jR g j v r t)) w F (w2.setCell ⟨x,9,none⟩ (.slice dK (j.ring.length+1) cQ))):=by
  obtain⟨G1,Ez,HS⟩:=BD tF;obtain⟨iQ,lI,e1⟩:=aR (Goes.refl Ez);have c9:w.cell? ⟨x,9,none⟩=some v.rv:=(WQ tF).1 9;refine⟨G1,iQ,lI,by rw[c9,e1], ?_,fun dK cQ w2 hg=> ?_⟩
  ·have:=dM Ez (.cells #[pt (g.tp t.nm)] 89);rw[e1]at this;exact this
  ·obtain⟨p1,p2,p3⟩:=HS (j.ring++ [t.nm]) (.slice dK (j.ring.length+1) cQ) w2 (by
    unfold dL;rw[aH,aD];exact dx hg)
   exact⟨by rw[p1,e1],p2,p3⟩
 have Xi:Hid (Goes (tH x g j v r.q r.al t j.ring v.rv av (.slice ao t.wt.length cap) (jR g j v r t)) w F w):=Goes.refl tF;have hwf:Hid (if t.wt= []then j.wait t r.q.id first={j with ring:=j.ring++ [t.nm],aQ:=upd (fun t:Tr=>t.nm) t.nm f j.aQ}else j.wait t r.q.id first={j with ring:=j.ring,aQ:=upd (fun t:Tr=>t.nm) t.nm f j.aQ}):=by
  by_cases he:t.wt= []
  ·show(if _ then _ else _);rw[if_pos he];unfold Js.wait;rw[if_pos he,hf]
  ·show(if _ then _ else _);rw[if_neg he];unfold Js.wait;rw[if_neg he,hf]
 clear h ho tF mv wf hr ht Rj hf Rn;unfold pt at*;generalize g.tp t.nm=tp at*;generalize g.rp r.q.id=rp at*;by_cases he:t.wt= []
 ·have ej:Hid (j.wait t r.q.id first={j with ring:=j.ring++ [t.nm],aQ:=upd (fun t:Tr=>t.nm) t.nm f j.aQ}):=by have:=hwf.out;rw[if_pos he]at this;exact this
  obtain⟨G1,iQ,lI,c9,Ku,HS⟩:=HRI.out;have jf:=hide Ku;have HS':=hide HS;have qW:t.wt.length=0:=by rw[he];rfl
  clear HRI Xi hwf Ku HS he;generalize t.wt.length=nw at*;subst qW;generalize j.ring.length=nr at*;go_enter func117,ntmps117;go_wp2_with (first
   |(at_builtin;go_must(refine aT _ rfl _ _ 84 rfl 89 i0 (.pointer none) 1 8 underlying84 jo mz ja jK rfl (by decide) (F:=G1) _ nr _ rfl jf.out ⟨w.heap.size,0,none⟩ 1 1 [.pointer (some ⟨tp,0,none⟩)] rfl rfl (World.news_of_block (cs:= #[.pointer (some ⟨tp,0,none⟩)]) (t:=89) (fr:=(0,0)) (heap_alloc_new w _)) (by simp[Value.oneCell']) (by unfold maxLen;omega) (by omega) ?_;intro dK cQ w2 bE;obtain⟨d1,d2,d3⟩:=HS'.out dK cQ w2 bE;obtain⟨d4,d5⟩:=HIN.out _ _ _ w2.heap.size (by simp[World.setCell]) d3;have HI:=hide d5;clear bE d3 d5))
   |(go_at_call 153;go_must(refine HI.out.mono ?_;rintro e w5⟨Ex,n4,JG,rfl,f1,f2,f3⟩;have HE:=hide f3;clear f3)))
  go_end0;rw[ej.out];exact⟨rfl,HE.out⟩
 ·have ej:Hid (j.wait t r.q.id first={j with ring:=j.ring,aQ:=upd (fun t:Tr=>t.nm) t.nm f j.aQ}):=by have:=hwf.out;rw[if_neg he]at this;exact this
  have qW:(((t.wt.length:Nat):Int)==0)=false:=by have:t.wt.length≠0:=fun e=>he (List.eq_nil_of_length_eq_zero e);simpa using this
  obtain⟨_,d5⟩:=HIN.out _ _ _ _ rfl Xi.out;have HI:=hide d5;clear HRI Xi hwf HIN d5 he;generalize t.wt.length=nw at*;go_enter func117,ntmps117;go_wp2_with (first
   |(go_at_call 153;go_must(refine HI.out.mono ?_;rintro e w5⟨Ex,n4,JG,rfl,f1,f2,f3⟩;have HE:=hide f3;clear f3)))
  go_end0;rw[ej.out];exact⟨rfl,HE.out⟩
theorem zH(x:Nat)(g:Gh)(j:Js)(r:Rr)(t:Tr)(w:World)(F:Ft)(h:(jA x g j).holds w F)(wf:Wf j)(hr:r∈j.reqs)(ht:t∈j.aQ)(et:t.nm=r.q.ten):Calls prog 83 #[pt x,pt (g.rp r.q.id)] w fun e w'=>e= .returned (.tuple #[])∧Goes (jA x g (j.wait t r.q.id true)) w F w':=by have HW:=Eo x g j r t true w F h wf hr ht et 0 rfl;clear h;unfold pt at*;go_enter func83,ntmps83;go_wp2_with (first|(go_at_call 117;go_must(refine HW.mono ?_;rintro e w1⟨rfl,hg⟩;have HG:=hide hg;clear hg)));go_end0;exact⟨rfl,HG.out⟩
theorem BK(x:Nat)(g:Gh)(j:Js)(r:Rr)(t:Tr)(w:World)(F:Ft)(h:(jA x g j).holds w F)(wf:Wf j)(hr:r∈j.reqs)(ht:t∈j.aQ)(et:t.nm=r.q.ten):Calls prog 70 #[pt x,pt (g.rp r.q.id)] w fun e w'=>e= .returned (.tuple #[])∧Goes (jA x g (j.wait t r.q.id false)) w F w':=by
 have HW:=Eo x g j r t false w F h wf hr ht et t.wt.length rfl;obtain⟨v,av,wv,ho,tF⟩:=vC h wf hr ht;have c2:w.cell? ⟨g.rp r.q.id,2,none⟩=some (pt (g.tp t.nm)):=by rw[(WR tF).1,et];rfl
 have c1:w.cell? ⟨g.tp t.nm,1,none⟩=some wv:=(Lb tF).1 1;obtain⟨G0,mv,_⟩:=r6 tF;obtain⟨ao,cap,rfl⟩:=aR (Goes.refl mv);have bT:=wf.b1 t ht;clear h ho tF mv;unfold pt at*;generalize g.tp t.nm=tp at*;go_enter func70,ntmps70;go_wp2_with (first|(go_at_call 117;go_must(refine HW.mono ?_;rintro e w1⟨rfl,hg⟩;have HG:=hide hg;clear hg)));go_end0;exact⟨rfl,HG.out⟩
theorem Q5{α κ:Type} [DecidableEq κ](k:α->κ)(c:κ)(l:List α):upd k c (fun y=>y) l=l:=by unfold upd;refine(bz fun x _=> ?_).trans (List.map_id _);split<;>rfl
def Js.turn(j:Js)(t:Tr):Js:={j with ring:=if t.wt= []then j.ring else j.ring.erase t.nm++ [t.nm]}
theorem Q4(x:Nat)(g:Gh)(j:Js)(r:Rr)(t:Tr)(w:World)(F:Ft)(h:(jA x g j).holds w F)(wf:Wf j)(hr:r∈j.reqs)(ht:t∈j.aQ):Calls prog 75 #[pt x,pt (g.tp t.nm)] w fun e w'=>e= .returned (.tuple #[])∧Goes (jA x g (j.turn t)) w F w':=by
 obtain⟨i0,jo,mz,ja,jK⟩:=fQ N4;obtain⟨v,av,wv,ho,tF⟩:=vC h wf hr ht;have c1:w.cell? ⟨g.tp t.nm,1,none⟩=some wv:=(Lb tF).1 1;obtain⟨G0,mv,_⟩:=r6 tF;obtain⟨ao,cap,rfl⟩:=aR (Goes.refl mv);have bT:=wf.b1 t ht;have cZ:=wf.b2;have Ew:=hide (Goes.refl h);by_cases he:t.wt= []
 ·have ej:j.turn t=j:=by unfold Js.turn;rw[if_pos he]
  rw[ej];have qW:t.wt.length=0:=by rw[he];rfl
  clear h ho tF mv;unfold pt at*;generalize g.tp t.nm=tp at*;generalize t.wt.length=nw at*;subst qW;go_enter func75,ntmps75;go_wp2;go_end0;exact⟨rfl,Ew.out⟩
 ·have ej:Hid (j.turn t={j with ring:=j.ring.erase t.nm++ [t.nm],aQ:=upd (fun t:Tr=>t.nm) t.nm (fun y=>y) j.aQ}):=by show(_=_);unfold Js.turn;rw[if_neg he,Q5]
  have qW:0<t.wt.length:=List.length_pos_iff.2 he;have abG:((0:Int)<((t.wt.length:Nat):Int)):=by omega
  obtain⟨G1,Ez,HS⟩:=BD tF;obtain⟨iQ,lI,e1⟩:=aR (Goes.refl Ez);have c9:w.cell? ⟨x,9,none⟩=some (.slice iQ j.ring.length lI):=by rw[(WQ tF).1 9];show some v.rv=_;rw[e1]
  obtain⟨t1,t2,t3⟩:=QD ho wf ht;have LL:=woT v.rv j.ring g.tp t.nm w G1 Ez t1 t2 t3 (by omega);rw[e1]at LL;have hel:(j.ring.erase t.nm).length<=16777210:=ar (List.length_erase_le ..) cZ;have Ry:Hid (∀v2 w1,Goes (rowA 89 1 v2 (j.ring.erase t.nm).length ((j.ring.erase t.nm).map fun n=>pt (g.tp n))) w G1 w1->
    ∃dK cQ G2,v2= .slice dK (j.ring.erase t.nm).length cQ∧(rowA 89 1 (.slice dK (j.ring.erase t.nm).length cQ) (j.ring.erase t.nm).length ((j.ring.erase t.nm).map fun n=>pt (g.tp n))).holds (w1.alloc (.cells #[pt (g.tp t.nm)] 89)) G2∧
    ∀fE cT w3,Goes (rowA 89 1 (.slice fE ((j.ring.erase t.nm).length+1) cT) ((j.ring.erase t.nm).length+1) (((j.ring.erase t.nm).map fun n=>pt (g.tp n))++ [pt (g.tp t.nm)])) (w1.alloc (.cells #[pt (g.tp t.nm)] 89)) G2 w3->
     w3.cell? ⟨x,9,none⟩=some (.slice iQ j.ring.length lI)∧w3.frozen? ⟨x,9,none⟩=false∧Goes (jA x g {j with ring:=j.ring.erase t.nm++ [t.nm],aQ:=upd (fun t:Tr=>t.nm) t.nm (fun y=>y) j.aQ}) w F (w3.setCell ⟨x,9,none⟩ (.slice fE ((j.ring.erase t.nm).length+1) cT))):=fun v2 w1 hg=>by
   obtain⟨dK,cQ,rfl⟩:=aR hg;obtain⟨G2,BP,o2,n2⟩:=hg;refine⟨dK,cQ,G2,rfl,dM BP _,fun fE cT w3 iD=> ?_⟩;have uu:=aC o2 n2 (dx iD);obtain⟨p1,p2,p3⟩:=HS (j.ring.erase t.nm++ [t.nm]) (.slice fE ((j.ring.erase t.nm).length+1) cT) w3 (by unfold dL;rw[aH,aD];exact uu)
   exact⟨by rw[p1,e1],p2,r5 wf hr ht (fun y=>y) rfl _ _ _ _ p3⟩
  rw[Cp]at LL;clear h ho tF mv Ez HS Ew t1 t2 t3 he e1;unfold pt at*;generalize g.tp t.nm=tp at*;generalize t.wt.length=nw at*;generalize cA:(j.ring.erase t.nm).length=ne at*;generalize j.ring.length=nr at*;go_enter func75,ntmps75;go_wp2_with (first
   |(go_at_call 120;go_must(refine LL.mono ?_;rintro e w1⟨v2,rfl,hg⟩;obtain⟨dK,cQ,G2,rfl,d1,d2⟩:=Ry.out v2 w1 hg;have jf:=hide d1;have Xe:=hide d2;clear hg d1 d2))
   |(at_builtin;go_must(refine aT _ rfl _ _ 84 rfl 89 i0 (.pointer none) 1 8 underlying84 jo mz ja jK rfl (by decide) (F:=G2) _ ne _ rfl jf.out ⟨w1.heap.size,0,none⟩ 1 1 [.pointer (some ⟨tp,0,none⟩)] rfl rfl (World.news_of_block (cs:= #[.pointer (some ⟨tp,0,none⟩)]) (t:=89) (fr:=(0,0)) (heap_alloc_new w1 _)) (by simp[Value.oneCell']) (by unfold maxLen;omega) (by omega) ?_;intro fE cT w3 bE;obtain⟨d3,d4,d5⟩:=Xe.out fE cT w3 bE;have HE:=hide d5;clear bE d5)))
  go_end0;rw[ej.out];exact⟨rfl,HE.out⟩
