import Derived.Test.YtffamlbkmjmipaaGreatDoorB15
import Derived.Test.YtffamlbkmjmipaaGreatDoorB20
set_option maxHeartbeats 8000000
set_option maxRecDepth 100000
namespace Go.Proofs.YtffamlbkmjmipaaGreatDoor
open _root_.Go.Proofs.Tryz
namespace Pj
open Go.RowKit aM Mc
attribute [local go_sem] ag ar
variable{w:World}{F:Ft}
theorem bQ{p:Nat}{cs:Array Value}{t:TypeId}{B:aM}(h:(aa (blk p (.cells cs t (0,0))) B).holds w F):(∀j,w.cell? ⟨p,j,none⟩=cs[j]?)∧(∀j,w.frozen? ⟨p,j,none⟩=false)∧w.heap[p]?=some (.cells cs t (0,0)):=by have:=(dC h).1;exact⟨fun j=>by simp only[World.cell?,this];rfl,fun j=>by simp only[World.frozen?,this];simp,this⟩
theorem aX{e:TypeId}{n:Nat}{v:Value}{xs:List Value}{w':World}(h:Goes (rowA e 1 v n xs) w F w'): ∃ao cap,v= .slice ao n cap:=by obtain⟨_,h,_⟩:=h;obtain⟨ao,cap,e,_⟩:=bC h;exact⟨ao,cap,e⟩
theorem Mq(x:Nat)(cs:Array Value)(c:Int)(pull:List Int)(pv:Value)(w:World)(F:Ft)(hc:cs[10]?=some pv)(h:(aa (blk x (.cells cs 88 (0,0))) (jw pv pull)).holds w F)(hl:pull.length<=16777216):Calls prog 73 #[pt x, .int .i64 c] w fun e w'=>e= .returned (.tuple #[])∧ ∃Jj,Goes (aa (blk x (.cells (cs.setIfInBounds 10 Jj) 88 (0,0))) (jw Jj (pull.erase c))) w F w':=by
 obtain⟨cl,fz,_⟩:=bQ h;have c10:w.cell? ⟨x,10,none⟩=some pv:=(cl 10).trans hc;obtain⟨G,H,ha,hb,d,e⟩:=h;have hx:x<w.heap.size:=(cT.1 ha.1).1;obtain⟨ao,cap,rfl⟩:=aX (Goes.refl hb);have NM:=woI _ pull c w H hb hl;have HX:Hid (∀v' w1,Goes (rowA 3 1 v' (pull.erase c).length ((pull.erase c).map fun i=> .int .i64 i)) w H w1->w1.cell? ⟨x,10,none⟩=some (.slice ao pull.length cap)∧w1.frozen? ⟨x,10,none⟩=false∧Goes (aa (blk x (.cells (cs.setIfInBounds 10 v') 88 (0,0))) (jw v' (pull.erase c))) w F (w1.setCell ⟨x,10,none⟩ v')):=fun v' w1 hg=>by have g1:Goes (aa (jw v' (pull.erase c)) (blk x (.cells cs 88 (0,0)))) w F w1:=aV (A':=jw v' (pull.erase c)) ha hg (fun k hk hg=>d k hg hk) (fun k=>(e k).trans or_comm);have g2:=g1.eq (cA _ _);obtain⟨F1,cd,o1,n1⟩:=g2;obtain⟨cl1,fz1,_⟩:=bQ cd;exact⟨(cl1 10).trans hc,fz1 10,Goes.store ⟨F1,cd,o1,n1⟩ 10 v'⟩
 clear ha hb d e cl fz;unfold pt;go_enter func73,ntmps73;go_wp2_with (first|(go_at_call 118;go_must(refine NM.mono ?_;rintro e w1⟨v',rfl,hg⟩;obtain⟨c1,f1,rF⟩:=HX.out v' w1 hg;obtain⟨iw,cM,rfl⟩:=aX hg;have uL:=hide rF;clear hg rF)));go_end0;exact⟨rfl,_,uL.out⟩
end Pj
namespace Pj
open Go.RowKit aM Mc
variable{x:Nat}{g:Gh}{j:Js}{v:Dv}{r:Rr}{t:Tr}
theorem aB{A B:aM}{w:World}{F:Ft}(h:A.holds w F)(e:A=B):B.holds w F:=e▸h
section
variable{x:Nat}{g:Gh}{j:Js}{v:Dv}{w:World}{F:Ft}
theorem ox{α:Type}{A:α->aM}{p:α->Nat}(hA: ∀y w G,(A y).holds w G->mn w (p y)∧G (p y)): ∀{l:List α} {w:World} {F:Ft},(all A l).holds w F->(l.map p).Nodup∧ ∀y∈l,mn w (p y)∧F (p y)
 | [],_,_,_=>⟨by simp,fun y hy=>by cases hy⟩
 |y::l,w,F,h=>by
  obtain⟨G,H,ha,hb,d,e⟩:=h;obtain⟨hn,hm⟩:=ox hA hb;have h1:=hA y w G ha;refine⟨?_,fun z hz=> ?_⟩
  ·rw[List.map_cons,List.nodup_cons];refine⟨fun Eg=> ?_,hn⟩;obtain⟨z,hz,ez⟩:=aA.1 Eg;exact d _ h1.2 (ez▸(hm z hz).2)
  ·rcases List.mem_cons.1 hz with e3|e3
   ·rw[e3];exact⟨h1.1,(e _).2 (.inl h1.2)⟩
   ·exact⟨(hm z e3).1,(e _).2 (.inr (hm z e3).2)⟩
theorem Rb(re:Int)(y:Rr)(w:World)(G:Ft)(h:(dO g re y).holds w G):mn w (g.rp y.q.id)∧G (g.rp y.q.id):=by obtain⟨av,h⟩:=h;have:=dC h;exact⟨⟨_,_,this.1⟩,this.2⟩
theorem RF(y:Tr)(w:World)(G:Ft)(h:(gA g y).holds w G):mn w (g.tp y.nm)∧G (g.tp y.nm):=by obtain⟨av,h⟩:=h;have:=dC h;exact⟨⟨_,_,this.1⟩,this.2⟩
theorem Oy(y:At×Nat)(w:World)(G:Ft)(h:(gD g y.1 y.2).holds w G):mn w (g.ap (key y.1))∧G (g.ap (key y.1)):=by have:=SZ h;exact⟨⟨_,_,this.1⟩,this.2⟩
theorem Yo(h:(bk x g j v).holds w F):(j.reqs.map fun r=>g.rp r.q.id).Nodup∧ ∀r∈j.reqs,mn w (g.rp r.q.id):=by
 have e:bk x g j v=aa (all (dO g j.c.re) j.reqs) (aa (dB x j v) (aa (kN v.cm j.bT) (aa (jS g v.rm j.reqs) (aa (jk g v.tm j.aW) (aa (all jo j.bT) (aa (all (gA g) j.aW) (aa (fK g v.rv j.ring) (aa (jw v.pv j.pull) (aa (eY g v.lv j.hp) (hpA g j.hp)))))))))):=by unfold bk;ac_rfl
 obtain⟨G,hG,_⟩:=aM.left (aB h e);obtain⟨h1,h2⟩:=ox (p:=fun r:Rr=>g.rp r.q.id) (fun y w G h=>Rb j.c.re y w G h) hG;exact⟨h1,fun r hr=>(h2 r hr).1⟩
theorem Wj(h:(bk x g j v).holds w F):(j.aW.map fun t=>g.tp t.nm).Nodup∧ ∀t∈j.aW,mn w (g.tp t.nm):=by
 have e:bk x g j v=aa (all (gA g) j.aW) (aa (dB x j v) (aa (kN v.cm j.bT) (aa (jS g v.rm j.reqs) (aa (jk g v.tm j.aW) (aa (all jo j.bT) (aa (all (dO g j.c.re) j.reqs) (aa (fK g v.rv j.ring) (aa (jw v.pv j.pull) (aa (eY g v.lv j.hp) (hpA g j.hp)))))))))):=by unfold bk;ac_rfl
 obtain⟨G,hG,_⟩:=aM.left (aB h e);obtain⟨h1,h2⟩:=ox (p:=fun t:Tr=>g.tp t.nm) (fun y w G h=>RF y w G h) hG;exact⟨h1,fun r hr=>(h2 r hr).1⟩
theorem zip_fst(l:List At):l.zipIdx.map (fun y=>g.ap (key y.1))=l.map fun a=>g.ap (key a):=by
 have:l.zipIdx.map (fun y=>g.ap (key y.1))=(l.zipIdx.map (·.1)).map fun a=>g.ap (key a):=by rw[aG];rfl
 rw[this];simp
theorem ac1(h:(bk x g j v).holds w F):(j.hp.map fun a=>g.ap (key a)).Nodup∧ ∀a∈j.hp,mn w (g.ap (key a)):=by
 have e:bk x g j v=aa (hpA g j.hp) (aa (dB x j v) (aa (kN v.cm j.bT) (aa (jS g v.rm j.reqs) (aa (jk g v.tm j.aW) (aa (all jo j.bT) (aa (all (dO g j.c.re) j.reqs) (aa (all (gA g) j.aW) (aa (fK g v.rv j.ring) (aa (jw v.pv j.pull) (eY g v.lv j.hp)))))))))):=by unfold bk;ac_rfl
 obtain⟨G,hG,_⟩:=aM.left (aB h e);obtain⟨h1,h2⟩:=ox (p:=fun y:At×Nat=>g.ap (key y.1)) (fun y w G h=>Oy y w G h) hG;rw[zip_fst]at h1;refine⟨h1,fun a ha=> ?_⟩;obtain⟨i,hi⟩:=List.getElem?_of_mem ha;have:(a,i)∈j.hp.zipIdx:=by rw[List.mem_zipIdx_iff_getElem?];exact hi
 exact(h2 _ this).1
theorem IJ{α κ:Type}{l:List α}{p:κ->Nat}{k:α->κ}(hn:(l.map fun y=>p (k y)).Nodup){a b:κ}(ha:a∈l.map k)(hb:b∈l.map k)(e:p a=p b):a=b:=by obtain⟨y,hy,rfl⟩:=aA.1 ha;obtain⟨z,hz,rfl⟩:=aA.1 hb;rw[ck (k:=fun y=>p (k y)) hn hy hz e]
end
structure Wf(j:Js):Prop where
 rid:(j.reqs.map fun r=>r.q.id).Nodup
 rj:(j.aW.map (·.nm)).Nodup
 RR: ∀t∈j.aW,∀i∈t.wt,i∈j.reqs.map fun r=>r.q.id
 ring: ∀n∈j.ring,n∈j.aW.map (·.nm)
 fP: ∀r∈j.reqs,r.q.ten∈j.aW.map (·.nm)
 b1: ∀t∈j.aW,t.wt.length<=16777210
 b2:j.ring.length<=16777210
 b3:j.pull.length<=16777210
 b4:j.hp.length<=16777190
 b5: ∀t∈j.aW,0<=t.rn∧t.rn<=16777216
 b6:j.reqs.length<=16777210
 b7:j.aW.length<=16777210
 b8:j.bT.length<=16777210
 al: ∀r∈j.reqs,r.al.length<=16777210
def jR(g:Gh)(j:Js)(v:Dv)(r:Rr)(t:Tr):aM:=
 aa (kN v.cm j.bT) (aa (jS g v.rm j.reqs) (aa (jk g v.tm j.aW) (aa (all jo j.bT) (aa (all (dO g j.c.re) (j.reqs.filter fun y=>decide (y.q.id≠r.q.id))) (aa (all (gA g) (j.aW.filter fun y=>decide (y.nm≠t.nm))) (aa (jw v.pv j.pull) (aa (eY g v.lv j.hp) (hpA g j.hp))))))))
theorem UW(h1:(j.reqs.map fun r=>r.q.id).Nodup)(h2:(j.aW.map (·.nm)).Nodup)(hr:r∈j.reqs)(ht:t∈j.aW):bk x g j v=aa (dB x j v) (aa (fK g v.rv j.ring) (aa (dO g j.c.re r) (aa (gA g t) (jR g j v r t)))):=by
 unfold bk jR;rw[my (A:=dO g j.c.re) (k:=fun r:Rr=>r.q.id) h1 hr,my (A:=gA g) (k:=fun t:Tr=>t.nm) h2 ht]
 ac_rfl
theorem Vb(h1:(j.reqs.map fun r=>r.q.id).Nodup)(h2:(j.aW.map (·.nm)).Nodup)(hr:r∈j.reqs)(ht:t∈j.aW)(f:Tr->Tr)(hf:(f t).nm=t.nm)(ring:List Bs)(rv:Value):bk x g {j with ring:=ring,aW:=upd (fun t:Tr=>t.nm) t.nm f j.aW} {v with rv:=rv}=aa (dB x j {v with rv:=rv}) (aa (fK g rv ring) (aa (dO g j.c.re r) (aa (gA g (f t)) (jR g j v r t)))):=by
 have e:(upd (fun t:Tr=>t.nm) t.nm f j.aW).map (fun t=>(t.nm,g.tp t.nm))=j.aW.map fun t=>(t.nm,g.tp t.nm):=ib _ (fun y hy ey=>by have:y=t:=ck (k:=fun t:Tr=>t.nm) h2 hy ht ey;rw[this,hf])
 unfold bk jR jk;dsimp only;rw[e,my (A:=dO g j.c.re) (k:=fun r:Rr=>r.q.id) h1 hr,J2 (A:=gA g) (k:=fun t:Tr=>t.nm) h2 ht];show aa (dB x j {v with rv:=rv}) _=_
 ac_rfl
end Pj
namespace Pj
open Go.RowKit aM Mc
attribute [local go_sem] ag ar
variable{x:Nat}{g:Gh}{j:Js}{r:Rr}{t:Tr}{w:World}{F:Ft}
theorem im{α:Type}(A:aM)(B:α->aM):aa A (ex B)=ex fun b=>aa A (B b):=by rw[cA,cx];congr 1;funext b;exact cA _ _
def vg(x:Nat)(g:Gh)(j:Js)(v:Dv)(q:Rq)(al:List Int)(t:Tr)(ring:List Bs)(rv av wv:Value)(R:aM):aM:=
 aa (dB x j {v with rv:=rv}) (aa (fK g rv ring) (aa (mj g j.c.re q av) (aa (lx g av q.id al) (aa (mS g t wv) (aa (l8 g wv t.wt) R)))))
theorem xG(h:(jA x g j).holds w F)(wf:Wf j)(hr:r∈j.reqs)(ht:t∈j.aW): ∃v av wv,(bk x g j v).holds w F∧(vg x g j v r.q r.al t j.ring v.rv av wv (jR g j v r t)).holds w F:=by
 obtain⟨v,h⟩:=h;have h1:=aB h (UW wf.rid wf.rj hr ht);unfold dO gA at h1;have e:aa (dB x j v) (aa (fK g v.rv j.ring) (aa (ex fun av=>aa (mj g j.c.re r.q av) (lx g av r.q.id r.al)) (aa (ex fun wv=>aa (mS g t wv) (l8 g wv t.wt)) (jR g j v r t))))=ex fun av=>ex fun wv=>vg x g j v r.q r.al t j.ring v.rv av wv (jR g j v r t):=by
  rw[cx,im,im];congr 1;funext av;rw[cx,im,im,im];congr 1;funext wv;unfold vg
  ac_rfl
 obtain⟨av,wv,h2⟩:=aB h1 e;exact⟨v,av,wv,h,h2⟩
theorem uj{v:Dv}(wf:Wf j)(hr:r∈j.reqs)(ht:t∈j.aW)(f:Tr->Tr)(hf:(f t).nm=t.nm)(ring:List Bs)(rv av wv:Value){w':World}(h:Goes (vg x g j v r.q r.al (f t) ring rv av wv (jR g j v r t)) w F w'):Goes (jA x g {j with ring:=ring,aW:=upd (fun t:Tr=>t.nm) t.nm f j.aW}) w F w':=by
 refine h.mono fun F' h'=>⟨{v with rv:=rv}, ?_⟩;show(bk x g _ _).holds _ _;rw[Vb wf.rid wf.rj hr ht f hf];unfold dO gA;have e:aa (dB x j {v with rv:=rv}) (aa (fK g rv ring) (aa (ex fun av=>aa (mj g j.c.re r.q av) (lx g av r.q.id r.al)) (aa (ex fun wv=>aa (mS g (f t) wv) (l8 g wv (f t).wt)) (jR g j v r t))))=ex fun av=>ex fun wv=>vg x g j v r.q r.al (f t) ring rv av wv (jR g j v r t):=by
  rw[cx,im,im];congr 1;funext av;rw[cx,im,im,im];congr 1;funext wv;unfold vg
  ac_rfl
 rw[e];exact⟨av,wv,h'⟩
section
variable{x:Nat}{g:Gh}{j:Js}{v:Dv}{q:Rq}{al:List Int}{t:Tr}{ring:List Bs}{rv av wv:Value}{R:aM}{w:World}{F:Ft}
theorem YJ(h:(vg x g j v q al t ring rv av wv R).holds w F):(∀k,w.cell? ⟨x,k,none⟩=(zE j {v with rv:=rv})[k]?)∧(∀k,w.frozen? ⟨x,k,none⟩=false):=by have:=bQ h;exact⟨this.1,this.2.1⟩
theorem YK(h:(vg x g j v q al t ring rv av wv R).holds w F):(∀k,w.cell? ⟨g.rp q.id,k,none⟩=(gV g j.c.re q av)[k]?)∧(∀k,w.frozen? ⟨g.rp q.id,k,none⟩=false)∧mn w (g.rp q.id):=by have:=bQ (aB h (show _=aa (mj g j.c.re q av) (aa (dB x j {v with rv:=rv}) (aa (fK g rv ring) (aa (lx g av q.id al) (aa (mS g t wv) (aa (l8 g wv t.wt) R)))))by unfold vg;ac_rfl));exact⟨this.1,this.2.1,_,_,this.2.2⟩
theorem M8(h:(vg x g j v q al t ring rv av wv R).holds w F):(∀k,w.cell? ⟨g.tp t.nm,k,none⟩=(JI t wv)[k]?)∧(∀k,w.frozen? ⟨g.tp t.nm,k,none⟩=false)∧mn w (g.tp t.nm):=by have:=bQ (aB h (show _=aa (mS g t wv) (aa (dB x j {v with rv:=rv}) (aa (fK g rv ring) (aa (mj g j.c.re q av) (aa (lx g av q.id al) (aa (l8 g wv t.wt) R)))))by unfold vg;ac_rfl));exact⟨this.1,this.2.1,_,_,this.2.2⟩
theorem uk(h:(vg x g j v q al t ring rv av wv R).holds w F): ∃G,(l8 g wv t.wt).holds w G∧ ∀wt' GD w2,Goes (l8 g GD wt') w G w2->w2.cell? ⟨g.tp t.nm,1,none⟩=some wv∧w2.frozen? ⟨g.tp t.nm,1,none⟩=false∧Goes (vg x g j v q al {t with wt:=wt'} ring rv av GD R) w F (w2.setCell ⟨g.tp t.nm,1,none⟩ GD):=by
 have h2:=aB h (show _=aa (l8 g wv t.wt) (aa (mS g t wv) (aa (dB x j {v with rv:=rv}) (aa (fK g rv ring) (aa (mj g j.c.re q av) (aa (lx g av q.id al) R)))))by unfold vg;ac_rfl);obtain⟨G,H,ha,hb,d,e⟩:=h2;refine⟨G,ha,fun wt' GD w2 hg=> ?_⟩;have g1:=aV hb hg d e;have g2:=g1.eq (show _=aa (blk (g.tp t.nm) (.cells (JI t wv) 92 (0,0))) (aa (l8 g GD wt') (aa (dB x j {v with rv:=rv}) (aa (fK g rv ring) (aa (mj g j.c.re q av) (aa (lx g av q.id al) R)))))by unfold mS;ac_rfl);obtain⟨F2,eX,_⟩:=id g2;obtain⟨cl,fz,_⟩:=bQ eX;refine⟨cl 1,fz 1,(g2.store 1 GD).eq ?_⟩;show aa (mS g {t with wt:=wt'} GD) _=_;unfold vg
 ac_rfl
theorem CD(h:(vg x g j v q al t ring rv av wv R).holds w F): ∃G,(fK g rv ring).holds w G∧ ∀K1 YM w2,Goes (fK g YM K1) w G w2->w2.cell? ⟨x,9,none⟩=some rv∧w2.frozen? ⟨x,9,none⟩=false∧Goes (vg x g j v q al t K1 YM av wv R) w F (w2.setCell ⟨x,9,none⟩ YM):=by
 have h2:=aB h (show _=aa (fK g rv ring) (aa (dB x j {v with rv:=rv}) (aa (mj g j.c.re q av) (aa (lx g av q.id al) (aa (mS g t wv) (aa (l8 g wv t.wt) R)))))by unfold vg;ac_rfl);obtain⟨G,H,ha,hb,d,e⟩:=h2;refine⟨G,ha,fun K1 YM w2 hg=> ?_⟩;have g1:=aV hb hg d e;have g2:=g1.eq (show _=aa (blk x (.cells (zE j {v with rv:=rv}) 88 (0,0))) (aa (fK g YM K1) (aa (mj g j.c.re q av) (aa (lx g av q.id al) (aa (mS g t wv) (aa (l8 g wv t.wt) R)))))by unfold dB;ac_rfl);obtain⟨F2,eX,_⟩:=id g2;obtain⟨cl,fz,_⟩:=bQ eX;refine⟨cl 9,fz 9,(g2.store 9 YM).eq ?_⟩;show aa (dB x j {v with rv:=YM}) _=_;unfold vg
 ac_rfl
end
variable{x:Nat}{g:Gh}{j:Js}{v:Dv}{w:World}{F:Ft}{r:Rr}{t:Tr}
theorem OD{κ:Type} [DecidableEq κ](i:BEq κ) [@LawfulBEq κ i]:(instBEqOfDecidableEq:BEq κ)=i:=by
 cases i with
 |mk f=>
  show(⟨fun a b=>decide (a=b)⟩:BEq κ)=⟨f⟩;congr 1;funext a b;by_cases e:a=b
  ·subst e;have: @BEq.beq κ ⟨f⟩ a a=true:= @beq_self_eq_true κ ⟨f⟩ _ a;have h2:f a a=true:=this;rw[h2];simp
  ·have: ¬(@BEq.beq κ ⟨f⟩ a b=true):=fun h=>e (@eq_of_beq κ ⟨f⟩ _ a b h);have h2: ¬f a b=true:=this;have h3:f a b=false:=by simpa using h2
   rw[h3];simpa using e
theorem Dn(l:List Bs)(a:Bs): @List.erase Bs instBEqOfDecidableEq l a=l.erase a:=by rw[OD (inferInstance:BEq Bs)]
theorem GC(h:(bk x g j v).holds w F)(wf:Wf j)(hr:r∈j.reqs)(ht:t∈j.aW):(∀i∈t.wt,g.rp i=g.rp r.q.id->i=r.q.id)∧(∀i∈t.wt,mn w (g.rp i))∧mn w (g.rp r.q.id):=by obtain⟨h1,h2⟩:=Yo h;refine⟨fun i hi e=>IJ (l:=j.reqs) (p:=g.rp) (k:=fun r:Rr=>r.q.id) h1 (wf.RR t ht i hi) (aA.2 ⟨r,hr,rfl⟩) e,fun i hi=> ?_,h2 r hr⟩;obtain⟨y,hy,e⟩:=aA.1 (wf.RR t ht i hi);rw[<-e];exact h2 y hy
theorem Q9(h:(bk x g j v).holds w F)(wf:Wf j)(ht:t∈j.aW):(∀n∈j.ring,g.tp n=g.tp t.nm->n=t.nm)∧(∀n∈j.ring,mn w (g.tp n))∧mn w (g.tp t.nm):=by obtain⟨h1,h2⟩:=Wj h;refine⟨fun i hi e=>IJ (l:=j.aW) (p:=g.tp) (k:=fun t:Tr=>t.nm) h1 (wf.ring i hi) (aA.2 ⟨t,ht,rfl⟩) e,fun i hi=> ?_,h2 t ht⟩;obtain⟨y,hy,e⟩:=aA.1 (wf.ring i hi);rw[<-e];exact h2 y hy
theorem YL(wf:Wf j)(hr:r∈j.reqs)(ht:t∈j.aW)(f:Tr->Tr)(hf:(f t).nm=t.nm){ring:List Bs}{rv av wv:Value}(h:(vg x g j v r.q r.al (f t) ring rv av wv (jR g j v r t)).holds w F)(V7: ∀n∈ring,n∈j.aW.map (·.nm)):(∀n∈ring,g.tp n=g.tp t.nm->n=t.nm)∧(∀n∈ring,mn w (g.tp n))∧mn w (g.tp t.nm):=by
 have h2:Goes (jA x g {j with ring:=ring,aW:=upd (fun t:Tr=>t.nm) t.nm f j.aW}) w F w:=uj wf hr ht f hf ring rv av wv (Goes.refl h);obtain⟨F',⟨v',h3⟩,_⟩:=h2;obtain⟨h4,h5⟩:=Wj h3;have em:(upd (fun t:Tr=>t.nm) t.nm f j.aW).map (·.nm)=j.aW.map (·.nm):=ib _ (fun y hy ey=>by rw[ck (k:=fun t:Tr=>t.nm) wf.rj hy ht ey,hf]);have KB: ∀n,n∈j.aW.map (·.nm)->n∈(upd (fun t:Tr=>t.nm) t.nm f j.aW).map (fun t=>t.nm):=fun n hn=>by rw[em];exact hn
 have hB: ∀n,n∈j.aW.map (·.nm)->mn w (g.tp n):=fun n hn=>by obtain⟨y,hy,e⟩:=aA.1 (KB n hn);rw[<-e];exact h5 y hy
 have zL:t.nm∈j.aW.map (·.nm):=aA.2 ⟨t,ht,rfl⟩;exact⟨fun n hn e=>IJ (p:=g.tp) (k:=fun t:Tr=>t.nm) h4 (KB n (V7 n hn)) (KB _ zL) e,fun n hn=>hB n (V7 n hn),hB _ zL⟩
theorem tV(x:Nat)(g:Gh)(j:Js)(r:Rr)(t:Tr)(w:World)(F:Ft)(h:(jA x g j).holds w F)(wf:Wf j)(hr:r∈j.reqs)(ht:t∈j.aW)(et:t.nm=r.q.ten):Calls prog 74 #[pt x,pt (g.rp r.q.id)] w fun e w'=>e= .returned (.tuple #[])∧Goes (jA x g (j.left t r.q.id)) w F w':=by
 obtain⟨v,av,wv,ho,u9⟩:=xG h wf hr ht;obtain⟨k1,k2,k3⟩:=GC ho wf hr ht;have c2:w.cell? ⟨g.rp r.q.id,2,none⟩=some (pt (g.tp t.nm)):=by rw[(YK u9).1,et];rfl
 have c1:w.cell? ⟨g.tp t.nm,1,none⟩=some wv:=(M8 u9).1 1;obtain⟨G0,pD,uN⟩:=uk u9;obtain⟨ao,cap,rfl⟩:=aX (Goes.refl pD);have hb1:=wf.b1 t ht;have bN:=wf.b2;have NM:=woR _ t.wt g.rp r.q.id w G0 pD k1 k2 k3 (by omega);obtain⟨f,hf⟩: ∃f:Tr->Tr,f=fun y=>{y with wt:=y.wt.erase r.q.id}:=⟨_,rfl⟩;have Sa:f t={t with wt:=t.wt.erase r.q.id}:=by rw[hf]
 have hlen:(t.wt.erase r.q.id).length<=16777216:=aw (List.length_erase_le ..) (by omega);have Od:Hid (∀dP kn w1,Goes (rowA 124 1 (.slice dP (t.wt.erase r.q.id).length kn) (t.wt.erase r.q.id).length ((t.wt.erase r.q.id).map fun i=>pt (g.rp i))) w G0 w1->
   w1.cell? ⟨g.tp t.nm,1,none⟩=some (.slice ao t.wt.length cap)∧w1.frozen? ⟨g.tp t.nm,1,none⟩=false∧Goes (vg x g j v r.q r.al (f t) j.ring v.rv av (.slice dP (t.wt.erase r.q.id).length kn) (jR g j v r t)) w F (w1.setCell ⟨g.tp t.nm,1,none⟩ (.slice dP (t.wt.erase r.q.id).length kn))):=fun dP kn w1 hg=>by
  rw[Sa];exact uN _ _ w1 hg
 have HS2:Hid (t.wt.erase r.q.id= []-> ∀GD w2,Goes (vg x g j v r.q r.al (f t) j.ring v.rv av GD (jR g j v r t)) w F w2->
   ∃cU b9,v.rv= .slice cU j.ring.length b9∧w2.cell? ⟨x,9,none⟩=some (.slice cU j.ring.length b9)∧
   Calls prog 120 #[.slice cU j.ring.length b9,pt (g.tp t.nm)] w2 fun e w'=> ∃iN n3 eA,e= .returned (.slice iN n3 eA)∧w'.cell? ⟨x,9,none⟩=some (.slice cU j.ring.length b9)∧w'.frozen? ⟨x,9,none⟩=false∧Goes (jA x g (j.left t r.q.id)) w F (w'.setCell ⟨x,9,none⟩ (.slice iN n3 eA))):=fun he GD w2 hg=>by
  obtain⟨F2,eX,o2,n2⟩:=hg;obtain⟨G2,pw,HS⟩:=CD eX;obtain⟨t1,t2,t3⟩:=YL wf hr ht f (by rw[Sa]) eX wf.ring;obtain⟨cU,b9,e2⟩:=aX (Goes.refl pw);have hc9:w2.cell? ⟨x,9,none⟩=some v.rv:=(YJ eX).1 9;refine⟨cU,b9,e2,by rw[hc9,e2], ?_⟩;have hwo:=woT v.rv j.ring g.tp t.nm w2 G2 pw t1 t2 t3 (by omega);rw[e2]at hwo;refine hwo.mono ?_;rintro e w'⟨v',rfl,kQ⟩;rw[Dn]at kQ;obtain⟨iN,eA,rfl⟩:=aX kQ;obtain⟨p1,p2,p3⟩:=HS _ _ w' kQ;refine⟨iN,_,eA,rfl,by rw[p1,e2],p2, ?_⟩;have p4:=uj wf hr ht f (by rw[Sa]) (j.ring.erase t.nm) _ _ _ (aF o2 n2 p3);unfold Js.left;rw[if_pos he];rw[hf]at p4;exact p4
 have HF:Hid (t.wt.erase r.q.id≠ []-> ∀GD w2,Goes (vg x g j v r.q r.al (f t) j.ring v.rv av GD (jR g j v r t)) w F w2->Goes (jA x g (j.left t r.q.id)) w F w2):=fun cC GD w2 hg=>by have p4:=uj wf hr ht f (by rw[Sa]) j.ring _ _ _ hg;unfold Js.left;rw[if_neg cC];rw[hf]at p4;exact p4
 have HC:Hid (∀GD w2,Goes (vg x g j v r.q r.al (f t) j.ring v.rv av GD (jR g j v r t)) w F w2->w2.cell? ⟨g.tp t.nm,1,none⟩=some GD):=fun GD w2 hg=>by
  obtain⟨F2,eX,_⟩:=hg;have:=(M8 eX).1 1;have en:(f t).nm=t.nm:=by rw[Sa]
  rw[en]at this;exact this
 clear h ho u9 k1 k2 k3 pD uN wf hr ht Sa hf;unfold pt at*;generalize g.tp t.nm=tp at*;generalize g.rp r.q.id=rp at*;generalize gS:t.wt.length=nw at*;by_cases he:t.wt.erase r.q.id= []
 ·have HS3:=HS2.out he;have Me:(t.wt.erase r.q.id).length=0:=by rw[he];rfl
  rw[Me]at NM;have Z6:Hid _:=Od.out;rw[Me]at Z6;clear Od HS2 HF hlen;go_enter func74,ntmps74;go_wp2_with (first
   |(go_at_call 119;go_must(refine NM.mono ?_;rintro e w1⟨v',rfl,hg⟩;obtain⟨dP,kn,rfl⟩:=aX hg;obtain⟨d1,d2,d3⟩:=Z6.out dP kn w1 hg;have d4:=HC.out _ _ d3;obtain⟨cU,b9,_,d5,d6⟩:=HS3 _ _ d3;have Zz:=hide d6;clear hg d3 d6))
   |(go_at_call 120;go_must(refine Zz.out.mono ?_;rintro e w2⟨iN,n3,eA,rfl,f1,f2,f3⟩;have HE:=hide f3;clear f3)))
  go_end0;exact⟨rfl,HE.out⟩
 ·have HF':=HF.out he;have Me:((((t.wt.erase r.q.id).length:Nat):Int)==0)=false:=by
   have:(t.wt.erase r.q.id).length≠0:=fun e=>he (List.eq_nil_of_length_eq_zero e);simpa using this
  generalize(t.wt.erase r.q.id).length=ne at*;clear HS2 HF;go_enter func74,ntmps74;go_wp2_with (first
   |(go_at_call 119;go_must(refine NM.mono ?_;rintro e w1⟨v',rfl,hg⟩;obtain⟨dP,kn,rfl⟩:=aX hg;obtain⟨d1,d2,d3⟩:=Od.out dP kn w1 hg;have d4:=HC.out _ _ d3;have HE:=hide (HF' _ _ d3);clear hg d3)))
  go_end0;exact⟨rfl,HE.out⟩
