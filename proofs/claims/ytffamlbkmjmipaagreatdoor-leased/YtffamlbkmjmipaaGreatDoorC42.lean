import Derived.Test.YtffamlbkmjmipaaGreatDoorC41
import Derived.Carry
set_option maxHeartbeats 8000000
set_option maxRecDepth 100000
namespace Go.Proofs.YtffamlbkmjmipaaGreatDoor
open _root_.Go.Proofs.Tryz
namespace Mc
open bJ
theorem Vd{κ:Type} [DecidableEq κ]{N:List κ}(hn:N.Nodup){t0:κ}(ht:t0∈N){f g:κ->Nat}{a:Nat}(hg:g t0=0)(hf: ∀t,f t=if t=t0 then a else g t):(N.map f).sum=a+(N.map g).sum:=by
 induction N with
 |nil=>cases ht
 |cons y N ih=>
  rw[List.nodup_cons]at hn;rw[List.map_cons,List.map_cons,List.sum_cons,List.sum_cons,hf y];by_cases e:y=t0
  ·subst e;rw[if_pos rfl,hg];have:N.map f=N.map g:=bY fun t El=>by
    have:t≠y:=fun e=>hn.1 (e▸El);rw[hf t,if_neg this]
   rw[this];omega
  ·rw[if_neg e];have El:t0∈N:=by
    rcases List.mem_cons.1 ht with h|h
    ·exact absurd h.symm e
    ·exact h
   rw[ih hn.2 El];omega
def B5(r:List Ln)(t:Bs):List Int:=match r.find? (fun l:Ln=>l.ten==t)with|some l=>l.ids|none=> []
theorem Rv{κ:Type}(N:List κ):(N.map fun _=>0).sum=0:=by
 induction N with
 |nil=>rfl
 |cons y N ih=>rw[List.map_cons,List.sum_cons,ih]
theorem Ms(l:Ln)(r:List Ln)(t:Bs):B5 (l::r) t=if t=l.ten then l.ids else B5 r t:=by
 unfold B5;rw[List.find?_cons];by_cases e:t=l.ten
 ·subst e;simp
 ·have:(l.ten==t)=false:=beq_eq_false_iff_ne.2 (fun h=>e h.symm);rw[this,if_neg e]
theorem FJ{N:List Bs}(hn:N.Nodup): ∀{r:List Ln},(r.map (·.ten)).Nodup->(∀l∈r,l.ten∈N)->(N.map fun t=>(B5 r t).length).sum=(r.map (·.ids.length)).sum
 | [],_,_=>Rv N
 |l::r,h1,h2=>by
  rw[List.map_cons,List.nodup_cons]at h1;have ih:=FJ hn h1.2 (fun y hy=>h2 y (bt _ hy));rw[List.map_cons,List.sum_cons,<-ih];refine Vd hn (h2 l (dy ..)) ?_ (fun t=> ?_)
  ·have:r.find? (fun y:Ln=>y.ten==l.ten)=none:=List.find?_eq_none.2 fun y hy e=>h1.1 (aA.2 ⟨y,hy,by simpa using e⟩);unfold B5;rw[this];rfl
  ·rw[Ms];split<;>rfl
theorem Jk{s:St}(hi:Inv s){N:List Bs}(hn:N.Nodup)(hr: ∀l∈s.ring,l.ten∈N):(N.map fun t=>(s.aZ t).length).sum=s.queued:=FJ hn hi.fP hr
end Mc
namespace Pj
open Go.RowKit aM Mc bJ
structure aL(w:World)(tm rr r2 r3:Nat)(m:List (Bs×Nat))(f:Bs->Nat)(now la lp:Value)(seen:List (Bs×Nat))(q:Nat)(wr:World):Prop where
 walk:Walk wU tm rr m seen wr
 sum:q=(seen.map fun y=>f y.1).sum
 abQ:wr.heap[r3]?=some (.cells #[now, .int .i64 q,la,lp] 39 (0,0))
 abP:wr.heap[r2]?=some (.cells #[.int .i64 0, .int .i64 0, .int .i64 0, .int .i64 0] 39 (0,0))
 below:Below w.heap.size w wr
 lts:w.heap.size<=r2∧r2<r3∧r3<rr∧rr<wr.heap.size∧tm<w.heap.size
section
variable{w wr w1:World}{tm rr r2 r3 q:Nat}{m seen:List (Bs×Nat)}{f:Bs->Nat}{now la lp:Value}{y:Bs×Nat}
theorem aL.next(h:aL w tm rr r2 r3 m f now la lp seen q wr)(hw:Walk wU tm rr m (seen++ [y]) w1)(hg:wr.grownBy w1 (some rr))(hs:w1.heap.size=wr.heap.size):Below w.heap.size w w1∧w1.heap[r3]?=some (.cells #[now, .int .i64 q,la,lp] 39 (0,0))∧ ∀nq,aL w tm rr r2 r3 m f now la lp (seen++ [y]) (q+f y.1) ((w1.setCell ⟨r3,1,none⟩ (.int .i64 ((q:Int)+(f y.1:Int)))).drewN nq)∧((w1.setCell ⟨r3,1,none⟩ (.int .i64 ((q:Int)+(f y.1:Int)))).drewN nq).rangeLeft tm rr=w1.rangeLeft tm rr:=by
 have hl:=h.lts;have hz:=h.below.size;have hb:Below w.heap.size w w1:=⟨hg.os.trans h.below.os,hg.tape.trans h.below.tape,hg.output.trans h.below.output,by rw[hs];exact hz,fun k hk=>by rw[hg.block k (by omega) (fun e=>by have:=Option.some.inj e;omega)];exact h.below.block k hk⟩
 have e3:w1.heap[r3]?=_:=(hg.block r3 (by omega) (fun e=>by have:=Option.some.inj e;omega)).trans h.abQ;have e2:w1.heap[r2]?=_:=(hg.block r2 (by omega) (fun e=>by have:=Option.some.inj e;omega)).trans h.abP;refine⟨hb,e3,fun nq=> ?_⟩;have o0:Only (fun b=>b=r3) w1 w1:=Only.refl _ _;have o2:Only (fun b=>b=r3) w1 ((w1.setCell ⟨r3,1,none⟩ (.int .i64 ((q:Int)+(f y.1:Int)))).drewN nq):=(o0.setCell ⟨r3,1,none⟩ _ (fun _=>rfl)).drewN nq;obtain⟨hk,hle⟩:=hw.keep (w':=(w1.setCell ⟨r3,1,none⟩ (.int .i64 ((q:Int)+(f y.1:Int)))).drewN nq) (o2.block tm (by omega) (by omega)) (o2.block rr (by omega) (by omega));refine⟨⟨hk, ?_, ?_,(o2.block r2 (by omega) (by omega)).trans e2, ?_, ?_⟩,hle⟩
 ·rw[aH,List.sum_append,<-h.sum];simp
 ·have:=heap_setCell_same w1 r3 1 _ _ (.int .i64 ((q:Int)+(f y.1:Int))) e3;show(w1.setCell ⟨r3,1,none⟩ (.int .i64 ((q:Int)+(f y.1:Int)))).heap[r3]?=_;rw[this];show some (Obj.cells #[now, .int .i64 ((q:Int)+(f y.1:Int)),la,lp] _ (0,0))=_;rw[<-Int.natCast_add]
 ·exact⟨o2.os.trans hb.os,o2.tape.trans hb.tape,o2.output.trans hb.output,aw hb.size o2.size,fun k hk=>by rw[o2.block k (by have:=hb.size;omega) (by omega)];exact hb.block k hk⟩
 ·have:=o2.size;omega
end
end Pj
namespace Pj
open Go.RowKit aM Mc bJ
attribute [local go_sem] ag ar
theorem Ru{α:Type}{f:α->Nat}{B:Nat}: ∀{l:List α},(∀y∈l,f y<=B)->(l.map f).sum<=l.length*B
 | [],_=>by simp
 |y::l,h=>by rw[List.map_cons,List.sum_cons,List.length_cons,Nat.succ_mul];have h1:=h y (dy ..);have h2:=Ru (l:=l) (fun z hz=>h z (bt _ hz));omega
theorem Qs{base:Nat}(x n:Nat)(s:St)(w:World)(F:Ft)(hg:Mc.Good n s)(hn:n<=1299998)(h:(rB base x s).holds w F):Calls prog 25 #[.pointer (some ⟨x,0,none⟩)] w (Mr.pN s w):=by
 show Calls prog _ _ w fun e w'=>e= .returned (.agg #[.int .i64 s.now, .int .i64 (s.queued:Int), .int .i64 (s.af.length:Int), .int .i64 (s.wait.length:Int)])∧Below w.heap.size w w';have cg:=hg.sz;have SD:Hid (∀w1,Below w.heap.size w w1->Calls prog 39 #[pt x] w1 fun e w'=>e= .returned (.bool true)∧w1=w'):=fun w1 hb=>(tL (aM.keep _ h (fun k hk=>hb.block k (aM.lt _ h k hk)))).mono fun _ _ hh=>⟨hh.1,hh.2.symm⟩;obtain⟨g,j,r1,r2,ho,A6,Ir,oc,NR,hj⟩:=h;have wf:=fI r1 hg.inv (by omega);obtain⟨v,hv⟩:=hj;have D:=yN hv;obtain⟨⟨Gl,xw⟩,_⟩:=Qc hv;obtain⟨ao,cap,LH⟩:=aX (Goes.refl xw);have PW: ∃Gp,(jw v.pv j.pull).holds w Gp:=by obtain⟨Gp,GK,_⟩:=aM.left (aB hv (show _=aa (jw v.pv j.pull) (aa (dB x j v) (aa (kN v.cm j.bT) (aa (jS g v.rm j.reqs) (aa (jk g v.tm j.aW) (aa (all jo j.bT) (aa (all (dO g j.c.re) j.reqs) (aa (all (gA g) j.aW) (aa (fK g v.rv j.ring) (aa (eY g v.lv j.hp) (hpA g j.hp))))))))))by unfold bk;ac_rfl));exact⟨Gp,GK⟩
 obtain⟨Gp,GK⟩:=PW;obtain⟨aop,aaf,epv⟩:=aX (Goes.refl GK);have jI: ∃Gm,(jk g v.tm j.aW).holds w Gm:=by obtain⟨Gm,Ks,_⟩:=aM.left (aB hv (show _=aa (jk g v.tm j.aW) (aa (dB x j v) (aa (kN v.cm j.bT) (aa (jS g v.rm j.reqs) (aa (all jo j.bT) (aa (all (dO g j.c.re) j.reqs) (aa (all (gA g) j.aW) (aa (fK g v.rv j.ring) (aa (jw v.pv j.pull) (aa (eY g v.lv j.hp) (hpA g j.hp))))))))))by unfold bk;ac_rfl));exact⟨Gm,Ks⟩
 obtain⟨Gm,Ks⟩:=jI;have zL:v.tm<w.heap.size:=aM.lt _ Ks v.tm ((Ks.1 v.tm).2 rfl);have ZW:Hid (∀w1,Below w.heap.size w w1->(mapA wU v.tm (j.aW.map fun t=>(t.nm,g.tp t.nm))).holds w1 Gm):=fun w1 hb=>aM.keep _ Ks (fun k hk=>hb.block k (aM.lt _ Ks k hk));have Ae:j.hp.length=s.af.length:=r1.hp.length_eq;have oJ:j.pull.length=s.wait.length:=by rw[r1.pull]
 have mh:=wf.b3;have l9:=wf.b4;have HX:Hid (∀w1,Below w.heap.size w w1->w1.cell? ⟨x,5,none⟩=some (.int .i64 s.now)∧w1.cell? ⟨x,10,none⟩=some (.slice aop s.wait.length aaf)∧w1.cell? ⟨x,11,none⟩=some (.slice ao s.af.length cap)∧w1.cell? ⟨x,8,none⟩=some (.map (some v.tm))):=fun w1 hb=>by
  refine⟨?_, ?_, ?_, ?_⟩
  ·rw[cL hb D.2.2,D.1 5];show some (Value.int .i64 j.now)=_;rw[r1.now]
  ·rw[cL hb D.2.2,D.1 10];show some v.pv=_;rw[epv,oJ]
  ·rw[cL hb D.2.2,D.1 11];show some v.lv=_;rw[LH,Ae]
  ·rw[cL hb D.2.2,D.1 8];rfl
 have HTN:Hid (∀y∈j.aW.map (fun t=>(t.nm,g.tp t.nm)),∀w1,Below w.heap.size w w1-> ∃cU b9,w1.cell? ⟨y.2,1,none⟩=some (.slice cU (s.aZ y.1).length b9)∧(s.aZ y.1).length<=16777210∧y.2<w.heap.size):=fun y hy w1 hb=>by
  obtain⟨t,ht,rfl⟩:=aA.1 hy;obtain⟨q,hq,eq⟩:=r1.zM t ht;have Mn:=St.vD hg.inv hq;have h1: ∃wv G,w.heap[g.tp t.nm]?=some (.cells (JI t wv) 92 (0,0))∧(l8 g wv t.wt).holds w G:=by have h2:=aB hv (show _=aa (all (gA g) j.aW) (aa (dB x j v) (aa (kN v.cm j.bT) (aa (jS g v.rm j.reqs) (aa (jk g v.tm j.aW) (aa (all jo j.bT) (aa (all (dO g j.c.re) j.reqs) (aa (fK g v.rv j.ring) (aa (jw v.pv j.pull) (aa (eY g v.lv j.hp) (hpA g j.hp))))))))))by unfold bk;ac_rfl);rw[my (A:=gA g) (k:=fun t:Tr=>t.nm) wf.rj ht]at h2;obtain⟨G,hG,_⟩:=aM.left (aB h2 (bX _ _ _));obtain⟨wv,N4⟩:=hG;obtain⟨G2,pw,_⟩:=aM.left (aB N4 (cA _ _));exact⟨wv,G2,(dC N4).1,pw⟩
  obtain⟨wv,G,NT,om⟩:=h1;obtain⟨cU,b9,ewv⟩:=aX (Goes.refl om);have ay:g.tp t.nm<w.heap.size:=(cT.1 NT).1;have gS:=wf.b1 t ht;have ewt:=r1.wt t ht;refine⟨cU,b9, ?_,by rw[<-ewt];exact gS,ay⟩;rw[cL hb ay];simp only[World.cell?,NT];show some wv=_;rw[ewv,ewt]
 have HQ:Hid (∀seen:List (Bs×Nat),seen.Perm (j.aW.map fun t=>(t.nm,g.tp t.nm))->(seen.map fun y=>(s.aZ y.1).length).sum=s.queued):=fun seen hp=>by
  have e1:(seen.map fun y=>(s.aZ y.1).length).sum=((j.aW.map fun t=>(t.nm,g.tp t.nm)).map fun y=>(s.aZ y.1).length).sum:=(hp.map _).sum_nat;rw[e1,aG];have e2:j.aW.map ((fun y:Bs×Nat=>(s.aZ y.1).length)∘fun t=>(t.nm,g.tp t.nm))=(j.aW.map (·.nm)).map fun t=>(s.aZ t).length:=by rw[aG];rfl
  rw[e2];refine Jk hg.inv r1.rj (fun l hl=> ?_);exact wf.ring l.ten (by rw[r1.ring];exact aA.2 ⟨l,hl,rfl⟩)
 have jm:s.queued<=16777216:=by
  have h1:=St.dE hg.inv;have h2:(s.ring.flatMap (·.ids)).length=s.queued:=by unfold St.queued;rw[List.length_flatMap]
  unfold St.sz at cg;omega
 have XU:(j.aW.map fun t=>(t.nm,g.tp t.nm)).length<=16777210:=by rw[bf];exact wf.b7
 have HA:Hid (Below w.heap.size w (w.alloc (.cells #[.int .i64 0, .int .i64 0, .int .i64 0, .int .i64 0] 39))∧(w.alloc (.cells #[.int .i64 0, .int .i64 0, .int .i64 0, .int .i64 0] 39)).heap[w.heap.size]?=some (.cells #[.int .i64 0, .int .i64 0, .int .i64 0, .int .i64 0] 39 (0,0))∧(w.alloc (.cells #[.int .i64 0, .int .i64 0, .int .i64 0, .int .i64 0] 39)).heap.size=w.heap.size+1):=⟨(ah _ _).alloc (ae _) _,heap_alloc_new _ _,by simp⟩;clear hv D xw LH GK epv Ks r1 r2 wf oc NR ho A6 Ae oJ hg;unfold pt at SD;generalize hm:(j.aW.map fun t=>(t.nm,g.tp t.nm))=m at*;clear hm;generalize v.tm=tm at*;generalize s.queued=qq at*;generalize s.af.length=na at*;generalize s.wait.length=nw at*;generalize s.now=now at*;go_enter func25,ntmps25;go_wp2_with (first
  |(go_at_call 39;go_must(refine(SD.out _ HA.out.1).mono ?_;rintro e wz⟨rfl,rfl⟩;clear SD)))
 generalize vP:w.alloc (.cells #[.int .i64 0, .int .i64 0, .int .i64 0, .int .i64 0] 39)=w1 at*;obtain⟨x5,x10,x11,x8⟩:=HX.out w1 HA.out.1;have n5:=World.new_ne w1 _ x5;have n10:=World.new_ne w1 _ x10;have n11:=World.new_ne w1 _ x11;have n8:=World.new_ne w1 _ x8;go_region_held3 (fun w'=>w'.cell? ⟨x,5,none⟩=some (.int .i64 now)∧w'.cell? ⟨x,10,none⟩=some (.slice aop nw aaf)∧w'.cell? ⟨x,11,none⟩=some (.slice ao na cap)∧w'.cell? ⟨x,8,none⟩=some (.map (some tm))) (go_keep) (fail);have HW:Hid (Below w.heap.size w (w1.alloc (.cells #[.int .i64 now, .int .i64 0, .int .i64 (na:Int), .int .i64 (nw:Int)] 39)).drew∧(w1.alloc (.cells #[.int .i64 now, .int .i64 0, .int .i64 (na:Int), .int .i64 (nw:Int)] 39)).drew.heap[w1.heap.size]?=some (.cells #[.int .i64 now, .int .i64 0, .int .i64 (na:Int), .int .i64 (nw:Int)] 39 (0,0))∧(w1.alloc (.cells #[.int .i64 now, .int .i64 0, .int .i64 (na:Int), .int .i64 (nw:Int)] 39)).drew.heap[w.heap.size]?=some (.cells #[.int .i64 0, .int .i64 0, .int .i64 0, .int .i64 0] 39 (0,0))∧(w1.alloc (.cells #[.int .i64 now, .int .i64 0, .int .i64 (na:Int), .int .i64 (nw:Int)] 39)).drew.heap.size=w1.heap.size+1):=by obtain⟨b1,z1,s1⟩:=HA.out;refine⟨(b1.alloc b1.size _).drew,heap_alloc_new _ _, ?_,by simp⟩;exact(Below.heap_alloc _ _ _ (by omega)).trans z1
 have iA:=HA.out.2.2;generalize(w1.alloc (.cells #[.int .i64 now, .int .i64 0, .int .i64 (na:Int), .int .i64 (nw:Int)] 39)).drew=W at*;have Iy:Hid (w1.heap.size=w.heap.size+1):=iA;generalize w1.heap.size=r3 at*;have y8:=(HX.out W HW.out.1).2.2.2;have HM:=hide (ZW.out W HW.out.1);have uN:Hid (∀w',Walk wU tm W.heap.size m [] w'->Below W.heap.size W w'->w'.heap.size=W.heap.size+1->aL w tm W.heap.size w.heap.size r3 m (fun t=>(s.aZ t).length) (.int .i64 now) (.int .i64 (na:Int)) (.int .i64 (nw:Int)) [] 0 w'):=fun w' hw hb hz=>by obtain⟨b1,z3,z2,s3⟩:=HW.out;have h3:=Iy.out;refine⟨hw,by simp,(hb.block r3 (by omega)).trans z3,(hb.block w.heap.size (by omega)).trans z2,b1.trans (hb.mono b1.size),by omega,by omega,by omega,by omega,zL⟩
 clear HA HX ZW HW x5 x10 x11 x8 n5 n10 n11 n8 iA vP;go_wp2_with (first
  |(at_range;go_must(refine wG _ rfl _ 83 rfl 89 underlying83 wU tm m rfl HM.out ?_;intro w0 nj iO hs0;have R5:=hide (uN.out w0 nj iO hs0);clear nj iO hs0)))
 go_frame
 clear HM uN y8;generalize W.heap.size=rr at*;go_loopw [] (fun wr=> ∃(seen:List (Bs×Nat)) (q:Nat),Hid (aL w tm rr w.heap.size r3 m (fun t=>(s.aZ t).length) (.int .i64 now) (.int .i64 (na:Int)) (.int .i64 (nw:Int)) seen q wr)) (fun wr=>wr.rangeLeft tm rr)
 case atStart=>exact⟨[],0,R5⟩
 case round=>
  obtain⟨seen,q,HS⟩:=hrel;have WV:=hide HS.out.walk;have adS:q<=281474976710656:=by
   have h1:q<=seen.length*16777210:=by rw[HS.out.sum];exact Ru (f:=fun y:Bs×Nat=>(s.aZ y.1).length) fun y hy=>by obtain⟨_,_,_,hl,_⟩:=HTN.out y (HS.out.walk.2.1 y hy) w (ah _ _);exact hl
   have h2:seen.length<=m.length:=jN (kT HS.out.walk.1) HS.out.walk.2.1;have h3:seen.length*16777210<=16777210*16777210:=Nat.mul_le_mul_right _ (by omega);omega
  have xK:Hid (∀y (kv:Value) w1,y∈m->Walk wU tm rr m (seen++ [y]) w1->w1.rangeLeft tm rr<wr.rangeLeft tm rr->wr.grownBy w1 (some rr)->w1.heap.size=wr.heap.size-> ∃cU b9 ln,w1.cell? ⟨y.2,1,none⟩=some (.slice cU ln b9)∧ln<=16777210∧w1.cell? ⟨r3,1,none⟩=some (.int .i64 q)∧w1.frozen? ⟨r3,1,none⟩=false∧Hid (w1.rangeLeft tm rr<wr.rangeLeft tm rr)∧Hid (∀nq,aL w tm rr w.heap.size r3 m (fun t=>(s.aZ t).length) (.int .i64 now) (.int .i64 (na:Int)) (.int .i64 (nw:Int)) (seen++ [y]) (q+ln) ((w1.setCell ⟨r3,1,none⟩ (.int .i64 ((q:Int)+(ln:Int)))).drewN nq)∧((w1.setCell ⟨r3,1,none⟩ (.int .i64 ((q:Int)+(ln:Int)))).drewN nq).rangeLeft tm rr=w1.rangeLeft tm rr)):=fun y kv w1 Uh hwk ay hgr cg=>by obtain⟨hb1,e3,V4⟩:=HS.out.next hwk hgr cg;obtain⟨cU,b9,c1,hl,_⟩:=HTN.out y Uh w1 hb1;exact⟨cU,b9,_,c1,hl,by simp only[World.cell?,e3];rfl,by simp only[World.frozen?,e3];simp,ay,V4⟩
  go_wp2_with (first
   |(at_next;go_must(refine nY _ rfl _ rfl wU tm rr m seen rfl WV.out ?done ?more)))
  case done=>
   intro fw;have hq:=HQ.out seen fw;have aba:=HS.out.sum;have e3:=HS.out.abQ;have e2:=HS.out.abP;have HB:=hide HS.out.below;have vI:=hide HS.out.lts;have hqq:q=qq:=by rw[aba];exact hq
   subst hqq;have a0:wr.cell? ⟨r3,0,none⟩=some (.int .i64 now):=by simp only[World.cell?,e3];rfl
   have a1:wr.cell? ⟨r3,1,none⟩=some (.int .i64 (q:Int)):=by simp only[World.cell?,e3];rfl
   have a2:wr.cell? ⟨r3,2,none⟩=some (.int .i64 (na:Int)):=by simp only[World.cell?,e3];rfl
   have a3:wr.cell? ⟨r3,3,none⟩=some (.int .i64 (nw:Int)):=by simp only[World.cell?,e3];rfl
   have b0:wr.cell? ⟨w.heap.size,0,none⟩=some (.int .i64 0):=by simp only[World.cell?,e2];rfl
   have f0:wr.frozen? ⟨w.heap.size,0,none⟩=false:=by simp only[World.frozen?,e2];simp
   have b1:wr.cell? ⟨w.heap.size,1,none⟩=some (.int .i64 0):=by simp only[World.cell?,e2];rfl
   have f1:wr.frozen? ⟨w.heap.size,1,none⟩=false:=by simp only[World.frozen?,e2];simp
   have b2:wr.cell? ⟨w.heap.size,2,none⟩=some (.int .i64 0):=by simp only[World.cell?,e2];rfl
   have f2:wr.frozen? ⟨w.heap.size,2,none⟩=false:=by simp only[World.frozen?,e2];simp
   have b3:wr.cell? ⟨w.heap.size,3,none⟩=some (.int .i64 0):=by simp only[World.cell?,e2];rfl
   have f3:wr.frozen? ⟨w.heap.size,3,none⟩=false:=by simp only[World.frozen?,e2];simp
   clear xK WV HS HTN HQ R5 e3 e2 aba hq fw;go_wp2;refine bodyPost_ret (v:= .agg #[.int .i64 now, .int .i64 (q:Int), .int .i64 (na:Int), .int .i64 (nw:Int)]) (by simp[results,results25,go_sem, *]) rfl ⟨rfl, ?_⟩;exact(((HB.out.setCell (ae _) _).setCell (ae _) _).setCell (ae _) _).setCell (ae _) _
  case more=>
   intro ya yb kv w1 Uh hyn hwk ay hgr cg hen;obtain⟨cU,b9,ln,c1,Af,c3,f3,vI,uM⟩:=xK.out (ya,yb) kv w1 Uh hwk ay hgr cg;dsimp only at c1;clear xK WV HS HTN HQ Uh hyn hwk ay hgr cg R5
   (try unfold pt at hen)
   have En:IntKind.i64.wrap ((q:Int)+(ln:Int))=(q:Int)+(ln:Int):=by rw[IntKind.wrap_i64];omega
   go_wp2_with fail;go_region_with (fail)
   all_goals
    have WI:=uM.out 1;clear uM;go_roundw
    case rel=>exact⟨_,_,_,_,_,_,_,_,_,_,_,_,_,_,⟨seen++ [(ya,yb)],q+ln,WI.1⟩,rfl⟩
    case measure=>exact Nat.lt_of_le_of_lt (Nat.le_of_eq WI.2) vI.out
variable{w:World}{base:Nat}
theorem l6(n lo hi:Int)(w:World):Calls prog 92 #[.int .i64 n, .int .i64 lo, .int .i64 hi] w fun e w'=>e= .returned (.bool (decide (lo<=n) &&decide (n<=hi)))∧w'=w:=by
 by_cases h1:lo<=n<;>by_cases h2:n<=hi
 all_goals go_enter func92,ntmps92;go_wp2;go_ret;simp[h1,h2]
theorem Ca(o:uF)(w:World):Calls prog 53 #[Mr.Ds o] w fun e w'=>e= .returned (.bool o.fine)∧ ∃ob,w'=w.alloc ob:=by
 obtain⟨le,re,ca,bo,he⟩:=o;have h1:=fun w=>l6 le 1 20 w;have h2:=fun w=>l6 re 0 5 w;have h3:=fun w=>l6 ca 1 5 w;have h4:=fun w=>l6 bo 1 8 w;have h5:=fun w=>l6 he 0 20 w;have Ah:uF.fine ⟨le,re,ca,bo,he⟩=((((((decide (1<=le) &&decide (le<=20))) &&(decide (0<=re) &&decide (re<=5))) &&(decide (1<=ca) &&decide (ca<=5))) &&(decide (1<=bo) &&decide (bo<=8))) &&(decide (0<=he) &&decide (he<=20))):=rfl;rw[Ah];clear Ah;generalize(decide (1<=le) &&decide (le<=20))=b1 at*;generalize(decide (0<=re) &&decide (re<=5))=b2 at*;generalize(decide (1<=ca) &&decide (ca<=5))=b3 at*;generalize(decide (1<=bo) &&decide (bo<=8))=b4 at*;generalize(decide (0<=he) &&decide (he<=20))=b5 at*;have H1:=hide h1;have H2:=hide h2;have H3:=hide h3;have H4:=hide h4;have H5:=hide h5;clear h1 h2 h3 h4 h5;simp only[Mr.Ds];have M1:True:=trivial;have M2:True:=trivial;have M3:True:=trivial;have M4:True:=trivial;cases b1<;>cases b2<;>cases b3<;>cases b4
 all_goals
  go_enter func53,ntmps53;go_wp2_with (first
   |(go_at_call 92;first
     |(clear M1;go_must(refine(H1.out _).mono ?_;rintro e wz⟨rfl,rfl⟩))
     |(clear M2;go_must(refine(H2.out _).mono ?_;rintro e wz⟨rfl,rfl⟩))
     |(clear M3;go_must(refine(H3.out _).mono ?_;rintro e wz⟨rfl,rfl⟩))
     |(clear M4;go_must(refine(H4.out _).mono ?_;rintro e wz⟨rfl,rfl⟩))
     |(go_must(refine(H5.out _).mono ?_;rintro e wz⟨rfl,rfl⟩))))
  go_ret;exact⟨by simp,_,rfl⟩
def gh0:Gh:=⟨fun _=>0,fun _=>0,fun _=>0,fun _=>0⟩
def js0(o:uF):Js:=⟨o,0,0, [], [], [], [], [], []⟩
theorem ac8(o:uF):Rel gh0 (js0 o) (St.init o):=
 ⟨rfl,rfl,rfl,rfl,rfl,rfl,fun _ h=>(List.not_mem_nil h).elim,List.nodup_nil,fun _ h=>(List.not_mem_nil h).elim,fun _ h=>(List.not_mem_nil h).elim,fun _ h=>(List.not_mem_nil h).elim,fun _ h=>(List.not_mem_nil h).elim,List.Perm.refl _,fun k _ h=>absurd h (Nat.not_lt_zero k),List.Pairwise.nil,fun _ h=>(List.not_mem_nil h).elim,List.nodup_nil,fun _ h=>(List.not_mem_nil h).elim,fun _=>rfl⟩
theorem ok0(o:uF):Ok (St.init o):=⟨fun _ h=>(List.not_mem_nil h).elim,fun _ h=>(List.not_mem_nil h).elim,List.nodup_nil,fun _ h=>(List.not_mem_nil h).elim,fun _ h=>(List.not_mem_nil h).elim⟩
theorem add_nil{A:aM}{F:Ft}(h:A.holds w F)(e:TypeId):(aa A (rowA e 1 (.slice none 0 0) 0 [])).holds w F:=
 ⟨F,fun _=>False,h,dS _ _ _ (fun _ h=>h),fun _ _ h=>h,fun _=>⟨.inl,fun h=>h.elim id False.elim⟩⟩
theorem QE(o:uF){w2:World}(hB:base<=w.heap.size)(h:Goes emp w (fun _=>False) w2):Goes (rB base (w2.heap.size+3) (St.init o)) w (fun _=>False) ((((w2.alloc (.map #[] 0)).alloc (.map #[] 0)).alloc (.map #[] 0)).alloc (.cells #[.int .i64 o.le, .int .i64 o.re, .int .i64 o.ca, .int .i64 o.bo, .int .i64 o.he, .int .i64 0, .map (some w2.heap.size), .map (some (w2.heap.size+1)), .map (some (w2.heap.size+2)), .slice none 0 0, .slice none 0 0, .slice none 0 0, .int .i64 0] 88)):=by
 have g1:=vt kS h;have e1:(w2.alloc (.map #[] 0)).heap.size=w2.heap.size+1:=by simp
 generalize w2.alloc (.map #[] 0)=w3 at*;have g2:=vt kS g1;have e2:(w3.alloc (.map #[] 0)).heap.size=w2.heap.size+2:=by simp;omega
 rw[e1]at g2;generalize w3.alloc (.map #[] 0)=w4 at*;have g3:=vt wU g2;have e3:(w4.alloc (.map #[] 0)).heap.size=w2.heap.size+3:=by simp;omega
 rw[e2]at g3;generalize w4.alloc (.map #[] 0)=w5 at*;have g4:=g3.alloc (.cells #[.int .i64 o.le, .int .i64 o.re, .int .i64 o.ca, .int .i64 o.bo, .int .i64 o.he, .int .i64 0, .map (some w2.heap.size), .map (some (w2.heap.size+1)), .map (some (w2.heap.size+2)), .slice none 0 0, .slice none 0 0, .slice none 0 0, .int .i64 0] 88 (0,0));rw[e3]at g4;obtain⟨F4,th,o4,n4⟩:=g4;refine⟨F4,⟨gh0,js0 o,ac8 o,⟨fun _ h=>(List.not_mem_nil h).elim,fun _ h=>(List.not_mem_nil h).elim⟩,ok0 o,fun _ h=>(List.not_mem_nil h).elim,rfl,fun _=>rfl,fun k hk=> ?_, ?_⟩,o4,n4⟩
 ·rcases n4 k hk with h|h
  ·exact h.elim
  ·exact aw hB h
 ·refine⟨⟨w2.heap.size,w2.heap.size+1,w2.heap.size+2, .slice none 0 0, .slice none 0 0, .slice none 0 0⟩, ?_⟩;have h5:=add_nil (add_nil (add_nil th 89) 3) 127;refine aB h5 ?_;unfold bk;show _=aa (blk (w2.heap.size+3) _) (aa (mapA kS w2.heap.size []) (aa (mapA kS (w2.heap.size+1) []) (aa (mapA wU (w2.heap.size+2) []) (aa emp (aa emp (aa emp (aa (rowA 89 1 (.slice none 0 0) 0 []) (aa (rowA 3 1 (.slice none 0 0) 0 []) (aa (rowA 127 1 (.slice none 0 0) 0 []) emp)))))))));simp only[mO,BJ]
  ac_rfl
theorem UL(o:uF)(w:World)(hB:base<=w.heap.size):Calls prog 35 #[Mr.Ds o] w fun e w'=>(o.fine=false∧e= .returned (.tuple #[.pointer none, .int .i64 1])∧Below w.heap.size w w')∨(o.fine=true∧ ∃x,e= .returned (.tuple #[.pointer (some ⟨x,0,none⟩), .int .i64 0])∧Goes (rB base x (St.init o)) w (fun _=>False) w'):=by
 have HIC:Hid (Calls prog 53 #[Mr.Ds o] (w.alloc (.cells #[.int .i64 o.le, .int .i64 o.re, .int .i64 o.ca, .int .i64 o.bo, .int .i64 o.he] 30)) fun e w2=>e= .returned (.bool o.fine)∧w2.cell? ⟨w.heap.size,0,none⟩=some (.int .i64 o.le)∧w2.cell? ⟨w.heap.size,1,none⟩=some (.int .i64 o.re)∧w2.cell? ⟨w.heap.size,2,none⟩=some (.int .i64 o.ca)∧w2.cell? ⟨w.heap.size,3,none⟩=some (.int .i64 o.bo)∧w2.cell? ⟨w.heap.size,4,none⟩=some (.int .i64 o.he)∧Hid (Below w.heap.size w w2∧Goes emp w (fun _=>False) w2)):=by
  have hz:=heap_alloc_new w (.cells #[.int .i64 o.le, .int .i64 o.re, .int .i64 o.ca, .int .i64 o.bo, .int .i64 o.he] 30);have hs:(w.alloc (.cells #[.int .i64 o.le, .int .i64 o.re, .int .i64 o.ca, .int .i64 o.bo, .int .i64 o.he] 30)).heap.size=w.heap.size+1:=by simp
  have hb:Below w.heap.size w (w.alloc (.cells #[.int .i64 o.le, .int .i64 o.re, .int .i64 o.ca, .int .i64 o.bo, .int .i64 o.he] 30)):=(ah _ _).alloc (ae _) _;have hg:Goes emp w (fun _=>False) w:=Goes.refl (fun _ h=>h);have rF:=hg.dt (.cells #[.int .i64 o.le, .int .i64 o.re, .int .i64 o.ca, .int .i64 o.bo, .int .i64 o.he] 30);generalize w.alloc (.cells #[.int .i64 o.le, .int .i64 o.re, .int .i64 o.ca, .int .i64 o.bo, .int .i64 o.he] 30)=w1 at*;show Calls _ _ _ _ _;refine(Ca o w1).mono ?_;rintro e w2⟨rfl,ob,rfl⟩;have fS:(w1.alloc ob).heap[w.heap.size]?=_:=(Below.heap_alloc w1 ob _ (by omega)).trans hz;exact⟨rfl,by simp only[World.cell?,fS];rfl,by simp only[World.cell?,fS];rfl,by simp only[World.cell?,fS];rfl,by simp only[World.cell?,fS];rfl,by simp only[World.cell?,fS];rfl,hb.alloc hb.size _,rF.dt ob⟩
 have VC:Hid (∀w2,Goes emp w (fun _=>False) w2->_):=fun w2 hg=>QE (base:=base) o hB hg;obtain⟨le,re,ca,bo,he⟩:=o;dsimp only at HIC VC;generalize uJ:uF.fine ⟨le,re,ca,bo,he⟩=fi at*;clear uJ;simp only[Mr.Ds]at HIC⊢;cases fi
 ·clear VC;go_enter func35,ntmps35;go_wp2_with (first
   |(go_at_call 53;go_must(refine HIC.out.mono ?_;rintro e w2⟨rfl,c0,c1,c2,c3,c4,HG⟩)))
  go_ret2
  exact .inl ⟨by first|rfl|trivial,rfl,HG.out.1⟩
 ·have GR:= @run_makeMap prog;go_enter func35,ntmps35;go_wp2_with (first
   |(go_at_call 53;go_must(refine HIC.out.mono ?_;rintro e w2⟨rfl,c0,c1,c2,c3,c4,HG⟩)))
  go_ret2
  exact .inr ⟨by first|rfl|trivial,_,rfl,VC.out _ HG.out.2⟩
