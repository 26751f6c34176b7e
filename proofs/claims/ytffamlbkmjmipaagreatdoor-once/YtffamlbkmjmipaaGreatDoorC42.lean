import Derived.Test.YtffamlbkmjmipaaGreatDoorC41
import Derived.Carry
set_option maxHeartbeats 8000000
set_option maxRecDepth 100000
namespace Go.Proofs.YtffamlbkmjmipaaGreatDoor
open _root_.Go.Proofs.Tryz
namespace Mc
open bG
theorem TQ{κ:Type} [DecidableEq κ]{N:List κ}(hn:N.Nodup){t0:κ}(ht:t0∈N){f g:κ->Nat}{a:Nat}(hg:g t0=0)(hf: ∀t,f t=if t=t0 then a else g t):(N.map f).sum=a+(N.map g).sum:=by
 induction N with
 |nil=>cases ht
 |cons y N ih=>
  rw[List.nodup_cons]at hn;rw[List.map_cons,List.map_cons,List.sum_cons,List.sum_cons,hf y];by_cases e:y=t0
  ·subst e;rw[if_pos rfl,hg];have:N.map f=N.map g:=bz fun t C9=>by
    have:t≠y:=fun e=>hn.1 (e▸C9);rw[hf t,if_neg this]
   rw[this];omega
  ·rw[if_neg e];have C9:t0∈N:=by
    rcases List.mem_cons.1 ht with h|h
    ·exact absurd h.symm e
    ·exact h
   rw[ih hn.2 C9];omega
def Bh(r:List Ln)(t:Bs):List Int:=match r.find? (fun l:Ln=>l.ten==t)with|some l=>l.ids|none=> []
theorem QT{κ:Type}(N:List κ):(N.map fun _=>0).sum=0:=by
 induction N with
 |nil=>rfl
 |cons y N ih=>rw[List.map_cons,List.sum_cons,ih]
theorem Kz(l:Ln)(r:List Ln)(t:Bs):Bh (l::r) t=if t=l.ten then l.ids else Bh r t:=by
 unfold Bh;rw[List.find?_cons];by_cases e:t=l.ten
 ·subst e;simp
 ·have:(l.ten==t)=false:=beq_eq_false_iff_ne.2 (fun h=>e h.symm);rw[this,if_neg e]
theorem D6{N:List Bs}(hn:N.Nodup): ∀{r:List Ln},(r.map (·.ten)).Nodup->(∀l∈r,l.ten∈N)->(N.map fun t=>(Bh r t).length).sum=(r.map (·.ids.length)).sum
 | [],_,_=>QT N
 |l::r,h1,h2=>by
  rw[List.map_cons,List.nodup_cons]at h1;have ih:=D6 hn h1.2 (fun y hy=>h2 y (aV _ hy));rw[List.map_cons,List.sum_cons,<-ih];refine TQ hn (h2 l (bY ..)) ?_ (fun t=> ?_)
  ·have:r.find? (fun y:Ln=>y.ten==l.ten)=none:=List.find?_eq_none.2 fun y hy e=>h1.1 (az.2 ⟨y,hy,by simpa using e⟩);unfold Bh;rw[this];rfl
  ·rw[Kz];split<;>rfl
theorem Hb{s:St}(hi:Inv s){N:List Bs}(hn:N.Nodup)(hr: ∀l∈s.ring,l.ten∈N):(N.map fun t=>(s.aS t).length).sum=s.queued:=D6 hn hi.fu hr
end Mc
namespace Pj
open Go.RowKit aJ Mc bG
structure aG(w:World)(tm rr r2 r3:Nat)(m:List (Bs×Nat))(f:Bs->Nat)(now la lp:Value)(seen:List (Bs×Nat))(q:Nat)(wr:World):Prop where
 walk:Walk tI tm rr m seen wr
 sum:q=(seen.map fun y=>f y.1).sum
 YI:wr.heap[r3]?=some (.cells #[now, .int .i64 q,la,lp] 39 (0,0))
 YH:wr.heap[r2]?=some (.cells #[.int .i64 0, .int .i64 0, .int .i64 0, .int .i64 0] 39 (0,0))
 below:Below w.heap.size w wr
 lts:w.heap.size<=r2∧r2<r3∧r3<rr∧rr<wr.heap.size∧tm<w.heap.size
section
variable{w wr w1:World}{tm rr r2 r3 q:Nat}{m seen:List (Bs×Nat)}{f:Bs->Nat}{now la lp:Value}{y:Bs×Nat}
theorem aG.next(h:aG w tm rr r2 r3 m f now la lp seen q wr)(hw:Walk tI tm rr m (seen++ [y]) w1)(hg:wr.grownBy w1 (some rr))(hs:w1.heap.size=wr.heap.size):Below w.heap.size w w1∧w1.heap[r3]?=some (.cells #[now, .int .i64 q,la,lp] 39 (0,0))∧ ∀nq,aG w tm rr r2 r3 m f now la lp (seen++ [y]) (q+f y.1) ((w1.setCell ⟨r3,1,none⟩ (.int .i64 ((q:Int)+(f y.1:Int)))).drewN nq)∧((w1.setCell ⟨r3,1,none⟩ (.int .i64 ((q:Int)+(f y.1:Int)))).drewN nq).rangeLeft tm rr=w1.rangeLeft tm rr:=by
 have hl:=h.lts;have hz:=h.below.size;have hb:Below w.heap.size w w1:=⟨hg.os.trans h.below.os,hg.tape.trans h.below.tape,hg.output.trans h.below.output,by rw[hs];exact hz,fun k hk=>by rw[hg.block k (by omega) (fun e=>by have:=Option.some.inj e;omega)];exact h.below.block k hk⟩
 have e3:w1.heap[r3]?=_:=(hg.block r3 (by omega) (fun e=>by have:=Option.some.inj e;omega)).trans h.YI;have e2:w1.heap[r2]?=_:=(hg.block r2 (by omega) (fun e=>by have:=Option.some.inj e;omega)).trans h.YH;refine⟨hb,e3,fun nq=> ?_⟩;have o0:Only (fun b=>b=r3) w1 w1:=Only.refl _ _;have o2:Only (fun b=>b=r3) w1 ((w1.setCell ⟨r3,1,none⟩ (.int .i64 ((q:Int)+(f y.1:Int)))).drewN nq):=(o0.setCell ⟨r3,1,none⟩ _ (fun _=>rfl)).drewN nq;obtain⟨hk,hle⟩:=hw.keep (w':=(w1.setCell ⟨r3,1,none⟩ (.int .i64 ((q:Int)+(f y.1:Int)))).drewN nq) (o2.block tm (by omega) (by omega)) (o2.block rr (by omega) (by omega));refine⟨⟨hk, ?_, ?_,(o2.block r2 (by omega) (by omega)).trans e2, ?_, ?_⟩,hle⟩
 ·rw[aD,List.sum_append,<-h.sum];simp
 ·have:=heap_setCell_same w1 r3 1 _ _ (.int .i64 ((q:Int)+(f y.1:Int))) e3;show(w1.setCell ⟨r3,1,none⟩ (.int .i64 ((q:Int)+(f y.1:Int)))).heap[r3]?=_;rw[this];show some (Obj.cells #[now, .int .i64 ((q:Int)+(f y.1:Int)),la,lp] _ (0,0))=_;rw[<-Int.natCast_add]
 ·exact⟨o2.os.trans hb.os,o2.tape.trans hb.tape,o2.output.trans hb.output,ar hb.size o2.size,fun k hk=>by rw[o2.block k (by have:=hb.size;omega) (by omega)];exact hb.block k hk⟩
 ·have:=o2.size;omega
end
end Pj
namespace Pj
open Go.RowKit aJ Mc bG
attribute [local go_sem] ae ag
theorem QS{α:Type}{f:α->Nat}{B:Nat}: ∀{l:List α},(∀y∈l,f y<=B)->(l.map f).sum<=l.length*B
 | [],_=>by simp
 |y::l,h=>by rw[List.map_cons,List.sum_cons,List.length_cons,Nat.succ_mul];have h1:=h y (bY ..);have h2:=QS (l:=l) (fun z hz=>h z (aV _ hz));omega
theorem P3{base:Nat}(x n:Nat)(s:St)(w:World)(F:Ft)(hg:Mc.Good n s)(hn:n<=1299998)(h:(og base x s).holds w F):Calls prog 25 #[.pointer (some ⟨x,0,none⟩)] w (Mr.Cc s w):=by
 show Calls prog _ _ w fun e w'=>e= .returned (.agg #[.int .i64 s.now, .int .i64 (s.queued:Int), .int .i64 (s.ah.length:Int), .int .i64 (s.wait.length:Int)])∧Below w.heap.size w w';have dc:=hg.sz;have RF:Hid (∀w1,Below w.heap.size w w1->Calls prog 39 #[pt x] w1 fun e w'=>e= .returned (.bool true)∧w1=w'):=fun w1 hb=>(rk (aJ.keep _ h (fun k hk=>hb.block k (aJ.lt _ h k hk)))).mono fun _ _ hh=>⟨hh.1,hh.2.symm⟩;obtain⟨g,j,r1,r2,ho,zZ,Gz,lD,YY,hj⟩:=h;have wf:=dJ r1 hg.inv (by omega);obtain⟨v,hv⟩:=hj;have D:=wJ hv;obtain⟨⟨Gl,vu⟩,_⟩:=Ob hv;obtain⟨ao,cap,JO⟩:=aR (Goes.refl vu);have NV: ∃Gp,(gN v.pv j.pull).holds w Gp:=by obtain⟨Gp,J4,_⟩:=aJ.left (aA hv (show _=aa (gN v.pv j.pull) (aa (dB x j v) (aa (iU v.cm j.bu) (aa (ib g v.rm j.reqs) (aa (gK g v.tm j.aQ) (aa (all gM j.bu) (aa (all (fc g j.c.re) j.reqs) (aa (all (fD g) j.aQ) (aa (dL g v.rv j.ring) (aa (dh g v.lv j.hp) (hpA g j.hp))))))))))by unfold aW;ac_rfl));exact⟨Gp,J4⟩
 obtain⟨Gp,J4⟩:=NV;obtain⟨aop,YL,epv⟩:=aR (Goes.refl J4);have jq: ∃Gm,(gK g v.tm j.aQ).holds w Gm:=by obtain⟨Gm,II,_⟩:=aJ.left (aA hv (show _=aa (gK g v.tm j.aQ) (aa (dB x j v) (aa (iU v.cm j.bu) (aa (ib g v.rm j.reqs) (aa (all gM j.bu) (aa (all (fc g j.c.re) j.reqs) (aa (all (fD g) j.aQ) (aa (dL g v.rv j.ring) (aa (gN v.pv j.pull) (aa (dh g v.lv j.hp) (hpA g j.hp))))))))))by unfold aW;ac_rfl));exact⟨Gm,II⟩
 obtain⟨Gm,II⟩:=jq;have za:v.tm<w.heap.size:=aJ.lt _ II v.tm ((II.1 v.tm).2 rfl);have X9:Hid (∀w1,Below w.heap.size w w1->(mapA tI v.tm (j.aQ.map fun t=>(t.nm,g.tp t.nm))).holds w1 Gm):=fun w1 hb=>aJ.keep _ II (fun k hk=>hb.block k (aJ.lt _ II k hk));have A9:j.hp.length=s.ah.length:=r1.hp.length_eq;have Xw:j.pull.length=s.wait.length:=by rw[r1.pull]
 have uX:=wf.b3;have yZ:=wf.b4;have HX:Hid (∀w1,Below w.heap.size w w1->w1.cell? ⟨x,5,none⟩=some (.int .i64 s.now)∧w1.cell? ⟨x,10,none⟩=some (.slice aop s.wait.length YL)∧w1.cell? ⟨x,11,none⟩=some (.slice ao s.ah.length cap)∧w1.cell? ⟨x,8,none⟩=some (.map (some v.tm))):=fun w1 hb=>by
  refine⟨?_, ?_, ?_, ?_⟩
  ·rw[bN hb D.2.2,D.1 5];show some (Value.int .i64 j.now)=_;rw[r1.now]
  ·rw[bN hb D.2.2,D.1 10];show some v.pv=_;rw[epv,Xw]
  ·rw[bN hb D.2.2,D.1 11];show some v.lv=_;rw[JO,A9]
  ·rw[bN hb D.2.2,D.1 8];rfl
 have HTN:Hid (∀y∈j.aQ.map (fun t=>(t.nm,g.tp t.nm)),∀w1,Below w.heap.size w w1-> ∃dK cQ,w1.cell? ⟨y.2,1,none⟩=some (.slice dK (s.aS y.1).length cQ)∧(s.aS y.1).length<=16777210∧y.2<w.heap.size):=fun y hy w1 hb=>by
  obtain⟨t,ht,rfl⟩:=az.1 hy;obtain⟨q,hq,eq⟩:=r1.zf t ht;have Rp:=St.tQ hg.inv hq;have h1: ∃wv G,w.heap[g.tp t.nm]?=some (.cells (Hw t wv) 92 (0,0))∧(jH g wv t.wt).holds w G:=by have h2:=aA hv (show _=aa (all (fD g) j.aQ) (aa (dB x j v) (aa (iU v.cm j.bu) (aa (ib g v.rm j.reqs) (aa (gK g v.tm j.aQ) (aa (all gM j.bu) (aa (all (fc g j.c.re) j.reqs) (aa (dL g v.rv j.ring) (aa (gN v.pv j.pull) (aa (dh g v.lv j.hp) (hpA g j.hp))))))))))by unfold aW;ac_rfl);rw[ki (A:=fD g) (k:=fun t:Tr=>t.nm) wf.nX ht]at h2;obtain⟨G,hG,_⟩:=aJ.left (aA h2 (bA _ _ _));obtain⟨wv,hwv⟩:=hG;obtain⟨G2,BP,_⟩:=aJ.left (aA hwv (bq _ _));exact⟨wv,G2,(cK hwv).1,BP⟩
  obtain⟨wv,G,VK,zb⟩:=h1;obtain⟨dK,cQ,ewv⟩:=aR (Goes.refl zb);have aN:g.tp t.nm<w.heap.size:=(cC.1 VK).1;have iA:=wf.b1 t ht;have ewt:=r1.wt t ht;refine⟨dK,cQ, ?_,by rw[<-ewt];exact iA,aN⟩;rw[bN hb aN];simp only[World.cell?,VK];show some wv=_;rw[ewv,ewt]
 have HQ:Hid (∀seen:List (Bs×Nat),seen.Perm (j.aQ.map fun t=>(t.nm,g.tp t.nm))->(seen.map fun y=>(s.aS y.1).length).sum=s.queued):=fun seen hp=>by
  have e1:(seen.map fun y=>(s.aS y.1).length).sum=((j.aQ.map fun t=>(t.nm,g.tp t.nm)).map fun y=>(s.aS y.1).length).sum:=(hp.map _).sum_nat;rw[e1,aB];have e2:j.aQ.map ((fun y:Bs×Nat=>(s.aS y.1).length)∘fun t=>(t.nm,g.tp t.nm))=(j.aQ.map (·.nm)).map fun t=>(s.aS t).length:=by rw[aB];rfl
  rw[e2];refine Hb hg.inv r1.nX (fun l hl=> ?_);exact wf.ring l.ten (by rw[r1.ring];exact az.2 ⟨l,hl,rfl⟩)
 have gL:s.queued<=16777216:=by
  have h1:=St.rD hg.inv;have h2:(s.ring.flatMap (·.ids)).length=s.queued:=by unfold St.queued;rw[List.length_flatMap]
  unfold St.sz at dc;omega
 have IV:(j.aQ.map fun t=>(t.nm,g.tp t.nm)).length<=16777210:=by rw[aF];exact wf.b7
 have HA:Hid (Below w.heap.size w (w.alloc (.cells #[.int .i64 0, .int .i64 0, .int .i64 0, .int .i64 0] 39))∧(w.alloc (.cells #[.int .i64 0, .int .i64 0, .int .i64 0, .int .i64 0] 39)).heap[w.heap.size]?=some (.cells #[.int .i64 0, .int .i64 0, .int .i64 0, .int .i64 0] 39 (0,0))∧(w.alloc (.cells #[.int .i64 0, .int .i64 0, .int .i64 0, .int .i64 0] 39)).heap.size=w.heap.size+1):=⟨(au _ _).alloc (af _) _,heap_alloc_new _ _,by simp⟩;clear hv D vu JO J4 epv II r1 r2 wf lD YY ho zZ A9 Xw hg;unfold pt at RF;generalize hm:(j.aQ.map fun t=>(t.nm,g.tp t.nm))=m at*;clear hm;generalize v.tm=tm at*;generalize s.queued=qq at*;generalize s.ah.length=na at*;generalize s.wait.length=nw at*;generalize s.now=now at*;go_enter func25,ntmps25;go_wp2_with (first
  |(go_at_call 39;go_must(refine(RF.out _ HA.out.1).mono ?_;rintro e wz⟨rfl,rfl⟩;clear RF)))
 generalize um:w.alloc (.cells #[.int .i64 0, .int .i64 0, .int .i64 0, .int .i64 0] 39)=w1 at*;obtain⟨x5,x10,x11,x8⟩:=HX.out w1 HA.out.1;have n5:=World.new_ne w1 _ x5;have n10:=World.new_ne w1 _ x10;have n11:=World.new_ne w1 _ x11;have n8:=World.new_ne w1 _ x8;go_region_held3 (fun w'=>w'.cell? ⟨x,5,none⟩=some (.int .i64 now)∧w'.cell? ⟨x,10,none⟩=some (.slice aop nw YL)∧w'.cell? ⟨x,11,none⟩=some (.slice ao na cap)∧w'.cell? ⟨x,8,none⟩=some (.map (some tm))) (go_keep) (fail);have HW:Hid (Below w.heap.size w (w1.alloc (.cells #[.int .i64 now, .int .i64 0, .int .i64 (na:Int), .int .i64 (nw:Int)] 39)).drew∧(w1.alloc (.cells #[.int .i64 now, .int .i64 0, .int .i64 (na:Int), .int .i64 (nw:Int)] 39)).drew.heap[w1.heap.size]?=some (.cells #[.int .i64 now, .int .i64 0, .int .i64 (na:Int), .int .i64 (nw:Int)] 39 (0,0))∧(w1.alloc (.cells #[.int .i64 now, .int .i64 0, .int .i64 (na:Int), .int .i64 (nw:Int)] 39)).drew.heap[w.heap.size]?=some (.cells #[.int .i64 0, .int .i64 0, .int .i64 0, .int .i64 0] 39 (0,0))∧(w1.alloc (.cells #[.int .i64 now, .int .i64 0, .int .i64 (na:Int), .int .i64 (nw:Int)] 39)).drew.heap.size=w1.heap.size+1):=by obtain⟨b1,z1,s1⟩:=HA.out;refine⟨(b1.alloc b1.size _).drew,heap_alloc_new _ _, ?_,by simp⟩;exact(Below.heap_alloc _ _ _ (by omega)).trans z1
 have jJ:=HA.out.2.2;generalize(w1.alloc (.cells #[.int .i64 now, .int .i64 0, .int .i64 (na:Int), .int .i64 (nw:Int)] 39)).drew=W at*;have SQ:Hid (w1.heap.size=w.heap.size+1):=jJ;generalize w1.heap.size=r3 at*;have y8:=(HX.out W HW.out.1).2.2.2;have HM:=hide (X9.out W HW.out.1);have yV:Hid (∀w',Walk tI tm W.heap.size m [] w'->Below W.heap.size W w'->w'.heap.size=W.heap.size+1->aG w tm W.heap.size w.heap.size r3 m (fun t=>(s.aS t).length) (.int .i64 now) (.int .i64 (na:Int)) (.int .i64 (nw:Int)) [] 0 w'):=fun w' hw hb hz=>by obtain⟨b1,z3,z2,s3⟩:=HW.out;have h3:=SQ.out;refine⟨hw,by simp,(hb.block r3 (by omega)).trans z3,(hb.block w.heap.size (by omega)).trans z2,b1.trans (hb.mono b1.size),by omega,by omega,by omega,by omega,za⟩
 clear HA HX X9 HW x5 x10 x11 x8 n5 n10 n11 n8 jJ um;go_wp2_with (first
  |(at_range;go_must(refine uT _ rfl _ 83 rfl 89 underlying83 tI tm m rfl HM.out ?_;intro w0 ZN vv ZH;have Vc:=hide (yV.out w0 ZN vv ZH);clear ZN vv ZH)))
 go_frame
 clear HM yV y8;generalize W.heap.size=rr at*;go_loopw [] (fun wr=> ∃(seen:List (Bs×Nat)) (q:Nat),Hid (aG w tm rr w.heap.size r3 m (fun t=>(s.aS t).length) (.int .i64 now) (.int .i64 (na:Int)) (.int .i64 (nw:Int)) seen q wr)) (fun wr=>wr.rangeLeft tm rr)
 case atStart=>exact⟨[],0,Vc⟩
 case round=>
  obtain⟨seen,q,HS⟩:=hrel;have Ve:=hide HS.out.walk;have abL:q<=281474976710656:=by
   have h1:q<=seen.length*16777210:=by rw[HS.out.sum];exact QS (f:=fun y:Bs×Nat=>(s.aS y.1).length) fun y hy=>by obtain⟨_,_,_,hl,_⟩:=HTN.out y (HS.out.walk.2.1 y hy) w (au _ _);exact hl
   have h2:seen.length<=m.length:=gY (iX HS.out.walk.1) HS.out.walk.2.1;have h3:seen.length*16777210<=16777210*16777210:=Nat.mul_le_mul_right _ (by omega);omega
  have vH:Hid (∀y (kv:Value) w1,y∈m->Walk tI tm rr m (seen++ [y]) w1->w1.rangeLeft tm rr<wr.rangeLeft tm rr->wr.grownBy w1 (some rr)->w1.heap.size=wr.heap.size-> ∃dK cQ ln,w1.cell? ⟨y.2,1,none⟩=some (.slice dK ln cQ)∧ln<=16777210∧w1.cell? ⟨r3,1,none⟩=some (.int .i64 q)∧w1.frozen? ⟨r3,1,none⟩=false∧Hid (w1.rangeLeft tm rr<wr.rangeLeft tm rr)∧Hid (∀nq,aG w tm rr w.heap.size r3 m (fun t=>(s.aS t).length) (.int .i64 now) (.int .i64 (na:Int)) (.int .i64 (nw:Int)) (seen++ [y]) (q+ln) ((w1.setCell ⟨r3,1,none⟩ (.int .i64 ((q:Int)+(ln:Int)))).drewN nq)∧((w1.setCell ⟨r3,1,none⟩ (.int .i64 ((q:Int)+(ln:Int)))).drewN nq).rangeLeft tm rr=w1.rangeLeft tm rr)):=fun y kv w1 SS hwk aN hgr dc=>by obtain⟨bT,e3,UE⟩:=HS.out.next hwk hgr dc;obtain⟨dK,cQ,c1,hl,_⟩:=HTN.out y SS w1 bT;exact⟨dK,cQ,_,c1,hl,by simp only[World.cell?,e3];rfl,by simp only[World.frozen?,e3];simp,aN,UE⟩
  go_wp2_with (first
   |(at_next;go_must(refine lB _ rfl _ rfl tI tm rr m seen rfl Ve.out ?done ?more)))
  case done=>
   intro dy;have hq:=HQ.out seen dy;have ZL:=HS.out.sum;have e3:=HS.out.YI;have e2:=HS.out.YH;have HB:=hide HS.out.below;have AB:=hide HS.out.lts;have hqq:q=qq:=by rw[ZL];exact hq
   subst hqq;have a0:wr.cell? ⟨r3,0,none⟩=some (.int .i64 now):=by simp only[World.cell?,e3];rfl
   have a1:wr.cell? ⟨r3,1,none⟩=some (.int .i64 (q:Int)):=by simp only[World.cell?,e3];rfl
   have a2:wr.cell? ⟨r3,2,none⟩=some (.int .i64 (na:Int)):=by simp only[World.cell?,e3];rfl
   have a3:wr.cell? ⟨r3,3,none⟩=some (.int .i64 (nw:Int)):=by simp only[World.cell?,e3];rfl
   have b0:wr.cell? ⟨w.heap.size,0,none⟩=some (.int .i64 0):=by simp only[World.cell?,e2];rfl
   have f0:wr.frozen? ⟨w.heap.size,0,none⟩=false:=by simp only[World.frozen?,e2];simp
   have b1:wr.cell? ⟨w.heap.size,1,none⟩=some (.int .i64 0):=by simp only[World.cell?,e2];rfl
   have f1:wr.frozen? ⟨w.heap.size,1,none⟩=false:=by simp only[World.frozen?,e2];simp
   have b2:wr.cell? ⟨w.heap.size,2,none⟩=some (.int .i64 0):=by simp only[World.cell?,e2];rfl
   have f2:wr.frozen? ⟨w.heap.size,2,none⟩=false:=by simp only[World.frozen?,e2];simp
   have b3:wr.cell? ⟨w.heap.size,3,none⟩=some (.int .i64 0):=by simp only[World.cell?,e2];rfl
   have f3:wr.frozen? ⟨w.heap.size,3,none⟩=false:=by simp only[World.frozen?,e2];simp
   clear vH Ve HS HTN HQ Vc e3 e2 ZL hq dy;go_wp2;refine bodyPost_ret (v:= .agg #[.int .i64 now, .int .i64 (q:Int), .int .i64 (na:Int), .int .i64 (nw:Int)]) (by simp[results,results25,go_sem, *]) rfl ⟨rfl, ?_⟩;exact(((HB.out.setCell (af _) _).setCell (af _) _).setCell (af _) _).setCell (af _) _
  case more=>
   intro ya yb kv w1 SS hyn hwk aN hgr dc SJ;obtain⟨dK,cQ,ln,c1,BV,c3,f3,AB,EP⟩:=vH.out (ya,yb) kv w1 SS hwk aN hgr dc;dsimp only at c1;clear vH Ve HS HTN HQ SS hyn hwk aN hgr dc Vc
   (try unfold pt at SJ)
   have Db:IntKind.i64.wrap ((q:Int)+(ln:Int))=(q:Int)+(ln:Int):=by rw[IntKind.wrap_i64];omega
   go_wp2_with fail;go_region_with (fail)
   all_goals
    have Uf:=EP.out 1;clear EP;go_roundw
    case rel=>exact⟨_,_,_,_,_,_,_,_,_,_,_,_,_,_,⟨seen++ [(ya,yb)],q+ln,Uf.1⟩,rfl⟩
    case measure=>exact Nat.lt_of_le_of_lt (Nat.le_of_eq Uf.2) AB.out
variable{w:World}{base:Nat}
theorem jF(n lo hi:Int)(w:World):Calls prog 92 #[.int .i64 n, .int .i64 lo, .int .i64 hi] w fun e w'=>e= .returned (.bool (decide (lo<=n) &&decide (n<=hi)))∧w'=w:=by
 by_cases h1:lo<=n<;>by_cases h2:n<=hi
 all_goals go_enter func92,ntmps92;go_wp2;go_ret;simp[h1,h2]
theorem Bl(o:pz)(w:World):Calls prog 53 #[Mr.AU o] w fun e w'=>e= .returned (.bool o.fine)∧ ∃ob,w'=w.alloc ob:=by
 obtain⟨le,re,ca,bo,he⟩:=o;have h1:=fun w=>jF le 1 20 w;have h2:=fun w=>jF re 0 5 w;have h3:=fun w=>jF ca 1 5 w;have h4:=fun w=>jF bo 1 8 w;have h5:=fun w=>jF he 0 20 w;have BZ:pz.fine ⟨le,re,ca,bo,he⟩=((((((decide (1<=le) &&decide (le<=20))) &&(decide (0<=re) &&decide (re<=5))) &&(decide (1<=ca) &&decide (ca<=5))) &&(decide (1<=bo) &&decide (bo<=8))) &&(decide (0<=he) &&decide (he<=20))):=rfl;rw[BZ];clear BZ;generalize(decide (1<=le) &&decide (le<=20))=b1 at*;generalize(decide (0<=re) &&decide (re<=5))=b2 at*;generalize(decide (1<=ca) &&decide (ca<=5))=b3 at*;generalize(decide (1<=bo) &&decide (bo<=8))=b4 at*;generalize(decide (0<=he) &&decide (he<=20))=b5 at*;have H1:=hide h1;have H2:=hide h2;have H3:=hide h3;have H4:=hide h4;have H5:=hide h5;clear h1 h2 h3 h4 h5;simp only[Mr.AU];have M1:True:=trivial;have M2:True:=trivial;have M3:True:=trivial;have M4:True:=trivial;cases b1<;>cases b2<;>cases b3<;>cases b4
 all_goals
  go_enter func53,ntmps53;go_wp2_with (first
   |(go_at_call 92;first
     |(clear M1;go_must(refine(H1.out _).mono ?_;rintro e wz⟨rfl,rfl⟩))
     |(clear M2;go_must(refine(H2.out _).mono ?_;rintro e wz⟨rfl,rfl⟩))
     |(clear M3;go_must(refine(H3.out _).mono ?_;rintro e wz⟨rfl,rfl⟩))
     |(clear M4;go_must(refine(H4.out _).mono ?_;rintro e wz⟨rfl,rfl⟩))
     |(go_must(refine(H5.out _).mono ?_;rintro e wz⟨rfl,rfl⟩))))
  go_ret;exact⟨by simp,_,rfl⟩
def gh0:Gh:=⟨fun _=>0,fun _=>0,fun _=>0,fun _=>0⟩
def js0(o:pz):Js:=⟨o,0,0, [], [], [], [], [], []⟩
theorem abk(o:pz):Rel gh0 (js0 o) (St.init o):=
 ⟨rfl,rfl,rfl,rfl,rfl,rfl,fun _ h=>(List.not_mem_nil h).elim,List.nodup_nil,fun _ h=>(List.not_mem_nil h).elim,fun _ h=>(List.not_mem_nil h).elim,fun _ h=>(List.not_mem_nil h).elim,fun _ h=>(List.not_mem_nil h).elim,List.Perm.refl _,fun k _ h=>absurd h (Nat.not_lt_zero k),List.Pairwise.nil,fun _ h=>(List.not_mem_nil h).elim,List.nodup_nil,fun _ h=>(List.not_mem_nil h).elim,fun _=>rfl⟩
theorem ok0(o:pz):Ok (St.init o):=⟨fun _ h=>(List.not_mem_nil h).elim,fun _ h=>(List.not_mem_nil h).elim,List.nodup_nil,fun _ h=>(List.not_mem_nil h).elim,fun _ h=>(List.not_mem_nil h).elim⟩
theorem add_nil{A:aJ}{F:Ft}(h:A.holds w F)(e:TypeId):(aa A (rowA e 1 (.slice none 0 0) 0 [])).holds w F:=
 ⟨F,fun _=>False,h,fO _ _ _ (fun _ h=>h),fun _ _ h=>h,fun _=>⟨.inl,fun h=>h.elim id False.elim⟩⟩
theorem Qc(o:pz){w2:World}(hB:base<=w.heap.size)(h:Goes emp w (fun _=>False) w2):Goes (og base (w2.heap.size+3) (St.init o)) w (fun _=>False) ((((w2.alloc (.map #[] 0)).alloc (.map #[] 0)).alloc (.map #[] 0)).alloc (.cells #[.int .i64 o.le, .int .i64 o.re, .int .i64 o.ca, .int .i64 o.bo, .int .i64 o.he, .int .i64 0, .map (some w2.heap.size), .map (some (w2.heap.size+1)), .map (some (w2.heap.size+2)), .slice none 0 0, .slice none 0 0, .slice none 0 0, .int .i64 0] 88)):=by
 have g1:=tL iW h;have e1:(w2.alloc (.map #[] 0)).heap.size=w2.heap.size+1:=by simp
 generalize w2.alloc (.map #[] 0)=w3 at*;have g2:=tL iW g1;have e2:(w3.alloc (.map #[] 0)).heap.size=w2.heap.size+2:=by simp;omega
 rw[e1]at g2;generalize w3.alloc (.map #[] 0)=w4 at*;have g3:=tL tI g2;have e3:(w4.alloc (.map #[] 0)).heap.size=w2.heap.size+3:=by simp;omega
 rw[e2]at g3;generalize w4.alloc (.map #[] 0)=w5 at*;have g4:=g3.alloc (.cells #[.int .i64 o.le, .int .i64 o.re, .int .i64 o.ca, .int .i64 o.bo, .int .i64 o.he, .int .i64 0, .map (some w2.heap.size), .map (some (w2.heap.size+1)), .map (some (w2.heap.size+2)), .slice none 0 0, .slice none 0 0, .slice none 0 0, .int .i64 0] 88 (0,0));rw[e3]at g4;obtain⟨F4,zq,o4,n4⟩:=g4;refine⟨F4,⟨gh0,js0 o,abk o,⟨fun _ h=>(List.not_mem_nil h).elim,fun _ h=>(List.not_mem_nil h).elim⟩,ok0 o,fun _ h=>(List.not_mem_nil h).elim,rfl,fun _=>rfl,fun k hk=> ?_, ?_⟩,o4,n4⟩
 ·rcases n4 k hk with h|h
  ·exact h.elim
  ·exact ar hB h
 ·refine⟨⟨w2.heap.size,w2.heap.size+1,w2.heap.size+2, .slice none 0 0, .slice none 0 0, .slice none 0 0⟩, ?_⟩;have h5:=add_nil (add_nil (add_nil zq 89) 3) 127;refine aA h5 ?_;unfold aW;show _=aa (blk (w2.heap.size+3) _) (aa (mapA iW w2.heap.size []) (aa (mapA iW (w2.heap.size+1) []) (aa (mapA tI (w2.heap.size+2) []) (aa emp (aa emp (aa emp (aa (rowA 89 1 (.slice none 0 0) 0 []) (aa (rowA 3 1 (.slice none 0 0) 0 []) (aa (rowA 127 1 (.slice none 0 0) 0 []) emp)))))))));simp only[se,nx]
  ac_rfl
theorem Tp(o:pz)(w:World)(hB:base<=w.heap.size):Calls prog 35 #[Mr.AU o] w fun e w'=>(o.fine=false∧e= .returned (.tuple #[.pointer none, .int .i64 1])∧Below w.heap.size w w')∨(o.fine=true∧ ∃x,e= .returned (.tuple #[.pointer (some ⟨x,0,none⟩), .int .i64 0])∧Goes (og base x (St.init o)) w (fun _=>False) w'):=by
 have HIC:Hid (Calls prog 53 #[Mr.AU o] (w.alloc (.cells #[.int .i64 o.le, .int .i64 o.re, .int .i64 o.ca, .int .i64 o.bo, .int .i64 o.he] 30)) fun e w2=>e= .returned (.bool o.fine)∧w2.cell? ⟨w.heap.size,0,none⟩=some (.int .i64 o.le)∧w2.cell? ⟨w.heap.size,1,none⟩=some (.int .i64 o.re)∧w2.cell? ⟨w.heap.size,2,none⟩=some (.int .i64 o.ca)∧w2.cell? ⟨w.heap.size,3,none⟩=some (.int .i64 o.bo)∧w2.cell? ⟨w.heap.size,4,none⟩=some (.int .i64 o.he)∧Hid (Below w.heap.size w w2∧Goes emp w (fun _=>False) w2)):=by
  have hz:=heap_alloc_new w (.cells #[.int .i64 o.le, .int .i64 o.re, .int .i64 o.ca, .int .i64 o.bo, .int .i64 o.he] 30);have hs:(w.alloc (.cells #[.int .i64 o.le, .int .i64 o.re, .int .i64 o.ca, .int .i64 o.bo, .int .i64 o.he] 30)).heap.size=w.heap.size+1:=by simp
  have hb:Below w.heap.size w (w.alloc (.cells #[.int .i64 o.le, .int .i64 o.re, .int .i64 o.ca, .int .i64 o.bo, .int .i64 o.he] 30)):=(au _ _).alloc (af _) _;have hg:Goes emp w (fun _=>False) w:=Goes.refl (fun _ h=>h);have ur:=hg.dA (.cells #[.int .i64 o.le, .int .i64 o.re, .int .i64 o.ca, .int .i64 o.bo, .int .i64 o.he] 30);generalize w.alloc (.cells #[.int .i64 o.le, .int .i64 o.re, .int .i64 o.ca, .int .i64 o.bo, .int .i64 o.he] 30)=w1 at*;show Calls _ _ _ _ _;refine(Bl o w1).mono ?_;rintro e w2⟨rfl,ob,rfl⟩;have jK:(w1.alloc ob).heap[w.heap.size]?=_:=(Below.heap_alloc w1 ob _ (by omega)).trans hz;exact⟨rfl,by simp only[World.cell?,jK];rfl,by simp only[World.cell?,jK];rfl,by simp only[World.cell?,jK];rfl,by simp only[World.cell?,jK];rfl,by simp only[World.cell?,jK];rfl,hb.alloc hb.size _,ur.dA ob⟩
 have HNG:Hid (∀w2,Goes emp w (fun _=>False) w2->_):=fun w2 hg=>Qc (base:=base) o hB hg;obtain⟨le,re,ca,bo,he⟩:=o;dsimp only at HIC HNG;generalize VS:pz.fine ⟨le,re,ca,bo,he⟩=fi at*;clear VS;simp only[Mr.AU]at HIC⊢;cases fi
 ·clear HNG;go_enter func35,ntmps35;go_wp2_with (first
   |(go_at_call 53;go_must(refine HIC.out.mono ?_;rintro e w2⟨rfl,c0,c1,c2,c3,c4,HG⟩)))
  go_ret2
  exact .inl ⟨by first|rfl|trivial,rfl,HG.out.1⟩
 ·have EC:= @run_makeMap prog;go_enter func35,ntmps35;go_wp2_with (first
   |(go_at_call 53;go_must(refine HIC.out.mono ?_;rintro e w2⟨rfl,c0,c1,c2,c3,c4,HG⟩)))
  go_ret2
  exact .inr ⟨by first|rfl|trivial,_,rfl,HNG.out _ HG.out.2⟩
