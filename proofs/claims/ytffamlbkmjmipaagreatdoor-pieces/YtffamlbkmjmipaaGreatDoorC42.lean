import Derived.Test.YtffamlbkmjmipaaGreatDoorC41
import Derived.Carry
set_option maxHeartbeats 8000000
set_option maxRecDepth 100000
namespace Go.Proofs.YtffamlbkmjmipaaGreatDoor
open _root_.Go.Proofs.Tryz
namespace Mc
open bA
theorem Oq{κ:Type} [DecidableEq κ]{N:List κ}(hn:N.Nodup){t0:κ}(ht:t0∈N){f g:κ->Nat}{a:Nat}(hg:g t0=0)(hf: ∀t,f t=if t=t0 then a else g t):(N.map f).sum=a+(N.map g).sum:=by
 induction N with
 |nil=>cases ht
 |cons y N ih=>
  rw[List.nodup_cons]at hn;rw[List.map_cons,List.map_cons,List.sum_cons,List.sum_cons,hf y];by_cases e:y=t0
  ·subst e;rw[if_pos rfl,hg];have:N.map f=N.map g:=bu fun t zT=>by
    have:t≠y:=fun e=>hn.1 (e▸zT);rw[hf t,if_neg this]
   rw[this];omega
  ·rw[if_neg e];have zT:t0∈N:=by
    rcases List.mem_cons.1 ht with h|h
    ·exact absurd h.symm e
    ·exact h
   rw[ih hn.2 zT];omega
def xz(r:List Ln)(t:Bs):List Int:=match r.find? (fun l:Ln=>l.ten==t)with|some l=>l.ids|none=> []
theorem Lj{κ:Type}(N:List κ):(N.map fun _=>0).sum=0:=by
 induction N with
 |nil=>rfl
 |cons y N ih=>rw[List.map_cons,List.sum_cons,ih]
theorem FD(l:Ln)(r:List Ln)(t:Bs):xz (l::r) t=if t=l.ten then l.ids else xz r t:=by
 unfold xz;rw[List.find?_cons];by_cases e:t=l.ten
 ·subst e;simp
 ·have:(l.ten==t)=false:=beq_eq_false_iff_ne.2 (fun h=>e h.symm);rw[this,if_neg e]
theorem A3{N:List Bs}(hn:N.Nodup): ∀{r:List Ln},(r.map (·.ten)).Nodup->(∀l∈r,l.ten∈N)->(N.map fun t=>(xz r t).length).sum=(r.map (·.ids.length)).sum
 | [],_,_=>Lj N
 |l::r,h1,h2=>by
  rw[List.map_cons,List.nodup_cons]at h1;have ih:=A3 hn h1.2 (fun y hy=>h2 y (aY _ hy));rw[List.map_cons,List.sum_cons,<-ih];refine Oq hn (h2 l (cB ..)) ?_ (fun t=> ?_)
  ·have:r.find? (fun y:Ln=>y.ten==l.ten)=none:=List.find?_eq_none.2 fun y hy e=>h1.1 (ax.2 ⟨y,hy,by simpa using e⟩);unfold xz;rw[this];rfl
  ·rw[FD];split<;>rfl
theorem CV{s:St}(hi:Inv s){N:List Bs}(hn:N.Nodup)(hr: ∀l∈s.ring,l.ten∈N):(N.map fun t=>(s.aL t).length).sum=s.queued:=A3 hn hi.dV hr
end Mc
namespace Pj
open Go.RowKit aD Mc bA
structure aP(w:World)(tm rr r2 r3:Nat)(m:List (Bs×Nat))(f:Bs->Nat)(now la lp:Value)(seen:List (Bs×Nat))(q:Nat)(wr:World):Prop where
 walk:Walk qu tm rr m seen wr
 sum:q=(seen.map fun y=>f y.1).sum
 SQ:wr.heap[r3]?=some (.cells #[now, .int .i64 q,la,lp] 39 (0,0))
 SP:wr.heap[r2]?=some (.cells #[.int .i64 0, .int .i64 0, .int .i64 0, .int .i64 0] 39 (0,0))
 below:Below w.heap.size w wr
 lts:w.heap.size<=r2∧r2<r3∧r3<rr∧rr<wr.heap.size∧tm<w.heap.size
section
variable{w wr w1:World}{tm rr r2 r3 q:Nat}{m seen:List (Bs×Nat)}{f:Bs->Nat}{now la lp:Value}{y:Bs×Nat}
theorem aP.next(h:aP w tm rr r2 r3 m f now la lp seen q wr)(hw:Walk qu tm rr m (seen++ [y]) w1)(hg:wr.grownBy w1 (some rr))(hs:w1.heap.size=wr.heap.size):Below w.heap.size w w1∧w1.heap[r3]?=some (.cells #[now, .int .i64 q,la,lp] 39 (0,0))∧ ∀nq,aP w tm rr r2 r3 m f now la lp (seen++ [y]) (q+f y.1) ((w1.setCell ⟨r3,1,none⟩ (.int .i64 ((q:Int)+(f y.1:Int)))).drewN nq)∧((w1.setCell ⟨r3,1,none⟩ (.int .i64 ((q:Int)+(f y.1:Int)))).drewN nq).rangeLeft tm rr=w1.rangeLeft tm rr:=by
 have hl:=h.lts;have hz:=h.below.size;have hb:Below w.heap.size w w1:=⟨hg.os.trans h.below.os,hg.tape.trans h.below.tape,hg.output.trans h.below.output,by rw[hs];exact hz,fun k hk=>by rw[hg.block k (by omega) (fun e=>by have:=Option.some.inj e;omega)];exact h.below.block k hk⟩
 have e3:w1.heap[r3]?=_:=(hg.block r3 (by omega) (fun e=>by have:=Option.some.inj e;omega)).trans h.SQ;have e2:w1.heap[r2]?=_:=(hg.block r2 (by omega) (fun e=>by have:=Option.some.inj e;omega)).trans h.SP;refine⟨hb,e3,fun nq=> ?_⟩;have o0:Only (fun b=>b=r3) w1 w1:=Only.refl _ _;have o2:Only (fun b=>b=r3) w1 ((w1.setCell ⟨r3,1,none⟩ (.int .i64 ((q:Int)+(f y.1:Int)))).drewN nq):=(o0.setCell ⟨r3,1,none⟩ _ (fun _=>rfl)).drewN nq;obtain⟨hk,hle⟩:=hw.keep (w':=(w1.setCell ⟨r3,1,none⟩ (.int .i64 ((q:Int)+(f y.1:Int)))).drewN nq) (o2.block tm (by omega) (by omega)) (o2.block rr (by omega) (by omega));refine⟨⟨hk, ?_, ?_,(o2.block r2 (by omega) (by omega)).trans e2, ?_, ?_⟩,hle⟩
 ·rw[aB,List.sum_append,<-h.sum];simp
 ·have:=heap_setCell_same w1 r3 1 _ _ (.int .i64 ((q:Int)+(f y.1:Int))) e3;show(w1.setCell ⟨r3,1,none⟩ (.int .i64 ((q:Int)+(f y.1:Int)))).heap[r3]?=_;rw[this];show some (Obj.cells #[now, .int .i64 ((q:Int)+(f y.1:Int)),la,lp] _ (0,0))=_;rw[<-Int.natCast_add]
 ·exact⟨o2.os.trans hb.os,o2.tape.trans hb.tape,o2.output.trans hb.output,au hb.size o2.size,fun k hk=>by rw[o2.block k (by have:=hb.size;omega) (by omega)];exact hb.block k hk⟩
 ·have:=o2.size;omega
end
end Pj
namespace Pj
open Go.RowKit aD Mc bA
attribute [local go_sem] ae ah
theorem Li{α:Type}{f:α->Nat}{B:Nat}: ∀{l:List α},(∀y∈l,f y<=B)->(l.map f).sum<=l.length*B
 | [],_=>by simp
 |y::l,h=>by rw[List.map_cons,List.sum_cons,List.length_cons,Nat.succ_mul];have h1:=h y (cB ..);have h2:=Li (l:=l) (fun z hz=>h z (aY _ hz));omega
theorem Kq{base:Nat}(x n:Nat)(s:St)(w:World)(F:Ft)(hg:Mc.Good n s)(hn:n<=1299998)(h:(my base x s).holds w F):Calls prog 25 #[.pointer (some ⟨x,0,none⟩)] w (Mr.yQ s w):=by
 show Calls prog _ _ w fun e w'=>e= .returned (.agg #[.int .i64 s.now, .int .i64 (s.queued:Int), .int .i64 (s.ag.length:Int), .int .i64 (s.wait.length:Int)])∧Below w.heap.size w w';have cY:=hg.sz;have Md:Hid (∀w1,Below w.heap.size w w1->Calls prog 39 #[pt x] w1 fun e w'=>e= .returned (.bool true)∧w1=w'):=fun w1 hb=>(ot (aD.keep _ h (fun k hk=>hb.block k (aD.lt _ h k hk)))).mono fun _ _ hh=>⟨hh.1,hh.2.symm⟩;obtain⟨g,j,r1,r2,ho,vY,Cq,kh,Tf,hj⟩:=h;have wf:=dD r1 hg.inv (by omega);obtain⟨v,hv⟩:=hj;have D:=tO hv;obtain⟨⟨Gl,r7⟩,_⟩:=J7 hv;obtain⟨ao,cap,E1⟩:=aJ (Goes.refl r7);have JP: ∃Gp,(gm v.pv j.pull).holds w Gp:=by obtain⟨Gp,Fb,_⟩:=aD.left (aw hv (show _=aa (gm v.pv j.pull) (aa (dB x j v) (aa (iu v.cm j.br) (aa (gJ g v.rm j.reqs) (aa (fW g v.tm j.aI) (aa (all gi j.br) (aa (all (dP g j.c.re) j.reqs) (aa (all (eC g) j.aI) (aa (dF g v.rv j.ring) (aa (dm g v.lv j.hp) (hpA g j.hp))))))))))by unfold aS;ac_rfl));exact⟨Gp,Fb⟩
 obtain⟨Gp,Fb⟩:=JP;obtain⟨Y3,SU,Zj⟩:=aJ (Goes.refl Fb);have iT: ∃Gm,(fW g v.tm j.aI).holds w Gm:=by obtain⟨Gm,DZ,_⟩:=aD.left (aw hv (show _=aa (fW g v.tm j.aI) (aa (dB x j v) (aa (iu v.cm j.br) (aa (gJ g v.rm j.reqs) (aa (all gi j.br) (aa (all (dP g j.c.re) j.reqs) (aa (all (eC g) j.aI) (aa (dF g v.rv j.ring) (aa (gm v.pv j.pull) (aa (dm g v.lv j.hp) (hpA g j.hp))))))))))by unfold aS;ac_rfl));exact⟨Gm,DZ⟩
 obtain⟨Gm,DZ⟩:=iT;have uK:v.tm<w.heap.size:=aD.lt _ DZ v.tm ((DZ.1 v.tm).2 rfl);have Sp:Hid (∀w1,Below w.heap.size w w1->(mapA qu v.tm (j.aI.map fun t=>(t.nm,g.tp t.nm))).holds w1 Gm):=fun w1 hb=>aD.keep _ DZ (fun k hk=>hb.block k (aD.lt _ DZ k hk));have tF:j.hp.length=s.ag.length:=r1.hp.length_eq;have yB:j.pull.length=s.wait.length:=by rw[r1.pull]
 have nU:=wf.b3;have kQ:=wf.b4;have HX:Hid (∀w1,Below w.heap.size w w1->w1.cell? ⟨x,5,none⟩=some (.int .i64 s.now)∧w1.cell? ⟨x,10,none⟩=some (.slice Y3 s.wait.length SU)∧w1.cell? ⟨x,11,none⟩=some (.slice ao s.ag.length cap)∧w1.cell? ⟨x,8,none⟩=some (.map (some v.tm))):=fun w1 hb=>by
  refine⟨?_, ?_, ?_, ?_⟩
  ·rw[bN hb D.2.2,D.1 5];show some (Value.int .i64 j.now)=_;rw[r1.now]
  ·rw[bN hb D.2.2,D.1 10];show some v.pv=_;rw[Zj,yB]
  ·rw[bN hb D.2.2,D.1 11];show some v.lv=_;rw[E1,tF]
  ·rw[bN hb D.2.2,D.1 8];rfl
 have U5:Hid (∀y∈j.aI.map (fun t=>(t.nm,g.tp t.nm)),∀w1,Below w.heap.size w w1-> ∃dz cJ,w1.cell? ⟨y.2,1,none⟩=some (.slice dz (s.aL y.1).length cJ)∧(s.aL y.1).length<=16777210∧y.2<w.heap.size):=fun y hy w1 hb=>by
  obtain⟨t,ht,rfl⟩:=ax.1 hy;obtain⟨q,hq,eq⟩:=r1.uN t ht;have LW:=St.qG hg.inv hq;have h1: ∃wv G,w.heap[g.tp t.nm]?=some (.cells (Dg t wv) 92 (0,0))∧(je g wv t.wt).holds w G:=by have h2:=aw hv (show _=aa (all (eC g) j.aI) (aa (dB x j v) (aa (iu v.cm j.br) (aa (gJ g v.rm j.reqs) (aa (fW g v.tm j.aI) (aa (all gi j.br) (aa (all (dP g j.c.re) j.reqs) (aa (dF g v.rv j.ring) (aa (gm v.pv j.pull) (aa (dm g v.lv j.hp) (hpA g j.hp))))))))))by unfold aS;ac_rfl);rw[jm (A:=eC g) (k:=fun t:Tr=>t.nm) wf.mn ht]at h2;obtain⟨G,hG,_⟩:=aD.left (aw h2 (bn _ _ _));obtain⟨wv,hwv⟩:=hG;obtain⟨G2,O5,_⟩:=aD.left (aw hwv (aZ _ _));exact⟨wv,G2,(bQ hwv).1,O5⟩
  obtain⟨wv,G,Qj,uL⟩:=h1;obtain⟨dz,cJ,WA⟩:=aJ (Goes.refl uL);have aQ:g.tp t.nm<w.heap.size:=(bZ.1 Qj).1;have jg:=wf.b1 t ht;have Va:=r1.wt t ht;refine⟨dz,cJ, ?_,by rw[<-Va];exact jg,aQ⟩;rw[bN hb aQ];simp only[World.cell?,Qj];show some wv=_;rw[WA,Va]
 have HQ:Hid (∀seen:List (Bs×Nat),seen.Perm (j.aI.map fun t=>(t.nm,g.tp t.nm))->(seen.map fun y=>(s.aL y.1).length).sum=s.queued):=fun seen hp=>by
  have e1:(seen.map fun y=>(s.aL y.1).length).sum=((j.aI.map fun t=>(t.nm,g.tp t.nm)).map fun y=>(s.aL y.1).length).sum:=(hp.map _).sum_nat;rw[e1,az];have e2:j.aI.map ((fun y:Bs×Nat=>(s.aL y.1).length)∘fun t=>(t.nm,g.tp t.nm))=(j.aI.map (·.nm)).map fun t=>(s.aL t).length:=by rw[az];rfl
  rw[e2];refine CV hg.inv r1.mn (fun l hl=> ?_);exact wf.ring l.ten (by rw[r1.ring];exact ax.2 ⟨l,hl,rfl⟩)
 have fY:s.queued<=16777216:=by
  have h1:=St.oD hg.inv;have h2:(s.ring.flatMap (·.ids)).length=s.queued:=by unfold St.queued;rw[List.length_flatMap]
  unfold St.sz at cY;omega
 have D8:(j.aI.map fun t=>(t.nm,g.tp t.nm)).length<=16777210:=by rw[aR];exact wf.b7
 have HA:Hid (Below w.heap.size w (w.alloc (.cells #[.int .i64 0, .int .i64 0, .int .i64 0, .int .i64 0] 39))∧(w.alloc (.cells #[.int .i64 0, .int .i64 0, .int .i64 0, .int .i64 0] 39)).heap[w.heap.size]?=some (.cells #[.int .i64 0, .int .i64 0, .int .i64 0, .int .i64 0] 39 (0,0))∧(w.alloc (.cells #[.int .i64 0, .int .i64 0, .int .i64 0, .int .i64 0] 39)).heap.size=w.heap.size+1):=⟨(ar _ _).alloc (af _) _,heap_alloc_new _ _,by simp⟩;clear hv D r7 E1 Fb Zj DZ r1 r2 wf kh Tf ho vY tF yB hg;unfold pt at Md;generalize hm:(j.aI.map fun t=>(t.nm,g.tp t.nm))=m at*;clear hm;generalize v.tm=tm at*;generalize s.queued=qq at*;generalize s.ag.length=na at*;generalize s.wait.length=nw at*;generalize s.now=now at*;go_enter func25,ntmps25;go_wp2_with (first
  |(go_at_call 39;go_must(refine(Md.out _ HA.out.1).mono ?_;rintro e wz⟨rfl,rfl⟩;clear Md)))
 generalize qV:w.alloc (.cells #[.int .i64 0, .int .i64 0, .int .i64 0, .int .i64 0] 39)=w1 at*;obtain⟨x5,x10,x11,x8⟩:=HX.out w1 HA.out.1;have n5:=World.new_ne w1 _ x5;have n10:=World.new_ne w1 _ x10;have n11:=World.new_ne w1 _ x11;have n8:=World.new_ne w1 _ x8;go_region_held3 (fun w'=>w'.cell? ⟨x,5,none⟩=some (.int .i64 now)∧w'.cell? ⟨x,10,none⟩=some (.slice Y3 nw SU)∧w'.cell? ⟨x,11,none⟩=some (.slice ao na cap)∧w'.cell? ⟨x,8,none⟩=some (.map (some tm))) (go_keep) (fail);have HW:Hid (Below w.heap.size w (w1.alloc (.cells #[.int .i64 now, .int .i64 0, .int .i64 (na:Int), .int .i64 (nw:Int)] 39)).drew∧(w1.alloc (.cells #[.int .i64 now, .int .i64 0, .int .i64 (na:Int), .int .i64 (nw:Int)] 39)).drew.heap[w1.heap.size]?=some (.cells #[.int .i64 now, .int .i64 0, .int .i64 (na:Int), .int .i64 (nw:Int)] 39 (0,0))∧(w1.alloc (.cells #[.int .i64 now, .int .i64 0, .int .i64 (na:Int), .int .i64 (nw:Int)] 39)).drew.heap[w.heap.size]?=some (.cells #[.int .i64 0, .int .i64 0, .int .i64 0, .int .i64 0] 39 (0,0))∧(w1.alloc (.cells #[.int .i64 now, .int .i64 0, .int .i64 (na:Int), .int .i64 (nw:Int)] 39)).drew.heap.size=w1.heap.size+1):=by obtain⟨b1,z1,s1⟩:=HA.out;refine⟨(b1.alloc b1.size _).drew,heap_alloc_new _ _, ?_,by simp⟩;exact(Below.heap_alloc _ _ _ (by omega)).trans z1
 have jf:=HA.out.2.2;generalize(w1.alloc (.cells #[.int .i64 now, .int .i64 0, .int .i64 (na:Int), .int .i64 (nw:Int)] 39)).drew=W at*;have Nn:Hid (w1.heap.size=w.heap.size+1):=jf;generalize w1.heap.size=r3 at*;have y8:=(HX.out W HW.out.1).2.2.2;have HM:=hide (Sp.out W HW.out.1);have uG:Hid (∀w',Walk qu tm W.heap.size m [] w'->Below W.heap.size W w'->w'.heap.size=W.heap.size+1->aP w tm W.heap.size w.heap.size r3 m (fun t=>(s.aL t).length) (.int .i64 now) (.int .i64 (na:Int)) (.int .i64 (nw:Int)) [] 0 w'):=fun w' hw hb hz=>by obtain⟨b1,z3,z2,s3⟩:=HW.out;have h3:=Nn.out;refine⟨hw,by simp,(hb.block r3 (by omega)).trans z3,(hb.block w.heap.size (by omega)).trans z2,b1.trans (hb.mono b1.size),by omega,by omega,by omega,by omega,uK⟩
 clear HA HX Sp HW x5 x10 x11 x8 n5 n10 n11 n8 jf qV;go_wp2_with (first
  |(at_range;go_must(refine rF _ rfl _ 83 rfl 89 underlying83 qu tm m rfl HM.out ?_;intro w0 wk yy Ul;have PX:=hide (uG.out w0 wk yy Ul);clear wk yy Ul)))
 go_frame
 clear HM uG y8;generalize W.heap.size=rr at*;go_loopw [] (fun wr=> ∃(seen:List (Bs×Nat)) (q:Nat),Hid (aP w tm rr w.heap.size r3 m (fun t=>(s.aL t).length) (.int .i64 now) (.int .i64 (na:Int)) (.int .i64 (nw:Int)) seen q wr)) (fun wr=>wr.rangeLeft tm rr)
 case atStart=>exact⟨[],0,PX⟩
 case round=>
  obtain⟨seen,q,HS⟩:=hrel;have PZ:=hide HS.out.walk;have aax:q<=281474976710656:=by
   have h1:q<=seen.length*16777210:=by rw[HS.out.sum];exact Li (f:=fun y:Bs×Nat=>(s.aL y.1).length) fun y hy=>by obtain⟨_,_,_,hl,_⟩:=U5.out y (HS.out.walk.2.1 y hy) w (ar _ _);exact hl
   have h2:seen.length<=m.length:=gH (iB HS.out.walk.1) HS.out.walk.2.1;have h3:seen.length*16777210<=16777210*16777210:=Nat.mul_le_mul_right _ (by omega);omega
  have sF:Hid (∀y (kv:Value) w1,y∈m->Walk qu tm rr m (seen++ [y]) w1->w1.rangeLeft tm rr<wr.rangeLeft tm rr->wr.grownBy w1 (some rr)->w1.heap.size=wr.heap.size-> ∃dz cJ ln,w1.cell? ⟨y.2,1,none⟩=some (.slice dz ln cJ)∧ln<=16777210∧w1.cell? ⟨r3,1,none⟩=some (.int .i64 q)∧w1.frozen? ⟨r3,1,none⟩=false∧Hid (w1.rangeLeft tm rr<wr.rangeLeft tm rr)∧Hid (∀nq,aP w tm rr w.heap.size r3 m (fun t=>(s.aL t).length) (.int .i64 now) (.int .i64 (na:Int)) (.int .i64 (nw:Int)) (seen++ [y]) (q+ln) ((w1.setCell ⟨r3,1,none⟩ (.int .i64 ((q:Int)+(ln:Int)))).drewN nq)∧((w1.setCell ⟨r3,1,none⟩ (.int .i64 ((q:Int)+(ln:Int)))).drewN nq).rangeLeft tm rr=w1.rangeLeft tm rr)):=fun y kv w1 Nq hwk aQ hgr cY=>by obtain⟨bP,e3,Pk⟩:=HS.out.next hwk hgr cY;obtain⟨dz,cJ,c1,hl,_⟩:=U5.out y Nq w1 bP;exact⟨dz,cJ,_,c1,hl,by simp only[World.cell?,e3];rfl,by simp only[World.frozen?,e3];simp,aQ,Pk⟩
  go_wp2_with (first
   |(at_next;go_must(refine ke _ rfl _ rfl qu tm rr m seen rfl PZ.out ?done ?more)))
  case done=>
   intro dA;have hq:=HQ.out seen dA;have Uo:=HS.out.sum;have e3:=HS.out.SQ;have e2:=HS.out.SP;have HB:=hide HS.out.below;have PU:=hide HS.out.lts;have hqq:q=qq:=by rw[Uo];exact hq
   subst hqq;have a0:wr.cell? ⟨r3,0,none⟩=some (.int .i64 now):=by simp only[World.cell?,e3];rfl
   have a1:wr.cell? ⟨r3,1,none⟩=some (.int .i64 (q:Int)):=by simp only[World.cell?,e3];rfl
   have a2:wr.cell? ⟨r3,2,none⟩=some (.int .i64 (na:Int)):=by simp only[World.cell?,e3];rfl
   have a3:wr.cell? ⟨r3,3,none⟩=some (.int .i64 (nw:Int)):=by simp only[World.cell?,e3];rfl
   have b0:wr.cell? ⟨w.heap.size,0,none⟩=some (.int .i64 0):=by simp only[World.cell?,e2];rfl
   have f0:wr.frozen? ⟨w.heap.size,0,none⟩=false:=by simp only[World.frozen?,e2];simp
   have b1:wr.cell? ⟨w.heap.size,1,none⟩=some (.int .i64 0):=by simp only[World.cell?,e2];rfl
   have f1:wr.frozen? ⟨w.heap.size,1,none⟩=false:=by simp only[World.frozen?,e2];simp
   have b2:wr.cell? ⟨w.heap.size,2,none⟩=some (.int .i64 0):=by simp only[World.cell?,e2];rfl
   have f2:wr.frozen? ⟨w.heap.size,2,none⟩=false:=by simp only[World.frozen?,e2];simp
   have b3:wr.cell? ⟨w.heap.size,3,none⟩=some (.int .i64 0):=by simp only[World.cell?,e2];rfl
   have f3:wr.frozen? ⟨w.heap.size,3,none⟩=false:=by simp only[World.frozen?,e2];simp
   clear sF PZ HS U5 HQ PX e3 e2 Uo hq dA;go_wp2;refine bodyPost_ret (v:= .agg #[.int .i64 now, .int .i64 (q:Int), .int .i64 (na:Int), .int .i64 (nw:Int)]) (by simp[results,results25,go_sem, *]) rfl ⟨rfl, ?_⟩;exact(((HB.out.setCell (af _) _).setCell (af _) _).setCell (af _) _).setCell (af _) _
  case more=>
   intro ya yb kv w1 Nq XX hwk aQ hgr cY TE;obtain⟨dz,cJ,ln,c1,yC,c3,f3,PU,BL⟩:=sF.out (ya,yb) kv w1 Nq hwk aQ hgr cY;dsimp only at c1;clear sF PZ HS U5 HQ Nq XX hwk aQ hgr cY PX
   (try unfold pt at TE)
   have zV:IntKind.i64.wrap ((q:Int)+(ln:Int))=(q:Int)+(ln:Int):=by rw[IntKind.wrap_i64];omega
   go_wp2_with fail;go_region_with (fail)
   all_goals
    have Ry:=BL.out 1;clear BL;go_roundw
    case rel=>exact⟨_,_,_,_,_,_,_,_,_,_,_,_,_,_,⟨seen++ [(ya,yb)],q+ln,Ry.1⟩,rfl⟩
    case measure=>exact Nat.lt_of_le_of_lt (Nat.le_of_eq Ry.2) PU.out
variable{w:World}{base:Nat}
theorem jd(n lo hi:Int)(w:World):Calls prog 92 #[.int .i64 n, .int .i64 lo, .int .i64 hi] w fun e w'=>e= .returned (.bool (decide (lo<=n) &&decide (n<=hi)))∧w'=w:=by
 by_cases h1:lo<=n<;>by_cases h2:n<=hi
 all_goals go_enter func92,ntmps92;go_wp2;go_ret;simp[h1,h2]
theorem xC(o:ic)(w:World):Calls prog 53 #[Mr.uU o] w fun e w'=>e= .returned (.bool o.fine)∧ ∃ob,w'=w.alloc ob:=by
 obtain⟨le,re,ca,bo,he⟩:=o;have h1:=fun w=>jd le 1 20 w;have h2:=fun w=>jd re 0 5 w;have h3:=fun w=>jd ca 1 5 w;have h4:=fun w=>jd bo 1 8 w;have h5:=fun w=>jd he 0 20 w;have yD:ic.fine ⟨le,re,ca,bo,he⟩=((((((decide (1<=le) &&decide (le<=20))) &&(decide (0<=re) &&decide (re<=5))) &&(decide (1<=ca) &&decide (ca<=5))) &&(decide (1<=bo) &&decide (bo<=8))) &&(decide (0<=he) &&decide (he<=20))):=rfl;rw[yD];clear yD;generalize(decide (1<=le) &&decide (le<=20))=b1 at*;generalize(decide (0<=re) &&decide (re<=5))=b2 at*;generalize(decide (1<=ca) &&decide (ca<=5))=b3 at*;generalize(decide (1<=bo) &&decide (bo<=8))=b4 at*;generalize(decide (0<=he) &&decide (he<=20))=b5 at*;have H1:=hide h1;have H2:=hide h2;have H3:=hide h3;have H4:=hide h4;have H5:=hide h5;clear h1 h2 h3 h4 h5;simp only[Mr.uU];have M1:True:=trivial;have M2:True:=trivial;have M3:True:=trivial;have M4:True:=trivial;cases b1<;>cases b2<;>cases b3<;>cases b4
 all_goals
  go_enter func53,ntmps53;go_wp2_with (first
   |(go_at_call 92;first
     |(clear M1;go_must(refine(H1.out _).mono ?_;rintro e wz⟨rfl,rfl⟩))
     |(clear M2;go_must(refine(H2.out _).mono ?_;rintro e wz⟨rfl,rfl⟩))
     |(clear M3;go_must(refine(H3.out _).mono ?_;rintro e wz⟨rfl,rfl⟩))
     |(clear M4;go_must(refine(H4.out _).mono ?_;rintro e wz⟨rfl,rfl⟩))
     |(go_must(refine(H5.out _).mono ?_;rintro e wz⟨rfl,rfl⟩))))
  go_ret;exact⟨by simp,_,rfl⟩
def Zv:Gh:=⟨fun _=>0,fun _=>0,fun _=>0,fun _=>0⟩
def js0(o:ic):Js:=⟨o,0,0, [], [], [], [], [], []⟩
theorem Yn(o:ic):Rel Zv (js0 o) (St.init o):=
 ⟨rfl,rfl,rfl,rfl,rfl,rfl,fun _ h=>(List.not_mem_nil h).elim,List.nodup_nil,fun _ h=>(List.not_mem_nil h).elim,fun _ h=>(List.not_mem_nil h).elim,fun _ h=>(List.not_mem_nil h).elim,fun _ h=>(List.not_mem_nil h).elim,List.Perm.refl _,fun k _ h=>absurd h (Nat.not_lt_zero k),List.Pairwise.nil,fun _ h=>(List.not_mem_nil h).elim,List.nodup_nil,fun _ h=>(List.not_mem_nil h).elim,fun _=>rfl⟩
theorem ok0(o:ic):Ok (St.init o):=⟨fun _ h=>(List.not_mem_nil h).elim,fun _ h=>(List.not_mem_nil h).elim,List.nodup_nil,fun _ h=>(List.not_mem_nil h).elim,fun _ h=>(List.not_mem_nil h).elim⟩
theorem add_nil{A:aD}{F:Ft}(h:A.holds w F)(e:TypeId):(aa A (rowA e 1 (.slice none 0 0) 0 [])).holds w F:=
 ⟨F,fun _=>False,h,gS _ _ _ (fun _ h=>h),fun _ _ h=>h,fun _=>⟨.inl,fun h=>h.elim id False.elim⟩⟩
theorem KB(o:ic){w2:World}(hB:base<=w.heap.size)(h:Goes emp w (fun _=>False) w2):Goes (my base (w2.heap.size+3) (St.init o)) w (fun _=>False) ((((w2.alloc (.map #[] 0)).alloc (.map #[] 0)).alloc (.map #[] 0)).alloc (.cells #[.int .i64 o.le, .int .i64 o.re, .int .i64 o.ca, .int .i64 o.bo, .int .i64 o.he, .int .i64 0, .map (some w2.heap.size), .map (some (w2.heap.size+1)), .map (some (w2.heap.size+2)), .slice none 0 0, .slice none 0 0, .slice none 0 0, .int .i64 0] 88)):=by
 have g1:=qA iA h;have e1:(w2.alloc (.map #[] 0)).heap.size=w2.heap.size+1:=by simp
 generalize w2.alloc (.map #[] 0)=w3 at*;have g2:=qA iA g1;have e2:(w3.alloc (.map #[] 0)).heap.size=w2.heap.size+2:=by simp;omega
 rw[e1]at g2;generalize w3.alloc (.map #[] 0)=w4 at*;have g3:=qA qu g2;have e3:(w4.alloc (.map #[] 0)).heap.size=w2.heap.size+3:=by simp;omega
 rw[e2]at g3;generalize w4.alloc (.map #[] 0)=w5 at*;have g4:=g3.alloc (.cells #[.int .i64 o.le, .int .i64 o.re, .int .i64 o.ca, .int .i64 o.bo, .int .i64 o.he, .int .i64 0, .map (some w2.heap.size), .map (some (w2.heap.size+1)), .map (some (w2.heap.size+2)), .slice none 0 0, .slice none 0 0, .slice none 0 0, .int .i64 0] 88 (0,0));rw[e3]at g4;obtain⟨F4,u9,o4,n4⟩:=g4;refine⟨F4,⟨Zv,js0 o,Yn o,⟨fun _ h=>(List.not_mem_nil h).elim,fun _ h=>(List.not_mem_nil h).elim⟩,ok0 o,fun _ h=>(List.not_mem_nil h).elim,rfl,fun _=>rfl,fun k hk=> ?_, ?_⟩,o4,n4⟩
 ·rcases n4 k hk with h|h
  ·exact h.elim
  ·exact au hB h
 ·refine⟨⟨w2.heap.size,w2.heap.size+1,w2.heap.size+2, .slice none 0 0, .slice none 0 0, .slice none 0 0⟩, ?_⟩;have h5:=add_nil (add_nil (add_nil u9 89) 3) 127;refine aw h5 ?_;unfold aS;show _=aa (blk (w2.heap.size+3) _) (aa (mapA iA w2.heap.size []) (aa (mapA iA (w2.heap.size+1) []) (aa (mapA qu (w2.heap.size+2) []) (aa emp (aa emp (aa emp (aa (rowA 89 1 (.slice none 0 0) 0 []) (aa (rowA 3 1 (.slice none 0 0) 0 []) (aa (rowA 127 1 (.slice none 0 0) 0 []) emp)))))))));simp only[mj,iy]
  ac_rfl
theorem NQ(o:ic)(w:World)(hB:base<=w.heap.size):Calls prog 35 #[Mr.uU o] w fun e w'=>(o.fine=false∧e= .returned (.tuple #[.pointer none, .int .i64 1])∧Below w.heap.size w w')∨(o.fine=true∧ ∃x,e= .returned (.tuple #[.pointer (some ⟨x,0,none⟩), .int .i64 0])∧Goes (my base x (St.init o)) w (fun _=>False) w'):=by
 have U1:Hid (Calls prog 53 #[Mr.uU o] (w.alloc (.cells #[.int .i64 o.le, .int .i64 o.re, .int .i64 o.ca, .int .i64 o.bo, .int .i64 o.he] 30)) fun e w2=>e= .returned (.bool o.fine)∧w2.cell? ⟨w.heap.size,0,none⟩=some (.int .i64 o.le)∧w2.cell? ⟨w.heap.size,1,none⟩=some (.int .i64 o.re)∧w2.cell? ⟨w.heap.size,2,none⟩=some (.int .i64 o.ca)∧w2.cell? ⟨w.heap.size,3,none⟩=some (.int .i64 o.bo)∧w2.cell? ⟨w.heap.size,4,none⟩=some (.int .i64 o.he)∧Hid (Below w.heap.size w w2∧Goes emp w (fun _=>False) w2)):=by
  have hz:=heap_alloc_new w (.cells #[.int .i64 o.le, .int .i64 o.re, .int .i64 o.ca, .int .i64 o.bo, .int .i64 o.he] 30);have hs:(w.alloc (.cells #[.int .i64 o.le, .int .i64 o.re, .int .i64 o.ca, .int .i64 o.bo, .int .i64 o.he] 30)).heap.size=w.heap.size+1:=by simp
  have hb:Below w.heap.size w (w.alloc (.cells #[.int .i64 o.le, .int .i64 o.re, .int .i64 o.ca, .int .i64 o.bo, .int .i64 o.he] 30)):=(ar _ _).alloc (af _) _;have hg:Goes emp w (fun _=>False) w:=Goes.refl (fun _ h=>h);have qX:=hg.iD (.cells #[.int .i64 o.le, .int .i64 o.re, .int .i64 o.ca, .int .i64 o.bo, .int .i64 o.he] 30);generalize w.alloc (.cells #[.int .i64 o.le, .int .i64 o.re, .int .i64 o.ca, .int .i64 o.bo, .int .i64 o.he] 30)=w1 at*;show Calls _ _ _ _ _;refine(xC o w1).mono ?_;rintro e w2⟨rfl,ob,rfl⟩;have kC:(w1.alloc ob).heap[w.heap.size]?=_:=(Below.heap_alloc w1 ob _ (by omega)).trans hz;exact⟨rfl,by simp only[World.cell?,kC];rfl,by simp only[World.cell?,kC];rfl,by simp only[World.cell?,kC];rfl,by simp only[World.cell?,kC];rfl,by simp only[World.cell?,kC];rfl,hb.alloc hb.size _,qX.iD ob⟩
 have VY:Hid (∀w2,Goes emp w (fun _=>False) w2->_):=fun w2 hg=>KB (base:=base) o hB hg;obtain⟨le,re,ca,bo,he⟩:=o;dsimp only at U1 VY;generalize RO:ic.fine ⟨le,re,ca,bo,he⟩=fi at*;clear RO;simp only[Mr.uU]at U1⊢;cases fi
 ·clear VY;go_enter func35,ntmps35;go_wp2_with (first
   |(go_at_call 53;go_must(refine U1.out.mono ?_;rintro e w2⟨rfl,c0,c1,c2,c3,c4,HG⟩)))
  go_ret2
  exact .inl ⟨by first|rfl|trivial,rfl,HG.out.1⟩
 ·have D9:= @run_makeMap prog;go_enter func35,ntmps35;go_wp2_with (first
   |(go_at_call 53;go_must(refine U1.out.mono ?_;rintro e w2⟨rfl,c0,c1,c2,c3,c4,HG⟩)))
  go_ret2
  exact .inr ⟨by first|rfl|trivial,_,rfl,VY.out _ HG.out.2⟩
