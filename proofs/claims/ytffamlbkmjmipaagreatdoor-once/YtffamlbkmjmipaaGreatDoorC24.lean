import Derived.Test.YtffamlbkmjmipaaGreatDoorC23
set_option maxHeartbeats 8000000
set_option maxRecDepth 100000
namespace Go.Proofs.YtffamlbkmjmipaaGreatDoor
open _root_.Go.Proofs.Tryz
namespace Pj
open Go.RowKit aJ Mc bG
attribute [local go_sem] ae ag
theorem N0:(prog.info? 3).map (fun i=>(i.zero,i.size,i.bytes))=some (some (.int .i64 0),1,8):=by kernel_rfl
def uJ(s:St)(c:Int):St:=if s.wait.any (· ==c)then s else if(s.conn c).drains c then s.conn c else{s.conn c with wait:=(s.conn c).wait++ [c]}
theorem YM(v:Value)(l:List Int)(x:Int)(w:World)(G:Ft)(h:(rowA 3 1 v l.length (l.map fun i=> .int .i64 i)).holds w G)(hl:l.length<=16777216):Calls prog 184 #[v, .int .i64 x] w fun e w'=>e= .returned (.bool (decide (x∈l)))∧w'=w:=by
 have pL:=ixN v l x w G h hl;have HE:=Oa (l:=l) (x:=x);obtain⟨ao,cap,rfl,_⟩:=Mr.cE h;rw[<-HE];clear h HE;generalize Mr.ze (l.findIdx? fun y=>decide (y=x))=ii at*;go_enter func184,ntmps184;go_wp2_with (first
  |(go_at_call 154;go_must(refine pL.mono ?_;rintro e w1⟨rfl,rfl⟩)))
 go_ret;exact⟨rfl,rfl⟩
section
variable{x:Nat}{g:Gh}{j:Js}{B:aJ}{w w':World}{F:Ft}
theorem aa8(h:(aa (jA x g j) B).holds w F): ∃pv G,w.cell? ⟨x,10,none⟩=some pv∧(gN pv j.pull).holds w G∧ ∀DZ G9 w2,Goes (gN G9 DZ) w G w2->w2.cell? ⟨x,10,none⟩=some pv∧w2.frozen? ⟨x,10,none⟩=false∧Goes (aa (jA x g {j with pull:=DZ}) B) w F (w2.setCell ⟨x,10,none⟩ G9):=by
 unfold jA at h;rw[bH]at h;obtain⟨v,h⟩:=h;have h2:=aA h (show _=aa (gN v.pv j.pull) (aa (dB x j v) (aa (iU v.cm j.bu) (aa (ib g v.rm j.reqs) (aa (gK g v.tm j.aQ) (aa (all gM j.bu) (aa (all (fc g j.c.re) j.reqs) (aa (all (fD g) j.aQ) (aa (dL g v.rv j.ring) (aa (dh g v.lv j.hp) (aa (hpA g j.hp) B))))))))))by unfold aW;ac_rfl);obtain⟨G,H,ha,hb,d,e⟩:=h2;have c10:w.cell? ⟨x,10,none⟩=some v.pv:=(br hb).1 10;refine⟨v.pv,G,c10,ha,fun DZ G9 w2 hg=> ?_⟩;have g1:=(aO hb hg d e).eq (show _=aa (blk x (.cells (yY j v) 88 (0,0))) (aa (gN G9 DZ) (aa (iU v.cm j.bu) (aa (ib g v.rm j.reqs) (aa (gK g v.tm j.aQ) (aa (all gM j.bu) (aa (all (fc g j.c.re) j.reqs) (aa (all (fD g) j.aQ) (aa (dL g v.rv j.ring) (aa (dh g v.lv j.hp) (aa (hpA g j.hp) B))))))))))by unfold dB;ac_rfl);have g1c:=g1;obtain⟨F2,gV,_⟩:=g1c;obtain⟨cl,fz,_⟩:=br gV;refine⟨cl 10,fz 10,(g1.store 10 G9).mono fun F' h'=> ?_⟩;unfold jA;rw[bH];refine⟨{v with pv:=G9},aA h' ?_⟩;have:blk x (.cells ((yY j v).setIfInBounds 10 G9) 88 (0,0))=dB x {j with pull:=DZ} {v with pv:=G9}:=rfl;rw[this];unfold aW;dsimp only
 ac_rfl
end
theorem Qx{base x tb:Nat}{g:Gh}{cn:List (Int×Nat×Bs)}{s:St}{w:World}{F:Ft}(T:Tabs base w)(h:(stA base x tb g cn s).holds w F)(hi:Inv s)(ho:Ok s)(hz:s.sz<=16777000)(c:Int)(hc:I6 c):Calls prog 139 #[pt x, .int .i64 c] w fun e w'=>e= .returned (.tuple #[])∧Goes (stA base x tb g cn (uJ s c)) w F w':=by
 obtain⟨i0,jo,mz,ja,jK⟩:=fQ N0;have hcs:=St.iZ (s:=s) c;obtain⟨j,r1,r2,r3,hF,hh⟩:=h;have wf:=dJ r1 hi hz;have hhc:=hh;obtain⟨G,H,hj,GI,_,_⟩:=hhc;have EN:=vY x g j c w G hj hc r1.cnd;rw[r1.dr c]at EN;have hdc:(s.conn c).drains c=s.drains c:=St.ui c c;have IL: ∀w',Goes (aa (jA x g j) (uQ tb s.out)) w F w'->Goes (stA base x tb g cn (s.conn c)) w F w':=fun w' hg=>gj (s':=s.conn c) T hF (r1.conn c) r2 r3 (by rw[hcs.2.2.2.2.1];exact hg)
 have C7:Goes (stA base x tb g cn s) w F w:=gj (s':=s) T hF r1 r2 r3 (Goes.refl hh);obtain⟨pv,Gp,c10,NV,RJ⟩:=aa8 hh;obtain⟨ao,cap,rfl⟩:=aR (Goes.refl NV);have b3:=wf.b3;have Ub:=YM _ j.pull c w Gp NV (by omega);have Iq:s.wait.any (· ==c)=decide (c∈j.pull):=by
  rw[r1.pull];by_cases hm:c∈s.wait
  ·rw[decide_eq_true hm];exact List.any_eq_true.2 ⟨c,hm,by simp⟩
  ·rw[decide_eq_false hm];rw[List.any_eq_false];intro y hy e;have:y=c:=by simpa using e
   exact hm (this▸hy)
 cases hd:s.drains c with
 |true=>
  have Ba:s.wait.any (· ==c)=false:=by
   rw[List.any_eq_false];intro y hy e;have ey:y=c:=by simpa using e
   have BQ:=hd;unfold St.drains at BQ;cases hf:s.aq.find? (·.n==c)with
   |none=>rw[hf]at BQ;cases BQ
   |some z=>
    rw[hf]at BQ;have ez:z.n=c:=by simpa using List.find?_some hf
    exact(ho.dr z (cI hf) BQ).2 (by rw[ez,<-ey];exact hy)
  have es:uJ s c=s.conn c:=by unfold uJ;rw[if_neg (by rw[Ba];simp),if_pos (by rw[hdc];exact hd)]
  rw[es];have HX:=hide (IL w (Goes.refl hh));rw[hd]at EN;clear T hh hj GI wf r1 r2 r3 hF IL C7 NV RJ Ub;unfold pt at*;go_enter func139,ntmps139;go_wp2_with (first
   |(go_at_call 165;go_must(refine EN.mono ?_;rintro e w1⟨rfl,rfl⟩)))
  go_end0;exact⟨rfl,HX.out⟩
 |false=>
  rw[hd]at EN;by_cases hm:c∈j.pull
  ·have es:uJ s c=s:=by unfold uJ;rw[if_pos (by rw[Iq];simpa using hm)]
   rw[es];rw[decide_eq_true hm]at Ub;have HX:=hide C7;clear T hh hj GI wf r1 r2 r3 hF IL C7 NV RJ;unfold pt at*;generalize j.pull.length=np at*;go_enter func139,ntmps139;go_wp2_with (first
    |(go_at_call 165;go_must(refine EN.mono ?_;rintro e w1⟨rfl,rfl⟩))
    |(go_at_call 184;go_must(refine Ub.mono ?_;rintro e w1⟨rfl,rfl⟩)))
   go_end0;exact⟨rfl,HX.out⟩
  ·have es:uJ s c={s.conn c with wait:=(s.conn c).wait++ [c]}:=by unfold uJ;rw[if_neg (by rw[Iq];simpa using hm),if_neg (by rw[hdc,hd];simp)]
   rw[es];rw[decide_eq_false hm]at Ub;have jf:Hid ((rowA 3 1 (.slice ao j.pull.length cap) j.pull.length (j.pull.map fun c=> .int .i64 c)).holds (w.alloc (.cells #[.int .i64 c] 3)) Gp):=dM NV _;have Ry:Hid (∀fE cT w4,Goes (rowA 3 1 (.slice fE (j.pull.length+1) cT) (j.pull.length+1) ((j.pull.map fun c=> .int .i64 c)++ [.int .i64 c])) (w.alloc (.cells #[.int .i64 c] 3)) Gp w4->
     w4.cell? ⟨x,10,none⟩=some (.slice ao j.pull.length cap)∧w4.frozen? ⟨x,10,none⟩=false∧Goes (stA base x tb g cn {s.conn c with wait:=(s.conn c).wait++ [c]}) w F (w4.setCell ⟨x,10,none⟩ (.slice fE (j.pull.length+1) cT))):=fun fE cT w4 hg=>by
    have e5:gN (.slice fE (j.pull.length+1) cT) (j.pull++ [c])=rowA 3 1 (.slice fE (j.pull.length+1) cT) (j.pull.length+1) ((j.pull.map fun c=> .int .i64 c)++ [.int .i64 c]):=by unfold gN;rw[aH,aD];rfl
    obtain⟨d1,d2,d3⟩:=RJ (j.pull++ [c]) (.slice fE (j.pull.length+1) cT) w4 (by rw[e5];exact dx hg);refine⟨d1,d2,gj (j':={j with pull:=j.pull++ [c]}) (s':={s.conn c with wait:=(s.conn c).wait++ [c]}) T hF ?_ ⟨r2.1,fun y hy=> ?_⟩ r3 (by show Goes (aa _ (uQ tb (s.conn c).out)) _ _ _;rw[hcs.2.2.2.2.1];exact d3)⟩
    ·have:=(r1.conn c).pulls ((s.conn c).wait++ [c]);have e0:(s.conn c).wait=j.pull:=by rw[hcs.2.2.2.1,r1.pull]
     rw[e0]at this⊢;exact this
    ·rcases List.mem_append.1 hy with h|h
     ·exact r2.2 y h
     ·rw[b9.1 h];exact hc
   clear T hh hj GI wf r1 r2 r3 hF IL C7 NV RJ;unfold pt at*;generalize j.pull.length=np at*;go_enter func139,ntmps139;go_wp2_with (first
    |(go_at_call 165;go_must(refine EN.mono ?_;rintro e w1⟨rfl,rfl⟩))
    |(go_at_call 184;go_must(refine Ub.mono ?_;rintro e w1⟨rfl,rfl⟩))
    |(at_builtin;go_must(refine aT _ rfl _ _ 36 rfl 3 i0 (.int .i64 0) 1 8 underlying36 jo mz ja jK rfl (by decide) (F:=Gp) _ np _ rfl jf.out ⟨World.heap _|>.size,0,none⟩ 1 1 [.int .i64 c] rfl rfl (World.news_of_block (cs:= #[.int .i64 c]) (t:=3) (fr:=(0,0)) (heap_alloc_new _ _)) (by simp[Value.oneCell']) (by unfold maxLen;omega) (by omega) ?_;intro fE cT w4 bE;obtain⟨e7,z7,kq⟩:=Ry.out fE cT w4 bE;have RB:=hide kq;clear bE kq)))
   go_end0;exact⟨rfl,RB.out⟩
variable{s:St}{c:Int}
def tq(s:St)(c:Int):St:=((({s.conn c with aq:=aK (fun x=>x.n==c) (fun x=>{x with drains:=true}) (s.conn c).aq}:St)).idle c).fp c
section
variable{base x tb:Nat}{g:Gh}{cn:List (Int×Nat×Bs)}{s:St}{j:Js}{w w':World}{F:Ft}
theorem ZX(hn:(j.bu.map (·.n)).Nodup){k:Kn}(hk:k∈j.bu):j.bu.find? (·.n==k.n)=some k:=by
 cases hf:j.bu.find? (·.n==k.n)with
 |none=>exact absurd (List.find?_eq_none.1 hf k hk) (by simp)
 |some z=>
  have ez:z.n=k.n:=by simpa using List.find?_some hf
  rw[bC (k:=fun k:Kn=>k.n) hn (cI hf) hk ez]
theorem I7{B:aJ}(h:(aa (jA x g j) B).holds w F)(hn:(j.bu.map (·.n)).Nodup){k:Kn}(hk:k∈j.bu): ∃cm kv,w.cell? ⟨x,6,none⟩=some (.map (some cm))∧(∀c,I6 c->(Instr.lookup 81 (.map (some cm)) (.int .i64 c) false).run prog w= .ok (pH (j.bu.map fun k=>(k.n,k.p)) c) w)∧(aa (Dn k.p k.dr kv) (aa (I9 kv k.kept) (ex fun v=>aa (dB x j v) (aa (iU v.cm j.bu) (aa (ib g v.rm j.reqs) (aa (gK g v.tm j.aQ) (aa (all gM (j.bu.filter fun y=>decide (y.n≠k.n))) (aa (all (fc g j.c.re) j.reqs) (aa (all (fD g) j.aQ) (aa (dL g v.rv j.ring) (aa (gN v.pv j.pull) (aa (dh g v.lv j.hp) (aa (hpA g j.hp) B))))))))))))).holds w F∧ ∀f:Kn->Kn,(f k).n=k.n->(f k).p=k.p-> ∀GM w2,Goes (aa (Dn k.p (f k).dr GM) (aa (I9 GM (f k).kept) (ex fun v=>aa (dB x j v) (aa (iU v.cm j.bu) (aa (ib g v.rm j.reqs) (aa (gK g v.tm j.aQ) (aa (all gM (j.bu.filter fun y=>decide (y.n≠k.n))) (aa (all (fc g j.c.re) j.reqs) (aa (all (fD g) j.aQ) (aa (dL g v.rv j.ring) (aa (gN v.pv j.pull) (aa (dh g v.lv j.hp) (aa (hpA g j.hp) B))))))))))))) w F w2->Goes (aa (jA x g {j with bu:=upd (fun k:Kn=>k.n) k.n f j.bu}) B) w F w2:=by
 unfold jA at h;rw[bH]at h;obtain⟨v,h⟩:=h;obtain⟨Gj,oh,_⟩:=aJ.left h;have D:=wJ oh;obtain⟨Gc,hGc⟩:=Wq oh;have h2:=aA h (show _=aa (gM k) (aa (dB x j v) (aa (iU v.cm j.bu) (aa (ib g v.rm j.reqs) (aa (gK g v.tm j.aQ) (aa (all gM (j.bu.filter fun y=>decide (y.n≠k.n))) (aa (all (fc g j.c.re) j.reqs) (aa (all (fD g) j.aQ) (aa (dL g v.rv j.ring) (aa (gN v.pv j.pull) (aa (dh g v.lv j.hp) (aa (hpA g j.hp) B)))))))))))by
  unfold aW;rw[ki (A:=gM) (k:=fun k:Kn=>k.n) hn hk]
  ac_rfl)
 unfold gM at h2;rw[bH]at h2;obtain⟨kv,h2⟩:=h2;refine⟨v.cm,kv,D.1 6,fun c hc=>kV hGc (t:=81) (e:=99) underlying81 (Ia w) c hc, ?_,fun f Zk Gn GM w2 hg=> ?_⟩
 ·have h3:=aA h2 (bA _ _ _);rw[fU,fU];exact⟨v,h3⟩
 ·refine hg.mono fun F' h'=> ?_;rw[fU,fU]at h';obtain⟨v',h'⟩:=h';unfold jA;rw[bH];refine⟨v', ?_⟩;have e1:all gM (upd (fun k:Kn=>k.n) k.n f j.bu)=aa (gM (f k)) (all gM (j.bu.filter fun y=>decide (y.n≠k.n))):=Ig (A:=gM) (k:=fun k:Kn=>k.n) hn hk f;have e2:iU v'.cm (upd (fun k:Kn=>k.n) k.n f j.bu)=iU v'.cm j.bu:=by
   unfold iU;congr 1;refine fR (fun k:Kn=>(k.n,k.p)) (fun y hy ey=> ?_);have:y=k:=bC (k:=fun k:Kn=>k.n) hn hy hk ey;rw[this,Zk,Gn]
  show(aa (aW x g _ v') B).holds w2 F';unfold aW;dsimp only;rw[e1,e2];have h3:(aa (gM (f k)) (aa (dB x j v') (aa (iU v'.cm j.bu) (aa (ib g v'.rm j.reqs) (aa (gK g v'.tm j.aQ) (aa (all gM (j.bu.filter fun y=>decide (y.n≠k.n))) (aa (all (fc g j.c.re) j.reqs) (aa (all (fD g) j.aQ) (aa (dL g v'.rv j.ring) (aa (gN v'.pv j.pull) (aa (dh g v'.lv j.hp) (aa (hpA g j.hp) B)))))))))))).holds w2 F':=by unfold gM;rw[bH];refine⟨GM, ?_⟩;rw[Gn];exact aA h' (bA _ _ _).symm
  refine aA h3 ?_;show _=aa (aa (dB x j v') _) _
  ac_rfl
theorem Jc(hc:gO j=cn){c:Int}{p:Nat}{b:Bs}(h:(c,p,b)∈cn): ∃k∈j.bu,k.n=c∧k.p=p∧k.kept=b:=by rw[<-hc]at h;obtain⟨k,hk,e⟩:=az.1 h;exact⟨k,hk,congrArg Prod.fst e,congrArg (fun y=>y.2.1) e,congrArg (fun y=>y.2.2) e⟩
theorem Un(hr:Rel g j s){k:Kn}(hk:k∈j.bu):s.drains k.n=k.dr:=by rw[<-hr.dr];unfold Js.drains;rw[ZX hr.cnd hk]
theorem Tf(hn:(j.bu.map (·.n)).Nodup){k:Kn}(hk:k∈j.bu):pH (j.bu.map fun k=>(k.n,k.p)) k.n=pt k.p:=
 jy (m:=j.bu.map fun k=>(k.n,k.p)) (by rw[aB];exact hn) (az.2 ⟨k,hk,rfl⟩)
theorem uh(h:(stA base x tb g cn s).holds w F){c:Int}{p:Nat}{b:Bs}(hc:I6 c)(hk:(c,p,b)∈cn):Calls prog 47 #[pt x, .int .i64 c] w fun e w'=>e= .returned (pt p)∧w'=w:=by obtain⟨j,r1,r2,r3,hF,hh⟩:=h;obtain⟨k,Km,rfl,rfl,rfl⟩:=Jc r3 hk;obtain⟨cm,kv,c6,nH,_,_⟩:=I7 hh r1.cnd Km;have hl:=nH k.n hc;rw[Tf r1.cnd Km]at hl;clear hh nH r1 r2 r3;unfold pt at*;go_enter func47,ntmps47;go_wp2;go_ret;exact⟨rfl,rfl⟩
end
theorem erase_filter{l:List Int}(hn:l.Nodup)(c:Int):l.erase c=l.filter (· !=c):=List.Nodup.erase_eq_filter hn c
theorem pI{α:Type}{p:α->Bool}{f:α->α}: ∀{l:List α},(∀y∈l,p y=true->f y=y)->aK p f l=l
 | [],_=>rfl
 |y::l,h=>by
  unfold aK;split
  ·rename_i hp;rw[h y (bY ..) hp]
  ·rw[pI (fun z hz=>h z (aV _ hz))]
theorem CG(hi:Inv s)(ho:Ok s)(hd:s.drains c=true):tq s c=s:=by
 have BQ:=hd;unfold St.drains at BQ;cases hf:s.aq.find? (·.n==c)with
 |none=>rw[hf]at BQ;cases BQ
 |some z=>
  rw[hf]at BQ;have VQ:z.drains=true:=BQ;have hz:=cI hf;have ez:z.n=c:=by simpa using List.find?_some hf
  have e1:s.conn c=s:=by unfold St.conn;rw[if_pos (List.any_eq_true.2 ⟨z,hz,by simpa using ez⟩)]
  have hu: ∀y∈s.aq,(y.n==c)=true->y=z:=fun y hy e=>bC (k:=fun x:Cn=>x.n) hi.cn hy hz (by rw[ez];simpa using e);have e2:aK (fun x=>x.n==c) (fun x=>({x with drains:=true}:Cn)) s.aq=s.aq:=pI fun y hy e=>by rw[hu y hy e,<-VQ]
  have e3:s.wait.filter (· !=c)=s.wait:=List.filter_eq_self.2 fun y hy=>by have:y≠c:=fun e=>(ho.dr z hz VQ).2 (by rw[ez,<-e];exact hy);simpa using this
  unfold tq;rw[e1,e2];show(({s with wait:=s.wait.filter (· !=c)}:St)).fp c=s;rw[e3];unfold St.fp;rw[if_neg];intro h;simp only[bm,beq_iff_eq]at h;obtain⟨h1,h2⟩:=h;obtain⟨y,hy,e⟩:=List.any_eq_true.1 h1;simp only[bm,beq_iff_eq]at e;have:=hu y hy (by simpa using e.1.1);subst this;have hg:y.gone=true:=(ho.dr y hz VQ).1.2 (by rw[ez];exact h2);simp[hg]at e
theorem JN{base x tb:Nat}{g:Gh}{cn:List (Int×Nat×Bs)}{w:World}{F:Ft}(T:Tabs base w)(h:(stA base x tb g cn s).holds w F)(hi:Inv s)(ho:Ok s)(hz:s.sz<=16777000){p:Nat}{b:Bs}(hc:I6 c)(hk:(c,p,b)∈cn):Calls prog 143 #[pt x,pt tb, .int .i64 c] w fun e w'=>e= .returned (.tuple #[])∧Goes (stA base x tb g cn (tq s c)) w F w':=by
 have Ub:=uh h hc hk;have Ew:=hide (Goes.refl h);obtain⟨j,r1,r2,r3,hF,hh⟩:=h;obtain⟨k,Km,rfl,rfl,rfl⟩:=Jc r3 hk;obtain⟨cm,kv,c6,_,Bb,ER⟩:=I7 hh r1.cnd Km;have hblk:=br Bb;have hdk:=Un r1 Km;cases hd:s.drains k.n with
 |true=>
  rw[CG hi ho hd];have c1:w.cell? ⟨k.p,1,none⟩=some (.bool true):=by rw[hblk.1 1];show some (Value.bool k.dr)=_;rw[<-hdk,hd]
  clear T hh Bb ER hblk r1 r2 r3 hF c6;unfold pt at*;generalize k.p=kp at*;go_enter func143,ntmps143;go_wp2_with (first
   |(go_at_call 47;go_must(refine Ub.mono ?_;rintro e w1⟨rfl,rfl⟩)))
  (try simp only[Exit.inBlock,Exit.then])
  exact bodyPost_ret (results_none rfl _ _ _) rfl ⟨rfl,Ew.out⟩
 |false=>
  have c1:w.cell? ⟨k.p,1,none⟩=some (.bool false):=by rw[hblk.1 1];show some (Value.bool k.dr)=_;rw[<-hdk,hd]
  have z1:w.frozen? ⟨k.p,1,none⟩=false:=hblk.2.1 1;have ecn:(s.conn k.n)=s:=by unfold St.conn;obtain⟨y,hy,ey⟩:=az.1 (r1.cin k Km);rw[if_pos (List.any_eq_true.2 ⟨y,hy,by simpa using ey⟩)]
  obtain⟨s1,Xm⟩: ∃s1:St,s1={s with aq:=aK (fun x=>x.n==k.n) (fun x=>{x with drains:=true}) s.aq}:=⟨_,rfl⟩;have edr:tq s k.n=(s1.idle k.n).fp k.n:=by unfold tq;rw[ecn,Xm]
  rw[edr];have R1:Rel g {j with bu:=upd (fun k:Kn=>k.n) k.n (fun k=>{k with dr:=true}) j.bu} s1:=by rw[Xm];exact r1.drain hi k.n (az.2 ⟨k,Km,rfl⟩)
  have I1:Inv s1:=by rw[Xm];exact St.kO hi (fun x=>{x with drains:=true}) (fun _=>rfl) _
  have z1':s1.sz<=16777000:=by rw[Xm];unfold St.sz at hz⊢;dsimp only;rw[cV];exact hz
  have aaq:gO {j with bu:=upd (fun k:Kn=>k.n) k.n (fun k=>{k with dr:=true}) j.bu}=cn:=by rw[<-r3];unfold gO;exact fR _ (fun y _ _=>rfl)
  have HID:Hid (Calls prog 73 #[pt x, .int .i64 k.n] (w.setCell ⟨k.p,1,none⟩ (.bool true)) fun e w2=>e= .returned (.tuple #[])∧
    Hid (Calls prog 127 #[pt x,pt tb, .int .i64 k.n] w2 fun e w3=>e= .returned (.tuple #[])∧Goes (stA base x tb g cn ((s1.idle k.n).fp k.n)) w F w3)):=by
   have g1:=(Goes.refl Bb).store 1 (.bool true);have g2:=ER (fun k=>{k with dr:=true}) rfl rfl kv _ (by refine g1.eq ?_;rfl)
   have T1:=T.goes hF g2;obtain⟨F1,bU,o1,n1⟩:=g2;have wf1:=dJ R1 I1 z1';refine(Bf bU (by have:=wf1.b3;exact this) k.n).mono ?_;rintro e w2⟨rfl,g3⟩;refine⟨rfl, ?_⟩;have Xn:=aC o1 n1 g3;have ewt:j.pull.erase k.n=j.pull.filter (· !=k.n):=erase_filter (by rw[r1.pull];exact hi.wt) k.n;have R2:=R1.idle k.n;have g4:Goes (stA base x tb g cn (s1.idle k.n)) w F w2:=gj (s':=s1.idle k.n) T hF R2 ⟨r2.1,fun y hy=>r2.2 y (aL.1 hy).1⟩ aaq (by
    dsimp only at Xn⊢;rw[<-ewt];have eo:(s1.idle k.n).out=s.out:=by rw[Xm];rfl
    rw[eo];exact Xn)
   have T4:=T.goes hF g4;obtain⟨F4,zq,o4,n4⟩:=g4;have I4:=St.jr I1 k.n;show Calls _ _ _ _ _;refine(Ii T4 zq I4 (ar (St.vz k.n) z1') k.n hc (fun _ _=> ?_) (fun he=>zS I4 he)).mono ?_
   ·obtain⟨y,hy,ey⟩:=az.1 (r1.cin k Km);have hyd:y.drains=false:=by
     cases hyd:y.drains with
     |false=>rfl
     |true=>
      have:s.drains k.n=true:=by
       unfold St.drains;cases hf:s.aq.find? (·.n==k.n)with
       |none=>exact absurd (List.find?_eq_none.1 hf y hy) (by simp[ey])
       |some z=>
        have ez:z.n=k.n:=by simpa using List.find?_some hf
        rw[bC (k:=fun x:Cn=>x.n) hi.cn (cI hf) hy (by rw[ez,ey])];exact hyd
      rw[hd]at this;cases this
    have hyg:=ho.gone y hy hyd;refine List.any_eq_true.2 ⟨{y with drains:=true}, ?_,by simp[ey,hyg]⟩;show _∈s1.aq;rw[Xm];show _∈aK (fun x=>x.n==k.n) (fun x=>({x with drains:=true}:Cn)) s.aq;rw[bK (fun x:Cn=>x.n) k.n _ hi.cn];exact az.2 ⟨y,hy,by simp[ey]⟩
   ·rintro e w3⟨rfl,g5⟩;exact⟨rfl,aC o4 n4 g5⟩
  clear T hh Bb ER hblk r1 r2 r3 hF c6 Ew;unfold pt at*;generalize k.p=kp at*;go_enter func143,ntmps143;go_wp2_with (first
   |(go_at_call 47;go_must(refine Ub.mono ?_;rintro e w1⟨rfl,rfl⟩))
   |(go_at_call 73;go_must(refine HID.out.mono ?_;rintro e w2⟨rfl,L4⟩))
   |(go_at_call 127;go_must(refine L4.out.mono ?_;rintro e w3⟨rfl,iD⟩;have HG3:=hide iD;clear iD)))
  go_end0;exact⟨rfl,HG3.out⟩
variable{g:Gh}{p:Nat}{j:Js}
def Gh.newT(g:Gh)(nm:Bs)(p:Nat):Gh:={g with tp:=fun y=>if y=nm then p else g.tp y}
def Gh.newR(g:Gh)(id:Int)(p:Nat):Gh:={g with rp:=fun y=>if y=id then p else g.rp y}
theorem Gh.tN(g:Gh)(nm:Bs)(p:Nat):(g.newT nm p).tp nm=p:=by simp[Gh.newT]
theorem Gh.tM(g:Gh)(id:Int)(p:Nat):(g.newR id p).rp id=p:=by simp[Gh.newR]
theorem Gh.rT{nm y:Bs}(h:y≠nm):(g.newT nm p).tp y=g.tp y:=by simp[Gh.newT,h]
theorem Gh.rS{id y:Int}(h:y≠id):(g.newR id p).rp y=g.rp y:=by simp[Gh.newR,h]
theorem S9(x:Nat)(g:Gh)(wf:Wf j)(nm:Bs)(p:Nat)(h:nm∉j.aQ.map (·.nm)):jA x (g.newT nm p) j=jA x g j:=by
 have cA: ∀y∈j.aQ.map (·.nm),y≠nm:=fun y hy e=>h (e▸hy);unfold jA;congr 1;funext v;have e1:gK (g.newT nm p) v.tm j.aQ=gK g v.tm j.aQ:=by unfold gK;congr 1;exact bz fun t ht=>by rw[Gh.rT (cA _ (az.2 ⟨t,ht,rfl⟩))]
 have e2:all (fc (g.newT nm p) j.c.re) j.reqs=all (fc g j.c.re) j.reqs:=all_congr fun r hr=>by unfold fc kd ot;rw[Gh.rT (cA _ (wf.fu r hr))];rfl
 have e3:all (fD (g.newT nm p)) j.aQ=all (fD g) j.aQ:=all_congr fun t ht=>by unfold fD kC;rw[Gh.rT (cA _ (az.2 ⟨t,ht,rfl⟩))];rfl
 have e4:dL (g.newT nm p) v.rv j.ring=dL g v.rv j.ring:=by unfold dL;congr 1;exact bz fun y hy=>by rw[Gh.rT (cA _ (wf.ring y hy))]
 unfold aW;rw[e1,e2,e3,e4];rfl
theorem S8(x:Nat)(g:Gh)(wf:Wf j)(EA: ∀a∈j.hp,a.id∈j.reqs.map fun r=>r.q.id)(id:Int)(p:Nat)(h:id∉j.reqs.map fun r=>r.q.id):jA x (g.newR id p) j=jA x g j:=by
 have cA: ∀y∈j.reqs.map (fun r=>r.q.id),y≠id:=fun y hy e=>h (e▸hy);unfold jA;congr 1;funext v;have e1:ib (g.newR id p) v.rm j.reqs=ib g v.rm j.reqs:=by unfold ib;congr 1;exact bz fun t ht=>by rw[Gh.rS (cA _ (az.2 ⟨t,ht,rfl⟩))]
 have e2:all (fc (g.newR id p) j.c.re) j.reqs=all (fc g j.c.re) j.reqs:=all_congr fun r hr=>by unfold fc kd;rw[Gh.rS (cA _ (az.2 ⟨r,hr,rfl⟩))];rfl
 have e3:all (fD (g.newR id p)) j.aQ=all (fD g) j.aQ:=all_congr fun t ht=>by
  unfold fD;congr 1;funext wv;have:jH (g.newR id p) wv t.wt=jH g wv t.wt:=by unfold jH;congr 1;exact bz fun y hy=>by rw[Gh.rS (cA _ (wf.wts t ht y hy))]
  rw[this];rfl
 have e4:hpA (g.newR id p) j.hp=hpA g j.hp:=all_congr fun y hy=>by
  have hb:y.1∈j.hp:=by obtain⟨b,i⟩:=y;have:=List.mem_zipIdx_iff_getElem?.1 hy;exact cJ this
  show fH _ _ _=fH _ _ _;unfold fH mr;rw[Gh.rS (cA _ (EA _ hb))];rfl
 unfold aW;rw[e1,e2,e3,e4];rfl
theorem Rel.gh{g':Gh}{s:St}(h:Rel g j s)(e:g'.sr=g.sr):Rel g' j s:=by
 have ea:fJ g'=fJ g:=by unfold fJ;rw[e]
 exact⟨h.c,h.now,h.begun,h.pull,h.ring,h.reqs,h.al,h.nX,h.wt,h.rn,h.ten,h.zf,h.hp,by rw[ea];exact h.heap,by rw[e];exact h.D8,by rw[e];exact h.oz,h.cnd,h.cin,h.dr⟩
theorem Xb(w:World):(zeroValue 89).run prog w= .ok (.pointer none) w:=by kernel_rfl
section
variable{x:Nat}{g:Gh}{j:Js}{B:aJ}{w w':World}{F:Ft}
theorem P4(h:(aa (jA x g j) B).holds w F)(LW:(j.aQ.map (·.nm)).Nodup)(nm:Bs)(hl:nm.length<=64): ∃tm,w.cell? ⟨x,8,none⟩=some (.map (some tm))∧x<w.heap.size∧(Instr.lookup 83 (.map (some tm)) (bs nm) false).run prog w= .ok (if nm∈j.aQ.map (·.nm)then pt (g.tp nm)else .pointer none) w∧(nm∉j.aQ.map (·.nm)->Wf j-> ∀w1,w1=w.alloc (.cells #[bs nm, .slice none 0 0, .int .i64 0] 92)->w1.cell? ⟨x,8,none⟩=some (.map (some tm))∧ ∃w2,(Instr.mapUpdate 83 (.map (some tm)) (bs nm) (pt w.heap.size)).run prog w1= .ok () w2∧Goes (aa (jA x (g.newT nm w.heap.size) {j with aQ:=j.aQ++ [⟨nm, [],0⟩]}) B) w F w2):=by
 have hA:=h;unfold jA at h;rw[bH]at h;obtain⟨v,hv⟩:=h;obtain⟨Gj,oh,_⟩:=aJ.left hv;have D:=wJ oh;obtain⟨G,hG,_⟩:=aJ.left (aA oh (show _=aa (gK g v.tm j.aQ) (aa (dB x j v) (aa (iU v.cm j.bu) (aa (ib g v.rm j.reqs) (aa (all gM j.bu) (aa (all (fc g j.c.re) j.reqs) (aa (all (fD g) j.aQ) (aa (dL g v.rv j.ring) (aa (gN v.pv j.pull) (aa (dh g v.lv j.hp) (hpA g j.hp))))))))))by unfold aW;ac_rfl));have IV:nm.length<=maxLen:=by unfold maxLen;omega
 refine⟨v.tm,D.1 8,D.2.2, ?_,fun Ba wf w1 i7=> ?_⟩
 ·have nH:=kV hG (t:=83) (e:=89) underlying83 (Xb w) nm IV;have Ko:(Instr.lookup 83 (.map (some v.tm)) (bs nm) false).run prog w= .ok (pH (j.aQ.map fun t=>(t.nm,g.tp t.nm)) nm) w:=nH;rw[Ko];have uw:(j.aQ.map fun t=>(t.nm,g.tp t.nm)).map (·.1)=j.aQ.map (·.nm):=by rw[aB];rfl
  by_cases hm:nm∈j.aQ.map (·.nm)
  ·rw[if_pos hm];obtain⟨t,ht,rfl⟩:=az.1 hm;have:=jy (m:=j.aQ.map fun t=>(t.nm,g.tp t.nm)) (by rw[uw];exact LW) (az.2 ⟨t,ht,rfl⟩);rw[this]
  ·rw[if_neg hm,jx (by rw[uw];exact hm)]
 ·obtain⟨N,hN⟩: ∃N,N=w.heap.size:=⟨_,rfl⟩;rw[<-hN];rw[<-S9 x g wf nm N Ba]at hA;unfold jA at hA;rw[bH]at hA;obtain⟨v',hv'⟩:=hA;change (aa (aW x (g.newT nm N) j v') B).holds w F at hv';have ev:v'.tm=v.tm:=by
   obtain⟨Gj',aaA,_⟩:=aJ.left hv';have:=(wJ aaA).1 8;rw[D.1 8]at this;have h2:some (Value.map (some v.tm))=some (Value.map (some v'.tm)):=this;injection h2 with h2;injection h2 with h2;injection h2 with h2;exact h2.symm
  have g0:=(Goes.refl hv').alloc (.cells #[bs nm, .slice none 0 0, .int .i64 0] 92);rw[<-i7,<-hN]at g0;have g0c:=g0;obtain⟨F1,bU,o1,n1⟩:=g0c;have e1:blk N (.cells #[bs nm, .slice none 0 0, .int .i64 0] 92)=kC (g.newT nm N) ⟨nm, [],0⟩ (.slice none 0 0):=by unfold kC;rw[Gh.tN];rfl
  rw[e1]at bU;obtain⟨Gj1,aaB,_⟩:=aJ.left (aA bU (show _=aa (dB x j v') (aa (kC (g.newT nm N) ⟨nm, [],0⟩ (.slice none 0 0)) (aa (iU v'.cm j.bu) (aa (ib (g.newT nm N) v'.rm j.reqs) (aa (gK (g.newT nm N) v'.tm j.aQ) (aa (all gM j.bu) (aa (all (fc (g.newT nm N) j.c.re) j.reqs) (aa (all (fD (g.newT nm N)) j.aQ) (aa (dL (g.newT nm N) v'.rv j.ring) (aa (gN v'.pv j.pull) (aa (dh (g.newT nm N) v'.lv j.hp) (aa (hpA (g.newT nm N) j.hp) B)))))))))))by unfold aW;ac_rfl));have c8:w1.cell? ⟨x,8,none⟩=some (.map (some v'.tm)):=by simp only[World.cell?,aaB.1];rfl
  rw[ev]at c8;refine⟨c8, ?_⟩;have h3:=aA bU (show _=aa (gK (g.newT nm N) v'.tm j.aQ) (aa (kC (g.newT nm N) ⟨nm, [],0⟩ (.slice none 0 0)) (aa (dB x j v') (aa (iU v'.cm j.bu) (aa (ib (g.newT nm N) v'.rm j.reqs) (aa (all gM j.bu) (aa (all (fc (g.newT nm N) j.c.re) j.reqs) (aa (all (fD (g.newT nm N)) j.aQ) (aa (dL (g.newT nm N) v'.rv j.ring) (aa (gN v'.pv j.pull) (aa (dh (g.newT nm N) v'.lv j.hp) (aa (hpA (g.newT nm N) j.hp) B)))))))))))by unfold aW;ac_rfl);obtain⟨G3,H3,Xq,uX,d3,e3⟩:=h3;obtain⟨w2,zw,fw⟩:=yr Xq underlying83 (by rw[aF];have:=wf.b7;unfold maxLen;omega) nm IV N (by rw[aB];exact Ba);rw[ev]at zw;refine⟨w2,zw,(aC o1 n1 (aO uX fw d3 e3)).mono fun F' h'=> ?_⟩;unfold jA;rw[bH];refine⟨v', ?_⟩;have e4:mapA tI v'.tm ((j.aQ.map fun t=>(t.nm,(g.newT nm N).tp t.nm))++ [(nm,N)])=gK (g.newT nm N) v'.tm (j.aQ++ [⟨nm, [],0⟩]):=by unfold gK;rw[aD];simp only[List.map_cons,List.map_nil,Gh.tN]
  have e5:all (fD (g.newT nm N)) (j.aQ++ [⟨nm, [],0⟩])=aa (fD (g.newT nm N) ⟨nm, [],0⟩) (all (fD (g.newT nm N)) j.aQ):=by rw[all_append,AO,bq]
  show(aa (aW x (g.newT nm N) _ v') B).holds w2 F';unfold aW;dsimp only;rw[<-e4,e5];have h5:(aa (fD (g.newT nm N) ⟨nm, [],0⟩) (aa (mapA tI v'.tm ((j.aQ.map fun t=>(t.nm,(g.newT nm N).tp t.nm))++ [(nm,N)])) (aa (dB x j v') (aa (iU v'.cm j.bu) (aa (ib (g.newT nm N) v'.rm j.reqs) (aa (all gM j.bu) (aa (all (fc (g.newT nm N) j.c.re) j.reqs) (aa (all (fD (g.newT nm N)) j.aQ) (aa (dL (g.newT nm N) v'.rv j.ring) (aa (gN v'.pv j.pull) (aa (dh (g.newT nm N) v'.lv j.hp) (aa (hpA (g.newT nm N) j.hp) B)))))))))))).holds w2 F':=by refine UZ (wv:= .slice none 0 0) ?_;have h6:=aA h' (show _=aa (kC (g.newT nm N) ⟨nm, [],0⟩ (.slice none 0 0)) (aa (mapA tI v'.tm ((j.aQ.map fun t=>(t.nm,(g.newT nm N).tp t.nm))++ [(nm,N)])) (aa (dB x j v') (aa (iU v'.cm j.bu) (aa (ib (g.newT nm N) v'.rm j.reqs) (aa (all gM j.bu) (aa (all (fc (g.newT nm N) j.c.re) j.reqs) (aa (all (fD (g.newT nm N)) j.aQ) (aa (dL (g.newT nm N) v'.rv j.ring) (aa (gN v'.pv j.pull) (aa (dh (g.newT nm N) v'.lv j.hp) (aa (hpA (g.newT nm N) j.hp) B)))))))))))by ac_rfl);obtain⟨Ga,Ha,a1,a2,a3,a4⟩:=h6;exact⟨Ga,Ha,a1,⟨fun _=>False,Ha,fO _ _ _ (fun _ h=>h),a2,fun _ h=>h.elim,fun k=>⟨.inr,fun h=>h.elim False.elim id⟩⟩,a3,a4⟩
  refine aA h5 ?_;show _=aa (aa (dB x j v') _) _
  ac_rfl
end
def Js.ten(j:Js)(nm:Bs):Js:={j with aQ:=if nm∈j.aQ.map (·.nm)then j.aQ else j.aQ++ [⟨nm, [],0⟩]}
theorem Wf.ten{j:Js}(wf:Wf j)(nm:Bs)(hb:j.aQ.length<=16777000):Wf (j.ten nm):=by
 by_cases hm:nm∈j.aQ.map (·.nm)
 ·have:j.ten nm=j:=by unfold Js.ten;rw[if_pos hm]
  rw[this];exact wf
 ·have e:(j.ten nm).aQ=j.aQ++ [⟨nm, [],0⟩]:=by unfold Js.ten;rw[if_neg hm]
  have hme: ∀t∈(j.ten nm).aQ,t∈j.aQ∨t=⟨nm, [],0⟩:=fun t ht=>by
   rw[e]at ht;rcases List.mem_append.1 ht with h|h
   ·exact .inl h
   ·exact .inr (b9.1 h)
  have oq: ∀n,n∈j.aQ.map (·.nm)->n∈(j.ten nm).aQ.map (·.nm):=fun n hn=>by rw[e,aD];exact List.mem_append_left _ hn
  refine⟨wf.rid, ?_,fun t ht i hi=> ?_,fun n hn=>oq n (wf.ring n hn),fun r hr=>oq _ (wf.fu r hr),fun t ht=> ?_,wf.b2,wf.b3,wf.b4,fun t ht=> ?_,wf.b6, ?_,wf.b8,wf.al⟩
  ·rw[e,aD,List.nodup_append];refine⟨wf.nX,by simp,fun a ha b hb e2=>hm ?_⟩;simp at hb;subst hb;exact e2▸ha
  ·rcases hme t ht with h|h
   ·exact wf.wts t h i hi
   ·rw[h]at hi;cases hi
  ·rcases hme t ht with h|h
   ·exact wf.b1 t h
   ·rw[h];simp
  ·rcases hme t ht with h|h
   ·exact wf.b5 t h
   ·rw[h];exact⟨Int.le_refl _,by show(0:Int)<=16777216;omega⟩
  ·rw[e,aH];simp only[List.length_cons,List.length_nil];omega
section
variable{x:Nat}{g:Gh}{j:Js}{B:aJ}{w w':World}{F:Ft}
theorem yN(h:(aa (jA x g j) B).holds w F)(wf:Wf j)(nm:Bs)(hl:nm.length<=64):Calls prog 183 #[pt x,bs nm] w fun e w'=> ∃g',e= .returned (pt (g'.tp nm))∧g'.rp=g.rp∧g'.sr=g.sr∧Goes (aa (jA x g' (j.ten nm)) B) w F w':=by
 obtain⟨tm,c8,Kw,nH,Jz⟩:=P4 h wf.nX nm hl;by_cases hm:nm∈j.aQ.map (·.nm)
 ·have ej:j.ten nm=j:=by unfold Js.ten;rw[if_pos hm]
  rw[ej];rw[if_pos hm]at nH;have HG:=hide (Goes.refl h);clear h Jz;unfold pt bs at*;go_enter func183,ntmps183;go_wp2;go_ret;exact⟨g,rfl,rfl,rfl,HG.out⟩
 ·have ej:j.ten nm={j with aQ:=j.aQ++ [⟨nm, [],0⟩]}:=by unfold Js.ten;rw[if_neg hm]
  rw[ej];rw[if_neg hm]at nH;obtain⟨c8',w2,Kv,hg⟩:=Jz hm wf _ rfl;have HX:Hid (∃g':Gh,(pt w.heap.size)=pt (g'.tp nm)∧g'.rp=g.rp∧g'.sr=g.sr∧Goes (aa (jA x g' {j with aQ:=j.aQ++ [⟨nm, [],0⟩]}) B) w F w2):=⟨g.newT nm w.heap.size,by rw[Gh.tN],rfl,rfl,hg⟩;clear h Jz hg;unfold pt bs at*;go_enter func183,ntmps183;go_wp2;go_ret;obtain⟨g',e1,e2,e3,e4⟩:=HX.out;exact⟨g',by rw[<-e1];rfl,e2,e3,e4⟩
theorem Tq(h:(aa (jA x g j) B).holds w F)(wf:Wf j)(EA: ∀a∈j.hp,a.id∈j.reqs.map fun r=>r.q.id)(hb:j.reqs.length<=16777000)(id c:Int)(ten txt:Bs)(hid:I6 id)(Ba:id∉j.reqs.map fun r=>r.q.id): ∃rm,(w.alloc (.cells #[.int .i64 id, .int .i64 c,pt (g.tp ten),bs txt, .int .i64 0, .int .i64 0, .bool false, .slice none 0 0] 132)).cell? ⟨x,7,none⟩=some (.map (some rm))∧ ∃w2,(Instr.mapUpdate 82 (.map (some rm)) (.int .i64 id) (pt w.heap.size)).run prog (w.alloc (.cells #[.int .i64 id, .int .i64 c,pt (g.tp ten),bs txt, .int .i64 0, .int .i64 0, .bool false, .slice none 0 0] 132)).drew= .ok () w2∧Goes (aa (jA x (g.newR id w.heap.size) {j with reqs:=j.reqs++ [⟨⟨id,c,ten,txt,0,j.c.re,false⟩, []⟩]}) B) w F w2:=by
 obtain⟨N,hN⟩: ∃N,N=w.heap.size:=⟨_,rfl⟩;rw[<-hN];rw[<-S8 x g wf EA id N Ba]at h;unfold jA at h;rw[bH]at h;obtain⟨v,hv⟩:=h;change (aa (aW x (g.newR id N) j v) B).holds w F at hv;obtain⟨w1,i7⟩: ∃w1,w1=w.alloc (.cells #[.int .i64 id, .int .i64 c,pt (g.tp ten),bs txt, .int .i64 0, .int .i64 0, .bool false, .slice none 0 0] 132):=⟨_,rfl⟩;have g0:=(Goes.refl hv).alloc (.cells #[.int .i64 id, .int .i64 c,pt (g.tp ten),bs txt, .int .i64 0, .int .i64 0, .bool false, .slice none 0 0] 132);rw[<-i7,<-hN]at g0;rw[<-i7];obtain⟨F1,bU,o1,n1⟩:=g0;have e1:blk N (.cells #[.int .i64 id, .int .i64 c,pt (g.tp ten),bs txt, .int .i64 0, .int .i64 0, .bool false, .slice none 0 0] 132)=kd (g.newR id N) j.c.re ⟨id,c,ten,txt,0,j.c.re,false⟩ (.slice none 0 0):=by unfold kd ot;rw[Gh.tM];dsimp only;rw[Int.sub_self];rfl
 rw[e1]at bU;have h3:=aA bU (show _=aa (ib (g.newR id N) v.rm j.reqs) (aa (kd (g.newR id N) j.c.re ⟨id,c,ten,txt,0,j.c.re,false⟩ (.slice none 0 0)) (aa (dB x j v) (aa (iU v.cm j.bu) (aa (gK (g.newR id N) v.tm j.aQ) (aa (all gM j.bu) (aa (all (fc (g.newR id N) j.c.re) j.reqs) (aa (all (fD (g.newR id N)) j.aQ) (aa (dL (g.newR id N) v.rv j.ring) (aa (gN v.pv j.pull) (aa (dh (g.newR id N) v.lv j.hp) (aa (hpA (g.newR id N) j.hp) B)))))))))))by unfold aW;ac_rfl);have hd:=br (aA bU (show _=aa (dB x j v) (aa (ib (g.newR id N) v.rm j.reqs) (aa (kd (g.newR id N) j.c.re ⟨id,c,ten,txt,0,j.c.re,false⟩ (.slice none 0 0)) (aa (iU v.cm j.bu) (aa (gK (g.newR id N) v.tm j.aQ) (aa (all gM j.bu) (aa (all (fc (g.newR id N) j.c.re) j.reqs) (aa (all (fD (g.newR id N)) j.aQ) (aa (dL (g.newR id N) v.rv j.ring) (aa (gN v.pv j.pull) (aa (dh (g.newR id N) v.lv j.hp) (aa (hpA (g.newR id N) j.hp) B)))))))))))by unfold aW;ac_rfl));refine⟨v.rm,hd.1 7, ?_⟩;obtain⟨G3,H3,Xq,uX,d3,e3⟩:=bI h3 1;obtain⟨w2,zw,fw⟩:=yr Xq underlying82 (by rw[aF];unfold maxLen;omega) id hid N (by rw[aB];exact Ba);refine⟨w2,zw,(aC o1 n1 (df (q:=1) (aO uX fw d3 e3))).mono fun F' h'=> ?_⟩;unfold jA;rw[bH];refine⟨v, ?_⟩;have e4:mapA iW v.rm ((j.reqs.map fun r=>(r.q.id,(g.newR id N).rp r.q.id))++ [(id,N)])=ib (g.newR id N) v.rm (j.reqs++ [⟨⟨id,c,ten,txt,0,j.c.re,false⟩, []⟩]):=by unfold ib;rw[aD];simp only[List.map_cons,List.map_nil,Gh.tM]
 have e5:all (fc (g.newR id N) j.c.re) (j.reqs++ [⟨⟨id,c,ten,txt,0,j.c.re,false⟩, []⟩])=aa (fc (g.newR id N) j.c.re ⟨⟨id,c,ten,txt,0,j.c.re,false⟩, []⟩) (all (fc (g.newR id N) j.c.re) j.reqs):=by rw[all_append,AO,bq]
 show(aa (aW x (g.newR id N) _ v) B).holds w2 F';unfold aW;dsimp only;rw[<-e4,e5];have h5:(aa (fc (g.newR id N) j.c.re ⟨⟨id,c,ten,txt,0,j.c.re,false⟩, []⟩) (aa (mapA iW v.rm ((j.reqs.map fun r=>(r.q.id,(g.newR id N).rp r.q.id))++ [(id,N)])) (aa (dB x j v) (aa (iU v.cm j.bu) (aa (gK (g.newR id N) v.tm j.aQ) (aa (all gM j.bu) (aa (all (fc (g.newR id N) j.c.re) j.reqs) (aa (all (fD (g.newR id N)) j.aQ) (aa (dL (g.newR id N) v.rv j.ring) (aa (gN v.pv j.pull) (aa (dh (g.newR id N) v.lv j.hp) (aa (hpA (g.newR id N) j.hp) B)))))))))))).holds w2 F':=by have ex0:fc (g.newR id N) j.c.re ⟨⟨id,c,ten,txt,0,j.c.re,false⟩, []⟩=ex fun av=>aa (kd (g.newR id N) j.c.re ⟨id,c,ten,txt,0,j.c.re,false⟩ av) (jh (g.newR id N) av id []):=rfl;rw[ex0,bH];refine⟨.slice none 0 0, ?_⟩;show(aa (aa (kd (g.newR id N) j.c.re ⟨id,c,ten,txt,0,j.c.re,false⟩ (.slice none 0 0)) (jh (g.newR id N) (.slice none 0 0) id [])) _).holds w2 F';rw[bA];have h6:=aA h' (show _=aa (kd (g.newR id N) j.c.re ⟨id,c,ten,txt,0,j.c.re,false⟩ (.slice none 0 0)) (aa (mapA iW v.rm ((j.reqs.map fun r=>(r.q.id,(g.newR id N).rp r.q.id))++ [(id,N)])) (aa (dB x j v) (aa (iU v.cm j.bu) (aa (gK (g.newR id N) v.tm j.aQ) (aa (all gM j.bu) (aa (all (fc (g.newR id N) j.c.re) j.reqs) (aa (all (fD (g.newR id N)) j.aQ) (aa (dL (g.newR id N) v.rv j.ring) (aa (gN v.pv j.pull) (aa (dh (g.newR id N) v.lv j.hp) (aa (hpA (g.newR id N) j.hp) B)))))))))))by ac_rfl);obtain⟨Ga,Ha,a1,a2,a3,a4⟩:=h6;exact⟨Ga,Ha,a1,⟨fun _=>False,Ha,fO _ _ _ (fun _ h=>h),a2,fun _ h=>h.elim,fun k=>⟨.inr,fun h=>h.elim False.elim (fun h=>h)⟩⟩,a3,a4⟩
 refine aA h5 ?_;show _=aa (aa (dB x j v) _) _
 ac_rfl
end
variable{s:St}
theorem D7(id:Int)(t:Bs):said [.s [114,101,106], .n id, .s t]= [114,101,106,32]++bZ id++ [32]++t:=by simp[said,Lib.join,Part.txt]
theorem QG(id:Int):said [.s [97,99,99], .n id]= [97,99,99,32]++bZ id:=by simp[said,Lib.join,Part.txt]
theorem P9(h:Inv s)(r:Rq)(hr:s.req r.id=none):Inv (s.more r):=by
 have UC:r.id∉s.ks.map (·.1):=(St.fresh h hr).2.2;have uw:(s.more r).ks=s.ks++ [(r.id,r.ten)]:=by unfold St.more St.ks;rw[aD];rfl
 refine⟨?_,fun a ha=> ?_,fun l hl=>⟨(h.ring l hl).1,fun i hi=> ?_⟩,h.fu,h.once,h.cn,h.wt⟩
 ·rw[uw,aD,List.nodup_append];refine⟨h.rid,by simp,fun a ha b hb e=>UC ?_⟩;simp at hb;subst hb;exact e▸ha
 ·rw[uw,aD];exact List.mem_append_left _ (h.bF a ha)
 ·rw[uw];exact List.mem_append_left _ ((h.ring l hl).2 i hi)
theorem Qa(r:Rq)(hr:s.req r.id=none):(s.more r).req r.id=some r:=by unfold St.req St.more at*;rw[List.find?_append,hr];simp
theorem Lf(s:St)(c:Int)(t:Bs)(id:Int)(f:Bool):(s.say c t).aX id f=(s.aX id f).say c t:=by unfold St.aX;have:(s.say c t).ten id=s.ten id:=rfl;rw[this];show(if s.ring.any _ then _ else _)=_;split<;>rfl
theorem Sw(hi:Inv s)(J9:1<=s.c.bo)(nm:Bs):(s.ring.any fun l=>l.ten==nm &&decide (s.c.bo<=(l.ids.length:Int)))=decide (s.c.bo<=((s.aS nm).length:Int)):=by
 unfold St.aS;cases hf:s.ring.find? (·.ten==nm)with
 |none=>
  dsimp only;have h1:(s.ring.any fun l=>l.ten==nm &&decide (s.c.bo<=(l.ids.length:Int)))=false:=by rw[List.any_eq_false];intro l hl e;simp only[bm]at e;exact absurd e.1 (by simpa using List.find?_eq_none.1 hf l hl)
  rw[h1];simp;omega
 |some z=>
  dsimp only;have hz:=cI hf;have ez:z.ten=nm:=by simpa using List.find?_some hf
  by_cases hb:s.c.bo<=(z.ids.length:Int)
  ·rw[decide_eq_true hb];exact List.any_eq_true.2 ⟨z,hz,by simp[ez,hb]⟩
  ·rw[decide_eq_false hb,List.any_eq_false];intro l hl e;simp only[bm,decide_eq_true_eq]at e;have:l=z:=bC (k:=fun l:Ln=>l.ten) hi.fu hl hz (by rw[ez];simpa using e.1);subst this;exact hb e.2
theorem Hq{base x tb:Nat}{g:Gh}{cn:List (Int×Nat×Bs)}{w:World}{F:Ft}{n:Nat}(T:Tabs base w)(h:(stA base x tb g cn s).holds w F)(hs:Sd n s)(hn:n<=16775000)(c:Int)(m:Mg)(hid:0<=m.id∧m.id<=999999)(zx:m.ten.length<=64):Calls prog 137 #[pt x,pt tb, .int .i64 c, .agg m.cs] w fun e w'=>e= .returned (.tuple #[])∧ ∃g',Goes (stA base x tb g' cn (s.cf c m)) w F w':=by
 obtain⟨w1,i7⟩: ∃w1,w1=w.alloc (.cells m.cs 149):=⟨_,rfl⟩;obtain⟨bx,uo⟩: ∃bx,bx=w.heap.size:=⟨_,rfl⟩;have tB:Below w.heap.size w w1:=by rw[i7];exact(au _ _).alloc (af _) _
 have T1:=T.new tB;have h1:(stA base x tb g cn s).holds w1 F:=Mr.aI h tB;have hF:=cB h;have lC:bx<w1.heap.size:=by rw[i7,uo];simp
 have NN: ¬F bx:=fun hf=>by have:=aJ.lt _ h bx hf;omega
 have vU: ∀k,w1.cell? ⟨bx,k,none⟩=m.cs[k]?:=fun k=>by rw[i7,uo];simp only[World.cell?,heap_alloc_new];rfl
 have oa:Hid (∀(g2:Gh) (s2:St) w',Goes (stA base x tb g2 cn s2) w1 F w'->Goes (stA base x tb g2 cn s2) w F w'):=fun g2 s2 w' hg=>by rw[i7]at hg;exact dx hg
 have hz:=hs.sz;have b1:w1.cell? ⟨bx,1,none⟩=some (.int .i64 m.id):=vU 1;have b3:w1.cell? ⟨bx,3,none⟩=some (.string ⟨m.ten.toArray⟩):=vU 3;have b4:w1.cell? ⟨bx,4,none⟩=some (.string ⟨m.txt.toArray⟩):=vU 4;have hi6:I6 m.id:=I6.of (by omega) (by omega);obtain⟨rm,c7,Kw,AA⟩:=yn h1 hs.inv m.id hi6;have nH:=AA w1.drew (au _ _).drew;have NP: ∀b:Bs,b.length<=64-> ∀p∈ [Part.s [114,101,106],Part.n m.id,Part.s b],p.ok:=fun b hl p hp=>by
  simp only[List.mem_cons,List.not_mem_nil,or_false]at hp;rcases hp with rfl|rfl|rfl
  ·exact Part.tO (by decide)
  ·exact Part.Bz (wF hid)
  ·exact Part.tO hl
 have HW:=hide i7;have L3:=hide uo;cases hq:s.req m.id with
 |some q=>
  have es:s.cf c m=s.say c ([114,101,106,32]++bZ m.id++ [32,100,117,112]):=by unfold St.cf;rw[hq];rfl
  rw[es];rw[hq]at nH;have j8:=hide (kA T1 h1 (by omega) c [.s [114,101,106], .n m.id, .s [100,117,112]] ([114,101,106,32]++bZ m.id++ [32,100,117,112]) (by rw[D7];simp) (by simp) (by simp) (NP _ (by decide)));clear T h hs tB T1 h1 vU i7 uo AA NP;unfold pt Mg.cs at*;generalize g.rp m.id=rp at*;go_enter func137,ntmps137;go_wp2_with fail;rw[<-L3.out,<-HW.out];go_region_with (fail)
  all_goals
   go_wp2_with (first
    |(go_at_call 89;go_must(refine(j8.out _).mono ?_;rintro e w5⟨rfl,kq⟩;have RB:=hide (oa.out _ _ _ kq);clear kq)))
   (try simp only[Exit.inBlock,Exit.then])
   exact bodyPost_ret (results_none rfl _ _ _) rfl ⟨rfl,_,RB.out⟩
 |none=>
  rw[hq]at nH;have J9:=hs.bd.c.bo;have VS:=Sw hs.inv J9.1 m.ten;obtain⟨q,eq⟩: ∃q:Rq,q=⟨m.id,c,m.ten,m.txt,0,s.c.re,false⟩:=⟨_,rfl⟩;have eqi:q.id=m.id:=by rw[eq]
  have hqn:s.req q.id=none:=by rw[eqi];exact hq
  have hIm:=P9 hs.inv q hqn;have hzm:(s.more q).sz<=16777000:=by unfold St.sz at hz⊢;show s.out.length+4*s.ah.length+8*s.wait.length+(s.reqs++ [q]).length+s.aq.length+s.begun<=_;rw[aH];simp only[List.length_cons,List.length_nil];omega
  have wE:=Qa q hqn;rw[eqi]at wE;have hwm:(s.more q).waits m.id=false:=(St.fresh hs.inv hq).2.1;have hIw:=St.je hIm (id:=m.id) (by obtain⟨r,hr,e⟩:=az.1 (show(m.id,m.ten)∈(s.more q).ks by unfold St.ks St.more;rw[aD];exact List.mem_append_right _ (by rw[eq];simp));exact az.2 ⟨_,az.2 ⟨r,hr,rfl⟩,by rw[e]⟩) hwm false
  have hzw:((s.more q).aX m.id false).sz<=16777000:=by rw[St.nk];exact hzm
  have hqw:((s.more q).aX m.id false).req m.id=some q:=by
   have:((s.more q).aX m.id false).reqs=(s.more q).reqs:=by unfold St.aX;split<;>rfl
   unfold St.req at wE⊢;rw[this];exact wE
  have Vd:Hid (∀nq,Calls prog 183 #[pt x,bs m.ten] (w1.drewN nq) fun e w2=> ∃g':Gh,e= .returned (pt (g'.tp m.ten))∧ ∀nr,∃ao cap,
    ((w2.drewN nr).cell? ⟨bx,1,none⟩=some (.int .i64 m.id)∧(w2.drewN nr).cell? ⟨bx,4,none⟩=some (.string ⟨m.txt.toArray⟩)∧(w2.drewN nr).cell? ⟨g'.tp m.ten,1,none⟩=some (.slice ao (s.aS m.ten).length cap)∧(w2.drewN nr).cell? ⟨x,3,none⟩=some (.int .i64 s.c.bo))∧
    Hid (s.c.bo<=((s.aS m.ten).length:Int)-> ∀ns,Calls prog 89 #[pt tb, .int .i64 c, .slice (some ⟨(w2.drewN nr).heap.size,0,none⟩) 3 3] (((w2.drewN nr).alloc (.cells #[.iface 9 (.string ⟨#[114,101,106]⟩), .iface 3 (.int .i64 m.id), .iface 9 (.string ⟨#[102,117,108,108]⟩)] 20)).drewN ns) fun e w5=>e= .returned (.tuple #[])∧ ∃Nq,Goes (stA base x tb Nq cn (s.say c ([114,101,106,32]++bZ m.id++ [32,102,117,108,108]))) w F w5)∧
    Hid (¬s.c.bo<=((s.aS m.ten).length:Int)-> ∃rm w4,((w2.drewN nr).alloc (.cells #[.int .i64 m.id, .int .i64 c,pt (g'.tp m.ten),bs m.txt, .int .i64 0, .int .i64 0, .bool false, .slice none 0 0] 132)).cell? ⟨x,7,none⟩=some (.map (some rm))∧
     (Instr.mapUpdate 82 (.map (some rm)) (.int .i64 m.id) (pt (w2.drewN nr).heap.size)).run prog ((w2.drewN nr).alloc (.cells #[.int .i64 m.id, .int .i64 c,pt (g'.tp m.ten),bs m.txt, .int .i64 0, .int .i64 0, .bool false, .slice none 0 0] 132)).drew= .ok () w4∧
     Hid (Calls prog 70 #[pt x,pt (w2.drewN nr).heap.size] w4 fun e w5=>e= .returned (.tuple #[])∧w5.cell? ⟨(w2.drewN nr).heap.size,0,none⟩=some (.int .i64 m.id)∧
      Hid (∀ns,Calls prog 89 #[pt tb, .int .i64 c, .slice (some ⟨w5.heap.size,0,none⟩) 2 2] ((w5.alloc (.cells #[.iface 9 (.string ⟨#[97,99,99]⟩), .iface 3 (.int .i64 m.id)] 20)).drewN ns) fun e w6=>e= .returned (.tuple #[])∧ ∃Nq,Goes (stA base x tb Nq cn (((s.more q).aX m.id false).say c ([97,99,99,32]++bZ m.id))) w F w6)))):=fun nq=>by
   have h1q:=bI h1 nq;obtain⟨j,r1,r2,r3,_,hh⟩:=h1q;have wf:=dJ r1 hs.inv (by omega);have Wh:j.aQ.length<=16777000:=by have:=r1.Z7;unfold St.sz at hz;omega
   refine(yN hh wf m.ten zx).mono ?_;rintro e w2⟨g',rfl,erp,esr,fw⟩;refine⟨g',rfl,fun nr=> ?_⟩;have SK:=df (fw.drewN nr);have T2:=T1.goes hF SK;have aaM:=SK;obtain⟨F2,gV,o2,n2⟩:=aaM;have wf2:=wf.ten m.ten Wh;obtain⟨t,ht,etn,etw⟩: ∃t∈(j.ten m.ten).aQ,t.nm=m.ten∧t.wt=s.aS m.ten:=by
    by_cases EC:m.ten∈j.aQ.map (·.nm)
    ·obtain⟨t,ht,e⟩:=az.1 EC;refine⟨t,by unfold Js.ten;rw[if_pos EC];exact ht,e,by rw[r1.wt t ht,e]⟩
    ·refine⟨⟨m.ten, [],0⟩,by unfold Js.ten;rw[if_neg EC];simp,rfl, ?_⟩;unfold St.aS;cases hf:s.ring.find? (·.ten==m.ten)with
     |none=>rfl
     |some l=>
      have el:l.ten=m.ten:=by simpa using List.find?_some hf
      exact absurd (wf.ring l.ten (by rw[r1.ring];exact az.2 ⟨l,cI hf,rfl⟩)) (by rw[el];exact EC)
   have VF:=gV;unfold jA at VF;rw[bH]at VF;obtain⟨v,hv⟩:=VF;obtain⟨Gj,oh,_⟩:=aJ.left hv;have D:=wJ oh;obtain⟨wv,Gw,htb,zb⟩:=Oc oh ht;obtain⟨ao,cap,ewv⟩:=aR (Goes.refl zb);have cb: ∀k,(w2.drewN nr).cell? ⟨bx,k,none⟩=m.cs[k]?:=fun k=>by rw[o2.cell (p:=⟨bx,k,none⟩) lC NN];exact vU k
   refine⟨ao,cap,⟨cb 1,cb 4, ?_, ?_⟩,fun rI ns=> ?_,fun uy=> ?_⟩
   ·rw[<-etn];simp only[World.cell?,htb];show some wv=_;rw[ewv,etw,etn]
   ·rw[D.1 3];show some (Value.int .i64 j.c.bo)=_;rw[r1.c]
   ·
    have EC:m.ten∈j.aQ.map (·.nm):=by
     by_cases EC:m.ten∈j.aQ.map (·.nm)
     ·exact EC
     ·have:s.aS m.ten= []:=by
       unfold St.aS;cases hf:s.ring.find? (·.ten==m.ten)with
       |none=>rfl
       |some l=>
        have el:l.ten=m.ten:=by simpa using List.find?_some hf
        exact absurd (wf.ring l.ten (by rw[r1.ring];exact az.2 ⟨l,cI hf,rfl⟩)) (by rw[el];exact EC)
      rw[this]at rI;simp at rI;omega
    have ej:j.ten m.ten=j:=by unfold Js.ten;rw[if_pos EC]
    rw[ej]at SK;have ED:Goes (stA base x tb g' cn s) w1 F (w2.drewN nr):=gj (s':=s) T1 hF (r1.gh esr) r2 r3 SK;obtain⟨F3,mB,o3,n3⟩:=ED;refine(kA T2 mB (by omega) c [.s [114,101,106], .n m.id, .s [102,117,108,108]] ([114,101,106,32]++bZ m.id++ [32,102,117,108,108]) (by rw[D7];simp) (by simp) (by simp) (NP _ (by decide)) ns).mono ?_;rintro e w5⟨rfl,g5⟩;exact⟨rfl,g',oa.out _ _ _ (aC o3 n3 g5)⟩
   ·have nJ:j.reqs.length<=16777000:=by
     have:j.reqs.length=s.reqs.length:=by rw[<-r1.reqs,aF]
     unfold St.sz at hz;omega
    have uw:(j.reqs.map fun r=>r.q.id)=s.reqs.map (·.id):=by rw[<-r1.reqs,aB];rfl
    obtain⟨rm,c7',w4,Kv,uu⟩:=Tq gV wf2 (fun a ha=>by
      obtain⟨r,hr,t',C9,er,_⟩:=Hd r1 hs.inv (r1.hp.subset ha);exact az.2 ⟨r,hr,er⟩) nJ m.id c m.ten m.txt hi6 (by
      show m.id∉j.reqs.map fun r=>r.q.id;rw[uw];intro EC;obtain⟨r,hr,e⟩:=az.1 EC;exact List.find?_eq_none.1 hq r hr (by simpa using e))
    refine⟨rm,w4,c7',Kv, ?_⟩;have Zn:=aC o2 n2 uu;have ejm:({j.ten m.ten with reqs:=(j.ten m.ten).reqs++ [⟨⟨m.id,c,m.ten,m.txt,0,(j.ten m.ten).c.re,false⟩, []⟩]}:Js)=j.more q:=by unfold Js.more Js.ten;rw[eq];dsimp only;rw[r1.c]
    rw[ejm]at Zn;have hR:Rel (g'.newR m.id (w2.drewN nr).heap.size) (j.more q) (s.more q):=(r1.more hs.inv q hqn).gh (show(g'.newR m.id _).sr=g.sr from esr);have ED:Goes (stA base x tb (g'.newR m.id (w2.drewN nr).heap.size) cn (s.more q)) w1 F w4:=gj (s':=s.more q) T1 hF hR r2 r3 Zn;have T4:=T1.goes hF ED;have YU:(g'.newR m.id (w2.drewN nr).heap.size).rp m.id=(w2.drewN nr).heap.size:=Gh.tM _ _ _;obtain⟨F4,zq,o4,n4⟩:=ED;show Calls _ _ _ _ _;have iA:=uS T4 zq hIm hzm wE;rw[YU]at iA;refine iA.mono ?_;rintro e w5⟨rfl,g5⟩;have g5':=aC o4 n4 g5;have T5:=T1.goes hF g5';obtain⟨F5,J2,o5,n5⟩:=g5';obtain⟨_,_,_,_,RA⟩:=fL J2 hIw hzw hqw;have ci:=RA.ci;rw[YU]at ci;refine⟨rfl,ci,fun ns=> ?_⟩;refine(kA T5 J2 hzw c [.s [97,99,99], .n m.id] ([97,99,99,32]++bZ m.id) (QG _) (by simp) (by simp) (by
     intro p hp;simp only[List.mem_cons,List.not_mem_nil,or_false]at hp;rcases hp with rfl|rfl
     ·exact Part.tO (by decide)
     ·exact Part.Bz (wF hid)) ns).mono ?_
    rintro e w6⟨rfl,g6⟩;exact⟨rfl,_,oa.out _ _ _ (aC o5 n5 g6)⟩
  have abE:(s.aS m.ten).length<=16777210:=by
   unfold St.aS;split
   ·rename_i l hl;have:=St.I3 hs.inv (cI hl);unfold St.sz at hz;omega
   ·simp
  by_cases rI:s.c.bo<=((s.aS m.ten).length:Int)
  ·have es:s.cf c m=s.say c ([114,101,106,32]++bZ m.id++ [32,102,117,108,108]):=by
    unfold St.cf;rw[hq,if_neg (by simp),if_pos (by rw[VS];simpa using rI)]
   rw[es];clear T h hs tB T1 h1 vU i7 uo AA NP VS hIm hIw hqw wE hwm hzm hzw;unfold pt Mg.cs bs at*;generalize(s.aS m.ten).length=nw at*;go_enter func137,ntmps137;go_wp2_with fail;rw[<-L3.out,<-HW.out];go_region_with (fail)
   all_goals
    go_wp2_with (first
     |(go_at_call 183;go_must(refine(Vd.out _).mono ?_;rintro e w2⟨g',rfl,V7⟩;obtain⟨ao,cap,⟨y1,y2,y3,y4⟩,HSF,_⟩:=V7 0;clear V7;change w2.cell? _=_ at y1;change w2.cell? _=_ at y2;change w2.cell? _=_ at y3;change w2.cell? _=_ at y4;have HSG:=hide (HSF.out rI);clear HSF)))
    go_quiet (fail)
    go_wp2_with (first
     |(go_at_call 89;go_must(refine(HSG.out _).mono ?_;rintro e w5⟨rfl,kq⟩;have RB:=hide kq;clear kq)))
    (try simp only[Exit.inBlock,Exit.then])
    exact bodyPost_ret (results_none rfl _ _ _) rfl ⟨rfl,RB.out⟩
  ·have es:s.cf c m=((s.more q).aX m.id false).say c ([97,99,99,32]++bZ m.id):=by
    unfold St.cf;rw[hq,if_neg (by simp),if_neg (by rw[VS];simpa using rI)];rw[Lf,eq];rfl
   rw[es];have hfl:decide (s.c.bo<=((s.aS m.ten).length:Int))=false:=by simpa using rI
   have HFU:=hide rI;clear T h hs tB T1 h1 vU i7 uo AA NP VS hIm hIw hqw wE hwm hzm hzw rI;unfold pt Mg.cs bs at*;generalize(s.aS m.ten).length=nw at*;go_enter func137,ntmps137;go_wp2_with fail;rw[<-L3.out,<-HW.out];go_region_with (fail)
   all_goals
    go_wp2_with (first
     |(go_at_call 183;go_must(refine(Vd.out _).mono ?_;rintro e w2⟨g',rfl,V7⟩;have HP2:=hide V7;obtain⟨ao,cap,⟨y1,y2,y3,y4⟩,_,_⟩:=V7 0;clear V7;change w2.cell? _=_ at y1;change w2.cell? _=_ at y2;change w2.cell? _=_ at y3;change w2.cell? _=_ at y4)))
    generalize g'.tp m.ten=tp at*
    go_quiet (fail)
    obtain⟨_,_,⟨u1,u2,_,_⟩,_,Ug⟩:=HP2.out nq;obtain⟨rm',w4,k1,k2,Yl⟩:=Ug.out HFU.out;clear HP2 Ug y1 y2 y3 y4 Vd;generalize w2.drewN nq=w3 at*;go_wp2_with fail;go_region_with (fail)
    all_goals
     go_wp2_with (first
      |(go_at_call 70;go_must(refine Yl.out.mono ?_;rintro e w5⟨rfl,y5,j8⟩;clear Yl))
      |(go_at_call 89;go_must(refine(j8.out 0).mono ?_;rintro e w6⟨rfl,tD⟩;have RD:=hide tD;clear tD)))
     go_end0;exact⟨rfl,RD.out⟩
variable{n base x tb:Nat}{s:St}{g:Gh}{cn:List (Int×Nat×Bs)}{w:World}{F:Ft}
theorem Sd.Wz(h:Sd n s)(c:Int)(t:Bs){i:Nat}{a:At}(ha:s.ah[i]?=some a)(id:Int):Sd n (((s.say c t).aZ i).again id true):=by have h1:=h.say c t;have h2:Inv ((s.say c t).aZ i):=St.bg h1.inv i;refine⟨St.dn h2 id true,(h1.ok.aZ h1.inv i).again h2 id true, ?_,(h1.bd.aZ i).again h2 id true⟩;have e1:=St.lO (s:=s.say c t) (i:=i) (a:=a) ha;have e2:=h1.sz;have e3:=St.vN (s:=(s.say c t).aZ i) id true;omega
structure aai(g:Gh)(x:Nat)(s:St)(hp:List At)(w:World)(ao:Option Addr)(cap:Nat):Prop where
 le:w.cell? ⟨x,11,none⟩=some (.slice ao s.ah.length cap)
 le0: ∀b l,hp=b::l-> ∃bb off,ao=some ⟨bb,off,none⟩∧w.cell? ⟨bb,off,none⟩=some (pt (g.ap (key b)))∧w.cell? ⟨g.ap (key b),5,none⟩=some (.int .i64 b.fx)∧w.cell? ⟨g.ap (key b),1,none⟩=some (pt (g.rp b.id))
 now:w.cell? ⟨x,5,none⟩=some (.int .i64 s.now)
 len:hp.length=s.ah.length∧s.ah.length<=16777190
theorem Ac(h:(stA base x tb g cn s).holds w F)(hi:Inv s)(hz:s.sz<=16777000): ∃j ao cap,Rel g j s∧aai g x s j.hp w ao cap:=by
 obtain⟨j,r1,r2,r3,hF,hh⟩:=h;have wf:=dJ r1 hi hz;unfold jA at hh;rw[bH]at hh;obtain⟨v,hv⟩:=hh;obtain⟨Gj,oh,_⟩:=aJ.left hv;have D:=wJ oh;obtain⟨⟨Gl,vu⟩,mN⟩:=Ob oh;obtain⟨ao,cap,JO⟩:=aR (Goes.refl vu);have hl:=r1.hp.length_eq;refine⟨j,ao,cap,r1,by rw[D.1 11];show some v.lv=_;rw[JO,hl],fun b l hb=> ?_,by rw[D.1 5];show some (Value.int .i64 j.now)=_;rw[r1.now],⟨hl,by have:=wf.b4;omega⟩⟩;unfold dh at vu;rw[JO,hb,List.map_cons]at vu;obtain⟨bb,off,cp,e1,e2⟩:=nT vu (by simp);cases e1;have h0:=mN 0 (by rw[hb];simp);have e0:j.hp[0]'(by rw[hb];simp)=b:=by simp[hb]
 rw[e0]at h0;exact⟨bb,off,rfl,e2,by simp only[World.cell?,h0];rfl,by simp only[World.cell?,h0];rfl⟩
def Dr(x:Nat)(w:World):Nat:=match w.cell? ⟨x,11,none⟩with|some (.slice _ n _)=>n|_=>0
structure AG(base x tb:Nat)(g:Gh)(cn:List (Int×Nat×Bs))(n:Nat)(s:St)(w:World)(F:Ft)(s':St)(wr:World):Prop where
 sd:Sd n s'
 busy:Busy s' (fun _=>False)
 goes:Goes (stA base x tb g cn s') w F wr
 done: ∃f,s'.ah.length<=f∧St.bV f s'=St.bV s.ah.length s
theorem zj(s:St)(id:Int)(b:Bool):(s.again id b).ah.length<=s.ah.length:=by
 unfold St.again;split
 ·exact af _
 ·split
  ·exact af _
  ·split
   ·exact((St.jc _ _ _).sub.length_le:((St.stops _ _ _).left _).ah.length<=_)
   ·split
    ·rw[show∀t:St,(t.aX id true).ah=t.ah from fun t=>by unfold St.aX;split<;>rfl];exact af _
    ·rw[show∀t:St,(t.aX id true).ah=t.ah from fun t=>by unfold St.aX;split<;>rfl];exact af _
theorem KD(T:Tabs base w)(h:(stA base x tb g cn s).holds w F)(hs:Sd n s)(hn:n<=16774000)(hb:Busy s (fun _=>False)):Calls prog 40 #[pt x,pt tb] w fun e w'=>e= .returned (.tuple #[])∧Goes (stA base x tb g cn (St.bV s.ah.length s)) w F w':=by
 have yV:Hid (AG base x tb g cn n s w F s w):=⟨hs,hb,Goes.refl h,_,af _,rfl⟩;have HT:=hide T;have HF:=hide (cB h);clear hs hb h T;unfold pt;go_enter func40,ntmps40;go_wp2;go_loopw [] (fun wr=> ∃s':St,Hid (AG base x tb g cn n s w F s' wr)) (fun wr=>Dr x wr)
 case atStart=>exact⟨s,yV⟩
 case round=>
  obtain⟨s',iC⟩:=hrel;have hz:=iC.out.sd.sz;obtain⟨F1,bU,o1,n1⟩:=iC.out.goes;have T1:=HT.out.goes HF.out iC.out.goes;obtain⟨j,ao,cap,r1,LX⟩:=Ac bU iC.out.sd.inv (by omega);have uU:Hid (Dr x wr=s'.ah.length):=by show(_=_);unfold Dr;rw[LX.le]
  have c11:=LX.le;have c5:=LX.now;have hl:=LX.len;have U3:Hid (s'.due=none-> ∀q,Goes (stA base x tb g cn (St.bV s.ah.length s)) w F (wr.drewN q)):=fun hd q=>by obtain⟨f,_,e⟩:=iC.out.done;rw[St.GN hd]at e;rw[<-e];exact iC.out.goes.drewN q
  cases EA:j.hp with
  |nil=>
   have hd:=U3.out (r1.CI (fun a ha=>by rw[EA]at ha;cases ha));have h0:s'.ah.length=0:=by rw[<-hl.1,EA];rfl
   rw[h0]at c11;have HD:=hide hd;clear iC bU o1 n1 T1 LX r1 U3 yV HT HF hd;go_wp2_with fail
   go_quiet (fail)
   go_wp2;go_end0;exact⟨rfl,HD.out _⟩
  |cons b l=>
   obtain⟨bb,off,rfl,d1,d2,d3⟩:=LX.le0 b l EA;have A9:s'.ah.length=l.length+1:=by rw[<-hl.1,EA];rfl
   have NU:(0:Int)<((l.length:Nat):Int)+1:=by omega
   by_cases ht:b.fx<=s'.now
   ·obtain⟨i,hdi,pY⟩:=r1.Nc (by rw[EA];rfl) ht;have pE:=cJ pY;obtain⟨q,hq,_,GD⟩:=St.cu (iC.out.sd.inv.bF b pE);have htt:decide (b.fx<=s'.now)=true:=by simpa using ht
    have AD:Hid (∀nq,Calls prog 66 #[pt x,pt tb,pt (g.ap (key b))] (wr.drewN nq) fun e w2=>e= .returned (.tuple #[])∧w2.cell? ⟨g.ap (key b),1,none⟩=some (pt (g.rp b.id))∧
      Hid (Calls prog 67 #[pt x,pt tb,pt (g.rp b.id)] w2 fun e w3=>e= .returned (.tuple #[])∧ ∃uM,AG base x tb g cn n s w F uM w3∧Dr x w3<s'.ah.length)):=fun nq=>by
     refine(Ee (T1.below (s8 (au _ _) nq)) (bI bU nq) iC.out.sd (by omega) pY).mono ?_;rintro e w2⟨rfl,k,hg⟩;have hgc:=hg;obtain⟨F2',aaw,_⟩:=hgc;have mN:=(cK (aA aaw (bq _ _))).1;refine⟨rfl,by simp only[World.cell?,mN];rfl, ?_⟩;have jI:=aC o1 n1 (df hg.drop);have T2:=HT.out.goes HF.out jI;obtain⟨F2,gV,o2,n2⟩:=jI;have uz:=iC.out.sd.stop b.conn (St.aU b.id b.n) pY;have Rp:((s'.say b.conn (St.aU b.id b.n)).aZ i).req b.id=some q:=by rw[mZ];exact hq
     have zZ:Busy ((s'.say b.conn (St.aU b.id b.n)).aZ i) (fun y=>False∨y=b.id):=Busy.aZ (i:=i) (a:=b) (iC.out.busy.say b.conn (St.aU b.id b.n)) pY;show Calls _ _ _ _ _;refine(zJ T2 gV uz (by omega) Rp (zZ.mono (fun y hy=>hy.elim False.elim (fun h=>h)))).mono ?_;rintro e w3⟨rfl,iD⟩;have Gs:=aC o2 n2 iD;have Bc:=iC.out.sd.Wz b.conn (St.aU b.id b.n) pY b.id;have hle:=zj ((s'.say b.conn (St.aU b.id b.n)).aZ i) b.id true;have hel:((s'.say b.conn (St.aU b.id b.n)).aZ i).ah.length+1=s'.ah.length:=by rw[wk (s:=s'.say b.conn (St.aU b.id b.n)) pY,(q8 _ _).1];show(s'.ah.eraseIdx i).length+1=_;have hlen:i<s'.ah.length:=(cz.1 pY).1;rw[List.length_eraseIdx_of_lt hlen];omega
     refine⟨rfl,_,⟨Bc,Busy.again zZ uz.inv true,Gs, ?_⟩, ?_⟩
     ·obtain⟨f,hf,e⟩:=iC.out.done;obtain⟨f',rfl⟩: ∃f',f=f'+1:=⟨f-1,by omega⟩;rw[St.GP hdi pY]at e;exact⟨f',by omega,e⟩
     ·obtain⟨F3,mB,_⟩:=Gs;obtain⟨j3,fE,cT,r3,LX3⟩:=Ac mB Bc.inv (by have:=Bc.sz;omega);unfold Dr;rw[LX3.le];dsimp only;omega
    rw[A9]at c11 uU AD hl;clear iC bU o1 n1 T1 LX r1 U3 yV HT HF EA pY hdi pE hq GD;unfold pt at*;generalize g.ap (key b)=ap at*;generalize g.rp b.id=rp at*;generalize l.length=ln at*;go_wp2_with fail
    go_quiet (fail)
    go_wp2_with (first
     |(go_at_call 66;go_must(refine(AD.out _).mono ?_;rintro e w2⟨rfl,y1,HCA⟩;clear AD))
     |(go_at_call 67;go_must(refine HCA.out.mono ?_;rintro e w3⟨rfl,uM,hlp,UB⟩;have HLP:=hide hlp;have Ya:=hide UB;clear hlp UB HCA)))
    go_roundw
    case rel=>exact⟨uM,HLP⟩
    case measure=>have:=Ya.out;have:=uU.out;omega
   ·have hd:=U3.out (r1.CI (fun a ha=>by rw[EA]at ha;simp at ha;rw[<-ha];omega));have htt:decide (b.fx<=s'.now)=false:=by simpa using ht
    have HD:=hide hd;rw[A9]at c11 hl;clear iC bU o1 n1 T1 LX r1 U3 yV HT HF hd EA;unfold pt at*;generalize g.ap (key b)=ap at*;generalize l.length=ln at*;go_wp2_with fail
    go_quiet (fail)
    go_wp2;go_end0;exact⟨rfl,HD.out _⟩
