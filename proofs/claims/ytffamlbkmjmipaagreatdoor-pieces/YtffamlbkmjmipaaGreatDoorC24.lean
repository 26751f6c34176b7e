import Derived.Test.YtffamlbkmjmipaaGreatDoorC23
set_option maxHeartbeats 8000000
set_option maxRecDepth 100000
namespace Go.Proofs.YtffamlbkmjmipaaGreatDoor
open _root_.Go.Proofs.Tryz
namespace Pj
open Go.RowKit aD Mc bA
attribute [local go_sem] ae ah
theorem JX:(prog.info? 3).map (fun i=>(i.zero,i.size,i.bytes))=some (some (.int .i64 0),1,8):=by kernel_rfl
def ru(s:St)(c:Int):St:=if s.wait.any (· ==c)then s else if(s.conn c).drains c then s.conn c else{s.conn c with wait:=(s.conn c).wait++ [c]}
theorem SX(v:Value)(l:List Int)(x:Int)(w:World)(G:Ft)(h:(rowA 3 1 v l.length (l.map fun i=> .int .i64 i)).holds w G)(hl:l.length<=16777216):Calls prog 184 #[v, .int .i64 x] w fun e w'=>e= .returned (.bool (decide (x∈l)))∧w'=w:=by
 have mU:=ixN v l x w G h hl;have HE:=J6 (l:=l) (x:=x);obtain⟨ao,cap,rfl,_⟩:=Mr.cE h;rw[<-HE];clear h HE;generalize Mr.uM (l.findIdx? fun y=>decide (y=x))=ii at*;go_enter func184,ntmps184;go_wp2_with (first
  |(go_at_call 154;go_must(refine mU.mono ?_;rintro e w1⟨rfl,rfl⟩)))
 go_ret;exact⟨rfl,rfl⟩
section
variable{x:Nat}{g:Gh}{j:Js}{B:aD}{w w':World}{F:Ft}
theorem X0(h:(aa (jA x g j) B).holds w F): ∃pv G,w.cell? ⟨x,10,none⟩=some pv∧(gm pv j.pull).holds w G∧ ∀AU CU w2,Goes (gm CU AU) w G w2->w2.cell? ⟨x,10,none⟩=some pv∧w2.frozen? ⟨x,10,none⟩=false∧Goes (aa (jA x g {j with pull:=AU}) B) w F (w2.setCell ⟨x,10,none⟩ CU):=by
 unfold jA at h;rw[bF]at h;obtain⟨v,h⟩:=h;have h2:=aw h (show _=aa (gm v.pv j.pull) (aa (dB x j v) (aa (iu v.cm j.br) (aa (gJ g v.rm j.reqs) (aa (fW g v.tm j.aI) (aa (all gi j.br) (aa (all (dP g j.c.re) j.reqs) (aa (all (eC g) j.aI) (aa (dF g v.rv j.ring) (aa (dm g v.lv j.hp) (aa (hpA g j.hp) B))))))))))by unfold aS;ac_rfl);obtain⟨G,H,ha,hb,d,e⟩:=h2;have c10:w.cell? ⟨x,10,none⟩=some v.pv:=(bq hb).1 10;refine⟨v.pv,G,c10,ha,fun AU CU w2 hg=> ?_⟩;have g1:=(aH hb hg d e).eq (show _=aa (blk x (.cells (uI j v) 88 (0,0))) (aa (gm CU AU) (aa (iu v.cm j.br) (aa (gJ g v.rm j.reqs) (aa (fW g v.tm j.aI) (aa (all gi j.br) (aa (all (dP g j.c.re) j.reqs) (aa (all (eC g) j.aI) (aa (dF g v.rv j.ring) (aa (dm g v.lv j.hp) (aa (hpA g j.hp) B))))))))))by unfold dB;ac_rfl);have g1c:=g1;obtain⟨F2,gl,_⟩:=g1c;obtain⟨cl,fz,_⟩:=bq gl;refine⟨cl 10,fz 10,(g1.store 10 CU).mono fun F' h'=> ?_⟩;unfold jA;rw[bF];refine⟨{v with pv:=CU},aw h' ?_⟩;have:blk x (.cells ((uI j v).setIfInBounds 10 CU) 88 (0,0))=dB x {j with pull:=AU} {v with pv:=CU}:=rfl;rw[this];unfold aS;dsimp only
 ac_rfl
end
theorem KT{base x tb:Nat}{g:Gh}{cn:List (Int×Nat×Bs)}{s:St}{w:World}{F:Ft}(T:Tabs base w)(h:(stA base x tb g cn s).holds w F)(hi:Inv s)(ho:Ok s)(hz:s.sz<=16777000)(c:Int)(hc:I6 c):Calls prog 139 #[pt x, .int .i64 c] w fun e w'=>e= .returned (.tuple #[])∧Goes (stA base x tb g cn (ru s c)) w F w':=by
 obtain⟨i0,kg,nV,j0,kC⟩:=fo JX;have hcs:=St.iF (s:=s) c;obtain⟨j,r1,r2,r3,hF,hh⟩:=h;have wf:=dD r1 hi hz;have hhc:=hh;obtain⟨G,H,hj,Cx,_,_⟩:=hhc;have BK:=s5 x g j c w G hj hc r1.cnd;rw[r1.dr c]at BK;have ZP:(s.conn c).drains c=s.drains c:=St.qT c c;have D3: ∀w',Goes (aa (jA x g j) (rC tb s.out)) w F w'->Goes (stA base x tb g cn (s.conn c)) w F w':=fun w' hg=>fJ (s':=s.conn c) T hF (r1.conn c) r2 r3 (by rw[hcs.2.2.2.2.1];exact hg)
 have zR:Goes (stA base x tb g cn s) w F w:=fJ (s':=s) T hF r1 r2 r3 (Goes.refl hh);obtain⟨pv,Gp,c10,JP,Mh⟩:=X0 hh;obtain⟨ao,cap,rfl⟩:=aJ (Goes.refl JP);have b3:=wf.b3;have OU:=SX _ j.pull c w Gp JP (by omega);have DK:s.wait.any (· ==c)=decide (c∈j.pull):=by
  rw[r1.pull];by_cases hm:c∈s.wait
  ·rw[decide_eq_true hm];exact List.any_eq_true.2 ⟨c,hm,by simp⟩
  ·rw[decide_eq_false hm];rw[List.any_eq_false];intro y hy e;have:y=c:=by simpa using e
   exact hm (this▸hy)
 cases hd:s.drains c with
 |true=>
  have xt:s.wait.any (· ==c)=false:=by
   rw[List.any_eq_false];intro y hy e;have ey:y=c:=by simpa using e
   have yz:=hd;unfold St.drains at yz;cases hf:s.ak.find? (·.n==c)with
   |none=>rw[hf]at yz;cases yz
   |some z=>
    rw[hf]at yz;have ez:z.n=c:=by simpa using List.find?_some hf
    exact(ho.dr z (cO hf) yz).2 (by rw[ez,<-ey];exact hy)
  have es:ru s c=s.conn c:=by unfold ru;rw[if_neg (by rw[xt];simp),if_pos (by rw[ZP];exact hd)]
  rw[es];have HX:=hide (D3 w (Goes.refl hh));rw[hd]at BK;clear T hh hj Cx wf r1 r2 r3 hF D3 zR JP Mh OU;unfold pt at*;go_enter func139,ntmps139;go_wp2_with (first
   |(go_at_call 165;go_must(refine BK.mono ?_;rintro e w1⟨rfl,rfl⟩)))
  go_end0;exact⟨rfl,HX.out⟩
 |false=>
  rw[hd]at BK;by_cases hm:c∈j.pull
  ·have es:ru s c=s:=by unfold ru;rw[if_pos (by rw[DK];simpa using hm)]
   rw[es];rw[decide_eq_true hm]at OU;have HX:=hide zR;clear T hh hj Cx wf r1 r2 r3 hF D3 zR JP Mh;unfold pt at*;generalize j.pull.length=np at*;go_enter func139,ntmps139;go_wp2_with (first
    |(go_at_call 165;go_must(refine BK.mono ?_;rintro e w1⟨rfl,rfl⟩))
    |(go_at_call 184;go_must(refine OU.mono ?_;rintro e w1⟨rfl,rfl⟩)))
   go_end0;exact⟨rfl,HX.out⟩
  ·have es:ru s c={s.conn c with wait:=(s.conn c).wait++ [c]}:=by unfold ru;rw[if_neg (by rw[DK];simpa using hm),if_neg (by rw[ZP,hd];simp)]
   rw[es];rw[decide_eq_false hm]at OU;have iL:Hid ((rowA 3 1 (.slice ao j.pull.length cap) j.pull.length (j.pull.map fun c=> .int .i64 c)).holds (w.alloc (.cells #[.int .i64 c] 3)) Gp):=dG JP _;have L8:Hid (∀gY cP w4,Goes (rowA 3 1 (.slice gY (j.pull.length+1) cP) (j.pull.length+1) ((j.pull.map fun c=> .int .i64 c)++ [.int .i64 c])) (w.alloc (.cells #[.int .i64 c] 3)) Gp w4->
     w4.cell? ⟨x,10,none⟩=some (.slice ao j.pull.length cap)∧w4.frozen? ⟨x,10,none⟩=false∧Goes (stA base x tb g cn {s.conn c with wait:=(s.conn c).wait++ [c]}) w F (w4.setCell ⟨x,10,none⟩ (.slice gY (j.pull.length+1) cP))):=fun gY cP w4 hg=>by
    have e5:gm (.slice gY (j.pull.length+1) cP) (j.pull++ [c])=rowA 3 1 (.slice gY (j.pull.length+1) cP) (j.pull.length+1) ((j.pull.map fun c=> .int .i64 c)++ [.int .i64 c]):=by unfold gm;rw[aC,aB];rfl
    obtain⟨d1,d2,d3⟩:=Mh (j.pull++ [c]) (.slice gY (j.pull.length+1) cP) w4 (by rw[e5];exact dy hg);refine⟨d1,d2,fJ (j':={j with pull:=j.pull++ [c]}) (s':={s.conn c with wait:=(s.conn c).wait++ [c]}) T hF ?_ ⟨r2.1,fun y hy=> ?_⟩ r3 (by show Goes (aa _ (rC tb (s.conn c).out)) _ _ _;rw[hcs.2.2.2.2.1];exact d3)⟩
    ·have:=(r1.conn c).pulls ((s.conn c).wait++ [c]);have e0:(s.conn c).wait=j.pull:=by rw[hcs.2.2.2.1,r1.pull]
     rw[e0]at this⊢;exact this
    ·rcases List.mem_append.1 hy with h|h
     ·exact r2.2 y h
     ·rw[cC.1 h];exact hc
   clear T hh hj Cx wf r1 r2 r3 hF D3 zR JP Mh;unfold pt at*;generalize j.pull.length=np at*;go_enter func139,ntmps139;go_wp2_with (first
    |(go_at_call 165;go_must(refine BK.mono ?_;rintro e w1⟨rfl,rfl⟩))
    |(go_at_call 184;go_must(refine OU.mono ?_;rintro e w1⟨rfl,rfl⟩))
    |(at_builtin;go_must(refine bh _ rfl _ _ 36 rfl 3 i0 (.int .i64 0) 1 8 underlying36 kg nV j0 kC rfl (by decide) (F:=Gp) _ np _ rfl iL.out ⟨World.heap _|>.size,0,none⟩ 1 1 [.int .i64 c] rfl rfl (World.news_of_block (cs:= #[.int .i64 c]) (t:=3) (fr:=(0,0)) (heap_alloc_new _ _)) (by simp[Value.oneCell']) (by unfold maxLen;omega) (by omega) ?_;intro gY cP w4 bz;obtain⟨e7,z7,fO⟩:=L8.out gY cP w4 bz;have yu:=hide fO;clear bz fO)))
   go_end0;exact⟨rfl,yu.out⟩
variable{s:St}{c:Int}
def qb(s:St)(c:Int):St:=((({s.conn c with ak:=aA (fun x=>x.n==c) (fun x=>{x with drains:=true}) (s.conn c).ak}:St)).idle c).dR c
section
variable{base x tb:Nat}{g:Gh}{cn:List (Int×Nat×Bs)}{s:St}{j:Js}{w w':World}{F:Ft}
theorem UF(hn:(j.br.map (·.n)).Nodup){k:Kn}(hk:k∈j.br):j.br.find? (·.n==k.n)=some k:=by
 cases hf:j.br.find? (·.n==k.n)with
 |none=>exact absurd (List.find?_eq_none.1 hf k hk) (by simp)
 |some z=>
  have ez:z.n=k.n:=by simpa using List.find?_some hf
  rw[bC (k:=fun k:Kn=>k.n) hn (cO hf) hk ez]
theorem Eh{B:aD}(h:(aa (jA x g j) B).holds w F)(hn:(j.br.map (·.n)).Nodup){k:Kn}(hk:k∈j.br): ∃cm kv,w.cell? ⟨x,6,none⟩=some (.map (some cm))∧(∀c,I6 c->(Instr.lookup 81 (.map (some cm)) (.int .i64 c) false).run prog w= .ok (mQ (j.br.map fun k=>(k.n,k.p)) c) w)∧(aa (Ae k.p k.dr kv) (aa (Ej kv k.kept) (ex fun v=>aa (dB x j v) (aa (iu v.cm j.br) (aa (gJ g v.rm j.reqs) (aa (fW g v.tm j.aI) (aa (all gi (j.br.filter fun y=>decide (y.n≠k.n))) (aa (all (dP g j.c.re) j.reqs) (aa (all (eC g) j.aI) (aa (dF g v.rv j.ring) (aa (gm v.pv j.pull) (aa (dm g v.lv j.hp) (aa (hpA g j.hp) B))))))))))))).holds w F∧ ∀f:Kn->Kn,(f k).n=k.n->(f k).p=k.p-> ∀CI w2,Goes (aa (Ae k.p (f k).dr CI) (aa (Ej CI (f k).kept) (ex fun v=>aa (dB x j v) (aa (iu v.cm j.br) (aa (gJ g v.rm j.reqs) (aa (fW g v.tm j.aI) (aa (all gi (j.br.filter fun y=>decide (y.n≠k.n))) (aa (all (dP g j.c.re) j.reqs) (aa (all (eC g) j.aI) (aa (dF g v.rv j.ring) (aa (gm v.pv j.pull) (aa (dm g v.lv j.hp) (aa (hpA g j.hp) B))))))))))))) w F w2->Goes (aa (jA x g {j with br:=upd (fun k:Kn=>k.n) k.n f j.br}) B) w F w2:=by
 unfold jA at h;rw[bF]at h;obtain⟨v,h⟩:=h;obtain⟨Gj,mz,_⟩:=aD.left h;have D:=tO mz;obtain⟨Gc,WL⟩:=QO mz;have h2:=aw h (show _=aa (gi k) (aa (dB x j v) (aa (iu v.cm j.br) (aa (gJ g v.rm j.reqs) (aa (fW g v.tm j.aI) (aa (all gi (j.br.filter fun y=>decide (y.n≠k.n))) (aa (all (dP g j.c.re) j.reqs) (aa (all (eC g) j.aI) (aa (dF g v.rv j.ring) (aa (gm v.pv j.pull) (aa (dm g v.lv j.hp) (aa (hpA g j.hp) B)))))))))))by
  unfold aS;rw[jm (A:=gi) (k:=fun k:Kn=>k.n) hn hk]
  ac_rfl)
 unfold gi at h2;rw[bF]at h2;obtain⟨kv,h2⟩:=h2;refine⟨v.cm,kv,D.1 6,fun c hc=>j6 WL (t:=81) (e:=99) underlying81 (Dp w) c hc, ?_,fun f Cl xr CI w2 hg=> ?_⟩
 ·have h3:=aw h2 (bn _ _ _);rw[fx,fx];exact⟨v,h3⟩
 ·refine hg.mono fun F' h'=> ?_;rw[fx,fx]at h';obtain⟨v',h'⟩:=h';unfold jA;rw[bF];refine⟨v', ?_⟩;have e1:all gi (upd (fun k:Kn=>k.n) k.n f j.br)=aa (gi (f k)) (all gi (j.br.filter fun y=>decide (y.n≠k.n))):=Dy (A:=gi) (k:=fun k:Kn=>k.n) hn hk f;have e2:iu v'.cm (upd (fun k:Kn=>k.n) k.n f j.br)=iu v'.cm j.br:=by
   unfold iu;congr 1;refine fp (fun k:Kn=>(k.n,k.p)) (fun y hy ey=> ?_);have:y=k:=bC (k:=fun k:Kn=>k.n) hn hy hk ey;rw[this,Cl,xr]
  show(aa (aS x g _ v') B).holds w2 F';unfold aS;dsimp only;rw[e1,e2];have h3:(aa (gi (f k)) (aa (dB x j v') (aa (iu v'.cm j.br) (aa (gJ g v'.rm j.reqs) (aa (fW g v'.tm j.aI) (aa (all gi (j.br.filter fun y=>decide (y.n≠k.n))) (aa (all (dP g j.c.re) j.reqs) (aa (all (eC g) j.aI) (aa (dF g v'.rv j.ring) (aa (gm v'.pv j.pull) (aa (dm g v'.lv j.hp) (aa (hpA g j.hp) B)))))))))))).holds w2 F':=by unfold gi;rw[bF];refine⟨CI, ?_⟩;rw[xr];exact aw h' (bn _ _ _).symm
  refine aw h3 ?_;show _=aa (aa (dB x j v') _) _
  ac_rfl
theorem El(hc:gu j=cn){c:Int}{p:Nat}{b:Bs}(h:(c,p,b)∈cn): ∃k∈j.br,k.n=c∧k.p=p∧k.kept=b:=by rw[<-hc]at h;obtain⟨k,hk,e⟩:=ax.1 h;exact⟨k,hk,congrArg Prod.fst e,congrArg (fun y=>y.2.1) e,congrArg (fun y=>y.2.2) e⟩
theorem O3(hr:Rel g j s){k:Kn}(hk:k∈j.br):s.drains k.n=k.dr:=by rw[<-hr.dr];unfold Js.drains;rw[UF hr.cnd hk]
theorem NG(hn:(j.br.map (·.n)).Nodup){k:Kn}(hk:k∈j.br):mQ (j.br.map fun k=>(k.n,k.p)) k.n=pt k.p:=
 iY (m:=j.br.map fun k=>(k.n,k.p)) (by rw[az];exact hn) (ax.2 ⟨k,hk,rfl⟩)
theorem qR(h:(stA base x tb g cn s).holds w F){c:Int}{p:Nat}{b:Bs}(hc:I6 c)(hk:(c,p,b)∈cn):Calls prog 47 #[pt x, .int .i64 c] w fun e w'=>e= .returned (pt p)∧w'=w:=by obtain⟨j,r1,r2,r3,hF,hh⟩:=h;obtain⟨k,Fu,rfl,rfl,rfl⟩:=El r3 hk;obtain⟨cm,kv,c6,gZ,_,_⟩:=Eh hh r1.cnd Fu;have hl:=gZ k.n hc;rw[NG r1.cnd Fu]at hl;clear hh gZ r1 r2 r3;unfold pt at*;go_enter func47,ntmps47;go_wp2;go_ret;exact⟨rfl,rfl⟩
end
theorem erase_filter{l:List Int}(hn:l.Nodup)(c:Int):l.erase c=l.filter (· !=c):=List.Nodup.erase_eq_filter hn c
theorem mR{α:Type}{p:α->Bool}{f:α->α}: ∀{l:List α},(∀y∈l,p y=true->f y=y)->aA p f l=l
 | [],_=>rfl
 |y::l,h=>by
  unfold aA;split
  ·rename_i hp;rw[h y (cB ..) hp]
  ·rw[mR (fun z hz=>h z (aY _ hz))]
theorem zr(hi:Inv s)(ho:Ok s)(hd:s.drains c=true):qb s c=s:=by
 have yz:=hd;unfold St.drains at yz;cases hf:s.ak.find? (·.n==c)with
 |none=>rw[hf]at yz;cases yz
 |some z=>
  rw[hf]at yz;have Qo:z.drains=true:=yz;have hz:=cO hf;have ez:z.n=c:=by simpa using List.find?_some hf
  have e1:s.conn c=s:=by unfold St.conn;rw[if_pos (List.any_eq_true.2 ⟨z,hz,by simpa using ez⟩)]
  have hu: ∀y∈s.ak,(y.n==c)=true->y=z:=fun y hy e=>bC (k:=fun x:Cn=>x.n) hi.cn hy hz (by rw[ez];simpa using e);have e2:aA (fun x=>x.n==c) (fun x=>({x with drains:=true}:Cn)) s.ak=s.ak:=mR fun y hy e=>by rw[hu y hy e,<-Qo]
  have e3:s.wait.filter (· !=c)=s.wait:=List.filter_eq_self.2 fun y hy=>by have:y≠c:=fun e=>(ho.dr z hz Qo).2 (by rw[ez,<-e];exact hy);simpa using this
  unfold qb;rw[e1,e2];show(({s with wait:=s.wait.filter (· !=c)}:St)).dR c=s;rw[e3];unfold St.dR;rw[if_neg];intro h;simp only[a8,beq_iff_eq]at h;obtain⟨h1,h2⟩:=h;obtain⟨y,hy,e⟩:=List.any_eq_true.1 h1;simp only[a8,beq_iff_eq]at e;have:=hu y hy (by simpa using e.1.1);subst this;have hg:y.gone=true:=(ho.dr y hz Qo).1.2 (by rw[ez];exact h2);simp[hg]at e
theorem E0{base x tb:Nat}{g:Gh}{cn:List (Int×Nat×Bs)}{w:World}{F:Ft}(T:Tabs base w)(h:(stA base x tb g cn s).holds w F)(hi:Inv s)(ho:Ok s)(hz:s.sz<=16777000){p:Nat}{b:Bs}(hc:I6 c)(hk:(c,p,b)∈cn):Calls prog 143 #[pt x,pt tb, .int .i64 c] w fun e w'=>e= .returned (.tuple #[])∧Goes (stA base x tb g cn (qb s c)) w F w':=by
 have OU:=qR h hc hk;have Ma:=hide (Goes.refl h);obtain⟨j,r1,r2,r3,hF,hh⟩:=h;obtain⟨k,Fu,rfl,rfl,rfl⟩:=El r3 hk;obtain⟨cm,kv,c6,_,rM,BM⟩:=Eh hh r1.cnd Fu;have kR:=bq rM;have ZT:=O3 r1 Fu;cases hd:s.drains k.n with
 |true=>
  rw[zr hi ho hd];have c1:w.cell? ⟨k.p,1,none⟩=some (.bool true):=by rw[kR.1 1];show some (Value.bool k.dr)=_;rw[<-ZT,hd]
  clear T hh rM BM kR r1 r2 r3 hF c6;unfold pt at*;generalize k.p=kp at*;go_enter func143,ntmps143;go_wp2_with (first
   |(go_at_call 47;go_must(refine OU.mono ?_;rintro e w1⟨rfl,rfl⟩)))
  (try simp only[Exit.inBlock,Exit.then])
  exact bodyPost_ret (results_none rfl _ _ _) rfl ⟨rfl,Ma.out⟩
 |false=>
  have c1:w.cell? ⟨k.p,1,none⟩=some (.bool false):=by rw[kR.1 1];show some (Value.bool k.dr)=_;rw[<-ZT,hd]
  have z1:w.frozen? ⟨k.p,1,none⟩=false:=kR.2.1 1;have ecn:(s.conn k.n)=s:=by unfold St.conn;obtain⟨y,hy,ey⟩:=ax.1 (r1.cin k Fu);rw[if_pos (List.any_eq_true.2 ⟨y,hy,by simpa using ey⟩)]
  obtain⟨s1,RF⟩: ∃s1:St,s1={s with ak:=aA (fun x=>x.n==k.n) (fun x=>{x with drains:=true}) s.ak}:=⟨_,rfl⟩;have edr:qb s k.n=(s1.idle k.n).dR k.n:=by unfold qb;rw[ecn,RF]
  rw[edr];have R1:Rel g {j with br:=upd (fun k:Kn=>k.n) k.n (fun k=>{k with dr:=true}) j.br} s1:=by rw[RF];exact r1.drain hi k.n (ax.2 ⟨k,Fu,rfl⟩)
  have I1:Inv s1:=by rw[RF];exact St.jT hi (fun x=>{x with drains:=true}) (fun _=>rfl) _
  have VH:s1.sz<=16777000:=by rw[RF];unfold St.sz at hz⊢;dsimp only;rw[cU];exact hz
  have Wu:gu {j with br:=upd (fun k:Kn=>k.n) k.n (fun k=>{k with dr:=true}) j.br}=cn:=by rw[<-r3];unfold gu;exact fp _ (fun y _ _=>rfl)
  have VU:Hid (Calls prog 73 #[pt x, .int .i64 k.n] (w.setCell ⟨k.p,1,none⟩ (.bool true)) fun e w2=>e= .returned (.tuple #[])∧
    Hid (Calls prog 127 #[pt x,pt tb, .int .i64 k.n] w2 fun e w3=>e= .returned (.tuple #[])∧Goes (stA base x tb g cn ((s1.idle k.n).dR k.n)) w F w3)):=by
   have g1:=(Goes.refl rM).store 1 (.bool true);have g2:=BM (fun k=>{k with dr:=true}) rfl rfl kv _ (by refine g1.eq ?_;rfl)
   have T1:=T.goes hF g2;obtain⟨F1,bU,o1,n1⟩:=g2;have Yw:=dD R1 I1 VH;refine(xx bU (by have:=Yw.b3;exact this) k.n).mono ?_;rintro e w2⟨rfl,g3⟩;refine⟨rfl, ?_⟩;have RH:=ay o1 n1 g3;have Va:j.pull.erase k.n=j.pull.filter (· !=k.n):=erase_filter (by rw[r1.pull];exact hi.wt) k.n;have R2:=R1.idle k.n;have g4:Goes (stA base x tb g cn (s1.idle k.n)) w F w2:=fJ (s':=s1.idle k.n) T hF R2 ⟨r2.1,fun y hy=>r2.2 y (aG.1 hy).1⟩ Wu (by
    dsimp only at RH⊢;rw[<-Va];have eo:(s1.idle k.n).out=s.out:=by rw[RF];rfl
    rw[eo];exact RH)
   have T4:=T.goes hF g4;obtain⟨F4,u9,o4,n4⟩:=g4;have I4:=St.iU I1 k.n;show Calls _ _ _ _ _;refine(DB T4 u9 I4 (au (St.sg k.n) VH) k.n hc (fun _ _=> ?_) (fun he=>vQ I4 he)).mono ?_
   ·obtain⟨y,hy,ey⟩:=ax.1 (r1.cin k Fu);have XW:y.drains=false:=by
     cases XW:y.drains with
     |false=>rfl
     |true=>
      have:s.drains k.n=true:=by
       unfold St.drains;cases hf:s.ak.find? (·.n==k.n)with
       |none=>exact absurd (List.find?_eq_none.1 hf y hy) (by simp[ey])
       |some z=>
        have ez:z.n=k.n:=by simpa using List.find?_some hf
        rw[bC (k:=fun x:Cn=>x.n) hi.cn (cO hf) hy (by rw[ez,ey])];exact XW
      rw[hd]at this;cases this
    have hyg:=ho.gone y hy XW;refine List.any_eq_true.2 ⟨{y with drains:=true}, ?_,by simp[ey,hyg]⟩;show _∈s1.ak;rw[RF];show _∈aA (fun x=>x.n==k.n) (fun x=>({x with drains:=true}:Cn)) s.ak;rw[bj (fun x:Cn=>x.n) k.n _ hi.cn];exact ax.2 ⟨y,hy,by simp[ey]⟩
   ·rintro e w3⟨rfl,g5⟩;exact⟨rfl,ay o4 n4 g5⟩
  clear T hh rM BM kR r1 r2 r3 hF c6 Ma;unfold pt at*;generalize k.p=kp at*;go_enter func143,ntmps143;go_wp2_with (first
   |(go_at_call 47;go_must(refine OU.mono ?_;rintro e w1⟨rfl,rfl⟩))
   |(go_at_call 73;go_must(refine VU.out.mono ?_;rintro e w2⟨rfl,Ht⟩))
   |(go_at_call 127;go_must(refine Ht.out.mono ?_;rintro e w3⟨rfl,eP⟩;have rG:=hide eP;clear eP)))
  go_end0;exact⟨rfl,rG.out⟩
variable{g:Gh}{p:Nat}{j:Js}
def Gh.newT(g:Gh)(nm:Bs)(p:Nat):Gh:={g with tp:=fun y=>if y=nm then p else g.tp y}
def Gh.newR(g:Gh)(id:Int)(p:Nat):Gh:={g with rp:=fun y=>if y=id then p else g.rp y}
theorem Gh.qC(g:Gh)(nm:Bs)(p:Nat):(g.newT nm p).tp nm=p:=by simp[Gh.newT]
theorem Gh.qB(g:Gh)(id:Int)(p:Nat):(g.newR id p).rp id=p:=by simp[Gh.newR]
theorem Gh.oZ{nm y:Bs}(h:y≠nm):(g.newT nm p).tp y=g.tp y:=by simp[Gh.newT,h]
theorem Gh.oY{id y:Int}(h:y≠id):(g.newR id p).rp y=g.rp y:=by simp[Gh.newR,h]
theorem Ny(x:Nat)(g:Gh)(wf:Wf j)(nm:Bs)(p:Nat)(h:nm∉j.aI.map (·.nm)):jA x (g.newT nm p) j=jA x g j:=by
 have cz: ∀y∈j.aI.map (·.nm),y≠nm:=fun y hy e=>h (e▸hy);unfold jA;congr 1;funext v;have e1:fW (g.newT nm p) v.tm j.aI=fW g v.tm j.aI:=by unfold fW;congr 1;exact bu fun t ht=>by rw[Gh.oZ (cz _ (ax.2 ⟨t,ht,rfl⟩))]
 have e2:all (dP (g.newT nm p) j.c.re) j.reqs=all (dP g j.c.re) j.reqs:=all_congr fun r hr=>by unfold dP ji mD;rw[Gh.oZ (cz _ (wf.dV r hr))];rfl
 have e3:all (eC (g.newT nm p)) j.aI=all (eC g) j.aI:=all_congr fun t ht=>by unfold eC jF;rw[Gh.oZ (cz _ (ax.2 ⟨t,ht,rfl⟩))];rfl
 have e4:dF (g.newT nm p) v.rv j.ring=dF g v.rv j.ring:=by unfold dF;congr 1;exact bu fun y hy=>by rw[Gh.oZ (cz _ (wf.ring y hy))]
 unfold aS;rw[e1,e2,e3,e4];rfl
theorem Nx(x:Nat)(g:Gh)(wf:Wf j)(BA: ∀a∈j.hp,a.id∈j.reqs.map fun r=>r.q.id)(id:Int)(p:Nat)(h:id∉j.reqs.map fun r=>r.q.id):jA x (g.newR id p) j=jA x g j:=by
 have cz: ∀y∈j.reqs.map (fun r=>r.q.id),y≠id:=fun y hy e=>h (e▸hy);unfold jA;congr 1;funext v;have e1:gJ (g.newR id p) v.rm j.reqs=gJ g v.rm j.reqs:=by unfold gJ;congr 1;exact bu fun t ht=>by rw[Gh.oY (cz _ (ax.2 ⟨t,ht,rfl⟩))]
 have e2:all (dP (g.newR id p) j.c.re) j.reqs=all (dP g j.c.re) j.reqs:=all_congr fun r hr=>by unfold dP ji;rw[Gh.oY (cz _ (ax.2 ⟨r,hr,rfl⟩))];rfl
 have e3:all (eC (g.newR id p)) j.aI=all (eC g) j.aI:=all_congr fun t ht=>by
  unfold eC;congr 1;funext wv;have:je (g.newR id p) wv t.wt=je g wv t.wt:=by unfold je;congr 1;exact bu fun y hy=>by rw[Gh.oY (cz _ (wf.UX t ht y hy))]
  rw[this];rfl
 have e4:hpA (g.newR id p) j.hp=hpA g j.hp:=all_congr fun y hy=>by
  have hb:y.1∈j.hp:=by obtain⟨b,i⟩:=y;have:=List.mem_zipIdx_iff_getElem?.1 hy;exact cK this
  show eN _ _ _=eN _ _ _;unfold eN kO;rw[Gh.oY (cz _ (BA _ hb))];rfl
 unfold aS;rw[e1,e2,e3,e4];rfl
theorem Rel.gh{g':Gh}{s:St}(h:Rel g j s)(e:g'.sr=g.sr):Rel g' j s:=by
 have ea:eT g'=eT g:=by unfold eT;rw[e]
 exact⟨h.c,h.now,h.begun,h.pull,h.ring,h.reqs,h.al,h.mn,h.wt,h.rn,h.ten,h.uN,h.hp,by rw[ea];exact h.heap,by rw[e];exact h.A6,by rw[e];exact h.mE,h.cnd,h.cin,h.dr⟩
theorem Ro(w:World):(zeroValue 89).run prog w= .ok (.pointer none) w:=by kernel_rfl
section
variable{x:Nat}{g:Gh}{j:Js}{B:aD}{w w':World}{F:Ft}
theorem Kr(h:(aa (jA x g j) B).holds w F)(Cy:(j.aI.map (·.nm)).Nodup)(nm:Bs)(hl:nm.length<=64): ∃tm,w.cell? ⟨x,8,none⟩=some (.map (some tm))∧x<w.heap.size∧(Instr.lookup 83 (.map (some tm)) (bs nm) false).run prog w= .ok (if nm∈j.aI.map (·.nm)then pt (g.tp nm)else .pointer none) w∧(nm∉j.aI.map (·.nm)->Wf j-> ∀w1,w1=w.alloc (.cells #[bs nm, .slice none 0 0, .int .i64 0] 92)->w1.cell? ⟨x,8,none⟩=some (.map (some tm))∧ ∃w2,(Instr.mapUpdate 83 (.map (some tm)) (bs nm) (pt w.heap.size)).run prog w1= .ok () w2∧Goes (aa (jA x (g.newT nm w.heap.size) {j with aI:=j.aI++ [⟨nm, [],0⟩]}) B) w F w2):=by
 have hA:=h;unfold jA at h;rw[bF]at h;obtain⟨v,hv⟩:=h;obtain⟨Gj,mz,_⟩:=aD.left hv;have D:=tO mz;obtain⟨G,hG,_⟩:=aD.left (aw mz (show _=aa (fW g v.tm j.aI) (aa (dB x j v) (aa (iu v.cm j.br) (aa (gJ g v.rm j.reqs) (aa (all gi j.br) (aa (all (dP g j.c.re) j.reqs) (aa (all (eC g) j.aI) (aa (dF g v.rv j.ring) (aa (gm v.pv j.pull) (aa (dm g v.lv j.hp) (hpA g j.hp))))))))))by unfold aS;ac_rfl));have D8:nm.length<=maxLen:=by unfold maxLen;omega
 refine⟨v.tm,D.1 8,D.2.2, ?_,fun xt wf w1 fZ=> ?_⟩
 ·have gZ:=j6 hG (t:=83) (e:=89) underlying83 (Ro w) nm D8;have Fv:(Instr.lookup 83 (.map (some v.tm)) (bs nm) false).run prog w= .ok (mQ (j.aI.map fun t=>(t.nm,g.tp t.nm)) nm) w:=gZ;rw[Fv];have qZ:(j.aI.map fun t=>(t.nm,g.tp t.nm)).map (·.1)=j.aI.map (·.nm):=by rw[az];rfl
  by_cases hm:nm∈j.aI.map (·.nm)
  ·rw[if_pos hm];obtain⟨t,ht,rfl⟩:=ax.1 hm;have:=iY (m:=j.aI.map fun t=>(t.nm,g.tp t.nm)) (by rw[qZ];exact Cy) (ax.2 ⟨t,ht,rfl⟩);rw[this]
  ·rw[if_neg hm,iX (by rw[qZ];exact hm)]
 ·obtain⟨N,hN⟩: ∃N,N=w.heap.size:=⟨_,rfl⟩;rw[<-hN];rw[<-Ny x g wf nm N xt]at hA;unfold jA at hA;rw[bF]at hA;obtain⟨v',XP⟩:=hA;change (aa (aS x (g.newT nm N) j v') B).holds w F at XP;have ev:v'.tm=v.tm:=by
   obtain⟨Gj',WM,_⟩:=aD.left XP;have:=(tO WM).1 8;rw[D.1 8]at this;have h2:some (Value.map (some v.tm))=some (Value.map (some v'.tm)):=this;injection h2 with h2;injection h2 with h2;injection h2 with h2;exact h2.symm
  have g0:=(Goes.refl XP).alloc (.cells #[bs nm, .slice none 0 0, .int .i64 0] 92);rw[<-fZ,<-hN]at g0;have g0c:=g0;obtain⟨F1,bU,o1,n1⟩:=g0c;have e1:blk N (.cells #[bs nm, .slice none 0 0, .int .i64 0] 92)=jF (g.newT nm N) ⟨nm, [],0⟩ (.slice none 0 0):=by unfold jF;rw[Gh.qC];rfl
  rw[e1]at bU;obtain⟨Gj1,WN,_⟩:=aD.left (aw bU (show _=aa (dB x j v') (aa (jF (g.newT nm N) ⟨nm, [],0⟩ (.slice none 0 0)) (aa (iu v'.cm j.br) (aa (gJ (g.newT nm N) v'.rm j.reqs) (aa (fW (g.newT nm N) v'.tm j.aI) (aa (all gi j.br) (aa (all (dP (g.newT nm N) j.c.re) j.reqs) (aa (all (eC (g.newT nm N)) j.aI) (aa (dF (g.newT nm N) v'.rv j.ring) (aa (gm v'.pv j.pull) (aa (dm (g.newT nm N) v'.lv j.hp) (aa (hpA (g.newT nm N) j.hp) B)))))))))))by unfold aS;ac_rfl));have c8:w1.cell? ⟨x,8,none⟩=some (.map (some v'.tm)):=by simp only[World.cell?,WN.1];rfl
  rw[ev]at c8;refine⟨c8, ?_⟩;have h3:=aw bU (show _=aa (fW (g.newT nm N) v'.tm j.aI) (aa (jF (g.newT nm N) ⟨nm, [],0⟩ (.slice none 0 0)) (aa (dB x j v') (aa (iu v'.cm j.br) (aa (gJ (g.newT nm N) v'.rm j.reqs) (aa (all gi j.br) (aa (all (dP (g.newT nm N) j.c.re) j.reqs) (aa (all (eC (g.newT nm N)) j.aI) (aa (dF (g.newT nm N) v'.rv j.ring) (aa (gm v'.pv j.pull) (aa (dm (g.newT nm N) v'.lv j.hp) (aa (hpA (g.newT nm N) j.hp) B)))))))))))by unfold aS;ac_rfl);obtain⟨G3,H3,RL,nU,d3,e3⟩:=h3;obtain⟨w2,vn,eO⟩:=ud RL underlying83 (by rw[aR];have:=wf.b7;unfold maxLen;omega) nm D8 N (by rw[az];exact xt);rw[ev]at vn;refine⟨w2,vn,(ay o1 n1 (aH nU eO d3 e3)).mono fun F' h'=> ?_⟩;unfold jA;rw[bF];refine⟨v', ?_⟩;have e4:mapA qu v'.tm ((j.aI.map fun t=>(t.nm,(g.newT nm N).tp t.nm))++ [(nm,N)])=fW (g.newT nm N) v'.tm (j.aI++ [⟨nm, [],0⟩]):=by unfold fW;rw[aB];simp only[List.map_cons,List.map_nil,Gh.qC]
  have e5:all (eC (g.newT nm N)) (j.aI++ [⟨nm, [],0⟩])=aa (eC (g.newT nm N) ⟨nm, [],0⟩) (all (eC (g.newT nm N)) j.aI):=by rw[all_append,rV,aZ]
  show(aa (aS x (g.newT nm N) _ v') B).holds w2 F';unfold aS;dsimp only;rw[<-e4,e5];have h5:(aa (eC (g.newT nm N) ⟨nm, [],0⟩) (aa (mapA qu v'.tm ((j.aI.map fun t=>(t.nm,(g.newT nm N).tp t.nm))++ [(nm,N)])) (aa (dB x j v') (aa (iu v'.cm j.br) (aa (gJ (g.newT nm N) v'.rm j.reqs) (aa (all gi j.br) (aa (all (dP (g.newT nm N) j.c.re) j.reqs) (aa (all (eC (g.newT nm N)) j.aI) (aa (dF (g.newT nm N) v'.rv j.ring) (aa (gm v'.pv j.pull) (aa (dm (g.newT nm N) v'.lv j.hp) (aa (hpA (g.newT nm N) j.hp) B)))))))))))).holds w2 F':=by refine PK (wv:= .slice none 0 0) ?_;have h6:=aw h' (show _=aa (jF (g.newT nm N) ⟨nm, [],0⟩ (.slice none 0 0)) (aa (mapA qu v'.tm ((j.aI.map fun t=>(t.nm,(g.newT nm N).tp t.nm))++ [(nm,N)])) (aa (dB x j v') (aa (iu v'.cm j.br) (aa (gJ (g.newT nm N) v'.rm j.reqs) (aa (all gi j.br) (aa (all (dP (g.newT nm N) j.c.re) j.reqs) (aa (all (eC (g.newT nm N)) j.aI) (aa (dF (g.newT nm N) v'.rv j.ring) (aa (gm v'.pv j.pull) (aa (dm (g.newT nm N) v'.lv j.hp) (aa (hpA (g.newT nm N) j.hp) B)))))))))))by ac_rfl);obtain⟨Ga,Ha,a1,a2,a3,a4⟩:=h6;exact⟨Ga,Ha,a1,⟨fun _=>False,Ha,gS _ _ _ (fun _ h=>h),a2,fun _ h=>h.elim,fun k=>⟨.inr,fun h=>h.elim False.elim id⟩⟩,a3,a4⟩
  refine aw h5 ?_;show _=aa (aa (dB x j v') _) _
  ac_rfl
end
def Js.ten(j:Js)(nm:Bs):Js:={j with aI:=if nm∈j.aI.map (·.nm)then j.aI else j.aI++ [⟨nm, [],0⟩]}
theorem Wf.ten{j:Js}(wf:Wf j)(nm:Bs)(hb:j.aI.length<=16777000):Wf (j.ten nm):=by
 by_cases hm:nm∈j.aI.map (·.nm)
 ·have:j.ten nm=j:=by unfold Js.ten;rw[if_pos hm]
  rw[this];exact wf
 ·have e:(j.ten nm).aI=j.aI++ [⟨nm, [],0⟩]:=by unfold Js.ten;rw[if_neg hm]
  have Xw: ∀t∈(j.ten nm).aI,t∈j.aI∨t=⟨nm, [],0⟩:=fun t ht=>by
   rw[e]at ht;rcases List.mem_append.1 ht with h|h
   ·exact .inl h
   ·exact .inr (cC.1 h)
  have mC: ∀n,n∈j.aI.map (·.nm)->n∈(j.ten nm).aI.map (·.nm):=fun n hn=>by rw[e,aB];exact List.mem_append_left _ hn
  refine⟨wf.rid, ?_,fun t ht i hi=> ?_,fun n hn=>mC n (wf.ring n hn),fun r hr=>mC _ (wf.dV r hr),fun t ht=> ?_,wf.b2,wf.b3,wf.b4,fun t ht=> ?_,wf.b6, ?_,wf.b8,wf.al⟩
  ·rw[e,aB,List.nodup_append];refine⟨wf.mn,by simp,fun a ha b hb e2=>hm ?_⟩;simp at hb;subst hb;exact e2▸ha
  ·rcases Xw t ht with h|h
   ·exact wf.UX t h i hi
   ·rw[h]at hi;cases hi
  ·rcases Xw t ht with h|h
   ·exact wf.b1 t h
   ·rw[h];simp
  ·rcases Xw t ht with h|h
   ·exact wf.b5 t h
   ·rw[h];exact⟨Int.le_refl _,by show(0:Int)<=16777216;omega⟩
  ·rw[e,aC];simp only[List.length_cons,List.length_nil];omega
section
variable{x:Nat}{g:Gh}{j:Js}{B:aD}{w w':World}{F:Ft}
theorem uB(h:(aa (jA x g j) B).holds w F)(wf:Wf j)(nm:Bs)(hl:nm.length<=64):Calls prog 183 #[pt x,bs nm] w fun e w'=> ∃g',e= .returned (pt (g'.tp nm))∧g'.rp=g.rp∧g'.sr=g.sr∧Goes (aa (jA x g' (j.ten nm)) B) w F w':=by
 obtain⟨tm,c8,L1,gZ,EL⟩:=Kr h wf.mn nm hl;by_cases hm:nm∈j.aI.map (·.nm)
 ·have ej:j.ten nm=j:=by unfold Js.ten;rw[if_pos hm]
  rw[ej];rw[if_pos hm]at gZ;have HG:=hide (Goes.refl h);clear h EL;unfold pt bs at*;go_enter func183,ntmps183;go_wp2;go_ret;exact⟨g,rfl,rfl,rfl,HG.out⟩
 ·have ej:j.ten nm={j with aI:=j.aI++ [⟨nm, [],0⟩]}:=by unfold Js.ten;rw[if_neg hm]
  rw[ej];rw[if_neg hm]at gZ;obtain⟨c8',w2,Cz,hg⟩:=EL hm wf _ rfl;have HX:Hid (∃g':Gh,(pt w.heap.size)=pt (g'.tp nm)∧g'.rp=g.rp∧g'.sr=g.sr∧Goes (aa (jA x g' {j with aI:=j.aI++ [⟨nm, [],0⟩]}) B) w F w2):=⟨g.newT nm w.heap.size,by rw[Gh.qC],rfl,rfl,hg⟩;clear h EL hg;unfold pt bs at*;go_enter func183,ntmps183;go_wp2;go_ret;obtain⟨g',e1,e2,e3,e4⟩:=HX.out;exact⟨g',by rw[<-e1];rfl,e2,e3,e4⟩
theorem NR(h:(aa (jA x g j) B).holds w F)(wf:Wf j)(BA: ∀a∈j.hp,a.id∈j.reqs.map fun r=>r.q.id)(hb:j.reqs.length<=16777000)(id c:Int)(ten txt:Bs)(hid:I6 id)(xt:id∉j.reqs.map fun r=>r.q.id): ∃rm,(w.alloc (.cells #[.int .i64 id, .int .i64 c,pt (g.tp ten),bs txt, .int .i64 0, .int .i64 0, .bool false, .slice none 0 0] 132)).cell? ⟨x,7,none⟩=some (.map (some rm))∧ ∃w2,(Instr.mapUpdate 82 (.map (some rm)) (.int .i64 id) (pt w.heap.size)).run prog (w.alloc (.cells #[.int .i64 id, .int .i64 c,pt (g.tp ten),bs txt, .int .i64 0, .int .i64 0, .bool false, .slice none 0 0] 132)).drew= .ok () w2∧Goes (aa (jA x (g.newR id w.heap.size) {j with reqs:=j.reqs++ [⟨⟨id,c,ten,txt,0,j.c.re,false⟩, []⟩]}) B) w F w2:=by
 obtain⟨N,hN⟩: ∃N,N=w.heap.size:=⟨_,rfl⟩;rw[<-hN];rw[<-Nx x g wf BA id N xt]at h;unfold jA at h;rw[bF]at h;obtain⟨v,hv⟩:=h;change (aa (aS x (g.newR id N) j v) B).holds w F at hv;obtain⟨w1,fZ⟩: ∃w1,w1=w.alloc (.cells #[.int .i64 id, .int .i64 c,pt (g.tp ten),bs txt, .int .i64 0, .int .i64 0, .bool false, .slice none 0 0] 132):=⟨_,rfl⟩;have g0:=(Goes.refl hv).alloc (.cells #[.int .i64 id, .int .i64 c,pt (g.tp ten),bs txt, .int .i64 0, .int .i64 0, .bool false, .slice none 0 0] 132);rw[<-fZ,<-hN]at g0;rw[<-fZ];obtain⟨F1,bU,o1,n1⟩:=g0;have e1:blk N (.cells #[.int .i64 id, .int .i64 c,pt (g.tp ten),bs txt, .int .i64 0, .int .i64 0, .bool false, .slice none 0 0] 132)=ji (g.newR id N) j.c.re ⟨id,c,ten,txt,0,j.c.re,false⟩ (.slice none 0 0):=by unfold ji mD;rw[Gh.qB];dsimp only;rw[Int.sub_self];rfl
 rw[e1]at bU;have h3:=aw bU (show _=aa (gJ (g.newR id N) v.rm j.reqs) (aa (ji (g.newR id N) j.c.re ⟨id,c,ten,txt,0,j.c.re,false⟩ (.slice none 0 0)) (aa (dB x j v) (aa (iu v.cm j.br) (aa (fW (g.newR id N) v.tm j.aI) (aa (all gi j.br) (aa (all (dP (g.newR id N) j.c.re) j.reqs) (aa (all (eC (g.newR id N)) j.aI) (aa (dF (g.newR id N) v.rv j.ring) (aa (gm v.pv j.pull) (aa (dm (g.newR id N) v.lv j.hp) (aa (hpA (g.newR id N) j.hp) B)))))))))))by unfold aS;ac_rfl);have hd:=bq (aw bU (show _=aa (dB x j v) (aa (gJ (g.newR id N) v.rm j.reqs) (aa (ji (g.newR id N) j.c.re ⟨id,c,ten,txt,0,j.c.re,false⟩ (.slice none 0 0)) (aa (iu v.cm j.br) (aa (fW (g.newR id N) v.tm j.aI) (aa (all gi j.br) (aa (all (dP (g.newR id N) j.c.re) j.reqs) (aa (all (eC (g.newR id N)) j.aI) (aa (dF (g.newR id N) v.rv j.ring) (aa (gm v.pv j.pull) (aa (dm (g.newR id N) v.lv j.hp) (aa (hpA (g.newR id N) j.hp) B)))))))))))by unfold aS;ac_rfl));refine⟨v.rm,hd.1 7, ?_⟩;obtain⟨G3,H3,RL,nU,d3,e3⟩:=bI h3 1;obtain⟨w2,vn,eO⟩:=ud RL underlying82 (by rw[aR];unfold maxLen;omega) id hid N (by rw[az];exact xt);refine⟨w2,vn,(ay o1 n1 (cX (q:=1) (aH nU eO d3 e3))).mono fun F' h'=> ?_⟩;unfold jA;rw[bF];refine⟨v, ?_⟩;have e4:mapA iA v.rm ((j.reqs.map fun r=>(r.q.id,(g.newR id N).rp r.q.id))++ [(id,N)])=gJ (g.newR id N) v.rm (j.reqs++ [⟨⟨id,c,ten,txt,0,j.c.re,false⟩, []⟩]):=by unfold gJ;rw[aB];simp only[List.map_cons,List.map_nil,Gh.qB]
 have e5:all (dP (g.newR id N) j.c.re) (j.reqs++ [⟨⟨id,c,ten,txt,0,j.c.re,false⟩, []⟩])=aa (dP (g.newR id N) j.c.re ⟨⟨id,c,ten,txt,0,j.c.re,false⟩, []⟩) (all (dP (g.newR id N) j.c.re) j.reqs):=by rw[all_append,rV,aZ]
 show(aa (aS x (g.newR id N) _ v) B).holds w2 F';unfold aS;dsimp only;rw[<-e4,e5];have h5:(aa (dP (g.newR id N) j.c.re ⟨⟨id,c,ten,txt,0,j.c.re,false⟩, []⟩) (aa (mapA iA v.rm ((j.reqs.map fun r=>(r.q.id,(g.newR id N).rp r.q.id))++ [(id,N)])) (aa (dB x j v) (aa (iu v.cm j.br) (aa (fW (g.newR id N) v.tm j.aI) (aa (all gi j.br) (aa (all (dP (g.newR id N) j.c.re) j.reqs) (aa (all (eC (g.newR id N)) j.aI) (aa (dF (g.newR id N) v.rv j.ring) (aa (gm v.pv j.pull) (aa (dm (g.newR id N) v.lv j.hp) (aa (hpA (g.newR id N) j.hp) B)))))))))))).holds w2 F':=by have ex0:dP (g.newR id N) j.c.re ⟨⟨id,c,ten,txt,0,j.c.re,false⟩, []⟩=ex fun av=>aa (ji (g.newR id N) j.c.re ⟨id,c,ten,txt,0,j.c.re,false⟩ av) (iM (g.newR id N) av id []):=rfl;rw[ex0,bF];refine⟨.slice none 0 0, ?_⟩;show(aa (aa (ji (g.newR id N) j.c.re ⟨id,c,ten,txt,0,j.c.re,false⟩ (.slice none 0 0)) (iM (g.newR id N) (.slice none 0 0) id [])) _).holds w2 F';rw[bn];have h6:=aw h' (show _=aa (ji (g.newR id N) j.c.re ⟨id,c,ten,txt,0,j.c.re,false⟩ (.slice none 0 0)) (aa (mapA iA v.rm ((j.reqs.map fun r=>(r.q.id,(g.newR id N).rp r.q.id))++ [(id,N)])) (aa (dB x j v) (aa (iu v.cm j.br) (aa (fW (g.newR id N) v.tm j.aI) (aa (all gi j.br) (aa (all (dP (g.newR id N) j.c.re) j.reqs) (aa (all (eC (g.newR id N)) j.aI) (aa (dF (g.newR id N) v.rv j.ring) (aa (gm v.pv j.pull) (aa (dm (g.newR id N) v.lv j.hp) (aa (hpA (g.newR id N) j.hp) B)))))))))))by ac_rfl);obtain⟨Ga,Ha,a1,a2,a3,a4⟩:=h6;exact⟨Ga,Ha,a1,⟨fun _=>False,Ha,gS _ _ _ (fun _ h=>h),a2,fun _ h=>h.elim,fun k=>⟨.inr,fun h=>h.elim False.elim (fun h=>h)⟩⟩,a3,a4⟩
 refine aw h5 ?_;show _=aa (aa (dB x j v) _) _
 ac_rfl
end
variable{s:St}
theorem A5(id:Int)(t:Bs):said [.s [114,101,106], .n id, .s t]= [114,101,106,32]++a7 id++ [32]++t:=by simp[said,Lib.join,Part.txt]
theorem K5(id:Int):said [.s [97,99,99], .n id]= [97,99,99,32]++a7 id:=by simp[said,Lib.join,Part.txt]
theorem Kw(h:Inv s)(r:Rq)(hr:s.req r.id=none):Inv (s.more r):=by
 have Pg:r.id∉s.ks.map (·.1):=(St.fresh h hr).2.2;have qZ:(s.more r).ks=s.ks++ [(r.id,r.ten)]:=by unfold St.more St.ks;rw[aB];rfl
 refine⟨?_,fun a ha=> ?_,fun l hl=>⟨(h.ring l hl).1,fun i hi=> ?_⟩,h.dV,h.once,h.cn,h.wt⟩
 ·rw[qZ,aB,List.nodup_append];refine⟨h.rid,by simp,fun a ha b hb e=>Pg ?_⟩;simp at hb;subst hb;exact e▸ha
 ·rw[qZ,aB];exact List.mem_append_left _ (h.bB a ha)
 ·rw[qZ];exact List.mem_append_left _ ((h.ring l hl).2 i hi)
theorem Ky(r:Rq)(hr:s.req r.id=none):(s.more r).req r.id=some r:=by unfold St.req St.more at*;rw[List.find?_append,hr];simp
theorem Gx(s:St)(c:Int)(t:Bs)(id:Int)(f:Bool):(s.say c t).aT id f=(s.aT id f).say c t:=by unfold St.aT;have:(s.say c t).ten id=s.ten id:=rfl;rw[this];show(if s.ring.any _ then _ else _)=_;split<;>rfl
theorem MW(hi:Inv s)(Fg:1<=s.c.bo)(nm:Bs):(s.ring.any fun l=>l.ten==nm &&decide (s.c.bo<=(l.ids.length:Int)))=decide (s.c.bo<=((s.aL nm).length:Int)):=by
 unfold St.aL;cases hf:s.ring.find? (·.ten==nm)with
 |none=>
  dsimp only;have h1:(s.ring.any fun l=>l.ten==nm &&decide (s.c.bo<=(l.ids.length:Int)))=false:=by rw[List.any_eq_false];intro l hl e;simp only[a8]at e;exact absurd e.1 (by simpa using List.find?_eq_none.1 hf l hl)
  rw[h1];simp;omega
 |some z=>
  dsimp only;have hz:=cO hf;have ez:z.ten=nm:=by simpa using List.find?_some hf
  by_cases hb:s.c.bo<=(z.ids.length:Int)
  ·rw[decide_eq_true hb];exact List.any_eq_true.2 ⟨z,hz,by simp[ez,hb]⟩
  ·rw[decide_eq_false hb,List.any_eq_false];intro l hl e;simp only[a8,decide_eq_true_eq]at e;have:l=z:=bC (k:=fun l:Ln=>l.ten) hi.dV hl hz (by rw[ez];simpa using e.1);subst this;exact hb e.2
theorem Da{base x tb:Nat}{g:Gh}{cn:List (Int×Nat×Bs)}{w:World}{F:Ft}{n:Nat}(T:Tabs base w)(h:(stA base x tb g cn s).holds w F)(hs:Sd n s)(hn:n<=16775000)(c:Int)(m:Mg)(hid:0<=m.id∧m.id<=999999)(vo:m.ten.length<=64):Calls prog 137 #[pt x,pt tb, .int .i64 c, .agg m.cs] w fun e w'=>e= .returned (.tuple #[])∧ ∃g',Goes (stA base x tb g' cn (s.bT c m)) w F w':=by
 obtain⟨w1,fZ⟩: ∃w1,w1=w.alloc (.cells m.cs 149):=⟨_,rfl⟩;obtain⟨bx,qW⟩: ∃bx,bx=w.heap.size:=⟨_,rfl⟩;have qh:Below w.heap.size w w1:=by rw[fZ];exact(ar _ _).alloc (af _) _
 have T1:=T.new qh;have h1:(stA base x tb g cn s).holds w1 F:=Mr.aF h qh;have hF:=cr h;have kA:bx<w1.heap.size:=by rw[fZ,qW];simp
 have JJ: ¬F bx:=fun hf=>by have:=aD.lt _ h bx hf;omega
 have sS: ∀k,w1.cell? ⟨bx,k,none⟩=m.cs[k]?:=fun k=>by rw[fZ,qW];simp only[World.cell?,heap_alloc_new];rfl
 have mv:Hid (∀(g2:Gh) (s2:St) w',Goes (stA base x tb g2 cn s2) w1 F w'->Goes (stA base x tb g2 cn s2) w F w'):=fun g2 s2 w' hg=>by rw[fZ]at hg;exact dy hg
 have hz:=hs.sz;have b1:w1.cell? ⟨bx,1,none⟩=some (.int .i64 m.id):=sS 1;have b3:w1.cell? ⟨bx,3,none⟩=some (.string ⟨m.ten.toArray⟩):=sS 3;have b4:w1.cell? ⟨bx,4,none⟩=some (.string ⟨m.txt.toArray⟩):=sS 4;have ZZ:I6 m.id:=I6.of (by omega) (by omega);obtain⟨rm,c7,L1,lL⟩:=tY h1 hs.inv m.id ZZ;have gZ:=lL w1.drew (ar _ _).drew;have JK: ∀b:Bs,b.length<=64-> ∀p∈ [Part.s [114,101,106],Part.n m.id,Part.s b],p.ok:=fun b hl p hp=>by
  simp only[List.mem_cons,List.not_mem_nil,or_false]at hp;rcases hp with rfl|rfl|rfl
  ·exact Part.qD (by decide)
  ·exact Part.xV (tL hid)
  ·exact Part.qD hl
 have HW:=hide fZ;have Hs:=hide qW;cases hq:s.req m.id with
 |some q=>
  have es:s.bT c m=s.say c ([114,101,106,32]++a7 m.id++ [32,100,117,112]):=by unfold St.bT;rw[hq];rfl
  rw[es];rw[hq]at gZ;have gj:=hide (jD T1 h1 (by omega) c [.s [114,101,106], .n m.id, .s [100,117,112]] ([114,101,106,32]++a7 m.id++ [32,100,117,112]) (by rw[A5];simp) (by simp) (by simp) (JK _ (by decide)));clear T h hs qh T1 h1 sS fZ qW lL JK;unfold pt Mg.cs at*;generalize g.rp m.id=rp at*;go_enter func137,ntmps137;go_wp2_with fail;rw[<-Hs.out,<-HW.out];go_region_with (fail)
  all_goals
   go_wp2_with (first
    |(go_at_call 89;go_must(refine(gj.out _).mono ?_;rintro e w5⟨rfl,fO⟩;have yu:=hide (mv.out _ _ _ fO);clear fO)))
   (try simp only[Exit.inBlock,Exit.then])
   exact bodyPost_ret (results_none rfl _ _ _) rfl ⟨rfl,_,yu.out⟩
 |none=>
  rw[hq]at gZ;have Fg:=hs.bd.c.bo;have RO:=MW hs.inv Fg.1 m.ten;obtain⟨q,eq⟩: ∃q:Rq,q=⟨m.id,c,m.ten,m.txt,0,s.c.re,false⟩:=⟨_,rfl⟩;have Zk:q.id=m.id:=by rw[eq]
  have XD:s.req q.id=none:=by rw[Zk];exact hq
  have Ve:=Kw hs.inv q XD;have VA:(s.more q).sz<=16777000:=by unfold St.sz at hz⊢;show s.out.length+4*s.ag.length+8*s.wait.length+(s.reqs++ [q]).length+s.ak.length+s.begun<=_;rw[aC];simp only[List.length_cons,List.length_nil];omega
  have tK:=Ky q XD;rw[Zk]at tK;have XT:(s.more q).waits m.id=false:=(St.fresh hs.inv hq).2.1;have WR:=St.iK Ve (id:=m.id) (by obtain⟨r,hr,e⟩:=ax.1 (show(m.id,m.ten)∈(s.more q).ks by unfold St.ks St.more;rw[aB];exact List.mem_append_right _ (by rw[eq];simp));exact ax.2 ⟨_,ax.2 ⟨r,hr,rfl⟩,by rw[e]⟩) XT false
  have VB:((s.more q).aT m.id false).sz<=16777000:=by rw[St.lJ];exact VA
  have XE:((s.more q).aT m.id false).req m.id=some q:=by
   have:((s.more q).aT m.id false).reqs=(s.more q).reqs:=by unfold St.aT;split<;>rfl
   unfold St.req at tK⊢;rw[this];exact tK
  have PY:Hid (∀nq,Calls prog 183 #[pt x,bs m.ten] (w1.drewN nq) fun e w2=> ∃g':Gh,e= .returned (pt (g'.tp m.ten))∧ ∀nr,∃ao cap,
    ((w2.drewN nr).cell? ⟨bx,1,none⟩=some (.int .i64 m.id)∧(w2.drewN nr).cell? ⟨bx,4,none⟩=some (.string ⟨m.txt.toArray⟩)∧(w2.drewN nr).cell? ⟨g'.tp m.ten,1,none⟩=some (.slice ao (s.aL m.ten).length cap)∧(w2.drewN nr).cell? ⟨x,3,none⟩=some (.int .i64 s.c.bo))∧
    Hid (s.c.bo<=((s.aL m.ten).length:Int)-> ∀ns,Calls prog 89 #[pt tb, .int .i64 c, .slice (some ⟨(w2.drewN nr).heap.size,0,none⟩) 3 3] (((w2.drewN nr).alloc (.cells #[.iface 9 (.string ⟨#[114,101,106]⟩), .iface 3 (.int .i64 m.id), .iface 9 (.string ⟨#[102,117,108,108]⟩)] 20)).drewN ns) fun e w5=>e= .returned (.tuple #[])∧ ∃Jg,Goes (stA base x tb Jg cn (s.say c ([114,101,106,32]++a7 m.id++ [32,102,117,108,108]))) w F w5)∧
    Hid (¬s.c.bo<=((s.aL m.ten).length:Int)-> ∃rm w4,((w2.drewN nr).alloc (.cells #[.int .i64 m.id, .int .i64 c,pt (g'.tp m.ten),bs m.txt, .int .i64 0, .int .i64 0, .bool false, .slice none 0 0] 132)).cell? ⟨x,7,none⟩=some (.map (some rm))∧
     (Instr.mapUpdate 82 (.map (some rm)) (.int .i64 m.id) (pt (w2.drewN nr).heap.size)).run prog ((w2.drewN nr).alloc (.cells #[.int .i64 m.id, .int .i64 c,pt (g'.tp m.ten),bs m.txt, .int .i64 0, .int .i64 0, .bool false, .slice none 0 0] 132)).drew= .ok () w4∧
     Hid (Calls prog 70 #[pt x,pt (w2.drewN nr).heap.size] w4 fun e w5=>e= .returned (.tuple #[])∧w5.cell? ⟨(w2.drewN nr).heap.size,0,none⟩=some (.int .i64 m.id)∧
      Hid (∀ns,Calls prog 89 #[pt tb, .int .i64 c, .slice (some ⟨w5.heap.size,0,none⟩) 2 2] ((w5.alloc (.cells #[.iface 9 (.string ⟨#[97,99,99]⟩), .iface 3 (.int .i64 m.id)] 20)).drewN ns) fun e w6=>e= .returned (.tuple #[])∧ ∃Jg,Goes (stA base x tb Jg cn (((s.more q).aT m.id false).say c ([97,99,99,32]++a7 m.id))) w F w6)))):=fun nq=>by
   have h1q:=bI h1 nq;obtain⟨j,r1,r2,r3,_,hh⟩:=h1q;have wf:=dD r1 hs.inv (by omega);have QJ:j.aI.length<=16777000:=by have:=r1.UQ;unfold St.sz at hz;omega
   refine(uB hh wf m.ten vo).mono ?_;rintro e w2⟨g',rfl,erp,Zm,eO⟩;refine⟨g',rfl,fun nr=> ?_⟩;have Ni:=cX (eO.drewN nr);have T2:=T1.goes hF Ni;have Xf:=Ni;obtain⟨F2,gl,o2,n2⟩:=Xf;have VG:=wf.ten m.ten QJ;obtain⟨t,ht,Zo,etw⟩: ∃t∈(j.ten m.ten).aI,t.nm=m.ten∧t.wt=s.aL m.ten:=by
    by_cases D9:m.ten∈j.aI.map (·.nm)
    ·obtain⟨t,ht,e⟩:=ax.1 D9;refine⟨t,by unfold Js.ten;rw[if_pos D9];exact ht,e,by rw[r1.wt t ht,e]⟩
    ·refine⟨⟨m.ten, [],0⟩,by unfold Js.ten;rw[if_neg D9];simp,rfl, ?_⟩;unfold St.aL;cases hf:s.ring.find? (·.ten==m.ten)with
     |none=>rfl
     |some l=>
      have el:l.ten=m.ten:=by simpa using List.find?_some hf
      exact absurd (wf.ring l.ten (by rw[r1.ring];exact ax.2 ⟨l,cO hf,rfl⟩)) (by rw[el];exact D9)
   have Qg:=gl;unfold jA at Qg;rw[bF]at Qg;obtain⟨v,hv⟩:=Qg;obtain⟨Gj,mz,_⟩:=aD.left hv;have D:=tO mz;obtain⟨wv,Gw,XN,uL⟩:=J8 mz ht;obtain⟨ao,cap,WA⟩:=aJ (Goes.refl uL);have cb: ∀k,(w2.drewN nr).cell? ⟨bx,k,none⟩=m.cs[k]?:=fun k=>by rw[o2.cell (p:=⟨bx,k,none⟩) kA JJ];exact sS k
   refine⟨ao,cap,⟨cb 1,cb 4, ?_, ?_⟩,fun oH ns=> ?_,fun q8=> ?_⟩
   ·rw[<-Zo];simp only[World.cell?,XN];show some wv=_;rw[WA,etw,Zo]
   ·rw[D.1 3];show some (Value.int .i64 j.c.bo)=_;rw[r1.c]
   ·
    have D9:m.ten∈j.aI.map (·.nm):=by
     by_cases D9:m.ten∈j.aI.map (·.nm)
     ·exact D9
     ·have:s.aL m.ten= []:=by
       unfold St.aL;cases hf:s.ring.find? (·.ten==m.ten)with
       |none=>rfl
       |some l=>
        have el:l.ten=m.ten:=by simpa using List.find?_some hf
        exact absurd (wf.ring l.ten (by rw[r1.ring];exact ax.2 ⟨l,cO hf,rfl⟩)) (by rw[el];exact D9)
      rw[this]at oH;simp at oH;omega
    have ej:j.ten m.ten=j:=by unfold Js.ten;rw[if_pos D9]
    rw[ej]at Ni;have ra:Goes (stA base x tb g' cn s) w1 F (w2.drewN nr):=fJ (s':=s) T1 hF (r1.gh Zm) r2 r3 Ni;obtain⟨F3,kT,o3,n3⟩:=ra;refine(jD T2 kT (by omega) c [.s [114,101,106], .n m.id, .s [102,117,108,108]] ([114,101,106,32]++a7 m.id++ [32,102,117,108,108]) (by rw[A5];simp) (by simp) (by simp) (JK _ (by decide)) ns).mono ?_;rintro e w5⟨rfl,g5⟩;exact⟨rfl,g',mv.out _ _ _ (ay o3 n3 g5)⟩
   ·have jH:j.reqs.length<=16777000:=by
     have:j.reqs.length=s.reqs.length:=by rw[<-r1.reqs,aR]
     unfold St.sz at hz;omega
    have qZ:(j.reqs.map fun r=>r.q.id)=s.reqs.map (·.id):=by rw[<-r1.reqs,az];rfl
    obtain⟨rm,Y8,w4,Cz,gL⟩:=NR gl VG (fun a ha=>by
      obtain⟨r,hr,t',zT,er,_⟩:=CW r1 hs.inv (r1.hp.subset ha);exact ax.2 ⟨r,hr,er⟩) jH m.id c m.ten m.txt ZZ (by
      show m.id∉j.reqs.map fun r=>r.q.id;rw[qZ];intro D9;obtain⟨r,hr,e⟩:=ax.1 D9;exact List.find?_eq_none.1 hq r hr (by simpa using e))
    refine⟨rm,w4,Y8,Cz, ?_⟩;have TL:=ay o2 n2 gL;have ejm:({j.ten m.ten with reqs:=(j.ten m.ten).reqs++ [⟨⟨m.id,c,m.ten,m.txt,0,(j.ten m.ten).c.re,false⟩, []⟩]}:Js)=j.more q:=by unfold Js.more Js.ten;rw[eq];dsimp only;rw[r1.c]
    rw[ejm]at TL;have hR:Rel (g'.newR m.id (w2.drewN nr).heap.size) (j.more q) (s.more q):=(r1.more hs.inv q XD).gh (show(g'.newR m.id _).sr=g.sr from Zm);have ra:Goes (stA base x tb (g'.newR m.id (w2.drewN nr).heap.size) cn (s.more q)) w1 F w4:=fJ (s':=s.more q) T1 hF hR r2 r3 TL;have T4:=T1.goes hF ra;have Tb:(g'.newR m.id (w2.drewN nr).heap.size).rp m.id=(w2.drewN nr).heap.size:=Gh.qB _ _ _;obtain⟨F4,u9,o4,n4⟩:=ra;show Calls _ _ _ _ _;have jg:=rE T4 u9 Ve VA tK;rw[Tb]at jg;refine jg.mono ?_;rintro e w5⟨rfl,g5⟩;have Zu:=ay o4 n4 g5;have T5:=T1.goes hF Zu;obtain⟨F5,E9,o5,n5⟩:=Zu;obtain⟨_,_,_,_,RA⟩:=eZ E9 WR VB XE;have ci:=RA.ci;rw[Tb]at ci;refine⟨rfl,ci,fun ns=> ?_⟩;refine(jD T5 E9 VB c [.s [97,99,99], .n m.id] ([97,99,99,32]++a7 m.id) (K5 _) (by simp) (by simp) (by
     intro p hp;simp only[List.mem_cons,List.not_mem_nil,or_false]at hp;rcases hp with rfl|rfl
     ·exact Part.qD (by decide)
     ·exact Part.xV (tL hid)) ns).mono ?_
    rintro e w6⟨rfl,g6⟩;exact⟨rfl,_,mv.out _ _ _ (ay o5 n5 g6)⟩
  have aao:(s.aL m.ten).length<=16777210:=by
   unfold St.aL;split
   ·rename_i l hl;have:=St.Ee hs.inv (cO hl);unfold St.sz at hz;omega
   ·simp
  by_cases oH:s.c.bo<=((s.aL m.ten).length:Int)
  ·have es:s.bT c m=s.say c ([114,101,106,32]++a7 m.id++ [32,102,117,108,108]):=by
    unfold St.bT;rw[hq,if_neg (by simp),if_pos (by rw[RO];simpa using oH)]
   rw[es];clear T h hs qh T1 h1 sS fZ qW lL JK RO Ve WR XE tK XT VA VB;unfold pt Mg.cs bs at*;generalize(s.aL m.ten).length=nw at*;go_enter func137,ntmps137;go_wp2_with fail;rw[<-Hs.out,<-HW.out];go_region_with (fail)
   all_goals
    go_wp2_with (first
     |(go_at_call 183;go_must(refine(PY.out _).mono ?_;rintro e w2⟨g',rfl,RZ⟩;obtain⟨ao,cap,⟨y1,y2,y3,y4⟩,YX,_⟩:=RZ 0;clear RZ;change w2.cell? _=_ at y1;change w2.cell? _=_ at y2;change w2.cell? _=_ at y3;change w2.cell? _=_ at y4;have HSG:=hide (YX.out oH);clear YX)))
    go_quiet (fail)
    go_wp2_with (first
     |(go_at_call 89;go_must(refine(HSG.out _).mono ?_;rintro e w5⟨rfl,fO⟩;have yu:=hide fO;clear fO)))
    (try simp only[Exit.inBlock,Exit.then])
    exact bodyPost_ret (results_none rfl _ _ _) rfl ⟨rfl,yu.out⟩
  ·have es:s.bT c m=((s.more q).aT m.id false).say c ([97,99,99,32]++a7 m.id):=by
    unfold St.bT;rw[hq,if_neg (by simp),if_neg (by rw[RO];simpa using oH)];rw[Gx,eq];rfl
   rw[es];have Jz:decide (s.c.bo<=((s.aL m.ten).length:Int))=false:=by simpa using oH
   have HFU:=hide oH;clear T h hs qh T1 h1 sS fZ qW lL JK RO Ve WR XE tK XT VA VB oH;unfold pt Mg.cs bs at*;generalize(s.aL m.ten).length=nw at*;go_enter func137,ntmps137;go_wp2_with fail;rw[<-Hs.out,<-HW.out];go_region_with (fail)
   all_goals
    go_wp2_with (first
     |(go_at_call 183;go_must(refine(PY.out _).mono ?_;rintro e w2⟨g',rfl,RZ⟩;have Hy:=hide RZ;obtain⟨ao,cap,⟨y1,y2,y3,y4⟩,_,_⟩:=RZ 0;clear RZ;change w2.cell? _=_ at y1;change w2.cell? _=_ at y2;change w2.cell? _=_ at y3;change w2.cell? _=_ at y4)))
    generalize g'.tp m.ten=tp at*
    go_quiet (fail)
    obtain⟨_,_,⟨u1,u2,_,_⟩,_,OX⟩:=Hy.out nq;obtain⟨rm',w4,k1,k2,Mk⟩:=OX.out HFU.out;clear Hy OX y1 y2 y3 y4 PY;generalize w2.drewN nq=w3 at*;go_wp2_with fail;go_region_with (fail)
    all_goals
     go_wp2_with (first
      |(go_at_call 70;go_must(refine Mk.out.mono ?_;rintro e w5⟨rfl,y5,gj⟩;clear Mk))
      |(go_at_call 89;go_must(refine(gj.out 0).mono ?_;rintro e w6⟨rfl,gM⟩;have yK:=hide gM;clear gM)))
     go_end0;exact⟨rfl,yK.out⟩
variable{n base x tb:Nat}{s:St}{g:Gh}{cn:List (Int×Nat×Bs)}{w:World}{F:Ft}
theorem Sd.QV(h:Sd n s)(c:Int)(t:Bs){i:Nat}{a:At}(ha:s.ag[i]?=some a)(id:Int):Sd n (((s.say c t).aU i).again id true):=by have h1:=h.say c t;have h2:Inv ((s.say c t).aU i):=St.ba h1.inv i;refine⟨St.dt h2 id true,(h1.ok.aU h1.inv i).again h2 id true, ?_,(h1.bd.aU i).again h2 id true⟩;have e1:=St.ku (s:=s.say c t) (i:=i) (a:=a) ha;have e2:=h1.sz;have e3:=St.sL (s:=(s.say c t).aU i) id true;omega
structure Wc(g:Gh)(x:Nat)(s:St)(hp:List At)(w:World)(ao:Option Addr)(cap:Nat):Prop where
 le:w.cell? ⟨x,11,none⟩=some (.slice ao s.ag.length cap)
 le0: ∀b l,hp=b::l-> ∃bb off,ao=some ⟨bb,off,none⟩∧w.cell? ⟨bb,off,none⟩=some (pt (g.ap (key b)))∧w.cell? ⟨g.ap (key b),5,none⟩=some (.int .i64 b.cS)∧w.cell? ⟨g.ap (key b),1,none⟩=some (pt (g.rp b.id))
 now:w.cell? ⟨x,5,none⟩=some (.int .i64 s.now)
 len:hp.length=s.ag.length∧s.ag.length<=16777190
theorem wy(h:(stA base x tb g cn s).holds w F)(hi:Inv s)(hz:s.sz<=16777000): ∃j ao cap,Rel g j s∧Wc g x s j.hp w ao cap:=by
 obtain⟨j,r1,r2,r3,hF,hh⟩:=h;have wf:=dD r1 hi hz;unfold jA at hh;rw[bF]at hh;obtain⟨v,hv⟩:=hh;obtain⟨Gj,mz,_⟩:=aD.left hv;have D:=tO mz;obtain⟨⟨Gl,r7⟩,tA⟩:=J7 mz;obtain⟨ao,cap,E1⟩:=aJ (Goes.refl r7);have hl:=r1.hp.length_eq;refine⟨j,ao,cap,r1,by rw[D.1 11];show some v.lv=_;rw[E1,hl],fun b l hb=> ?_,by rw[D.1 5];show some (Value.int .i64 j.now)=_;rw[r1.now],⟨hl,by have:=wf.b4;omega⟩⟩;unfold dm at r7;rw[E1,hb,List.map_cons]at r7;obtain⟨bb,off,cp,e1,e2⟩:=mh r7 (by simp);cases e1;have h0:=tA 0 (by rw[hb];simp);have e0:j.hp[0]'(by rw[hb];simp)=b:=by simp[hb]
 rw[e0]at h0;exact⟨bb,off,rfl,e2,by simp only[World.cell?,h0];rfl,by simp only[World.cell?,h0];rfl⟩
def Aj(x:Nat)(w:World):Nat:=match w.cell? ⟨x,11,none⟩with|some (.slice _ n _)=>n|_=>0
structure wU(base x tb:Nat)(g:Gh)(cn:List (Int×Nat×Bs))(n:Nat)(s:St)(w:World)(F:Ft)(s':St)(wr:World):Prop where
 sd:Sd n s'
 busy:Busy s' (fun _=>False)
 goes:Goes (stA base x tb g cn s') w F wr
 done: ∃f,s'.ag.length<=f∧St.bV f s'=St.bV s.ag.length s
theorem uQ(s:St)(id:Int)(b:Bool):(s.again id b).ag.length<=s.ag.length:=by
 unfold St.again;split
 ·exact af _
 ·split
  ·exact af _
  ·split
   ·exact((St.iI _ _ _).sub.length_le:((St.stops _ _ _).left _).ag.length<=_)
   ·split
    ·rw[show∀t:St,(t.aT id true).ag=t.ag from fun t=>by unfold St.aT;split<;>rfl];exact af _
    ·rw[show∀t:St,(t.aT id true).ag=t.ag from fun t=>by unfold St.aT;split<;>rfl];exact af _
theorem FJ(T:Tabs base w)(h:(stA base x tb g cn s).holds w F)(hs:Sd n s)(hn:n<=16774000)(hb:Busy s (fun _=>False)):Calls prog 40 #[pt x,pt tb] w fun e w'=>e= .returned (.tuple #[])∧Goes (stA base x tb g cn (St.bV s.ag.length s)) w F w':=by
 have uG:Hid (wU base x tb g cn n s w F s w):=⟨hs,hb,Goes.refl h,_,af _,rfl⟩;have HT:=hide T;have HF:=hide (cr h);clear hs hb h T;unfold pt;go_enter func40,ntmps40;go_wp2;go_loopw [] (fun wr=> ∃s':St,Hid (wU base x tb g cn n s w F s' wr)) (fun wr=>Aj x wr)
 case atStart=>exact⟨s,uG⟩
 case round=>
  obtain⟨s',gO⟩:=hrel;have hz:=gO.out.sd.sz;obtain⟨F1,bU,o1,n1⟩:=gO.out.goes;have T1:=HT.out.goes HF.out gO.out.goes;obtain⟨j,ao,cap,r1,LX⟩:=wy bU gO.out.sd.inv (by omega);have pQ:Hid (Aj x wr=s'.ag.length):=by show(_=_);unfold Aj;rw[LX.le]
  have c11:=LX.le;have c5:=LX.now;have hl:=LX.len;have Sa:Hid (s'.due=none-> ∀q,Goes (stA base x tb g cn (St.bV s.ag.length s)) w F (wr.drewN q)):=fun hd q=>by obtain⟨f,_,e⟩:=gO.out.done;rw[St.CJ hd]at e;rw[<-e];exact gO.out.goes.drewN q
  cases BA:j.hp with
  |nil=>
   have hd:=Sa.out (r1.zv (fun a ha=>by rw[BA]at ha;cases ha));have h0:s'.ag.length=0:=by rw[<-hl.1,BA];rfl
   rw[h0]at c11;have HD:=hide hd;clear gO bU o1 n1 T1 LX r1 Sa uG HT HF hd;go_wp2_with fail
   go_quiet (fail)
   go_wp2;go_end0;exact⟨rfl,HD.out _⟩
  |cons b l=>
   obtain⟨bb,off,rfl,d1,d2,d3⟩:=LX.le0 b l BA;have tF:s'.ag.length=l.length+1:=by rw[<-hl.1,BA];rfl
   have JO:(0:Int)<((l.length:Nat):Int)+1:=by omega
   by_cases ht:b.cS<=s'.now
   ·obtain⟨i,ZR,nu⟩:=r1.I3 (by rw[BA];rfl) ht;have mM:=cK nu;obtain⟨q,hq,_,Cs⟩:=St.cf (gO.out.sd.inv.bB b mM);have htt:decide (b.cS<=s'.now)=true:=by simpa using ht
    have mV:Hid (∀nq,Calls prog 66 #[pt x,pt tb,pt (g.ap (key b))] (wr.drewN nq) fun e w2=>e= .returned (.tuple #[])∧w2.cell? ⟨g.ap (key b),1,none⟩=some (pt (g.rp b.id))∧
      Hid (Calls prog 67 #[pt x,pt tb,pt (g.rp b.id)] w2 fun e w3=>e= .returned (.tuple #[])∧ ∃rz,wU base x tb g cn n s w F rz w3∧Aj x w3<s'.ag.length)):=fun nq=>by
     refine(Be (T1.below (pU (ar _ _) nq)) (bI bU nq) gO.out.sd (by omega) nu).mono ?_;rintro e w2⟨rfl,k,hg⟩;have Vk:=hg;obtain⟨F2',WE,_⟩:=Vk;have tA:=(bQ (aw WE (aZ _ _))).1;refine⟨rfl,by simp only[World.cell?,tA];rfl, ?_⟩;have iG:=ay o1 n1 (cX hg.drop);have T2:=HT.out.goes HF.out iG;obtain⟨F2,gl,o2,n2⟩:=iG;have q9:=gO.out.sd.stop b.conn (St.aM b.id b.n) nu;have LW:((s'.say b.conn (St.aM b.id b.n)).aU i).req b.id=some q:=by rw[lC];exact hq
     have vY:Busy ((s'.say b.conn (St.aM b.id b.n)).aU i) (fun y=>False∨y=b.id):=Busy.aU (i:=i) (a:=b) (gO.out.busy.say b.conn (St.aM b.id b.n)) nu;show Calls _ _ _ _ _;refine(vD T2 gl q9 (by omega) LW (vY.mono (fun y hy=>hy.elim False.elim (fun h=>h)))).mono ?_;rintro e w3⟨rfl,eP⟩;have Cm:=ay o2 n2 eP;have xu:=gO.out.sd.QV b.conn (St.aM b.id b.n) nu b.id;have hle:=uQ ((s'.say b.conn (St.aM b.id b.n)).aU i) b.id true;have hel:((s'.say b.conn (St.aM b.id b.n)).aU i).ag.length+1=s'.ag.length:=by rw[s8 (s:=s'.say b.conn (St.aM b.id b.n)) nu,(oa _ _).1];show(s'.ag.eraseIdx i).length+1=_;have hlen:i<s'.ag.length:=(cH.1 nu).1;rw[List.length_eraseIdx_of_lt hlen];omega
     refine⟨rfl,_,⟨xu,Busy.again vY q9.inv true,Cm, ?_⟩, ?_⟩
     ·obtain⟨f,hf,e⟩:=gO.out.done;obtain⟨f',rfl⟩: ∃f',f=f'+1:=⟨f-1,by omega⟩;rw[St.CK ZR nu]at e;exact⟨f',by omega,e⟩
     ·obtain⟨F3,kT,_⟩:=Cm;obtain⟨j3,gY,cP,r3,LX3⟩:=wy kT xu.inv (by have:=xu.sz;omega);unfold Aj;rw[LX3.le];dsimp only;omega
    rw[tF]at c11 pQ mV hl;clear gO bU o1 n1 T1 LX r1 Sa uG HT HF BA nu ZR mM hq Cs;unfold pt at*;generalize g.ap (key b)=ap at*;generalize g.rp b.id=rp at*;generalize l.length=ln at*;go_wp2_with fail
    go_quiet (fail)
    go_wp2_with (first
     |(go_at_call 66;go_must(refine(mV.out _).mono ?_;rintro e w2⟨rfl,y1,Yz⟩;clear mV))
     |(go_at_call 67;go_must(refine Yz.out.mono ?_;rintro e w3⟨rfl,rz,hlp,Pf⟩;have HLP:=hide hlp;have Sq:=hide Pf;clear hlp Pf Yz)))
    go_roundw
    case rel=>exact⟨rz,HLP⟩
    case measure=>have:=Sq.out;have:=pQ.out;omega
   ·have hd:=Sa.out (r1.zv (fun a ha=>by rw[BA]at ha;simp at ha;rw[<-ha];omega));have htt:decide (b.cS<=s'.now)=false:=by simpa using ht
    have HD:=hide hd;rw[tF]at c11 hl;clear gO bU o1 n1 T1 LX r1 Sa uG HT HF hd BA;unfold pt at*;generalize g.ap (key b)=ap at*;generalize l.length=ln at*;go_wp2_with fail
    go_quiet (fail)
    go_wp2;go_end0;exact⟨rfl,HD.out _⟩
