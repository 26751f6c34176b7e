import Derived.Test.YtffamlbkmjmipaaGreatDoorB34
set_option maxHeartbeats 8000000
set_option maxRecDepth 100000
namespace Go.Proofs.YtffamlbkmjmipaaGreatDoor
open _root_.Go.Proofs.Tryz
namespace Pj
open Go.RowKit aM Mc bJ
attribute [local go_sem] ag ar
theorem P2:(prog.info? 3).map (fun i=>(i.zero,i.size,i.bytes))=some (some (.int .i64 0),1,8):=by kernel_rfl
def wu(s:St)(c:Int):St:=if s.wait.any (· ==c)then s else if(s.conn c).drains c then s.conn c else{s.conn c with wait:=(s.conn c).wait++ [c]}
theorem aag(v:Value)(l:List Int)(x:Int)(w:World)(G:Ft)(h:(rowA 3 1 v l.length (l.map fun i=> .int .i64 i)).holds w G)(hl:l.length<=16777216):Calls prog 184 #[v, .int .i64 x] w fun e w'=>e= .returned (.bool (decide (x∈l)))∧w'=w:=by
 have rz:=ixN v l x w G h hl;have HE:=Qb (l:=l) (x:=x);obtain⟨ao,cap,rfl,_⟩:=Mr.bO h;rw[<-HE];clear h HE;generalize Mr.jV (l.findIdx? fun y=>decide (y=x))=ii at*;go_enter func184,ntmps184;go_wp2_with (first
  |(go_at_call 154;go_must(refine rz.mono ?_;rintro e w1⟨rfl,rfl⟩)))
 go_ret;exact⟨rfl,rfl⟩
section
variable{x:Nat}{g:Gh}{j:Js}{B:aM}{w w':World}{F:Ft}
theorem ac3(h:(aa (jA x g j) B).holds w F): ∃pv G,w.cell? ⟨x,10,none⟩=some pv∧(jw pv j.pull).holds w G∧ ∀Fq Jj w2,Goes (jw Jj Fq) w G w2->w2.cell? ⟨x,10,none⟩=some pv∧w2.frozen? ⟨x,10,none⟩=false∧Goes (aa (jA x g {j with pull:=Fq}) B) w F (w2.setCell ⟨x,10,none⟩ Jj):=by
 unfold jA at h;rw[cx]at h;obtain⟨v,h⟩:=h;have h2:=aB h (show _=aa (jw v.pv j.pull) (aa (dB x j v) (aa (kN v.cm j.bT) (aa (jS g v.rm j.reqs) (aa (jk g v.tm j.aW) (aa (all jo j.bT) (aa (all (dO g j.c.re) j.reqs) (aa (all (gA g) j.aW) (aa (fK g v.rv j.ring) (aa (eY g v.lv j.hp) (aa (hpA g j.hp) B))))))))))by unfold bk;ac_rfl);obtain⟨G,H,ha,hb,d,e⟩:=h2;have c10:w.cell? ⟨x,10,none⟩=some v.pv:=(bQ hb).1 10;refine⟨v.pv,G,c10,ha,fun Fq Jj w2 hg=> ?_⟩;have g1:=(aV hb hg d e).eq (show _=aa (blk x (.cells (zE j v) 88 (0,0))) (aa (jw Jj Fq) (aa (kN v.cm j.bT) (aa (jS g v.rm j.reqs) (aa (jk g v.tm j.aW) (aa (all jo j.bT) (aa (all (dO g j.c.re) j.reqs) (aa (all (gA g) j.aW) (aa (fK g v.rv j.ring) (aa (eY g v.lv j.hp) (aa (hpA g j.hp) B))))))))))by unfold dB;ac_rfl);have g1c:=g1;obtain⟨F2,eX,_⟩:=g1c;obtain⟨cl,fz,_⟩:=bQ eX;refine⟨cl 10,fz 10,(g1.store 10 Jj).mono fun F' h'=> ?_⟩;unfold jA;rw[cx];refine⟨{v with pv:=Jj},aB h' ?_⟩;have:blk x (.cells ((zE j v).setIfInBounds 10 Jj) 88 (0,0))=dB x {j with pull:=Fq} {v with pv:=Jj}:=rfl;rw[this];unfold bk;dsimp only
 ac_rfl
end
theorem QZ{base x tb:Nat}{g:Gh}{cn:List (Int×Nat×Bs)}{s:St}{w:World}{F:Ft}(T:Tabs base w)(h:(stA base x tb g cn s).holds w F)(hi:Inv s)(ho:Ok s)(hz:s.sz<=16777000)(c:Int)(hc:I6 c):Calls prog 139 #[pt x, .int .i64 c] w fun e w'=>e= .returned (.tuple #[])∧Goes (stA base x tb g cn (wu s c)) w F w':=by
 obtain⟨i0,kR,gI,dN,fS⟩:=ia P2;have hcs:=St.fc (s:=s) c;obtain⟨j,r1,r2,r3,hF,hh⟩:=h;have wf:=fI r1 hi hz;have hhc:=hh;obtain⟨G,H,hj,Al,_,_⟩:=hhc;have C3:=yj x g j c w G hj hc r1.cnd;rw[r1.dr c]at C3;have hdc:(s.conn c).drains c=s.drains c:=St.vN c c;have Ky: ∀w',Goes (aa (jA x g j) (wD tb s.out)) w F w'->Goes (stA base x tb g cn (s.conn c)) w F w':=fun w' hg=>iD (s':=s.conn c) T hF (r1.conn c) r2 r3 (by rw[hcs.2.2.2.2.1];exact hg)
 have BS:Goes (stA base x tb g cn s) w F w:=iD (s':=s) T hF r1 r2 r3 (Goes.refl hh);obtain⟨pv,Gp,c10,PW,SJ⟩:=ac3 hh;obtain⟨ao,cap,rfl⟩:=aX (Goes.refl PW);have b3:=wf.b3;have Vu:=aag _ j.pull c w Gp PW (by omega);have Ke:s.wait.any (· ==c)=decide (c∈j.pull):=by
  rw[r1.pull];by_cases hm:c∈s.wait
  ·rw[decide_eq_true hm];exact List.any_eq_true.2 ⟨c,hm,by simp⟩
  ·rw[decide_eq_false hm];rw[List.any_eq_false];intro y hy e;have:y=c:=by simpa using e
   exact hm (this▸hy)
 cases hd:s.drains c with
 |true=>
  have sI:s.wait.any (· ==c)=false:=by
   rw[List.any_eq_false];intro y hy e;have ey:y=c:=by simpa using e
   have CV:=hd;unfold St.drains at CV;cases hf:s.aq.find? (·.n==c)with
   |none=>rw[hf]at CV;cases CV
   |some z=>
    rw[hf]at CV;have ez:z.n=c:=by simpa using List.find?_some hf
    exact(ho.dr z (dT hf) CV).2 (by rw[ez,<-ey];exact hy)
  have es:wu s c=s.conn c:=by unfold wu;rw[if_neg (by rw[sI];simp),if_pos (by rw[hdc];exact hd)]
  rw[es];have HX:=hide (Ky w (Goes.refl hh));rw[hd]at C3;clear T hh hj Al wf r1 r2 r3 hF Ky BS PW SJ Vu;unfold pt at*;go_enter func139,ntmps139;go_wp2_with (first
   |(go_at_call 165;go_must(refine C3.mono ?_;rintro e w1⟨rfl,rfl⟩)))
  go_end0;exact⟨rfl,HX.out⟩
 |false=>
  rw[hd]at C3;by_cases hm:c∈j.pull
  ·have es:wu s c=s:=by unfold wu;rw[if_pos (by rw[Ke];simpa using hm)]
   rw[es];rw[decide_eq_true hm]at Vu;have HX:=hide BS;clear T hh hj Al wf r1 r2 r3 hF Ky BS PW SJ;unfold pt at*;generalize j.pull.length=np at*;go_enter func139,ntmps139;go_wp2_with (first
    |(go_at_call 165;go_must(refine C3.mono ?_;rintro e w1⟨rfl,rfl⟩))
    |(go_at_call 184;go_must(refine Vu.mono ?_;rintro e w1⟨rfl,rfl⟩)))
   go_end0;exact⟨rfl,HX.out⟩
  ·have es:wu s c={s.conn c with wait:=(s.conn c).wait++ [c]}:=by unfold wu;rw[if_neg (by rw[Ke];simpa using hm),if_neg (by rw[hdc,hd];simp)]
   rw[es];rw[decide_eq_false hm]at Vu;have fy:Hid ((rowA 3 1 (.slice ao j.pull.length cap) j.pull.length (j.pull.map fun c=> .int .i64 c)).holds (w.alloc (.cells #[.int .i64 c] 3)) Gp):=fM PW _;have Sq:Hid (∀iN eA w4,Goes (rowA 3 1 (.slice iN (j.pull.length+1) eA) (j.pull.length+1) ((j.pull.map fun c=> .int .i64 c)++ [.int .i64 c])) (w.alloc (.cells #[.int .i64 c] 3)) Gp w4->
     w4.cell? ⟨x,10,none⟩=some (.slice ao j.pull.length cap)∧w4.frozen? ⟨x,10,none⟩=false∧Goes (stA base x tb g cn {s.conn c with wait:=(s.conn c).wait++ [c]}) w F (w4.setCell ⟨x,10,none⟩ (.slice iN (j.pull.length+1) eA))):=fun iN eA w4 hg=>by
    have e5:jw (.slice iN (j.pull.length+1) eA) (j.pull++ [c])=rowA 3 1 (.slice iN (j.pull.length+1) eA) (j.pull.length+1) ((j.pull.map fun c=> .int .i64 c)++ [.int .i64 c]):=by unfold jw;rw[aN,aH];rfl
    obtain⟨d1,d2,d3⟩:=SJ (j.pull++ [c]) (.slice iN (j.pull.length+1) eA) w4 (by rw[e5];exact ft hg);refine⟨d1,d2,iD (j':={j with pull:=j.pull++ [c]}) (s':={s.conn c with wait:=(s.conn c).wait++ [c]}) T hF ?_ ⟨r2.1,fun y hy=> ?_⟩ r3 (by show Goes (aa _ (wD tb (s.conn c).out)) _ _ _;rw[hcs.2.2.2.2.1];exact d3)⟩
    ·have:=(r1.conn c).pulls ((s.conn c).wait++ [c]);have e0:(s.conn c).wait=j.pull:=by rw[hcs.2.2.2.1,r1.pull]
     rw[e0]at this⊢;exact this
    ·rcases List.mem_append.1 hy with h|h
     ·exact r2.2 y h
     ·rw[cY.1 h];exact hc
   clear T hh hj Al wf r1 r2 r3 hF Ky BS PW SJ;unfold pt at*;generalize j.pull.length=np at*;go_enter func139,ntmps139;go_wp2_with (first
    |(go_at_call 165;go_must(refine C3.mono ?_;rintro e w1⟨rfl,rfl⟩))
    |(go_at_call 184;go_must(refine Vu.mono ?_;rintro e w1⟨rfl,rfl⟩))
    |(at_builtin;go_must(refine aC _ rfl _ _ 36 rfl 3 i0 (.int .i64 0) 1 8 underlying36 kR gI dN fS rfl (by decide) (F:=Gp) _ np _ rfl fy.out ⟨World.heap _|>.size,0,none⟩ 1 1 [.int .i64 c] rfl rfl (World.news_of_block (cs:= #[.int .i64 c]) (t:=3) (fr:=(0,0)) (heap_alloc_new _ _)) (by simp[Value.oneCell']) (by unfold maxLen;omega) (by omega) ?_;intro iN eA w4 bK;obtain⟨e7,z7,hg5⟩:=Sq.out iN eA w4 bK;have xf:=hide hg5;clear bK hg5)))
   go_end0;exact⟨rfl,xf.out⟩
variable{s:St}{c:Int}
def uV(s:St)(c:Int):St:=((({s.conn c with aq:=aK (fun x=>x.n==c) (fun x=>{x with drains:=true}) (s.conn c).aq}:St)).idle c).fJ c
section
variable{base x tb:Nat}{g:Gh}{cn:List (Int×Nat×Bs)}{s:St}{j:Js}{w w':World}{F:Ft}
theorem abk(hn:(j.bT.map (·.n)).Nodup){k:Kn}(hk:k∈j.bT):j.bT.find? (·.n==k.n)=some k:=by
 cases hf:j.bT.find? (·.n==k.n)with
 |none=>exact absurd (List.find?_eq_none.1 hf k hk) (by simp)
 |some z=>
  have ez:z.n=k.n:=by simpa using List.find?_some hf
  rw[ck (k:=fun k:Kn=>k.n) hn (dT hf) hk ez]
theorem KM{B:aM}(h:(aa (jA x g j) B).holds w F)(hn:(j.bT.map (·.n)).Nodup){k:Kn}(hk:k∈j.bT): ∃cm kv,w.cell? ⟨x,6,none⟩=some (.map (some cm))∧(∀c,I6 c->(Instr.lookup 81 (.map (some cm)) (.int .i64 c) false).run prog w= .ok (rY (j.bT.map fun k=>(k.n,k.p)) c) w)∧(aa (EA k.p k.dr kv) (aa (KO kv k.kept) (ex fun v=>aa (dB x j v) (aa (kN v.cm j.bT) (aa (jS g v.rm j.reqs) (aa (jk g v.tm j.aW) (aa (all jo (j.bT.filter fun y=>decide (y.n≠k.n))) (aa (all (dO g j.c.re) j.reqs) (aa (all (gA g) j.aW) (aa (fK g v.rv j.ring) (aa (jw v.pv j.pull) (aa (eY g v.lv j.hp) (aa (hpA g j.hp) B))))))))))))).holds w F∧ ∀f:Kn->Kn,(f k).n=k.n->(f k).p=k.p-> ∀IP w2,Goes (aa (EA k.p (f k).dr IP) (aa (KO IP (f k).kept) (ex fun v=>aa (dB x j v) (aa (kN v.cm j.bT) (aa (jS g v.rm j.reqs) (aa (jk g v.tm j.aW) (aa (all jo (j.bT.filter fun y=>decide (y.n≠k.n))) (aa (all (dO g j.c.re) j.reqs) (aa (all (gA g) j.aW) (aa (fK g v.rv j.ring) (aa (jw v.pv j.pull) (aa (eY g v.lv j.hp) (aa (hpA g j.hp) B))))))))))))) w F w2->Goes (aa (jA x g {j with bT:=upd (fun k:Kn=>k.n) k.n f j.bT}) B) w F w2:=by
 unfold jA at h;rw[cx]at h;obtain⟨v,h⟩:=h;obtain⟨Gj,rC,_⟩:=aM.left h;have D:=yN rC;obtain⟨Gc,zH⟩:=Ym rC;have h2:=aB h (show _=aa (jo k) (aa (dB x j v) (aa (kN v.cm j.bT) (aa (jS g v.rm j.reqs) (aa (jk g v.tm j.aW) (aa (all jo (j.bT.filter fun y=>decide (y.n≠k.n))) (aa (all (dO g j.c.re) j.reqs) (aa (all (gA g) j.aW) (aa (fK g v.rv j.ring) (aa (jw v.pv j.pull) (aa (eY g v.lv j.hp) (aa (hpA g j.hp) B)))))))))))by
  unfold bk;rw[my (A:=jo) (k:=fun k:Kn=>k.n) hn hk]
  ac_rfl)
 unfold jo at h2;rw[cx]at h2;obtain⟨kv,h2⟩:=h2;refine⟨v.cm,kv,D.1 6,fun c hc=>nN zH (t:=81) (e:=99) underlying81 (JQ w) c hc, ?_,fun f CW A9 IP w2 hg=> ?_⟩
 ·have h3:=aB h2 (bX _ _ _);rw[im,im];exact⟨v,h3⟩
 ·refine hg.mono fun F' h'=> ?_;rw[im,im]at h';obtain⟨v',h'⟩:=h';unfold jA;rw[cx];refine⟨v', ?_⟩;have e1:all jo (upd (fun k:Kn=>k.n) k.n f j.bT)=aa (jo (f k)) (all jo (j.bT.filter fun y=>decide (y.n≠k.n))):=J2 (A:=jo) (k:=fun k:Kn=>k.n) hn hk f;have e2:kN v'.cm (upd (fun k:Kn=>k.n) k.n f j.bT)=kN v'.cm j.bT:=by
   unfold kN;congr 1;refine ib (fun k:Kn=>(k.n,k.p)) (fun y hy ey=> ?_);have:y=k:=ck (k:=fun k:Kn=>k.n) hn hy hk ey;rw[this,CW,A9]
  show(aa (bk x g _ v') B).holds w2 F';unfold bk;dsimp only;rw[e1,e2];have h3:(aa (jo (f k)) (aa (dB x j v') (aa (kN v'.cm j.bT) (aa (jS g v'.rm j.reqs) (aa (jk g v'.tm j.aW) (aa (all jo (j.bT.filter fun y=>decide (y.n≠k.n))) (aa (all (dO g j.c.re) j.reqs) (aa (all (gA g) j.aW) (aa (fK g v'.rv j.ring) (aa (jw v'.pv j.pull) (aa (eY g v'.lv j.hp) (aa (hpA g j.hp) B)))))))))))).holds w2 F':=by unfold jo;rw[cx];refine⟨IP, ?_⟩;rw[A9];exact aB h' (bX _ _ _).symm
  refine aB h3 ?_;show _=aa (aa (dB x j v') _) _
  ac_rfl
theorem KQ(hc:jx j=cn){c:Int}{p:Nat}{b:Bs}(h:(c,p,b)∈cn): ∃k∈j.bT,k.n=c∧k.p=p∧k.kept=b:=by rw[<-hc]at h;obtain⟨k,hk,e⟩:=aA.1 h;exact⟨k,hk,congrArg Prod.fst e,congrArg (fun y=>y.2.1) e,congrArg (fun y=>y.2.2) e⟩
theorem VM(hr:Rel g j s){k:Kn}(hk:k∈j.bT):s.drains k.n=k.dr:=by rw[<-hr.dr];unfold Js.drains;rw[abk hr.cnd hk]
theorem Ux(hn:(j.bT.map (·.n)).Nodup){k:Kn}(hk:k∈j.bT):rY (j.bT.map fun k=>(k.n,k.p)) k.n=pt k.p:=
 lQ (m:=j.bT.map fun k=>(k.n,k.p)) (by rw[aG];exact hn) (aA.2 ⟨k,hk,rfl⟩)
theorem vM(h:(stA base x tb g cn s).holds w F){c:Int}{p:Nat}{b:Bs}(hc:I6 c)(hk:(c,p,b)∈cn):Calls prog 47 #[pt x, .int .i64 c] w fun e w'=>e= .returned (pt p)∧w'=w:=by obtain⟨j,r1,r2,r3,hF,hh⟩:=h;obtain⟨k,GQ,rfl,rfl,rfl⟩:=KQ r3 hk;obtain⟨cm,kv,c6,od,_,_⟩:=KM hh r1.cnd GQ;have hl:=od k.n hc;rw[Ux r1.cnd GQ]at hl;clear hh od r1 r2 r3;unfold pt at*;go_enter func47,ntmps47;go_wp2;go_ret;exact⟨rfl,rfl⟩
end
theorem erase_filter{l:List Int}(hn:l.Nodup)(c:Int):l.erase c=l.filter (· !=c):=List.Nodup.erase_eq_filter hn c
theorem rZ{α:Type}{p:α->Bool}{f:α->α}: ∀{l:List α},(∀y∈l,p y=true->f y=y)->aK p f l=l
 | [],_=>rfl
 |y::l,h=>by
  unfold aK;split
  ·rename_i hp;rw[h y (dy ..) hp]
  ·rw[rZ (fun z hz=>h z (bt _ hz))]
theorem Dy(hi:Inv s)(ho:Ok s)(hd:s.drains c=true):uV s c=s:=by
 have CV:=hd;unfold St.drains at CV;cases hf:s.aq.find? (·.n==c)with
 |none=>rw[hf]at CV;cases CV
 |some z=>
  rw[hf]at CV;have XB:z.drains=true:=CV;have hz:=dT hf;have ez:z.n=c:=by simpa using List.find?_some hf
  have e1:s.conn c=s:=by unfold St.conn;rw[if_pos (List.any_eq_true.2 ⟨z,hz,by simpa using ez⟩)]
  have hu: ∀y∈s.aq,(y.n==c)=true->y=z:=fun y hy e=>ck (k:=fun x:Cn=>x.n) hi.cn hy hz (by rw[ez];simpa using e);have e2:aK (fun x=>x.n==c) (fun x=>({x with drains:=true}:Cn)) s.aq=s.aq:=rZ fun y hy e=>by rw[hu y hy e,<-XB]
  have e3:s.wait.filter (· !=c)=s.wait:=List.filter_eq_self.2 fun y hy=>by have:y≠c:=fun e=>(ho.dr z hz XB).2 (by rw[ez,<-e];exact hy);simpa using this
  unfold uV;rw[e1,e2];show(({s with wait:=s.wait.filter (· !=c)}:St)).fJ c=s;rw[e3];unfold St.fJ;rw[if_neg];intro h;simp only[bZ,beq_iff_eq]at h;obtain⟨h1,h2⟩:=h;obtain⟨y,hy,e⟩:=List.any_eq_true.1 h1;simp only[bZ,beq_iff_eq]at e;have:=hu y hy (by simpa using e.1.1);subst this;have hg:y.gone=true:=(ho.dr y hz XB).1.2 (by rw[ez];exact h2);simp[hg]at e
theorem LD{base x tb:Nat}{g:Gh}{cn:List (Int×Nat×Bs)}{w:World}{F:Ft}(T:Tabs base w)(h:(stA base x tb g cn s).holds w F)(hi:Inv s)(ho:Ok s)(hz:s.sz<=16777000){p:Nat}{b:Bs}(hc:I6 c)(hk:(c,p,b)∈cn):Calls prog 143 #[pt x,pt tb, .int .i64 c] w fun e w'=>e= .returned (.tuple #[])∧Goes (stA base x tb g cn (uV s c)) w F w':=by
 have Vu:=vM h hc hk;have wK:=hide (Goes.refl h);obtain⟨j,r1,r2,r3,hF,hh⟩:=h;obtain⟨k,GQ,rfl,rfl,rfl⟩:=KQ r3 hk;obtain⟨cm,kv,c6,_,wS,zP⟩:=KM hh r1.cnd GQ;have cP:=bQ wS;have hdk:=VM r1 GQ;cases hd:s.drains k.n with
 |true=>
  rw[Dy hi ho hd];have c1:w.cell? ⟨k.p,1,none⟩=some (.bool true):=by rw[cP.1 1];show some (Value.bool k.dr)=_;rw[<-hdk,hd]
  clear T hh wS zP cP r1 r2 r3 hF c6;unfold pt at*;generalize k.p=kp at*;go_enter func143,ntmps143;go_wp2_with (first
   |(go_at_call 47;go_must(refine Vu.mono ?_;rintro e w1⟨rfl,rfl⟩)))
  (try simp only[Exit.inBlock,Exit.then])
  exact bodyPost_ret (results_none rfl _ _ _) rfl ⟨rfl,wK.out⟩
 |false=>
  have c1:w.cell? ⟨k.p,1,none⟩=some (.bool false):=by rw[cP.1 1];show some (Value.bool k.dr)=_;rw[<-hdk,hd]
  have z1:w.frozen? ⟨k.p,1,none⟩=false:=cP.2.1 1;have ecn:(s.conn k.n)=s:=by unfold St.conn;obtain⟨y,hy,ey⟩:=aA.1 (r1.cin k GQ);rw[if_pos (List.any_eq_true.2 ⟨y,hy,by simpa using ey⟩)]
  obtain⟨s1,Ze⟩: ∃s1:St,s1={s with aq:=aK (fun x=>x.n==k.n) (fun x=>{x with drains:=true}) s.aq}:=⟨_,rfl⟩;have edr:uV s k.n=(s1.idle k.n).fJ k.n:=by unfold uV;rw[ecn,Ze]
  rw[edr];have R1:Rel g {j with bT:=upd (fun k:Kn=>k.n) k.n (fun k=>{k with dr:=true}) j.bT} s1:=by rw[Ze];exact r1.drain hi k.n (aA.2 ⟨k,GQ,rfl⟩)
  have I1:Inv s1:=by rw[Ze];exact St.k5 hi (fun x=>{x with drains:=true}) (fun _=>rfl) _
  have z1':s1.sz<=16777000:=by rw[Ze];unfold St.sz at hz⊢;dsimp only;rw[dh];exact hz
  have abZ:jx {j with bT:=upd (fun k:Kn=>k.n) k.n (fun k=>{k with dr:=true}) j.bT}=cn:=by rw[<-r3];unfold jx;exact ib _ (fun y _ _=>rfl)
  have AH:Hid (Calls prog 73 #[pt x, .int .i64 k.n] (w.setCell ⟨k.p,1,none⟩ (.bool true)) fun e w2=>e= .returned (.tuple #[])∧
    Hid (Calls prog 127 #[pt x,pt tb, .int .i64 k.n] w2 fun e w3=>e= .returned (.tuple #[])∧Goes (stA base x tb g cn ((s1.idle k.n).fJ k.n)) w F w3)):=by
   have g1:=(Goes.refl wS).store 1 (.bool true);have g2:=zP (fun k=>{k with dr:=true}) rfl rfl kv _ (by refine g1.eq ?_;rfl)
   have T1:=T.goes hF g2;obtain⟨F1,cd,o1,n1⟩:=g2;have wf1:=fI R1 I1 z1';refine(BX cd (by have:=wf1.b3;exact this) k.n).mono ?_;rintro e w2⟨rfl,g3⟩;refine⟨rfl, ?_⟩;have Zf:=aF o1 n1 g3;have ewt:j.pull.erase k.n=j.pull.filter (· !=k.n):=erase_filter (by rw[r1.pull];exact hi.wt) k.n;have R2:=R1.idle k.n;have g4:Goes (stA base x tb g cn (s1.idle k.n)) w F w2:=iD (s':=s1.idle k.n) T hF R2 ⟨r2.1,fun y hy=>r2.2 y (aR.1 hy).1⟩ abZ (by
    dsimp only at Zf⊢;rw[<-ewt];have eo:(s1.idle k.n).out=s.out:=by rw[Ze];rfl
    rw[eo];exact Zf)
   have T4:=T.goes hF g4;obtain⟨F4,th,o4,n4⟩:=g4;have I4:=St.iY I1 k.n;show Calls _ _ _ _ _;refine(xg T4 th I4 (aw (St.tS k.n) z1') k.n hc (fun _ _=> ?_) (fun he=>AW I4 he)).mono ?_
   ·obtain⟨y,hy,ey⟩:=aA.1 (r1.cin k GQ);have hyd:y.drains=false:=by
     cases hyd:y.drains with
     |false=>rfl
     |true=>
      have:s.drains k.n=true:=by
       unfold St.drains;cases hf:s.aq.find? (·.n==k.n)with
       |none=>exact absurd (List.find?_eq_none.1 hf y hy) (by simp[ey])
       |some z=>
        have ez:z.n=k.n:=by simpa using List.find?_some hf
        rw[ck (k:=fun x:Cn=>x.n) hi.cn (dT hf) hy (by rw[ez,ey])];exact hyd
      rw[hd]at this;cases this
    have hyg:=ho.gone y hy hyd;refine List.any_eq_true.2 ⟨{y with drains:=true}, ?_,by simp[ey,hyg]⟩;show _∈s1.aq;rw[Ze];show _∈aK (fun x=>x.n==k.n) (fun x=>({x with drains:=true}:Cn)) s.aq;rw[cD (fun x:Cn=>x.n) k.n _ hi.cn];exact aA.2 ⟨y,hy,by simp[ey]⟩
   ·rintro e w3⟨rfl,g5⟩;exact⟨rfl,aF o4 n4 g5⟩
  clear T hh wS zP cP r1 r2 r3 hF c6 wK;unfold pt at*;generalize k.p=kp at*;go_enter func143,ntmps143;go_wp2_with (first
   |(go_at_call 47;go_must(refine Vu.mono ?_;rintro e w1⟨rfl,rfl⟩))
   |(go_at_call 73;go_must(refine AH.out.mono ?_;rintro e w2⟨rfl,N7⟩))
   |(go_at_call 127;go_must(refine N7.out.mono ?_;rintro e w3⟨rfl,mW⟩;have NI:=hide mW;clear mW)))
  go_end0;exact⟨rfl,NI.out⟩
variable{g:Gh}{p:Nat}{j:Js}
def Gh.newT(g:Gh)(nm:Bs)(p:Nat):Gh:={g with tp:=fun y=>if y=nm then p else g.tp y}
def Gh.newR(g:Gh)(id:Int)(p:Nat):Gh:={g with rp:=fun y=>if y=id then p else g.rp y}
theorem Gh.vw(g:Gh)(nm:Bs)(p:Nat):(g.newT nm p).tp nm=p:=by simp[Gh.newT]
theorem Gh.vv(g:Gh)(id:Int)(p:Nat):(g.newR id p).rp id=p:=by simp[Gh.newR]
theorem Gh.ua{nm y:Bs}(h:y≠nm):(g.newT nm p).tp y=g.tp y:=by simp[Gh.newT,h]
theorem Gh.tZ{id y:Int}(h:y≠id):(g.newR id p).rp y=g.rp y:=by simp[Gh.newR,h]
theorem Up(x:Nat)(g:Gh)(wf:Wf j)(nm:Bs)(p:Nat)(h:nm∉j.aW.map (·.nm)):jA x (g.newT nm p) j=jA x g j:=by
 have cC: ∀y∈j.aW.map (·.nm),y≠nm:=fun y hy e=>h (e▸hy);unfold jA;congr 1;funext v;have e1:jk (g.newT nm p) v.tm j.aW=jk g v.tm j.aW:=by unfold jk;congr 1;exact bY fun t ht=>by rw[Gh.ua (cC _ (aA.2 ⟨t,ht,rfl⟩))]
 have e2:all (dO (g.newT nm p) j.c.re) j.reqs=all (dO g j.c.re) j.reqs:=all_congr fun r hr=>by unfold dO mj gV;rw[Gh.ua (cC _ (wf.fP r hr))];rfl
 have e3:all (gA (g.newT nm p)) j.aW=all (gA g) j.aW:=all_congr fun t ht=>by unfold gA mS;rw[Gh.ua (cC _ (aA.2 ⟨t,ht,rfl⟩))];rfl
 have e4:fK (g.newT nm p) v.rv j.ring=fK g v.rv j.ring:=by unfold fK;congr 1;exact bY fun y hy=>by rw[Gh.ua (cC _ (wf.ring y hy))]
 unfold bk;rw[e1,e2,e3,e4];rfl
theorem Uo(x:Nat)(g:Gh)(wf:Wf j)(GN: ∀a∈j.hp,a.id∈j.reqs.map fun r=>r.q.id)(id:Int)(p:Nat)(h:id∉j.reqs.map fun r=>r.q.id):jA x (g.newR id p) j=jA x g j:=by
 have cC: ∀y∈j.reqs.map (fun r=>r.q.id),y≠id:=fun y hy e=>h (e▸hy);unfold jA;congr 1;funext v;have e1:jS (g.newR id p) v.rm j.reqs=jS g v.rm j.reqs:=by unfold jS;congr 1;exact bY fun t ht=>by rw[Gh.tZ (cC _ (aA.2 ⟨t,ht,rfl⟩))]
 have e2:all (dO (g.newR id p) j.c.re) j.reqs=all (dO g j.c.re) j.reqs:=all_congr fun r hr=>by unfold dO mj;rw[Gh.tZ (cC _ (aA.2 ⟨r,hr,rfl⟩))];rfl
 have e3:all (gA (g.newR id p)) j.aW=all (gA g) j.aW:=all_congr fun t ht=>by
  unfold gA;congr 1;funext wv;have:l8 (g.newR id p) wv t.wt=l8 g wv t.wt:=by unfold l8;congr 1;exact bY fun y hy=>by rw[Gh.tZ (cC _ (wf.RR t ht y hy))]
  rw[this];rfl
 have e4:hpA (g.newR id p) j.hp=hpA g j.hp:=all_congr fun y hy=>by
  have hb:y.1∈j.hp:=by obtain⟨b,i⟩:=y;have:=List.mem_zipIdx_iff_getElem?.1 hy;exact dn this
  show gD _ _ _=gD _ _ _;unfold gD fW;rw[Gh.tZ (cC _ (GN _ hb))];rfl
 unfold bk;rw[e1,e2,e3,e4];rfl
theorem Rel.gh{g':Gh}{s:St}(h:Rel g j s)(e:g'.sr=g.sr):Rel g' j s:=by
 have ea:gH g'=gH g:=by unfold gH;rw[e]
 exact⟨h.c,h.now,h.begun,h.pull,h.ring,h.reqs,h.al,h.rj,h.wt,h.rn,h.ten,h.zM,h.hp,by rw[ea];exact h.heap,by rw[e];exact h.FO,by rw[e];exact h.rI,h.cnd,h.cin,h.dr⟩
theorem YY(w:World):(zeroValue 89).run prog w= .ok (.pointer none) w:=by kernel_rfl
section
variable{x:Nat}{g:Gh}{j:Js}{B:aM}{w w':World}{F:Ft}
theorem Qt(h:(aa (jA x g j) B).holds w F)(N0:(j.aW.map (·.nm)).Nodup)(nm:Bs)(hl:nm.length<=64): ∃tm,w.cell? ⟨x,8,none⟩=some (.map (some tm))∧x<w.heap.size∧(Instr.lookup 83 (.map (some tm)) (bs nm) false).run prog w= .ok (if nm∈j.aW.map (·.nm)then pt (g.tp nm)else .pointer none) w∧(nm∉j.aW.map (·.nm)->Wf j-> ∀w1,w1=w.alloc (.cells #[bs nm, .slice none 0 0, .int .i64 0] 92)->w1.cell? ⟨x,8,none⟩=some (.map (some tm))∧ ∃w2,(Instr.mapUpdate 83 (.map (some tm)) (bs nm) (pt w.heap.size)).run prog w1= .ok () w2∧Goes (aa (jA x (g.newT nm w.heap.size) {j with aW:=j.aW++ [⟨nm, [],0⟩]}) B) w F w2):=by
 have hA:=h;unfold jA at h;rw[cx]at h;obtain⟨v,hv⟩:=h;obtain⟨Gj,rC,_⟩:=aM.left hv;have D:=yN rC;obtain⟨G,hG,_⟩:=aM.left (aB rC (show _=aa (jk g v.tm j.aW) (aa (dB x j v) (aa (kN v.cm j.bT) (aa (jS g v.rm j.reqs) (aa (all jo j.bT) (aa (all (dO g j.c.re) j.reqs) (aa (all (gA g) j.aW) (aa (fK g v.rv j.ring) (aa (jw v.pv j.pull) (aa (eY g v.lv j.hp) (hpA g j.hp))))))))))by unfold bk;ac_rfl));have XU:nm.length<=maxLen:=by unfold maxLen;omega
 refine⟨v.tm,D.1 8,D.2.2, ?_,fun sI wf w1 kK=> ?_⟩
 ·have od:=nN hG (t:=83) (e:=89) underlying83 (YY w) nm XU;have Mf:(Instr.lookup 83 (.map (some v.tm)) (bs nm) false).run prog w= .ok (rY (j.aW.map fun t=>(t.nm,g.tp t.nm)) nm) w:=od;rw[Mf];have kJ:(j.aW.map fun t=>(t.nm,g.tp t.nm)).map (·.1)=j.aW.map (·.nm):=by rw[aG];rfl
  by_cases hm:nm∈j.aW.map (·.nm)
  ·rw[if_pos hm];obtain⟨t,ht,rfl⟩:=aA.1 hm;have:=lQ (m:=j.aW.map fun t=>(t.nm,g.tp t.nm)) (by rw[kJ];exact N0) (aA.2 ⟨t,ht,rfl⟩);rw[this]
  ·rw[if_neg hm,lO (by rw[kJ];exact hm)]
 ·obtain⟨N,hN⟩: ∃N,N=w.heap.size:=⟨_,rfl⟩;rw[<-hN];rw[<-Up x g wf nm N sI]at hA;unfold jA at hA;rw[cx]at hA;obtain⟨v',hv'⟩:=hA;change (aa (bk x (g.newT nm N) j v') B).holds w F at hv';have ev:v'.tm=v.tm:=by
   obtain⟨Gj',ace,_⟩:=aM.left hv';have:=(yN ace).1 8;rw[D.1 8]at this;have h2:some (Value.map (some v.tm))=some (Value.map (some v'.tm)):=this;injection h2 with h2;injection h2 with h2;injection h2 with h2;exact h2.symm
  have g0:=(Goes.refl hv').alloc (.cells #[bs nm, .slice none 0 0, .int .i64 0] 92);rw[<-kK,<-hN]at g0;have g0c:=g0;obtain⟨F1,cd,o1,n1⟩:=g0c;have e1:blk N (.cells #[bs nm, .slice none 0 0, .int .i64 0] 92)=mS (g.newT nm N) ⟨nm, [],0⟩ (.slice none 0 0):=by unfold mS;rw[Gh.vw];rfl
  rw[e1]at cd;obtain⟨Gj1,acf,_⟩:=aM.left (aB cd (show _=aa (dB x j v') (aa (mS (g.newT nm N) ⟨nm, [],0⟩ (.slice none 0 0)) (aa (kN v'.cm j.bT) (aa (jS (g.newT nm N) v'.rm j.reqs) (aa (jk (g.newT nm N) v'.tm j.aW) (aa (all jo j.bT) (aa (all (dO (g.newT nm N) j.c.re) j.reqs) (aa (all (gA (g.newT nm N)) j.aW) (aa (fK (g.newT nm N) v'.rv j.ring) (aa (jw v'.pv j.pull) (aa (eY (g.newT nm N) v'.lv j.hp) (aa (hpA (g.newT nm N) j.hp) B)))))))))))by unfold bk;ac_rfl));have c8:w1.cell? ⟨x,8,none⟩=some (.map (some v'.tm)):=by simp only[World.cell?,acf.1];rfl
  rw[ev]at c8;refine⟨c8, ?_⟩;have h3:=aB cd (show _=aa (jk (g.newT nm N) v'.tm j.aW) (aa (mS (g.newT nm N) ⟨nm, [],0⟩ (.slice none 0 0)) (aa (dB x j v') (aa (kN v'.cm j.bT) (aa (jS (g.newT nm N) v'.rm j.reqs) (aa (all jo j.bT) (aa (all (dO (g.newT nm N) j.c.re) j.reqs) (aa (all (gA (g.newT nm N)) j.aW) (aa (fK (g.newT nm N) v'.rv j.ring) (aa (jw v'.pv j.pull) (aa (eY (g.newT nm N) v'.lv j.hp) (aa (hpA (g.newT nm N) j.hp) B)))))))))))by unfold bk;ac_rfl);obtain⟨G3,H3,Zh,mh,d3,e3⟩:=h3;obtain⟨w2,Ai,ld⟩:=zb Zh underlying83 (by rw[bf];have:=wf.b7;unfold maxLen;omega) nm XU N (by rw[aG];exact sI);rw[ev]at Ai;refine⟨w2,Ai,(aF o1 n1 (aV mh ld d3 e3)).mono fun F' h'=> ?_⟩;unfold jA;rw[cx];refine⟨v', ?_⟩;have e4:mapA wU v'.tm ((j.aW.map fun t=>(t.nm,(g.newT nm N).tp t.nm))++ [(nm,N)])=jk (g.newT nm N) v'.tm (j.aW++ [⟨nm, [],0⟩]):=by unfold jk;rw[aH];simp only[List.map_cons,List.map_nil,Gh.vw]
  have e5:all (gA (g.newT nm N)) (j.aW++ [⟨nm, [],0⟩])=aa (gA (g.newT nm N) ⟨nm, [],0⟩) (all (gA (g.newT nm N)) j.aW):=by rw[all_append,oy,cA]
  show(aa (bk x (g.newT nm N) _ v') B).holds w2 F';unfold bk;dsimp only;rw[<-e4,e5];have h5:(aa (gA (g.newT nm N) ⟨nm, [],0⟩) (aa (mapA wU v'.tm ((j.aW.map fun t=>(t.nm,(g.newT nm N).tp t.nm))++ [(nm,N)])) (aa (dB x j v') (aa (kN v'.cm j.bT) (aa (jS (g.newT nm N) v'.rm j.reqs) (aa (all jo j.bT) (aa (all (dO (g.newT nm N) j.c.re) j.reqs) (aa (all (gA (g.newT nm N)) j.aW) (aa (fK (g.newT nm N) v'.rv j.ring) (aa (jw v'.pv j.pull) (aa (eY (g.newT nm N) v'.lv j.hp) (aa (hpA (g.newT nm N) j.hp) B)))))))))))).holds w2 F':=by refine Wp (wv:= .slice none 0 0) ?_;have h6:=aB h' (show _=aa (mS (g.newT nm N) ⟨nm, [],0⟩ (.slice none 0 0)) (aa (mapA wU v'.tm ((j.aW.map fun t=>(t.nm,(g.newT nm N).tp t.nm))++ [(nm,N)])) (aa (dB x j v') (aa (kN v'.cm j.bT) (aa (jS (g.newT nm N) v'.rm j.reqs) (aa (all jo j.bT) (aa (all (dO (g.newT nm N) j.c.re) j.reqs) (aa (all (gA (g.newT nm N)) j.aW) (aa (fK (g.newT nm N) v'.rv j.ring) (aa (jw v'.pv j.pull) (aa (eY (g.newT nm N) v'.lv j.hp) (aa (hpA (g.newT nm N) j.hp) B)))))))))))by ac_rfl);obtain⟨Ga,Ha,a1,a2,a3,a4⟩:=h6;exact⟨Ga,Ha,a1,⟨fun _=>False,Ha,dS _ _ _ (fun _ h=>h),a2,fun _ h=>h.elim,fun k=>⟨.inr,fun h=>h.elim False.elim id⟩⟩,a3,a4⟩
  refine aB h5 ?_;show _=aa (aa (dB x j v') _) _
  ac_rfl
end
def Js.ten(j:Js)(nm:Bs):Js:={j with aW:=if nm∈j.aW.map (·.nm)then j.aW else j.aW++ [⟨nm, [],0⟩]}
theorem Wf.ten{j:Js}(wf:Wf j)(nm:Bs)(hb:j.aW.length<=16777000):Wf (j.ten nm):=by
 by_cases hm:nm∈j.aW.map (·.nm)
 ·have:j.ten nm=j:=by unfold Js.ten;rw[if_pos hm]
  rw[this];exact wf
 ·have e:(j.ten nm).aW=j.aW++ [⟨nm, [],0⟩]:=by unfold Js.ten;rw[if_neg hm]
  have hme: ∀t∈(j.ten nm).aW,t∈j.aW∨t=⟨nm, [],0⟩:=fun t ht=>by
   rw[e]at ht;rcases List.mem_append.1 ht with h|h
   ·exact .inl h
   ·exact .inr (cY.1 h)
  have kx: ∀n,n∈j.aW.map (·.nm)->n∈(j.ten nm).aW.map (·.nm):=fun n hn=>by rw[e,aH];exact List.mem_append_left _ hn
  refine⟨wf.rid, ?_,fun t ht i hi=> ?_,fun n hn=>kx n (wf.ring n hn),fun r hr=>kx _ (wf.fP r hr),fun t ht=> ?_,wf.b2,wf.b3,wf.b4,fun t ht=> ?_,wf.b6, ?_,wf.b8,wf.al⟩
  ·rw[e,aH,List.nodup_append];refine⟨wf.rj,by simp,fun a ha b hb e2=>hm ?_⟩;simp at hb;subst hb;exact e2▸ha
  ·rcases hme t ht with h|h
   ·exact wf.RR t h i hi
   ·rw[h]at hi;cases hi
  ·rcases hme t ht with h|h
   ·exact wf.b1 t h
   ·rw[h];simp
  ·rcases hme t ht with h|h
   ·exact wf.b5 t h
   ·rw[h];exact⟨Int.le_refl _,by show(0:Int)<=16777216;omega⟩
  ·rw[e,aN];simp only[List.length_cons,List.length_nil];omega
section
variable{x:Nat}{g:Gh}{j:Js}{B:aM}{w w':World}{F:Ft}
theorem sZ(h:(aa (jA x g j) B).holds w F)(wf:Wf j)(nm:Bs)(hl:nm.length<=64):Calls prog 183 #[pt x,bs nm] w fun e w'=> ∃g',e= .returned (pt (g'.tp nm))∧g'.rp=g.rp∧g'.sr=g.sr∧Goes (aa (jA x g' (j.ten nm)) B) w F w':=by
 obtain⟨tm,c8,IC,od,Lb⟩:=Qt h wf.rj nm hl;by_cases hm:nm∈j.aW.map (·.nm)
 ·have ej:j.ten nm=j:=by unfold Js.ten;rw[if_pos hm]
  rw[ej];rw[if_pos hm]at od;have HG:=hide (Goes.refl h);clear h Lb;unfold pt bs at*;go_enter func183,ntmps183;go_wp2;go_ret;exact⟨g,rfl,rfl,rfl,HG.out⟩
 ·have ej:j.ten nm={j with aW:=j.aW++ [⟨nm, [],0⟩]}:=by unfold Js.ten;rw[if_neg hm]
  rw[ej];rw[if_neg hm]at od;obtain⟨c8',w2,N3,hg⟩:=Lb hm wf _ rfl;have HX:Hid (∃g':Gh,(pt w.heap.size)=pt (g'.tp nm)∧g'.rp=g.rp∧g'.sr=g.sr∧Goes (aa (jA x g' {j with aW:=j.aW++ [⟨nm, [],0⟩]}) B) w F w2):=⟨g.newT nm w.heap.size,by rw[Gh.vw],rfl,rfl,hg⟩;clear h Lb hg;unfold pt bs at*;go_enter func183,ntmps183;go_wp2;go_ret;obtain⟨g',e1,e2,e3,e4⟩:=HX.out;exact⟨g',by rw[<-e1];rfl,e2,e3,e4⟩
theorem UM(h:(aa (jA x g j) B).holds w F)(wf:Wf j)(GN: ∀a∈j.hp,a.id∈j.reqs.map fun r=>r.q.id)(hb:j.reqs.length<=16777000)(id c:Int)(ten txt:Bs)(hid:I6 id)(sI:id∉j.reqs.map fun r=>r.q.id): ∃rm,(w.alloc (.cells #[.int .i64 id, .int .i64 c,pt (g.tp ten),bs txt, .int .i64 0, .int .i64 0, .bool false, .slice none 0 0] 132)).cell? ⟨x,7,none⟩=some (.map (some rm))∧ ∃w2,(Instr.mapUpdate 82 (.map (some rm)) (.int .i64 id) (pt w.heap.size)).run prog (w.alloc (.cells #[.int .i64 id, .int .i64 c,pt (g.tp ten),bs txt, .int .i64 0, .int .i64 0, .bool false, .slice none 0 0] 132)).drew= .ok () w2∧Goes (aa (jA x (g.newR id w.heap.size) {j with reqs:=j.reqs++ [⟨⟨id,c,ten,txt,0,j.c.re,false⟩, []⟩]}) B) w F w2:=by
 obtain⟨N,hN⟩: ∃N,N=w.heap.size:=⟨_,rfl⟩;rw[<-hN];rw[<-Uo x g wf GN id N sI]at h;unfold jA at h;rw[cx]at h;obtain⟨v,hv⟩:=h;change (aa (bk x (g.newR id N) j v) B).holds w F at hv;obtain⟨w1,kK⟩: ∃w1,w1=w.alloc (.cells #[.int .i64 id, .int .i64 c,pt (g.tp ten),bs txt, .int .i64 0, .int .i64 0, .bool false, .slice none 0 0] 132):=⟨_,rfl⟩;have g0:=(Goes.refl hv).alloc (.cells #[.int .i64 id, .int .i64 c,pt (g.tp ten),bs txt, .int .i64 0, .int .i64 0, .bool false, .slice none 0 0] 132);rw[<-kK,<-hN]at g0;rw[<-kK];obtain⟨F1,cd,o1,n1⟩:=g0;have e1:blk N (.cells #[.int .i64 id, .int .i64 c,pt (g.tp ten),bs txt, .int .i64 0, .int .i64 0, .bool false, .slice none 0 0] 132)=mj (g.newR id N) j.c.re ⟨id,c,ten,txt,0,j.c.re,false⟩ (.slice none 0 0):=by unfold mj gV;rw[Gh.vv];dsimp only;rw[Int.sub_self];rfl
 rw[e1]at cd;have h3:=aB cd (show _=aa (jS (g.newR id N) v.rm j.reqs) (aa (mj (g.newR id N) j.c.re ⟨id,c,ten,txt,0,j.c.re,false⟩ (.slice none 0 0)) (aa (dB x j v) (aa (kN v.cm j.bT) (aa (jk (g.newR id N) v.tm j.aW) (aa (all jo j.bT) (aa (all (dO (g.newR id N) j.c.re) j.reqs) (aa (all (gA (g.newR id N)) j.aW) (aa (fK (g.newR id N) v.rv j.ring) (aa (jw v.pv j.pull) (aa (eY (g.newR id N) v.lv j.hp) (aa (hpA (g.newR id N) j.hp) B)))))))))))by unfold bk;ac_rfl);have hd:=bQ (aB cd (show _=aa (dB x j v) (aa (jS (g.newR id N) v.rm j.reqs) (aa (mj (g.newR id N) j.c.re ⟨id,c,ten,txt,0,j.c.re,false⟩ (.slice none 0 0)) (aa (kN v.cm j.bT) (aa (jk (g.newR id N) v.tm j.aW) (aa (all jo j.bT) (aa (all (dO (g.newR id N) j.c.re) j.reqs) (aa (all (gA (g.newR id N)) j.aW) (aa (fK (g.newR id N) v.rv j.ring) (aa (jw v.pv j.pull) (aa (eY (g.newR id N) v.lv j.hp) (aa (hpA (g.newR id N) j.hp) B)))))))))))by unfold bk;ac_rfl));refine⟨v.rm,hd.1 7, ?_⟩;obtain⟨G3,H3,Zh,mh,d3,e3⟩:=cB h3 1;obtain⟨w2,Ai,ld⟩:=zb Zh underlying82 (by rw[bf];unfold maxLen;omega) id hid N (by rw[aG];exact sI);refine⟨w2,Ai,(aF o1 n1 (eT (q:=1) (aV mh ld d3 e3))).mono fun F' h'=> ?_⟩;unfold jA;rw[cx];refine⟨v, ?_⟩;have e4:mapA kS v.rm ((j.reqs.map fun r=>(r.q.id,(g.newR id N).rp r.q.id))++ [(id,N)])=jS (g.newR id N) v.rm (j.reqs++ [⟨⟨id,c,ten,txt,0,j.c.re,false⟩, []⟩]):=by unfold jS;rw[aH];simp only[List.map_cons,List.map_nil,Gh.vv]
 have e5:all (dO (g.newR id N) j.c.re) (j.reqs++ [⟨⟨id,c,ten,txt,0,j.c.re,false⟩, []⟩])=aa (dO (g.newR id N) j.c.re ⟨⟨id,c,ten,txt,0,j.c.re,false⟩, []⟩) (all (dO (g.newR id N) j.c.re) j.reqs):=by rw[all_append,oy,cA]
 show(aa (bk x (g.newR id N) _ v) B).holds w2 F';unfold bk;dsimp only;rw[<-e4,e5];have h5:(aa (dO (g.newR id N) j.c.re ⟨⟨id,c,ten,txt,0,j.c.re,false⟩, []⟩) (aa (mapA kS v.rm ((j.reqs.map fun r=>(r.q.id,(g.newR id N).rp r.q.id))++ [(id,N)])) (aa (dB x j v) (aa (kN v.cm j.bT) (aa (jk (g.newR id N) v.tm j.aW) (aa (all jo j.bT) (aa (all (dO (g.newR id N) j.c.re) j.reqs) (aa (all (gA (g.newR id N)) j.aW) (aa (fK (g.newR id N) v.rv j.ring) (aa (jw v.pv j.pull) (aa (eY (g.newR id N) v.lv j.hp) (aa (hpA (g.newR id N) j.hp) B)))))))))))).holds w2 F':=by have ex0:dO (g.newR id N) j.c.re ⟨⟨id,c,ten,txt,0,j.c.re,false⟩, []⟩=ex fun av=>aa (mj (g.newR id N) j.c.re ⟨id,c,ten,txt,0,j.c.re,false⟩ av) (lx (g.newR id N) av id []):=rfl;rw[ex0,cx];refine⟨.slice none 0 0, ?_⟩;show(aa (aa (mj (g.newR id N) j.c.re ⟨id,c,ten,txt,0,j.c.re,false⟩ (.slice none 0 0)) (lx (g.newR id N) (.slice none 0 0) id [])) _).holds w2 F';rw[bX];have h6:=aB h' (show _=aa (mj (g.newR id N) j.c.re ⟨id,c,ten,txt,0,j.c.re,false⟩ (.slice none 0 0)) (aa (mapA kS v.rm ((j.reqs.map fun r=>(r.q.id,(g.newR id N).rp r.q.id))++ [(id,N)])) (aa (dB x j v) (aa (kN v.cm j.bT) (aa (jk (g.newR id N) v.tm j.aW) (aa (all jo j.bT) (aa (all (dO (g.newR id N) j.c.re) j.reqs) (aa (all (gA (g.newR id N)) j.aW) (aa (fK (g.newR id N) v.rv j.ring) (aa (jw v.pv j.pull) (aa (eY (g.newR id N) v.lv j.hp) (aa (hpA (g.newR id N) j.hp) B)))))))))))by ac_rfl);obtain⟨Ga,Ha,a1,a2,a3,a4⟩:=h6;exact⟨Ga,Ha,a1,⟨fun _=>False,Ha,dS _ _ _ (fun _ h=>h),a2,fun _ h=>h.elim,fun k=>⟨.inr,fun h=>h.elim False.elim (fun h=>h)⟩⟩,a3,a4⟩
 refine aB h5 ?_;show _=aa (aa (dB x j v) _) _
 ac_rfl
end
variable{s:St}
theorem FM(id:Int)(t:Bs):said [.s [114,101,106], .n id, .s t]= [114,101,106,32]++cJ id++ [32]++t:=by simp[said,Lib.join,Part.txt]
theorem Re(id:Int):said [.s [97,99,99], .n id]= [97,99,99,32]++cJ id:=by simp[said,Lib.join,Part.txt]
theorem QA(h:Inv s)(r:Rq)(hr:s.req r.id=none):Inv (s.more r):=by
 have NY:r.id∉s.ks.map (·.1):=(St.fresh h hr).2.2;have kJ:(s.more r).ks=s.ks++ [(r.id,r.ten)]:=by unfold St.more St.ks;rw[aH];rfl
 refine⟨?_,fun a ha=> ?_,fun l hl=>⟨(h.ring l hl).1,fun i hi=> ?_⟩,h.fP,h.once,h.cn,h.wt⟩
 ·rw[kJ,aH,List.nodup_append];refine⟨h.rid,by simp,fun a ha b hb e=>NY ?_⟩;simp at hb;subst hb;exact e▸ha
 ·rw[kJ,aH];exact List.mem_append_left _ (h.bS a ha)
 ·rw[kJ];exact List.mem_append_left _ ((h.ring l hl).2 i hi)
theorem QB(r:Rq)(hr:s.req r.id=none):(s.more r).req r.id=some r:=by unfold St.req St.more at*;rw[List.find?_append,hr];simp
theorem Nc(s:St)(c:Int)(t:Bs)(id:Int)(f:Bool):(s.say c t).a6 id f=(s.a6 id f).say c t:=by unfold St.a6;have:(s.say c t).ten id=s.ten id:=rfl;rw[this];show(if s.ring.any _ then _ else _)=_;split<;>rfl
theorem TA(hi:Inv s)(GL:1<=s.c.bo)(nm:Bs):(s.ring.any fun l=>l.ten==nm &&decide (s.c.bo<=(l.ids.length:Int)))=decide (s.c.bo<=((s.aZ nm).length:Int)):=by
 unfold St.aZ;cases hf:s.ring.find? (·.ten==nm)with
 |none=>
  dsimp only;have h1:(s.ring.any fun l=>l.ten==nm &&decide (s.c.bo<=(l.ids.length:Int)))=false:=by rw[List.any_eq_false];intro l hl e;simp only[bZ]at e;exact absurd e.1 (by simpa using List.find?_eq_none.1 hf l hl)
  rw[h1];simp;omega
 |some z=>
  dsimp only;have hz:=dT hf;have ez:z.ten=nm:=by simpa using List.find?_some hf
  by_cases hb:s.c.bo<=(z.ids.length:Int)
  ·rw[decide_eq_true hb];exact List.any_eq_true.2 ⟨z,hz,by simp[ez,hb]⟩
  ·rw[decide_eq_false hb,List.any_eq_false];intro l hl e;simp only[bZ,decide_eq_true_eq]at e;have:l=z:=ck (k:=fun l:Ln=>l.ten) hi.fP hl hz (by rw[ez];simpa using e.1);subst this;exact hb e.2
theorem sY{base x tb:Nat}{g:Gh}{cn:List (Int×Nat×Bs)}{w:World}{F:Ft}{n:Nat}(T:Tabs base w)(h:(stA base x tb g cn s).holds w F)(hs:Sd n s)(hn:n<=16775000)(c:Int)(m:Mg)(hid:0<=m.id∧m.id<=999999)(Ak:m.ten.length<=64):Calls prog 137 #[pt x,pt tb, .int .i64 c, .agg m.cs] w fun e w'=>e= .returned (.tuple #[])∧ ∃g',Goes (stA base x tb g' cn (s.bU c m)) w F w':=by
 obtain⟨w1,kK⟩: ∃w1,w1=w.alloc (.cells m.cs 149):=⟨_,rfl⟩;obtain⟨bx,vQ⟩: ∃bx,bx=w.heap.size:=⟨_,rfl⟩;have hB1:Below w.heap.size w w1:=by rw[kK];exact(ah _ _).alloc (ae _) _
 have T1:=T.new hB1;have h1:(stA base x tb g cn s).holds w1 F:=Mr.au h hB1;have hF:=dx h;have px:bx<w1.heap.size:=by rw[kK,vQ];simp
 have Ml: ¬F bx:=fun hf=>by have:=aM.lt _ h bx hf;omega
 have ye: ∀k,w1.cell? ⟨bx,k,none⟩=m.cs[k]?:=fun k=>by rw[kK,vQ];simp only[World.cell?,heap_alloc_new];rfl
 have pL:Hid (∀(g2:Gh) (s2:St) w',Goes (stA base x tb g2 cn s2) w1 F w'->Goes (stA base x tb g2 cn s2) w F w'):=fun g2 s2 w' hg=>by rw[kK]at hg;exact ft hg
 have hz:=hs.sz;have b1:w1.cell? ⟨bx,1,none⟩=some (.int .i64 m.id):=ye 1;have b3:w1.cell? ⟨bx,3,none⟩=some (.string ⟨m.ten.toArray⟩):=ye 3;have b4:w1.cell? ⟨bx,4,none⟩=some (.string ⟨m.txt.toArray⟩):=ye 4;have hi6:I6 m.id:=I6.of (by omega) (by omega);obtain⟨rm,c7,IC,zC⟩:=yV h1 hs.inv m.id hi6;have od:=zC w1.drew (ah _ _).drew;have PR: ∀b:Bs,b.length<=64-> ∀p∈ [Part.s [114,101,106],Part.n m.id,Part.s b],p.ok:=fun b hl p hp=>by
  simp only[List.mem_cons,List.not_mem_nil,or_false]at hp;rcases hp with rfl|rfl|rfl
  ·exact Part.vy (by decide)
  ·exact Part.Cy (yI hid)
  ·exact Part.vy hl
 have HW:=hide kK;have N6:=hide vQ;cases hq:s.req m.id with
 |some q=>
  have es:s.bU c m=s.say c ([114,101,106,32]++cJ m.id++ [32,100,117,112]):=by unfold St.bU;rw[hq];rfl
  rw[es];rw[hq]at od;have gq:=hide (mM T1 h1 (by omega) c [.s [114,101,106], .n m.id, .s [100,117,112]] ([114,101,106,32]++cJ m.id++ [32,100,117,112]) (by rw[FM];simp) (by simp) (by simp) (PR _ (by decide)));clear T h hs hB1 T1 h1 ye kK vQ zC PR;unfold pt Mg.cs at*;generalize g.rp m.id=rp at*;go_enter func137,ntmps137;go_wp2_with fail;rw[<-N6.out,<-HW.out];go_region_with (fail)
  all_goals
   go_wp2_with (first
    |(go_at_call 89;go_must(refine(gq.out _).mono ?_;rintro e w5⟨rfl,hg5⟩;have xf:=hide (pL.out _ _ _ hg5);clear hg5)))
   (try simp only[Exit.inBlock,Exit.then])
   exact bodyPost_ret (results_none rfl _ _ _) rfl ⟨rfl,_,xf.out⟩
 |none=>
  rw[hq]at od;have GL:=hs.bd.c.bo;have uJ:=TA hs.inv GL.1 m.ten;obtain⟨q,eq⟩: ∃q:Rq,q=⟨m.id,c,m.ten,m.txt,0,s.c.re,false⟩:=⟨_,rfl⟩;have eqi:q.id=m.id:=by rw[eq]
  have hqn:s.req q.id=none:=by rw[eqi];exact hq
  have hIm:=QA hs.inv q hqn;have hzm:(s.more q).sz<=16777000:=by unfold St.sz at hz⊢;show s.out.length+4*s.af.length+8*s.wait.length+(s.reqs++ [q]).length+s.aq.length+s.begun<=_;rw[aN];simp only[List.length_cons,List.length_nil];omega
  have yH:=QB q hqn;rw[eqi]at yH;have hwm:(s.more q).waits m.id=false:=(St.fresh hs.inv hq).2.1;have hIw:=St.lu hIm (id:=m.id) (by obtain⟨r,hr,e⟩:=aA.1 (show(m.id,m.ten)∈(s.more q).ks by unfold St.ks St.more;rw[aH];exact List.mem_append_right _ (by rw[eq];simp));exact aA.2 ⟨_,aA.2 ⟨r,hr,rfl⟩,by rw[e]⟩) hwm false
  have hzw:((s.more q).a6 m.id false).sz<=16777000:=by rw[St.qz];exact hzm
  have hqw:((s.more q).a6 m.id false).req m.id=some q:=by
   have:((s.more q).a6 m.id false).reqs=(s.more q).reqs:=by unfold St.a6;split<;>rfl
   unfold St.req at yH⊢;rw[this];exact yH
  have Db:Hid (∀nq,Calls prog 183 #[pt x,bs m.ten] (w1.drewN nq) fun e w2=> ∃g':Gh,e= .returned (pt (g'.tp m.ten))∧ ∀nr,∃ao cap,
    ((w2.drewN nr).cell? ⟨bx,1,none⟩=some (.int .i64 m.id)∧(w2.drewN nr).cell? ⟨bx,4,none⟩=some (.string ⟨m.txt.toArray⟩)∧(w2.drewN nr).cell? ⟨g'.tp m.ten,1,none⟩=some (.slice ao (s.aZ m.ten).length cap)∧(w2.drewN nr).cell? ⟨x,3,none⟩=some (.int .i64 s.c.bo))∧
    Hid (s.c.bo<=((s.aZ m.ten).length:Int)-> ∀ns,Calls prog 89 #[pt tb, .int .i64 c, .slice (some ⟨(w2.drewN nr).heap.size,0,none⟩) 3 3] (((w2.drewN nr).alloc (.cells #[.iface 9 (.string ⟨#[114,101,106]⟩), .iface 3 (.int .i64 m.id), .iface 9 (.string ⟨#[102,117,108,108]⟩)] 20)).drewN ns) fun e w5=>e= .returned (.tuple #[])∧ ∃Ph,Goes (stA base x tb Ph cn (s.say c ([114,101,106,32]++cJ m.id++ [32,102,117,108,108]))) w F w5)∧
    Hid (¬s.c.bo<=((s.aZ m.ten).length:Int)-> ∃rm w4,((w2.drewN nr).alloc (.cells #[.int .i64 m.id, .int .i64 c,pt (g'.tp m.ten),bs m.txt, .int .i64 0, .int .i64 0, .bool false, .slice none 0 0] 132)).cell? ⟨x,7,none⟩=some (.map (some rm))∧
     (Instr.mapUpdate 82 (.map (some rm)) (.int .i64 m.id) (pt (w2.drewN nr).heap.size)).run prog ((w2.drewN nr).alloc (.cells #[.int .i64 m.id, .int .i64 c,pt (g'.tp m.ten),bs m.txt, .int .i64 0, .int .i64 0, .bool false, .slice none 0 0] 132)).drew= .ok () w4∧
     Hid (Calls prog 70 #[pt x,pt (w2.drewN nr).heap.size] w4 fun e w5=>e= .returned (.tuple #[])∧w5.cell? ⟨(w2.drewN nr).heap.size,0,none⟩=some (.int .i64 m.id)∧
      Hid (∀ns,Calls prog 89 #[pt tb, .int .i64 c, .slice (some ⟨w5.heap.size,0,none⟩) 2 2] ((w5.alloc (.cells #[.iface 9 (.string ⟨#[97,99,99]⟩), .iface 3 (.int .i64 m.id)] 20)).drewN ns) fun e w6=>e= .returned (.tuple #[])∧ ∃Ph,Goes (stA base x tb Ph cn (((s.more q).a6 m.id false).say c ([97,99,99,32]++cJ m.id))) w F w6)))):=fun nq=>by
   have h1q:=cB h1 nq;obtain⟨j,r1,r2,r3,_,hh⟩:=h1q;have wf:=fI r1 hs.inv (by omega);have X9:j.aW.length<=16777000:=by have:=r1.abu;unfold St.sz at hz;omega
   refine(sZ hh wf m.ten Ak).mono ?_;rintro e w2⟨g',rfl,erp,esr,ld⟩;refine⟨g',rfl,fun nr=> ?_⟩;have TP:=eT (ld.drewN nr);have T2:=T1.goes hF TP;have acv:=TP;obtain⟨F2,eX,o2,n2⟩:=acv;have wf2:=wf.ten m.ten X9;obtain⟨t,ht,etn,etw⟩: ∃t∈(j.ten m.ten).aW,t.nm=m.ten∧t.wt=s.aZ m.ten:=by
    by_cases GR:m.ten∈j.aW.map (·.nm)
    ·obtain⟨t,ht,e⟩:=aA.1 GR;refine⟨t,by unfold Js.ten;rw[if_pos GR];exact ht,e,by rw[r1.wt t ht,e]⟩
    ·refine⟨⟨m.ten, [],0⟩,by unfold Js.ten;rw[if_neg GR];simp,rfl, ?_⟩;unfold St.aZ;cases hf:s.ring.find? (·.ten==m.ten)with
     |none=>rfl
     |some l=>
      have el:l.ten=m.ten:=by simpa using List.find?_some hf
      exact absurd (wf.ring l.ten (by rw[r1.ring];exact aA.2 ⟨l,dT hf,rfl⟩)) (by rw[el];exact GR)
   have Xm:=eX;unfold jA at Xm;rw[cx]at Xm;obtain⟨v,hv⟩:=Xm;obtain⟨Gj,rC,_⟩:=aM.left hv;have D:=yN rC;obtain⟨wv,Gw,GS,om⟩:=Qd rC ht;obtain⟨ao,cap,ewv⟩:=aX (Goes.refl om);have cb: ∀k,(w2.drewN nr).cell? ⟨bx,k,none⟩=m.cs[k]?:=fun k=>by rw[o2.cell (p:=⟨bx,k,none⟩) px Ml];exact ye k
   refine⟨ao,cap,⟨cb 1,cb 4, ?_, ?_⟩,fun py ns=> ?_,fun vV=> ?_⟩
   ·rw[<-etn];simp only[World.cell?,GS];show some wv=_;rw[ewv,etw,etn]
   ·rw[D.1 3];show some (Value.int .i64 j.c.bo)=_;rw[r1.c]
   ·
    have GR:m.ten∈j.aW.map (·.nm):=by
     by_cases GR:m.ten∈j.aW.map (·.nm)
     ·exact GR
     ·have:s.aZ m.ten= []:=by
       unfold St.aZ;cases hf:s.ring.find? (·.ten==m.ten)with
       |none=>rfl
       |some l=>
        have el:l.ten=m.ten:=by simpa using List.find?_some hf
        exact absurd (wf.ring l.ten (by rw[r1.ring];exact aA.2 ⟨l,dT hf,rfl⟩)) (by rw[el];exact GR)
      rw[this]at py;simp at py;omega
    have ej:j.ten m.ten=j:=by unfold Js.ten;rw[if_pos GR]
    rw[ej]at TP;have qc:Goes (stA base x tb g' cn s) w1 F (w2.drewN nr):=iD (s':=s) T1 hF (r1.gh esr) r2 r3 TP;obtain⟨F3,iX,o3,n3⟩:=qc;refine(mM T2 iX (by omega) c [.s [114,101,106], .n m.id, .s [102,117,108,108]] ([114,101,106,32]++cJ m.id++ [32,102,117,108,108]) (by rw[FM];simp) (by simp) (by simp) (PR _ (by decide)) ns).mono ?_;rintro e w5⟨rfl,g5⟩;exact⟨rfl,g',pL.out _ _ _ (aF o3 n3 g5)⟩
   ·have og:j.reqs.length<=16777000:=by
     have:j.reqs.length=s.reqs.length:=by rw[<-r1.reqs,bf]
     unfold St.sz at hz;omega
    have kJ:(j.reqs.map fun r=>r.q.id)=s.reqs.map (·.id):=by rw[<-r1.reqs,aG];rfl
    obtain⟨rm,W8,w4,N3,kI⟩:=UM eX wf2 (fun a ha=>by
      obtain⟨r,hr,t',El,er,_⟩:=Jr r1 hs.inv (r1.hp.subset ha);exact aA.2 ⟨r,hr,er⟩) og m.id c m.ten m.txt hi6 (by
      show m.id∉j.reqs.map fun r=>r.q.id;rw[kJ];intro GR;obtain⟨r,hr,e⟩:=aA.1 GR;exact List.find?_eq_none.1 hq r hr (by simpa using e))
    refine⟨rm,w4,W8,N3, ?_⟩;have aaM:=aF o2 n2 kI;have ejm:({j.ten m.ten with reqs:=(j.ten m.ten).reqs++ [⟨⟨m.id,c,m.ten,m.txt,0,(j.ten m.ten).c.re,false⟩, []⟩]}:Js)=j.more q:=by unfold Js.more Js.ten;rw[eq];dsimp only;rw[r1.c]
    rw[ejm]at aaM;have hR:Rel (g'.newR m.id (w2.drewN nr).heap.size) (j.more q) (s.more q):=(r1.more hs.inv q hqn).gh (show(g'.newR m.id _).sr=g.sr from esr);have qc:Goes (stA base x tb (g'.newR m.id (w2.drewN nr).heap.size) cn (s.more q)) w1 F w4:=iD (s':=s.more q) T1 hF hR r2 r3 aaM;have T4:=T1.goes hF qc;have aao:(g'.newR m.id (w2.drewN nr).heap.size).rp m.id=(w2.drewN nr).heap.size:=Gh.vv _ _ _;obtain⟨F4,th,o4,n4⟩:=qc;show Calls _ _ _ _ _;have gS:=wF T4 th hIm hzm yH;rw[aao]at gS;refine gS.mono ?_;rintro e w5⟨rfl,g5⟩;have g5':=aF o4 n4 g5;have T5:=T1.goes hF g5';obtain⟨F5,nZ,o5,n5⟩:=g5';obtain⟨_,_,_,_,RA⟩:=gK nZ hIw hzw hqw;have ci:=RA.ci;rw[aao]at ci;refine⟨rfl,ci,fun ns=> ?_⟩;refine(mM T5 nZ hzw c [.s [97,99,99], .n m.id] ([97,99,99,32]++cJ m.id) (Re _) (by simp) (by simp) (by
     intro p hp;simp only[List.mem_cons,List.not_mem_nil,or_false]at hp;rcases hp with rfl|rfl
     ·exact Part.vy (by decide)
     ·exact Part.Cy (yI hid)) ns).mono ?_
    rintro e w6⟨rfl,g6⟩;exact⟨rfl,_,pL.out _ _ _ (aF o5 n5 g6)⟩
  have aaQ:(s.aZ m.ten).length<=16777210:=by
   unfold St.aZ;split
   ·rename_i l hl;have:=St.qP hs.inv (dT hl);unfold St.sz at hz;omega
   ·simp
  by_cases py:s.c.bo<=((s.aZ m.ten).length:Int)
  ·have es:s.bU c m=s.say c ([114,101,106,32]++cJ m.id++ [32,102,117,108,108]):=by
    unfold St.bU;rw[hq,if_neg (by simp),if_pos (by rw[uJ];simpa using py)]
   rw[es];clear T h hs hB1 T1 h1 ye kK vQ zC PR uJ hIm hIw hqw yH hwm hzm hzw;unfold pt Mg.cs bs at*;generalize(s.aZ m.ten).length=nw at*;go_enter func137,ntmps137;go_wp2_with fail;rw[<-N6.out,<-HW.out];go_region_with (fail)
   all_goals
    go_wp2_with (first
     |(go_at_call 183;go_must(refine(Db.out _).mono ?_;rintro e w2⟨g',rfl,Iu⟩;obtain⟨ao,cap,⟨y1,y2,y3,y4⟩,HSF,_⟩:=Iu 0;clear Iu;change w2.cell? _=_ at y1;change w2.cell? _=_ at y2;change w2.cell? _=_ at y3;change w2.cell? _=_ at y4;have HSG:=hide (HSF.out py);clear HSF)))
    go_quiet (fail)
    go_wp2_with (first
     |(go_at_call 89;go_must(refine(HSG.out _).mono ?_;rintro e w5⟨rfl,hg5⟩;have xf:=hide hg5;clear hg5)))
    (try simp only[Exit.inBlock,Exit.then])
    exact bodyPost_ret (results_none rfl _ _ _) rfl ⟨rfl,xf.out⟩
  ·have es:s.bU c m=((s.more q).a6 m.id false).say c ([97,99,99,32]++cJ m.id):=by
    unfold St.bU;rw[hq,if_neg (by simp),if_neg (by rw[uJ];simpa using py)];rw[Nc,eq];rfl
   rw[es];have hfl:decide (s.c.bo<=((s.aZ m.ten).length:Int))=false:=by simpa using py
   have HFU:=hide py;clear T h hs hB1 T1 h1 ye kK vQ zC PR uJ hIm hIw hqw yH hwm hzm hzw py;unfold pt Mg.cs bs at*;generalize(s.aZ m.ten).length=nw at*;go_enter func137,ntmps137;go_wp2_with fail;rw[<-N6.out,<-HW.out];go_region_with (fail)
   all_goals
    go_wp2_with (first
     |(go_at_call 183;go_must(refine(Db.out _).mono ?_;rintro e w2⟨g',rfl,Iu⟩;have HP2:=hide Iu;obtain⟨ao,cap,⟨y1,y2,y3,y4⟩,_,_⟩:=Iu 0;clear Iu;change w2.cell? _=_ at y1;change w2.cell? _=_ at y2;change w2.cell? _=_ at y3;change w2.cell? _=_ at y4)))
    generalize g'.tp m.ten=tp at*
    go_quiet (fail)
    obtain⟨_,_,⟨u1,u2,_,_⟩,_,VE⟩:=HP2.out nq;obtain⟨rm',w4,k1,k2,HWL⟩:=VE.out HFU.out;clear HP2 VE y1 y2 y3 y4 Db;generalize w2.drewN nq=w3 at*;go_wp2_with fail;go_region_with (fail)
    all_goals
     go_wp2_with (first
      |(go_at_call 70;go_must(refine HWL.out.mono ?_;rintro e w5⟨rfl,y5,gq⟩;clear HWL))
      |(go_at_call 89;go_must(refine(gq.out 0).mono ?_;rintro e w6⟨rfl,iJ⟩;have sf:=hide iJ;clear iJ)))
     go_end0;exact⟨rfl,sf.out⟩
variable{n base x tb:Nat}{s:St}{g:Gh}{cn:List (Int×Nat×Bs)}{w:World}{F:Ft}
theorem Sd.lN(h:Sd n s)(c:Int)(t:Bs){i:Nat}{a:At}(ha:s.af[i]?=some a)(id:Int):Sd n (((s.say c t).aS i).again id true):=by have h1:=h.say c t;have h2:Inv ((s.say c t).aS i):=St.br h1.inv i;refine⟨St.eC h2 id true,(h1.ok.aS h1.inv i).again h2 id true, ?_,(h1.bd.aS i).again h2 id true⟩;have e1:=St.mD (s:=s.say c t) (i:=i) (a:=a) ha;have e2:=h1.sz;have e3:=St.tu (s:=(s.say c t).aS i) id true;omega
structure abO(g:Gh)(x:Nat)(s:St)(hp:List At)(w:World)(ao:Option Addr)(cap:Nat):Prop where
 le:w.cell? ⟨x,11,none⟩=some (.slice ao s.af.length cap)
 le0: ∀b l,hp=b::l-> ∃bb off,ao=some ⟨bb,off,none⟩∧w.cell? ⟨bb,off,none⟩=some (pt (g.ap (key b)))∧w.cell? ⟨g.ap (key b),5,none⟩=some (.int .i64 b.eV)∧w.cell? ⟨g.ap (key b),1,none⟩=some (pt (g.rp b.id))
 now:w.cell? ⟨x,5,none⟩=some (.int .i64 s.now)
 len:hp.length=s.af.length∧s.af.length<=16777190
theorem Bc(h:(stA base x tb g cn s).holds w F)(hi:Inv s)(hz:s.sz<=16777000): ∃j ao cap,Rel g j s∧abO g x s j.hp w ao cap:=by
 obtain⟨j,r1,r2,r3,hF,hh⟩:=h;have wf:=fI r1 hi hz;unfold jA at hh;rw[cx]at hh;obtain⟨v,hv⟩:=hh;obtain⟨Gj,rC,_⟩:=aM.left hv;have D:=yN rC;obtain⟨⟨Gl,xw⟩,rD⟩:=Qc rC;obtain⟨ao,cap,LH⟩:=aX (Goes.refl xw);have hl:=r1.hp.length_eq;refine⟨j,ao,cap,r1,by rw[D.1 11];show some v.lv=_;rw[LH,hl],fun b l hb=> ?_,by rw[D.1 5];show some (Value.int .i64 j.now)=_;rw[r1.now],⟨hl,by have:=wf.b4;omega⟩⟩;unfold eY at xw;rw[LH,hb,List.map_cons]at xw;obtain⟨bb,off,cp,e1,e2⟩:=qZ xw (by simp);cases e1;have h0:=rD 0 (by rw[hb];simp);have e0:j.hp[0]'(by rw[hb];simp)=b:=by simp[hb]
 rw[e0]at h0;exact⟨bb,off,rfl,e2,by simp only[World.cell?,h0];rfl,by simp only[World.cell?,h0];rfl⟩
def ED(x:Nat)(w:World):Nat:=match w.cell? ⟨x,11,none⟩with|some (.slice _ n _)=>n|_=>0
structure gm(base x tb:Nat)(g:Gh)(cn:List (Int×Nat×Bs))(n:Nat)(s:St)(w:World)(F:Ft)(s':St)(wr:World):Prop where
 sd:Sd n s'
 busy:Busy s' (fun _=>False)
 goes:Goes (stA base x tb g cn s') w F wr
 done: ∃f,s'.af.length<=f∧St.cV f s'=St.cV s.af.length s
theorem zR(s:St)(id:Int)(b:Bool):(s.again id b).af.length<=s.af.length:=by
 unfold St.again;split
 ·exact ae _
 ·split
  ·exact ae _
  ·split
   ·exact((St.iE _ _ _).sub.length_le:((St.stops _ _ _).left _).af.length<=_)
   ·split
    ·rw[show∀t:St,(t.a6 id true).af=t.af from fun t=>by unfold St.a6;split<;>rfl];exact ae _
    ·rw[show∀t:St,(t.a6 id true).af=t.af from fun t=>by unfold St.a6;split<;>rfl];exact ae _
theorem Mv(T:Tabs base w)(h:(stA base x tb g cn s).holds w F)(hs:Sd n s)(hn:n<=16774000)(hb:Busy s (fun _=>False)):Calls prog 40 #[pt x,pt tb] w fun e w'=>e= .returned (.tuple #[])∧Goes (stA base x tb g cn (St.cV s.af.length s)) w F w':=by
 have uN:Hid (gm base x tb g cn n s w F s w):=⟨hs,hb,Goes.refl h,_,ae _,rfl⟩;have HT:=hide T;have HF:=hide (dx h);clear hs hb h T;unfold pt;go_enter func40,ntmps40;go_wp2;go_loopw [] (fun wr=> ∃s':St,Hid (gm base x tb g cn n s w F s' wr)) (fun wr=>ED x wr)
 case atStart=>exact⟨s,uN⟩
 case round=>
  obtain⟨s',gB⟩:=hrel;have hz:=gB.out.sd.sz;obtain⟨F1,cd,o1,n1⟩:=gB.out.goes;have T1:=HT.out.goes HF.out gB.out.goes;obtain⟨j,ao,cap,r1,LX⟩:=Bc cd gB.out.sd.inv (by omega);have wL:Hid (ED x wr=s'.af.length):=by show(_=_);unfold ED;rw[LX.le]
  have c11:=LX.le;have c5:=LX.now;have hl:=LX.len;have ZE:Hid (s'.due=none-> ∀q,Goes (stA base x tb g cn (St.cV s.af.length s)) w F (wr.drewN q)):=fun hd q=>by obtain⟨f,_,e⟩:=gB.out.done;rw[St.IQ hd]at e;rw[<-e];exact gB.out.goes.drewN q
  cases GN:j.hp with
  |nil=>
   have hd:=ZE.out (r1.DB (fun a ha=>by rw[GN]at ha;cases ha));have h0:s'.af.length=0:=by rw[<-hl.1,GN];rfl
   rw[h0]at c11;have HD:=hide hd;clear gB cd o1 n1 T1 LX r1 ZE uN HT HF hd;go_wp2_with fail
   go_quiet (fail)
   go_wp2;go_end0;exact⟨rfl,HD.out _⟩
  |cons b l=>
   obtain⟨bb,off,rfl,d1,d2,d3⟩:=LX.le0 b l GN;have Ae:s'.af.length=l.length+1:=by rw[<-hl.1,GN];rfl
   have j7:(0:Int)<((l.length:Nat):Int)+1:=by omega
   by_cases ht:b.eV<=s'.now
   ·obtain⟨i,hdi,sB⟩:=r1.O7 (by rw[GN];rfl) ht;have rR:=dn sB;obtain⟨q,hq,_,Ix⟩:=St.cz (gB.out.sd.inv.bS b rR);have Ue:decide (b.eV<=s'.now)=true:=by simpa using ht
    have iP:Hid (∀nq,Calls prog 66 #[pt x,pt tb,pt (g.ap (key b))] (wr.drewN nq) fun e w2=>e= .returned (.tuple #[])∧w2.cell? ⟨g.ap (key b),1,none⟩=some (pt (g.rp b.id))∧
      Hid (Calls prog 67 #[pt x,pt tb,pt (g.rp b.id)] w2 fun e w3=>e= .returned (.tuple #[])∧ ∃wy,gm base x tb g cn n s w F wy w3∧ED x w3<s'.af.length)):=fun nq=>by
     refine(FX (T1.below (uQ (ah _ _) nq)) (cB cd nq) gB.out.sd (by omega) sB).mono ?_;rintro e w2⟨rfl,k,hg⟩;have hgc:=hg;obtain⟨F2',ab9,_⟩:=hgc;have rD:=(dC (aB ab9 (cA _ _))).1;refine⟨rfl,by simp only[World.cell?,rD];rfl, ?_⟩;have kQ:=aF o1 n1 (eT hg.drop);have T2:=HT.out.goes HF.out kQ;obtain⟨F2,eX,o2,n2⟩:=kQ;have vW:=gB.out.sd.stop b.conn (St.aD b.id b.n) sB;have Mn:((s'.say b.conn (St.aD b.id b.n)).aS i).req b.id=some q:=by rw[qu];exact hq
     have A6:Busy ((s'.say b.conn (St.aD b.id b.n)).aS i) (fun y=>False∨y=b.id):=Busy.aS (i:=i) (a:=b) (gB.out.busy.say b.conn (St.aD b.id b.n)) sB;show Calls _ _ _ _ _;refine(kZ T2 eX vW (by omega) Mn (A6.mono (fun y hy=>hy.elim False.elim (fun h=>h)))).mono ?_;rintro e w3⟨rfl,mW⟩;have Il:=aF o2 n2 mW;have BV:=gB.out.sd.lN b.conn (St.aD b.id b.n) sB b.id;have hle:=zR ((s'.say b.conn (St.aD b.id b.n)).aS i) b.id true;have hel:((s'.say b.conn (St.aD b.id b.n)).aS i).af.length+1=s'.af.length:=by rw[yo (s:=s'.say b.conn (St.aD b.id b.n)) sB,(tC _ _).1];show(s'.af.eraseIdx i).length+1=_;have hlen:i<s'.af.length:=(cK.1 sB).1;rw[List.length_eraseIdx_of_lt hlen];omega
     refine⟨rfl,_,⟨BV,Busy.again A6 vW.inv true,Il, ?_⟩, ?_⟩
     ·obtain⟨f,hf,e⟩:=gB.out.done;obtain⟨f',rfl⟩: ∃f',f=f'+1:=⟨f-1,by omega⟩;rw[St.IU hdi sB]at e;exact⟨f',by omega,e⟩
     ·obtain⟨F3,iX,_⟩:=Il;obtain⟨j3,iN,eA,r3,LX3⟩:=Bc iX BV.inv (by have:=BV.sz;omega);unfold ED;rw[LX3.le];dsimp only;omega
    rw[Ae]at c11 wL iP hl;clear gB cd o1 n1 T1 LX r1 ZE uN HT HF GN sB hdi rR hq Ix;unfold pt at*;generalize g.ap (key b)=ap at*;generalize g.rp b.id=rp at*;generalize l.length=ln at*;go_wp2_with fail
    go_quiet (fail)
    go_wp2_with (first
     |(go_at_call 66;go_must(refine(iP.out _).mono ?_;rintro e w2⟨rfl,y1,JW⟩;clear iP))
     |(go_at_call 67;go_must(refine JW.out.mono ?_;rintro e w3⟨rfl,wy,hlp,PO⟩;have HLP:=hide hlp;have WH:=hide PO;clear hlp PO JW)))
    go_roundw
    case rel=>exact⟨wy,HLP⟩
    case measure=>have:=WH.out;have:=wL.out;omega
   ·have hd:=ZE.out (r1.DB (fun a ha=>by rw[GN]at ha;simp at ha;rw[<-ha];omega));have Ue:decide (b.eV<=s'.now)=false:=by simpa using ht
    have HD:=hide hd;rw[Ae]at c11 hl;clear gB cd o1 n1 T1 LX r1 ZE uN HT HF hd GN;unfold pt at*;generalize g.ap (key b)=ap at*;generalize l.length=ln at*;go_wp2_with fail
    go_quiet (fail)
    go_wp2;go_end0;exact⟨rfl,HD.out _⟩
