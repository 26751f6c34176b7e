import Derived.Test.YtffamlbkmjmipaaGreatDoorC31
import Derived.Test.YtffamlbkmjmipaaGreatDoorC34
import Derived.Test.YtffamlbkmjmipaaGreatDoorC40
set_option maxHeartbeats 8000000
set_option maxRecDepth 100000
namespace Go.Proofs.YtffamlbkmjmipaaGreatDoor
open _root_.Go.Proofs.Tryz
namespace Pj
open Go.RowKit aD Mc bA
attribute [local go_sem] ae ah
def Ab(cn:List (Int×Nat×Bs))(d:Int):Bs:=match cn.find? (fun y=>y.1==d)with|some y=>y.2.2|none=> []
def my(base x:Nat)(s:St):aD where
 holds w F:= ∃g j,Rel g j s∧Cw j∧Ok s∧Busy s (fun _=>False)∧s.out= []∧(∀d,Ab (gu j) d=s.cu d)∧(∀k,F k->base<=k)∧(jA x g j).holds w F
 lt h:=by obtain⟨g,j,_,_,_,_,_,_,_,h⟩:=h;exact aD.lt _ h
 keep h hk:=by obtain⟨g,j,h1,h2,h3,h4,h5,h6,h7,h⟩:=h;exact⟨g,j,h1,h2,h3,h4,h5,h6,h7,aD.keep _ h hk⟩
section
variable{base x tb:Nat}{g:Gh}{cn:List (Int×Nat×Bs)}{s s':St}{w wr:World}{F:Ft}
theorem sZ(hB:base<=w.heap.size)(h:(my base x s).holds w F): ∃g cn F1,Ok s∧Busy s (fun _=>False)∧s.out= []∧(∀d,Ab cn d=s.cu d)∧(cn.map (·.1)).Nodup∧(stA base x w.heap.size g cn s).holds (w.alloc (.cells #[.slice none 0 0] 94)) F1∧(∀k,F1 k->F k∨w.heap.size<=k)∧ ∀k,F1 k->base<=k:=by
 obtain⟨g,j,h1,h2,h3,h4,h5,h6,h7,hj⟩:=h;have g1:=(Goes.refl hj).alloc (.cells #[.slice none 0 0] 94 (0,0));obtain⟨F1,bU,o1,n1⟩:=g1;have bP: ∀k,F1 k->base<=k:=fun k hk=>(n1 k hk).elim (h7 k) (fun h=>au hB h);refine⟨g,gu j,F1,h3,h4,h5,h6, ?_,⟨j,h1,h2,rfl,bP, ?_⟩,n1,bP⟩
 ·unfold gu;rw[az];exact h1.cnd
 ·obtain⟨G,H,ha,hb,d,e⟩:=bU;refine⟨H,G,hb,⟨.slice none 0 0,G,fun _=>False,ha, ?_,fun _ _ h=>h,fun k=>⟨.inl,fun h=>h.elim id False.elim⟩⟩,fun k hk lj=>d k lj hk,fun k=>(e k).trans or_comm⟩;rw[h5];exact gS _ _ _ (fun _ h=>h)
theorem qa(h:Goes (stA base x tb g cn s') w F wr)(ho:Ok s')(hb:Busy s' (fun _=>False))(hk: ∀d,Ab cn d=s'.cu d): ∃v,wr.cell? ⟨tb,0,none⟩=some v∧Goes (aa (Mr.dT v s'.out) (my base x s'.told)) w F wr:=by
 obtain⟨F1,⟨j,r1,r2,r3,hF,hh⟩,o1,n1⟩:=h;obtain⟨G,H,ha,cL,d,e⟩:=hh;obtain⟨ov,XC⟩:=cL;have hc:=(bQ XC).1;refine⟨ov,by simp only[World.cell?,hc];rfl, ?_⟩;obtain⟨H1,H2,LZ,XU,dd,ee⟩:=XC;refine⟨fun k=>H2 k∨G k,⟨H2,G,XU,⟨g,j, ?_,r2,ho.told,hb,rfl,fun d=> ?_,fun k hk=>hF k ((e k).2 (.inl hk)),ha⟩,fun k hk lj=>d k lj ((ee k).2 (.inr hk)),fun k=>Iff.rfl⟩,o1,fun k hk=>n1 k ((e k).2 (hk.elim (fun h=> .inr ((ee k).2 (.inr h))) .inl))⟩
 ·exact r1.out []
 ·rw[r3];exact hk d
theorem Good.sd{n:Nat}{s:St}(h:Mc.Good n s)(ho:Ok s)(hn:n<=1300000):Sd (12*n) s:=⟨h.inv,ho,h.sz,h.bd.up (by omega)⟩
theorem Q0(T:Tabs base w)(h:(stA base x tb g cn s).holds w F)(n:Int):w.cell? ⟨x,5,none⟩=some (.int .i64 s.now)∧w.frozen? ⟨x,5,none⟩=false∧Goes (stA base x tb g cn {s with now:=n}) w F (w.setCell ⟨x,5,none⟩ (.int .i64 n)):=by obtain⟨j,r1,r2,r3,hF,hh⟩:=h;unfold jA at hh;rw[bF]at hh;obtain⟨v,hv⟩:=hh;change (aa (aS x g j v) (rC tb s.out)).holds w F at hv;have h2:=aw hv (show _=aa (blk x (.cells (uI j v) 88 (0,0))) (aa (aa (iu v.cm j.br) (aa (gJ g v.rm j.reqs) (aa (fW g v.tm j.aI) (aa (all gi j.br) (aa (all (dP g j.c.re) j.reqs) (aa (all (eC g) j.aI) (aa (dF g v.rv j.ring) (aa (gm v.pv j.pull) (aa (dm g v.lv j.hp) (hpA g j.hp)))))))))) (rC tb s.out))by unfold aS dB;exact bn _ _ _);obtain⟨cl,fz,_⟩:=bq h2;have g2:=(Goes.refl h2).store 5 (.int .i64 n);refine⟨by rw[cl 5];show some (Value.int .i64 j.now)=_;rw[r1.now],fz 5, ?_⟩;refine fJ (j':={j with now:=n}) (s':={s with now:=n}) T hF (r1.Yh n) r2 r3 (g2.mono fun F' h'=> ?_);unfold jA;rw[bF];exact⟨v,aw h' (bn _ _ _).symm⟩
end
variable{base n:Nat}{bL w:World}{s:St}
def mZ(base:Nat)(bL:World):Prop:= ∀w',Below base bL w'->Lib.TabIs prog w' "internal/strconv.uint64pow10" .u64 Lib.pow10Tab
theorem mZ.at(h:mZ base bL)(hB:base<=w.heap.size)(hb:Below base bL w):Tabs base w:=⟨hB,fun _ h'=>h _ (hb.trans h')⟩
theorem Sd.bV(h:Sd n s)(f:Nat):Sd n (St.bV f s):=⟨St.gG f h.inv,Ok.bV f h.ok h.inv,au (St.tR f s) h.sz,Bd.bV f h.bd h.inv⟩
theorem Sd.dp(h:Sd n s):Sd n s.dp:=⟨St.iQ h.inv,h.ok.dp h.inv,by unfold St.dp;rw[St.xm];exact h.sz,Bd.fold _ h.bd⟩
theorem ot{x:Nat}{F:Ft}(h:(my base x s).holds w F):Calls prog 39 #[pt x] w fun e w'=>e= .returned (.bool true)∧w'=w:=by obtain⟨g,j,_,_,_,_,_,_,_,hj⟩:=h;exact NH (B:=emp) (by rw[mj];exact hj)
theorem Lr(HT:mZ base bL)(x n:Nat)(s:St)(w:World)(F:Ft)(hB:base<=w.heap.size)(hb:Below base bL w)(hg:Mc.Good n s)(hn:n<=1299998)(h:(my base x s).holds w F):Calls prog 26 #[.pointer (some ⟨x,0,none⟩)] w (Lw.Ho (my base x) s.tick w F):=by
 have Md:=ot h;obtain⟨g,cn,F1,ho,vY,Cq,kh,gw,ra,n1,bU⟩:=sZ hB h;have oG:Below w.heap.size w (w.alloc (.cells #[.slice none 0 0] 94)):=(ar _ _).alloc (af _) _;have o1:Only F w (w.alloc (.cells #[.slice none 0 0] 94)):=(Only.refl F w).alloc _;have T1:Tabs base (w.alloc (.cells #[.slice none 0 0] 94)):=(HT.at hB hb).new oG;generalize fZ:w.alloc (.cells #[.slice none 0 0] 94)=w1 at*;have q9:=Good.sd hg ho (by omega);have zR:=hg.bd.now;obtain⟨c5,f5,gn⟩:=Q0 T1 ra (s.now+1);have Cu:Sd (12*n) {s with now:=s.now+1}:=⟨St.jz q9.inv _,q9.ok.now _,q9.sz,⟨q9.bd.c,⟨by show 0<=s.now+1;omega,by show s.now+1<=_;omega⟩,q9.bd.rq,q9.bd.at'⟩⟩;have Jq:Busy {s with now:=s.now+1} (fun _=>False):=vY;have YD:Hid (Calls prog 40 #[pt x,pt w.heap.size] (w1.setCell ⟨x,5,none⟩ (.int .i64 (s.now+1))) fun e w3=>e= .returned (.tuple #[])∧
   Hid (Calls prog 41 #[pt x] w3 fun e w4=>e= .returned (.tuple #[])∧
    Hid (Calls prog 42 #[pt x,pt w.heap.size] w4 fun e w5=>e= .returned (.tuple #[])∧ ∃ao n1 cap,w5.cell? ⟨w.heap.size,0,none⟩=some (.slice ao n1 cap)∧Hid (Goes (aa (Mr.dT (.slice ao n1 cap) s.tick.out) (my base x s.tick.told)) w F w5)))):=by
  have T2:=T1.goes bU gn;obtain⟨F2,gl,o2,n2⟩:=gn;show Calls _ _ _ _ _;refine(FJ T2 gl Cu (by omega) Jq).mono ?_;rintro e w3⟨rfl,eP⟩;refine⟨rfl, ?_⟩;have T3:=T2.goes (cr gl) eP;obtain⟨F3,kT,o3,n3⟩:=ay o2 n2 eP;show Calls _ _ _ _ _;have xu:=Cu.bV ({s with now:=s.now+1}:St).ag.length;refine(Fo T3 kT xu (by omega)).mono ?_;rintro e w4⟨rfl,gL⟩;refine⟨rfl, ?_⟩;have T4:=T3.goes (cr kT) gL;obtain⟨F4,u9,o4,n4⟩:=ay o3 n3 gL;show Calls _ _ _ _ _;refine(tu T4 u9 xu.dp (by omega)).mono ?_;rintro e w5⟨rfl,g',fO⟩;refine⟨rfl, ?_⟩;have gM:Goes (stA base x w.heap.size g' cn s.tick) w F w5:=ay o1 n1 (ay o4 n4 fO);obtain⟨v,hv,bz⟩:=qa gM (ho.tick hg.inv) (vY.tick hg.inv) (fun d=>by rw[kh d,St.rest_of St.Ow d]);obtain⟨F6,Fa,o6,n6⟩:=id bz;obtain⟨G6,Qh,_⟩:=aD.left Fa;obtain⟨ao,cap,ev,_⟩:=bS Qh;rw[ev]at hv bz;exact⟨ao,_,cap,hv,bz⟩
 have zV:IntKind.i64.wrap (s.now+1)=s.now+1:=by rw[IntKind.wrap_i64];omega
 clear h ra gn hg q9 Cu vY Jq T1 o1 n1 kh gw;unfold pt at*;subst fZ;generalize s.now=now at*;go_enter func26,ntmps26;go_wp2_with (first
  |(go_at_call 39;go_must(refine Md.mono ?_;rintro e wz⟨rfl,rfl⟩))
  |(go_at_call 40;go_must(refine YD.out.mono ?_;rintro e w3⟨rfl,HHE⟩;clear YD))
  |(go_at_call 41;go_must(refine HHE.out.mono ?_;rintro e w4⟨rfl,Sk⟩))
  |(go_at_call 42;go_must(refine Sk.out.mono ?_;rintro e w5⟨rfl,ao,nn,cap,hc,HG⟩)))
 go_ret;exact⟨_,rfl,HG.out⟩
