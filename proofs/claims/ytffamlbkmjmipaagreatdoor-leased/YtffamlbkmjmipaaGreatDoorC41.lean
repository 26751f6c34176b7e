import Derived.Test.YtffamlbkmjmipaaGreatDoorC31
import Derived.Test.YtffamlbkmjmipaaGreatDoorC34
import Derived.Test.YtffamlbkmjmipaaGreatDoorC40
set_option maxHeartbeats 8000000
set_option maxRecDepth 100000
namespace Go.Proofs.YtffamlbkmjmipaaGreatDoor
open _root_.Go.Proofs.Tryz
namespace Pj
open Go.RowKit aM Mc bJ
attribute [local go_sem] ag ar
def Ex(cn:List (Int×Nat×Bs))(d:Int):Bs:=match cn.find? (fun y=>y.1==d)with|some y=>y.2.2|none=> []
def rB(base x:Nat)(s:St):aM where
 holds w F:= ∃g j,Rel g j s∧Cw j∧Ok s∧Busy s (fun _=>False)∧s.out= []∧(∀d,Ex (jx j) d=s.bG d)∧(∀k,F k->base<=k)∧(jA x g j).holds w F
 lt h:=by obtain⟨g,j,_,_,_,_,_,_,_,h⟩:=h;exact aM.lt _ h
 keep h hk:=by obtain⟨g,j,h1,h2,h3,h4,h5,h6,h7,h⟩:=h;exact⟨g,j,h1,h2,h3,h4,h5,h6,h7,aM.keep _ h hk⟩
section
variable{base x tb:Nat}{g:Gh}{cn:List (Int×Nat×Bs)}{s s':St}{w wr:World}{F:Ft}
theorem yi(hB:base<=w.heap.size)(h:(rB base x s).holds w F): ∃g cn F1,Ok s∧Busy s (fun _=>False)∧s.out= []∧(∀d,Ex cn d=s.bG d)∧(cn.map (·.1)).Nodup∧(stA base x w.heap.size g cn s).holds (w.alloc (.cells #[.slice none 0 0] 94)) F1∧(∀k,F1 k->F k∨w.heap.size<=k)∧ ∀k,F1 k->base<=k:=by
 obtain⟨g,j,h1,h2,h3,h4,h5,h6,h7,hj⟩:=h;have g1:=(Goes.refl hj).alloc (.cells #[.slice none 0 0] 94 (0,0));obtain⟨F1,cd,o1,n1⟩:=g1;have hb1: ∀k,F1 k->base<=k:=fun k hk=>(n1 k hk).elim (h7 k) (fun h=>aw hB h);refine⟨g,jx j,F1,h3,h4,h5,h6, ?_,⟨j,h1,h2,rfl,hb1, ?_⟩,n1,hb1⟩
 ·unfold jx;rw[aG];exact h1.cnd
 ·obtain⟨G,H,ha,hb,d,e⟩:=cd;refine⟨H,G,hb,⟨.slice none 0 0,G,fun _=>False,ha, ?_,fun _ _ h=>h,fun k=>⟨.inl,fun h=>h.elim id False.elim⟩⟩,fun k hk jU=>d k jU hk,fun k=>(e k).trans or_comm⟩;rw[h5];exact dS _ _ _ (fun _ h=>h)
theorem uU(h:Goes (stA base x tb g cn s') w F wr)(ho:Ok s')(hb:Busy s' (fun _=>False))(hk: ∀d,Ex cn d=s'.bG d): ∃v,wr.cell? ⟨tb,0,none⟩=some v∧Goes (aa (Mr.iB v s'.out) (rB base x s'.told)) w F wr:=by
 obtain⟨F1,⟨j,r1,r2,r3,hF,hh⟩,o1,n1⟩:=h;obtain⟨G,H,ha,bN,d,e⟩:=hh;obtain⟨ov,hov⟩:=bN;have hc:=(dC hov).1;refine⟨ov,by simp only[World.cell?,hc];rfl, ?_⟩;obtain⟨H1,H2,GU,Yg,dd,ee⟩:=hov;refine⟨fun k=>H2 k∨G k,⟨H2,G,Yg,⟨g,j, ?_,r2,ho.told,hb,rfl,fun d=> ?_,fun k hk=>hF k ((e k).2 (.inl hk)),ha⟩,fun k hk jU=>d k jU ((ee k).2 (.inr hk)),fun k=>Iff.rfl⟩,o1,fun k hk=>n1 k ((e k).2 (hk.elim (fun h=> .inr ((ee k).2 (.inr h))) .inl))⟩
 ·exact r1.out []
 ·rw[r3];exact hk d
theorem Good.sd{n:Nat}{s:St}(h:Mc.Good n s)(ho:Ok s)(hn:n<=1300000):Sd (12*n) s:=⟨h.inv,ho,h.sz,h.bd.up (by omega)⟩
theorem Yw(T:Tabs base w)(h:(stA base x tb g cn s).holds w F)(n:Int):w.cell? ⟨x,5,none⟩=some (.int .i64 s.now)∧w.frozen? ⟨x,5,none⟩=false∧Goes (stA base x tb g cn {s with now:=n}) w F (w.setCell ⟨x,5,none⟩ (.int .i64 n)):=by obtain⟨j,r1,r2,r3,hF,hh⟩:=h;unfold jA at hh;rw[cx]at hh;obtain⟨v,hv⟩:=hh;change (aa (bk x g j v) (wD tb s.out)).holds w F at hv;have h2:=aB hv (show _=aa (blk x (.cells (zE j v) 88 (0,0))) (aa (aa (kN v.cm j.bT) (aa (jS g v.rm j.reqs) (aa (jk g v.tm j.aW) (aa (all jo j.bT) (aa (all (dO g j.c.re) j.reqs) (aa (all (gA g) j.aW) (aa (fK g v.rv j.ring) (aa (jw v.pv j.pull) (aa (eY g v.lv j.hp) (hpA g j.hp)))))))))) (wD tb s.out))by unfold bk dB;exact bX _ _ _);obtain⟨cl,fz,_⟩:=bQ h2;have g2:=(Goes.refl h2).store 5 (.int .i64 n);refine⟨by rw[cl 5];show some (Value.int .i64 j.now)=_;rw[r1.now],fz 5, ?_⟩;refine iD (j':={j with now:=n}) (s':={s with now:=n}) T hF (r1.ac5 n) r2 r3 (g2.mono fun F' h'=> ?_);unfold jA;rw[cx];exact⟨v,aB h' (bX _ _ _).symm⟩
end
variable{base n:Nat}{dz w:World}{s:St}
def su(base:Nat)(dz:World):Prop:= ∀w',Below base dz w'->Lib.TabIs prog w' "internal/strconv.uint64pow10" .u64 Lib.pow10Tab
theorem su.at(h:su base dz)(hB:base<=w.heap.size)(hb:Below base dz w):Tabs base w:=⟨hB,fun _ h'=>h _ (hb.trans h')⟩
theorem Sd.cV(h:Sd n s)(f:Nat):Sd n (St.cV f s):=⟨St.jL f h.inv,Ok.cV f h.ok h.inv,aw (St.yQ f s) h.sz,Bd.cV f h.bd h.inv⟩
theorem Sd.eE(h:Sd n s):Sd n s.eE:=⟨St.jH h.inv,h.ok.eE h.inv,by unfold St.eE;rw[St.tP];exact h.sz,Bd.fold _ h.bd⟩
theorem tL{x:Nat}{F:Ft}(h:(rB base x s).holds w F):Calls prog 39 #[pt x] w fun e w'=>e= .returned (.bool true)∧w'=w:=by obtain⟨g,j,_,_,_,_,_,_,_,hj⟩:=h;exact Uy (B:=emp) (by rw[mO];exact hj)
theorem RD(HT:su base dz)(x n:Nat)(s:St)(w:World)(F:Ft)(hB:base<=w.heap.size)(hb:Below base dz w)(hg:Mc.Good n s)(hn:n<=1299998)(h:(rB base x s).holds w F):Calls prog 26 #[.pointer (some ⟨x,0,none⟩)] w (Lw.RU (rB base x) s.tick w F):=by
 have SD:=tL h;obtain⟨g,cn,F1,ho,A6,Ir,oc,jJ,qc,n1,cd⟩:=yi hB h;have tR:Below w.heap.size w (w.alloc (.cells #[.slice none 0 0] 94)):=(ah _ _).alloc (ae _) _;have o1:Only F w (w.alloc (.cells #[.slice none 0 0] 94)):=(Only.refl F w).alloc _;have T1:Tabs base (w.alloc (.cells #[.slice none 0 0] 94)):=(HT.at hB hb).new tR;generalize kK:w.alloc (.cells #[.slice none 0 0] 94)=w1 at*;have vW:=Good.sd hg ho (by omega);have BS:=hg.bd.now;obtain⟨c5,f5,gn⟩:=Yw T1 qc (s.now+1);have IA:Sd (12*n) {s with now:=s.now+1}:=⟨St.kU vW.inv _,vW.ok.now _,vW.sz,⟨vW.bd.c,⟨by show 0<=s.now+1;omega,by show s.now+1<=_;omega⟩,vW.bd.rq,vW.bd.at'⟩⟩;have Px:Busy {s with now:=s.now+1} (fun _=>False):=A6;have HEL:Hid (Calls prog 40 #[pt x,pt w.heap.size] (w1.setCell ⟨x,5,none⟩ (.int .i64 (s.now+1))) fun e w3=>e= .returned (.tuple #[])∧
   Hid (Calls prog 41 #[pt x] w3 fun e w4=>e= .returned (.tuple #[])∧
    Hid (Calls prog 42 #[pt x,pt w.heap.size] w4 fun e w5=>e= .returned (.tuple #[])∧ ∃ao n1 cap,w5.cell? ⟨w.heap.size,0,none⟩=some (.slice ao n1 cap)∧Hid (Goes (aa (Mr.iB (.slice ao n1 cap) s.tick.out) (rB base x s.tick.told)) w F w5)))):=by
  have T2:=T1.goes cd gn;obtain⟨F2,eX,o2,n2⟩:=gn;show Calls _ _ _ _ _;refine(Mv T2 eX IA (by omega) Px).mono ?_;rintro e w3⟨rfl,mW⟩;refine⟨rfl, ?_⟩;have T3:=T2.goes (dx eX) mW;obtain⟨F3,iX,o3,n3⟩:=aF o2 n2 mW;show Calls _ _ _ _ _;have BV:=IA.cV ({s with now:=s.now+1}:St).af.length;refine(Ma T3 iX BV (by omega)).mono ?_;rintro e w4⟨rfl,kI⟩;refine⟨rfl, ?_⟩;have T4:=T3.goes (dx iX) kI;obtain⟨F4,th,o4,n4⟩:=aF o3 n3 kI;show Calls _ _ _ _ _;refine(yx T4 th BV.eE (by omega)).mono ?_;rintro e w5⟨rfl,g',hg5⟩;refine⟨rfl, ?_⟩;have iJ:Goes (stA base x w.heap.size g' cn s.tick) w F w5:=aF o1 n1 (aF o4 n4 hg5);obtain⟨v,hv,bK⟩:=uU iJ (ho.tick hg.inv) (A6.tick hg.inv) (fun d=>by rw[oc d,St.rest_of St.Vh d]);obtain⟨F6,xu,o6,n6⟩:=id bK;obtain⟨G6,zG,_⟩:=aM.left xu;obtain⟨ao,cap,ev,_⟩:=bC zG;rw[ev]at hv bK;exact⟨ao,_,cap,hv,bK⟩
 have En:IntKind.i64.wrap (s.now+1)=s.now+1:=by rw[IntKind.wrap_i64];omega
 clear h qc gn hg vW IA A6 Px T1 o1 n1 oc jJ;unfold pt at*;subst kK;generalize s.now=now at*;go_enter func26,ntmps26;go_wp2_with (first
  |(go_at_call 39;go_must(refine SD.mono ?_;rintro e wz⟨rfl,rfl⟩))
  |(go_at_call 40;go_must(refine HEL.out.mono ?_;rintro e w3⟨rfl,HHE⟩;clear HEL))
  |(go_at_call 41;go_must(refine HHE.out.mono ?_;rintro e w4⟨rfl,ZM⟩))
  |(go_at_call 42;go_must(refine ZM.out.mono ?_;rintro e w5⟨rfl,ao,nn,cap,hc,HG⟩)))
 go_ret;exact⟨_,rfl,HG.out⟩
