import Derived.Test.YtffamlbkmjmipaaGreatDoorC31
import Derived.Test.YtffamlbkmjmipaaGreatDoorC34
import Derived.Test.YtffamlbkmjmipaaGreatDoorC40
set_option maxHeartbeats 8000000
set_option maxRecDepth 100000
namespace Go.Proofs.YtffamlbkmjmipaaGreatDoor
open _root_.Go.Proofs.Tryz
namespace Pj
open Go.RowKit aJ Mc bG
attribute [local go_sem] ae ag
def Dl(cn:List (Int×Nat×Bs))(d:Int):Bs:=match cn.find? (fun y=>y.1==d)with|some y=>y.2.2|none=> []
def og(base x:Nat)(s:St):aJ where
 holds w F:= ∃g j,Rel g j s∧Cw j∧Ok s∧Busy s (fun _=>False)∧s.out= []∧(∀d,Dl (gO j) d=s.cW d)∧(∀k,F k->base<=k)∧(jA x g j).holds w F
 lt h:=by obtain⟨g,j,_,_,_,_,_,_,_,h⟩:=h;exact aJ.lt _ h
 keep h hk:=by obtain⟨g,j,h1,h2,h3,h4,h5,h6,h7,h⟩:=h;exact⟨g,j,h1,h2,h3,h4,h5,h6,h7,aJ.keep _ h hk⟩
section
variable{base x tb:Nat}{g:Gh}{cn:List (Int×Nat×Bs)}{s s':St}{w wr:World}{F:Ft}
theorem vX(hB:base<=w.heap.size)(h:(og base x s).holds w F): ∃g cn F1,Ok s∧Busy s (fun _=>False)∧s.out= []∧(∀d,Dl cn d=s.cW d)∧(cn.map (·.1)).Nodup∧(stA base x w.heap.size g cn s).holds (w.alloc (.cells #[.slice none 0 0] 94)) F1∧(∀k,F1 k->F k∨w.heap.size<=k)∧ ∀k,F1 k->base<=k:=by
 obtain⟨g,j,h1,h2,h3,h4,h5,h6,h7,hj⟩:=h;have g1:=(Goes.refl hj).alloc (.cells #[.slice none 0 0] 94 (0,0));obtain⟨F1,bU,o1,n1⟩:=g1;have bT: ∀k,F1 k->base<=k:=fun k hk=>(n1 k hk).elim (h7 k) (fun h=>ar hB h);refine⟨g,gO j,F1,h3,h4,h5,h6, ?_,⟨j,h1,h2,rfl,bT, ?_⟩,n1,bT⟩
 ·unfold gO;rw[aB];exact h1.cnd
 ·obtain⟨G,H,ha,hb,d,e⟩:=bU;refine⟨H,G,hb,⟨.slice none 0 0,G,fun _=>False,ha, ?_,fun _ _ h=>h,fun k=>⟨.inl,fun h=>h.elim id False.elim⟩⟩,fun k hk mQ=>d k mQ hk,fun k=>(e k).trans or_comm⟩;rw[h5];exact fO _ _ _ (fun _ h=>h)
theorem tk(h:Goes (stA base x tb g cn s') w F wr)(ho:Ok s')(hb:Busy s' (fun _=>False))(hk: ∀d,Dl cn d=s'.cW d): ∃v,wr.cell? ⟨tb,0,none⟩=some v∧Goes (aa (Mr.gZ v s'.out) (og base x s'.told)) w F wr:=by
 obtain⟨F1,⟨j,r1,r2,r3,hF,hh⟩,o1,n1⟩:=h;obtain⟨G,H,ha,cZ,d,e⟩:=hh;obtain⟨ov,hov⟩:=cZ;have hc:=(cK hov).1;refine⟨ov,by simp only[World.cell?,hc];rfl, ?_⟩;obtain⟨H1,H2,Rs,hx2,dd,ee⟩:=hov;refine⟨fun k=>H2 k∨G k,⟨H2,G,hx2,⟨g,j, ?_,r2,ho.told,hb,rfl,fun d=> ?_,fun k hk=>hF k ((e k).2 (.inl hk)),ha⟩,fun k hk mQ=>d k mQ ((ee k).2 (.inr hk)),fun k=>Iff.rfl⟩,o1,fun k hk=>n1 k ((e k).2 (hk.elim (fun h=> .inr ((ee k).2 (.inr h))) .inl))⟩
 ·exact r1.out []
 ·rw[r3];exact hk d
theorem Good.sd{n:Nat}{s:St}(h:Mc.Good n s)(ho:Ok s)(hn:n<=1300000):Sd (12*n) s:=⟨h.inv,ho,h.sz,h.bd.up (by omega)⟩
theorem WE(T:Tabs base w)(h:(stA base x tb g cn s).holds w F)(n:Int):w.cell? ⟨x,5,none⟩=some (.int .i64 s.now)∧w.frozen? ⟨x,5,none⟩=false∧Goes (stA base x tb g cn {s with now:=n}) w F (w.setCell ⟨x,5,none⟩ (.int .i64 n)):=by obtain⟨j,r1,r2,r3,hF,hh⟩:=h;unfold jA at hh;rw[bH]at hh;obtain⟨v,hv⟩:=hh;change (aa (aW x g j v) (uQ tb s.out)).holds w F at hv;have h2:=aA hv (show _=aa (blk x (.cells (yY j v) 88 (0,0))) (aa (aa (iU v.cm j.bu) (aa (ib g v.rm j.reqs) (aa (gK g v.tm j.aQ) (aa (all gM j.bu) (aa (all (fc g j.c.re) j.reqs) (aa (all (fD g) j.aQ) (aa (dL g v.rv j.ring) (aa (gN v.pv j.pull) (aa (dh g v.lv j.hp) (hpA g j.hp)))))))))) (uQ tb s.out))by unfold aW dB;exact bA _ _ _);obtain⟨cl,fz,_⟩:=br h2;have g2:=(Goes.refl h2).store 5 (.int .i64 n);refine⟨by rw[cl 5];show some (Value.int .i64 j.now)=_;rw[r1.now],fz 5, ?_⟩;refine gj (j':={j with now:=n}) (s':={s with now:=n}) T hF (r1.abd n) r2 r3 (g2.mono fun F' h'=> ?_);unfold jA;rw[bH];exact⟨v,aA h' (bA _ _ _).symm⟩
end
variable{base n:Nat}{cg w:World}{s:St}
def pO(base:Nat)(cg:World):Prop:= ∀w',Below base cg w'->Lib.TabIs prog w' "internal/strconv.uint64pow10" .u64 Lib.pow10Tab
theorem pO.at(h:pO base cg)(hB:base<=w.heap.size)(hb:Below base cg w):Tabs base w:=⟨hB,fun _ h'=>h _ (hb.trans h')⟩
theorem Sd.bV(h:Sd n s)(f:Nat):Sd n (St.bV f s):=⟨St.gX f h.inv,Ok.bV f h.ok h.inv,ar (St.yi f s) h.sz,Bd.bV f h.bd h.inv⟩
theorem Sd.dE(h:Sd n s):Sd n s.dE:=⟨St.jm h.inv,h.ok.dE h.inv,by unfold St.dE;rw[St.A7];exact h.sz,Bd.fold _ h.bd⟩
theorem rk{x:Nat}{F:Ft}(h:(og base x s).holds w F):Calls prog 39 #[pt x] w fun e w'=>e= .returned (.bool true)∧w'=w:=by obtain⟨g,j,_,_,_,_,_,_,_,hj⟩:=h;exact Tg (B:=emp) (by rw[se];exact hj)
theorem Q0(HT:pO base cg)(x n:Nat)(s:St)(w:World)(F:Ft)(hB:base<=w.heap.size)(hb:Below base cg w)(hg:Mc.Good n s)(hn:n<=1299998)(h:(og base x s).holds w F):Calls prog 26 #[.pointer (some ⟨x,0,none⟩)] w (Lw.LZ (og base x) s.tick w F):=by
 have RF:=rk h;obtain⟨g,cn,F1,ho,zZ,Gz,lD,iL,ED,n1,bU⟩:=vX hB h;have rH:Below w.heap.size w (w.alloc (.cells #[.slice none 0 0] 94)):=(au _ _).alloc (af _) _;have o1:Only F w (w.alloc (.cells #[.slice none 0 0] 94)):=(Only.refl F w).alloc _;have T1:Tabs base (w.alloc (.cells #[.slice none 0 0] 94)):=(HT.at hB hb).new rH;generalize i7:w.alloc (.cells #[.slice none 0 0] 94)=w1 at*;have uz:=Good.sd hg ho (by omega);have C7:=hg.bd.now;obtain⟨c5,f5,gn⟩:=WE T1 ED (s.now+1);have GG:Sd (12*n) {s with now:=s.now+1}:=⟨St.kx uz.inv _,uz.ok.now _,uz.sz,⟨uz.bd.c,⟨by show 0<=s.now+1;omega,by show s.now+1<=_;omega⟩,uz.bd.rq,uz.bd.at'⟩⟩;have Ny:Busy {s with now:=s.now+1} (fun _=>False):=zZ;have HEL:Hid (Calls prog 40 #[pt x,pt w.heap.size] (w1.setCell ⟨x,5,none⟩ (.int .i64 (s.now+1))) fun e w3=>e= .returned (.tuple #[])∧
   Hid (Calls prog 41 #[pt x] w3 fun e w4=>e= .returned (.tuple #[])∧
    Hid (Calls prog 42 #[pt x,pt w.heap.size] w4 fun e w5=>e= .returned (.tuple #[])∧ ∃ao n1 cap,w5.cell? ⟨w.heap.size,0,none⟩=some (.slice ao n1 cap)∧Hid (Goes (aa (Mr.gZ (.slice ao n1 cap) s.tick.out) (og base x s.tick.told)) w F w5)))):=by
  have T2:=T1.goes bU gn;obtain⟨F2,gV,o2,n2⟩:=gn;show Calls _ _ _ _ _;refine(KD T2 gV GG (by omega) Ny).mono ?_;rintro e w3⟨rfl,iD⟩;refine⟨rfl, ?_⟩;have T3:=T2.goes (cB gV) iD;obtain⟨F3,mB,o3,n3⟩:=aC o2 n2 iD;show Calls _ _ _ _ _;have Bc:=GG.bV ({s with now:=s.now+1}:St).ah.length;refine(Kj T3 mB Bc (by omega)).mono ?_;rintro e w4⟨rfl,uu⟩;refine⟨rfl, ?_⟩;have T4:=T3.goes (cB mB) uu;obtain⟨F4,zq,o4,n4⟩:=aC o3 n3 uu;show Calls _ _ _ _ _;refine(wC T4 zq Bc.dE (by omega)).mono ?_;rintro e w5⟨rfl,g',kq⟩;refine⟨rfl, ?_⟩;have tD:Goes (stA base x w.heap.size g' cn s.tick) w F w5:=aC o1 n1 (aC o4 n4 kq);obtain⟨v,hv,bE⟩:=tk tD (ho.tick hg.inv) (zZ.tick hg.inv) (fun d=>by rw[lD d,St.rest_of St.TU d]);obtain⟨F6,J3,o6,n6⟩:=id bE;obtain⟨G6,VG,_⟩:=aJ.left J3;obtain⟨ao,cap,ev,_⟩:=bX VG;rw[ev]at hv bE;exact⟨ao,_,cap,hv,bE⟩
 have Db:IntKind.i64.wrap (s.now+1)=s.now+1:=by rw[IntKind.wrap_i64];omega
 clear h ED gn hg uz GG zZ Ny T1 o1 n1 lD iL;unfold pt at*;subst i7;generalize s.now=now at*;go_enter func26,ntmps26;go_wp2_with (first
  |(go_at_call 39;go_must(refine RF.mono ?_;rintro e wz⟨rfl,rfl⟩))
  |(go_at_call 40;go_must(refine HEL.out.mono ?_;rintro e w3⟨rfl,HHE⟩;clear HEL))
  |(go_at_call 41;go_must(refine HHE.out.mono ?_;rintro e w4⟨rfl,X7⟩))
  |(go_at_call 42;go_must(refine X7.out.mono ?_;rintro e w5⟨rfl,ao,nn,cap,hc,HG⟩)))
 go_ret;exact⟨_,rfl,HG.out⟩
