import Derived.Test.YtffamlbkmjmipaaGreatDoorB39
import Derived.Test.YtffamlbkmjmipaaGreatDoorB44
import Derived.Test.YtffamlbkmjmipaaGreatDoorB45
import Derived.Test.YtffamlbkmjmipaaGreatDoorB46
import Derived.Carry
import Derived.Test.YtffamlbkmjmipaaGreatDoorRows
import Derived.Shelf.Vars
import Derived.MakeChecks
import Derived.Lib.LaidTab
import Derived.Lib.LaidU8T
set_option maxHeartbeats 8000000
set_option maxRecDepth 100000
namespace Go.Proofs.YtffamlbkmjmipaaGreatDoor
open _root_.Go.Proofs.Tryz
namespace Pj
open Go.RowKit aM Mc bJ
attribute [local go_sem] ag ar
variable{n:Nat}{s:St}
theorem Sd.message(h:Sd n s)(c:Int){m:Mg}(hm:Bd.bJ m)(hP: ∃P:Int,Bd P s∧(s.wait.length:Int)<=P∧P+1<=4398046511104):Sd (n+10) (s.message c m):=by obtain⟨P,h1,h2,h3⟩:=hP;refine⟨St.kd h.inv c m,h.ok.message h.inv c m, ?_,(h1.message h.inv c hm h2).up h3⟩;have:=St.sM (s:=s) c m;have:=h.sz;omega
theorem Ia{base x tb:Nat}{dz:World}(L:kE base dz){g:Gh}{cn:List (Int×Nat×Bs)}{w:World}{F:Ft}(iO:Below base dz w)(T:Tabs base w)(h:(stA base x tb g cn s).holds w F)(hs:Sd n s)(hn:n<=16770000)(hP: ∃P:Int,Bd P s∧(s.wait.length:Int)<=P∧P+1<=4398046511104)(A6:Busy s (fun _=>False))(c:Int)(hc:I6 c){p:Nat}{b:Bs}(hk:(c,p,b)∈cn)(l:Bs)(hl:l.length<=4194304):Calls prog 50 #[pt x,pt tb, .int .i64 c,bs l] w fun e w'=>e= .returned (.tuple #[])∧ ∃g',Goes (stA base x tb g' cn (s.line c l)) w F w':=by
 have hz:=hs.sz;have R4:Hid (Calls prog 87 #[.string ⟨l.toArray⟩] w fun e w'=>e= .returned (.tuple #[.string ⟨(dm l).toArray⟩, .bool (fF l)])∧Below w.heap.size w w'):=aL.MP ⟨l.toArray⟩ w (by simpa[ByteArray.size]using hl);have vU:(⟨(dm l).toArray⟩:ByteArray).size<=4194304:=Fa (s:=⟨l.toArray⟩) (by simpa[ByteArray.size]using hl);have NL:Hid (∀w1,Below w.heap.size w w1->Calls prog 88 #[.string ⟨(dm l).toArray⟩] w1 fun e w2=> ∃M:Mg,e= .returned (.tuple #[.agg #[.string ⟨M.kind.toArray⟩, .int .i64 M.id, .int .i64 M.bS, .string ⟨M.ten.toArray⟩, .string ⟨M.txt.toArray⟩], .bool (dJ (dm l)).2])∧Hid (((dJ (dm l)).2=true->M=(dJ (dm l)).1)∧Below w.heap.size w w2)):=fun w1 b1=>by refine(MU L ⟨(dm l).toArray⟩ w1 vU (iO.trans (b1.mono T.1)) (aw T.1 b1.size)).mono ?_;rintro e w2⟨M,rfl,hM,b2⟩;exact⟨M,rfl,hM,b1.trans (b2.mono b1.size)⟩
 have gq:Hid (∀w2 M,Below w.heap.size w w2->jz l=false->Calls prog 89 #[pt tb, .int .i64 c, .slice (some ⟨w2.heap.size+1,0,none⟩) 1 1] ((w2.alloc (.cells (Mg.cs M) 149)).alloc (.cells #[.iface 9 (.string ⟨#[98,97,100]⟩)] 20)) fun e w'=>e= .returned (.tuple #[])∧ ∃g',Goes (stA base x tb g' cn (s.line c l)) w F w'):=fun w2 M b2 hm=>by
  have b1:Below w.heap.size w (w2.alloc (.cells (Mg.cs M) 149)):=b2.alloc b2.size _;have e1:(w2.alloc (.cells (Mg.cs M) 149)).heap.size=w2.heap.size+1:=by simp
  generalize w2.alloc (.cells (Mg.cs M) 149)=w1 at*;rw[<-e1];refine(CE T h (by omega) c [.s [98,97,100]] [98,97,100] rfl (by simp) (by simp) (by intro p hp;simp at hp;rw[hp];exact Part.vy (by decide)) w1 b1).mono ?_;rintro e w'⟨rfl,hg⟩;refine⟨rfl,g, ?_⟩;unfold St.line;rw[if_neg (by rw[hm];simp)];exact hg
 have Za:Hid (∀w2 M,Below w.heap.size w w2->jz l=true->M=(dJ (dm l)).1->Calls prog 90 #[pt x,pt tb, .int .i64 c, .agg (Mg.cs M)] (w2.alloc (.cells (Mg.cs M) 149)) fun e w2=>e= .returned (.tuple #[])∧
   Hid (Calls prog 42 #[pt x,pt tb] w2 fun e w'=>e= .returned (.tuple #[])∧ ∃g',Goes (stA base x tb g' cn (s.line c l)) w F w')):=fun w2 M b2 hm hM=>by
  have b1:Below w.heap.size w (w2.alloc (.cells (Mg.cs M) 149)):=b2.alloc b2.size _;generalize w2.alloc (.cells (Mg.cs M) 149)=w1 at*;have Ah:=Mc.Ct hm;have eM:M=lR l:=hM;have g1:=(Goes.refl h).below b1;have T1:=T.new b1;obtain⟨F1,cd,o1,n1⟩:=g1;rw[eM];refine(QL T1 cd hs (by omega) A6 c hc hk (lR l) Ah).mono ?_;rintro e w2⟨rfl,g2,ld⟩;refine⟨rfl, ?_⟩;have g3:=aF o1 n1 ld;have T2:=T.goes (dx h) g3;obtain⟨F2,eX,o2,n2⟩:=g3;show Calls _ _ _ _ _;refine(yx T2 eX (hs.message c Ah.bd hP) (by omega)).mono ?_;rintro e w'⟨rfl,g',kQ⟩;refine⟨rfl,g', ?_⟩;unfold St.line;rw[if_pos hm];exact aF o2 n2 kQ
 have JX:Hid (jz l=(fF l &&(dJ (dm l)).2)):=rfl;clear h hs hP A6 hk L iO T vU;unfold Mg.cs pt bs at*;generalize dm l=os at*;cases ho:fF l
 ·rw[ho]at R4 JX;have HNM:Hid (jz l=false):=JX.out.trans (by simp);clear Za JX ho;generalize(dJ os).2=kb at*;go_enter func50,ntmps50;go_wp2_with (first
   |(go_at_call 87;go_must(refine R4.out.mono ?_;rintro e w1⟨rfl,b1⟩;have SK:=hide (NL.out w1 b1);clear b1))
   |(go_at_call 88;go_must(refine SK.out.mono ?_;rintro e w2⟨M,rfl,HM⟩))
   |(go_at_call 89;go_must(refine(gq.out w2 M HM.out.2 HNM.out).mono ?_;rintro e w3⟨rfl,hg⟩;have HG:=hide hg;clear hg)))
  (try simp only[Exit.inBlock,Exit.then])
  exact bodyPost_ret (results_none rfl _ _ _) rfl ⟨rfl,HG.out⟩
 ·rw[ho]at R4 JX;cases TW:(dJ os).2
  ·rw[TW]at NL JX;have HNM:Hid (jz l=false):=JX.out.trans (by simp);clear Za JX ho TW;go_enter func50,ntmps50;go_wp2_with (first
    |(go_at_call 87;go_must(refine R4.out.mono ?_;rintro e w1⟨rfl,b1⟩;have SK:=hide (NL.out w1 b1);clear b1))
    |(go_at_call 88;go_must(refine SK.out.mono ?_;rintro e w2⟨M,rfl,HM⟩))
    |(go_at_call 89;go_must(refine(gq.out w2 M HM.out.2 HNM.out).mono ?_;rintro e w3⟨rfl,hg⟩;have HG:=hide hg;clear hg)))
   (try simp only[Exit.inBlock,Exit.then])
   exact bodyPost_ret (results_none rfl _ _ _) rfl ⟨rfl,HG.out⟩
  ·rw[TW]at NL JX;have HYM:Hid (jz l=true):=JX.out.trans (by simp);clear gq JX ho TW;go_enter func50,ntmps50;go_wp2_with (first
    |(go_at_call 87;go_must(refine R4.out.mono ?_;rintro e w1⟨rfl,b1⟩;have SK:=hide (NL.out w1 b1);clear b1))
    |(go_at_call 88;go_must(refine SK.out.mono ?_;rintro e w2⟨M,rfl,HM⟩))
    |(go_at_call 90;go_must(refine(Za.out w2 M HM.out.2 HYM.out (HM.out.1 (by first|rfl|trivial))).mono ?_;rintro e w3⟨rfl,ZM⟩))
    |(go_at_call 42;go_must(refine ZM.out.mono ?_;rintro e w4⟨rfl,hg⟩;have HG:=hide hg;clear hg)))
   go_end0;exact⟨rfl,HG.out⟩
def oZ(cn:List (Int×Nat×Bs))(c:Int)(b:Bs):List (Int×Nat×Bs):=cn.map fun y=>if y.1=c then(y.1,y.2.1,b)else y
theorem uq{cn:List (Int×Nat×Bs)}{c:Int}{p:Nat}{b:Bs}(h:(c,p,b)∈cn)(b':Bs):(c,p,b')∈oZ cn c b':=aA.2 ⟨_,h,by simp⟩
theorem Rl(cn:List (Int×Nat×Bs))(c:Int)(b b':Bs):oZ (oZ cn c b) c b'=oZ cn c b':=by unfold oZ;rw[aG];refine bY fun y _=> ?_;simp only[Function.comp_def];by_cases e:y.1=c<;>simp[e]
section
variable{base x tb:Nat}{g:Gh}{cn:List (Int×Nat×Bs)}{s:St}{w w':World}{F:Ft}
theorem Td{j:Js}(hc:jx j=cn)(c:Int)(b:Bs):jx {j with bT:=upd (fun k:Kn=>k.n) c (fun k=>{k with kept:=b}) j.bT}=oZ cn c b:=by subst hc;unfold jx oZ upd;dsimp only;rw[aG,aG];refine bY fun k _=> ?_;simp only[Function.comp_def];by_cases e:k.n=c<;>simp[e]
theorem KP{f:FuncId}{args:Array Value}{v:Ending}(T:Tabs base w)(h:(stA base x tb g cn s).holds w F){c:Int}{p:Nat}{b b':Bs}(hk:(c,p,b)∈cn)(call: ∀dr kv G,(aa (EA p dr kv) (KO kv b)).holds w G->Calls prog f args w fun e w'=>e=v∧ ∃IP,Goes (aa (EA p dr IP) (KO IP b')) w G w'):Calls prog f args w fun e w'=>e=v∧Goes (stA base x tb g (oZ cn c b') s) w F w':=by obtain⟨j,r1,r2,r3,hF,hh⟩:=h;obtain⟨k,GQ,rfl,rfl,rfl⟩:=KQ r3 hk;obtain⟨cm,kv,c6,od,wS,zP⟩:=KM hh r1.cnd GQ;obtain⟨G,H,ha,hb,d,e⟩:=aB wS (bX _ _ _).symm;refine(call k.dr kv G ha).mono ?_;rintro e' w'⟨rfl,IP,hg⟩;refine⟨rfl, ?_⟩;have g1:=(aV hb hg d e).eq (bX _ _ _);have g2:=zP (fun k=>{k with kept:=b'}) rfl rfl IP w' g1;exact iD (s':=s) T hF (r1.bytes (fun k=>{k with kept:=b'}) (fun _=>rfl) (fun _=>rfl) k.n) r2 (Td r3 k.n b') g2
theorem Oq(T:Tabs base w)(h:(stA base x tb g cn s).holds w F){c:Int}{p:Nat}{b:Bs}(hk:(c,p,b)∈cn)(hb:b.length<=81)(t:ByteArray)(ht:t.size<=4194304):Calls prog 49 #[pt p, .string t] w fun e w'=>e= .returned (.tuple #[])∧Goes (stA base x tb g (oZ cn c ((b++t.data.toList).take 81)) s) w F w':=
 KP T h hk fun dr kv G hG=>QT p dr kv b t w G hG hb ht
theorem Xf(T:Tabs base w)(h:(stA base x tb g cn s).holds w F){c:Int}{p:Nat}{b:Bs}(hk:(c,p,b)∈cn)(hb:b.length<=81):Calls prog 51 #[pt p] w fun e w'=>e= .returned (bs b)∧Goes (stA base x tb g (oZ cn c []) s) w F w':=
 KP T h hk fun dr kv G hG=>QU p dr kv b w G hG hb
theorem P9(h:(stA base x tb g cn s).holds w F){c:Int}{p:Nat}{b:Bs}(hk:(c,p,b)∈cn)(hb:b.length<=81):Calls prog 52 #[pt p] w fun e w'=>e= .returned (.bool (decide (b= []) && !s.drains c))∧w'=w:=by
 obtain⟨j,r1,r2,r3,hF,hh⟩:=h;obtain⟨k,GQ,rfl,rfl,rfl⟩:=KQ r3 hk;obtain⟨cm,kv,c6,od,wS,zP⟩:=KM hh r1.cnd GQ;obtain⟨G,H,ha,_,_,_⟩:=aB wS (bX _ _ _).symm;have HE:=Ji k.p k.dr kv k.kept w G ha hb;obtain⟨px,_⟩:=tU ha;have c1:w.cell? ⟨k.p,1,none⟩=some (.bool k.dr):=by simp only[World.cell?,px];rfl
 rw[VM r1 GQ];clear hh wS zP ha od r1 r2 r3 px;unfold pt at*;generalize k.p=p at*;generalize k.dr=dr at*;cases hd:decide (k.kept= [])
 ·rw[hd]at HE;go_enter func52,ntmps52;go_wp2_with (first|(go_at_call 91;go_must(refine HE.mono ?_;rintro e w1⟨rfl,rfl⟩)));go_ret;exact⟨by simp,rfl⟩
 ·rw[hd]at HE;go_enter func52,ntmps52;go_wp2_with (first|(go_at_call 91;go_must(refine HE.mono ?_;rintro e w1⟨rfl,rfl⟩)));go_ret;exact⟨by simp,rfl⟩
theorem Uy{B:aM}{j:Js}(h:(aa (jA x g j) B).holds w F):Calls prog 39 #[pt x] w fun e w'=>e= .returned (.bool true)∧w'=w:=by obtain⟨G,hj,_⟩:=aM.left h;obtain⟨v,hv⟩:=hj;have c6:w.cell? ⟨x,6,none⟩=some (.map (some v.cm)):=(yN hv).1 6;generalize v.cm=mb at*;have KD: ∀w:World,(binOp .neq 81 (.map (some mb)) (.map none)).run prog w= .ok (.bool true) w:=fun w=>run_neq_map_nil w _ _ _ _ underlying81;clear h hv;unfold pt;go_enter func39,ntmps39;go_wp2;go_ret;exact⟨rfl,rfl⟩
end
def Ex(cn:List (Int×Nat×Bs))(d:Int):Bs:=match cn.find? (fun y=>y.1==d)with|some y=>y.2.2|none=> []
def rB(base x:Nat)(s:St):aM where
 holds w F:= ∃g j,Rel g j s∧Cw j∧Ok s∧Busy s (fun _=>False)∧s.out= []∧(∀d,Ex (jx j) d=s.bG d)∧(∀k,F k->base<=k)∧(jA x g j).holds w F
 lt h:=by obtain⟨g,j,_,_,_,_,_,_,_,h⟩:=h;exact aM.lt _ h
 keep h hk:=by obtain⟨g,j,h1,h2,h3,h4,h5,h6,h7,h⟩:=h;exact⟨g,j,h1,h2,h3,h4,h5,h6,h7,aM.keep _ h hk⟩
section
variable{base x tb:Nat}{g:Gh}{cn:List (Int×Nat×Bs)}{s s':St}{w wr:World}{F:Ft}
theorem yi(hB:base<=w.heap.size)(h:(rB base x s).holds w F): ∃g cn F1,Ok s∧Busy s (fun _=>False)∧s.out= []∧(∀d,Ex cn d=s.bG d)∧(cn.map (·.1)).Nodup∧(stA base x w.heap.size g cn s).holds (w.alloc (.cells #[.slice none 0 0] 94)) F1∧(∀k,F1 k->F k∨w.heap.size<=k)∧ ∀k,F1 k->base<=k:=by
 obtain⟨g,j,h1,h2,h3,h4,h5,h6,h7,hj⟩:=h;have g1:=(Goes.refl hj).alloc (.cells #[.slice none 0 0] 94 (0,0));obtain⟨F1,cd,o1,n1⟩:=g1;have hb1: ∀k,F1 k->base<=k:=fun k hk=>(n1 k hk).elim (h7 k) (fun h=>aw hB h);refine⟨g,jx j,F1,h3,h4,h5,h6, ?_,⟨j,h1,h2,rfl,hb1, ?_⟩,n1,hb1⟩
 ·unfold jx;rw[aG];exact h1.cnd
 ·obtain⟨G,H,ha,hb,d,e⟩:=cd;refine⟨H,G,hb,⟨.slice none 0 0,G,fun _=>False,ha, ?_,fun _ _ h=>h,fun k=>⟨.inl,fun h=>h.elim id False.elim⟩⟩,fun k hk jU=>d k jU hk,fun k=>(e k).trans or_comm⟩;rw[h5];exact dS _ _ _ (fun _ h=>h)
theorem uU(h:Goes (stA base x tb g cn s') w F wr)(ho:Ok s')(hb:Busy s' (fun _=>False))(hk: ∀d,Ex cn d=s'.bG d): ∃v,wr.cell? ⟨tb,0,none⟩=some v∧Goes (aa (Mr.iB v s'.out) (rB base x s'.told)) w F wr:=by
 obtain⟨F1,⟨j,r1,r2,r3,hF,hh⟩,o1,n1⟩:=h;obtain⟨G,H,ha,bN,d,e⟩:=hh;obtain⟨ov,hov⟩:=bN;have hc:=(dC hov).1;refine⟨ov,by simp only[World.cell?,hc];rfl, ?_⟩;obtain⟨H1,H2,GU,Yg,dd,ee⟩:=hov;refine⟨fun k=>H2 k∨G k,⟨H2,G,Yg,⟨g,j, ?_,r2,ho.told,hb,rfl,fun d=> ?_,fun k hk=>hF k ((e k).2 (.inl hk)),ha⟩,fun k hk jU=>d k jU ((ee k).2 (.inr hk)),fun k=>Iff.rfl⟩,o1,fun k hk=>n1 k ((e k).2 (hk.elim (fun h=> .inr ((ee k).2 (.inr h))) .inl))⟩
 ·exact r1.out []
 ·rw[r3];exact hk d
theorem Good.sd{n:Nat}{s:St}(h:Mc.Good n s)(ho:Ok s)(hn:n<=1300000):Sd (12*n) s:=⟨h.inv,ho,h.sz,h.bd.up (by omega)⟩
theorem Yw(T:Tabs base w)(h:(stA base x tb g cn s).holds w F)(n:Int):w.cell? ⟨x,5,none⟩=some (.int .i64 s.now)∧w.frozen? ⟨x,5,none⟩=false∧Goes (stA base x tb g cn {s with now:=n}) w F (w.setCell ⟨x,5,none⟩ (.int .i64 n)):=by obtain⟨j,r1,r2,r3,hF,hh⟩:=h;unfold jA at hh;rw[cx]at hh;obtain⟨v,hv⟩:=hh;change (aa (bk x g j v) (wD tb s.out)).holds w F at hv;have h2:=aB hv (show _=aa (blk x (.cells (zE j v) 88 (0,0))) (aa (aa (kN v.cm j.bT) (aa (jS g v.rm j.reqs) (aa (jk g v.tm j.aW) (aa (all jo j.bT) (aa (all (dO g j.c.re) j.reqs) (aa (all (gA g) j.aW) (aa (fK g v.rv j.ring) (aa (jw v.pv j.pull) (aa (eY g v.lv j.hp) (hpA g j.hp)))))))))) (wD tb s.out))by unfold bk dB;exact bX _ _ _);obtain⟨cl,fz,_⟩:=bQ h2;have g2:=(Goes.refl h2).store 5 (.int .i64 n);refine⟨by rw[cl 5];show some (Value.int .i64 j.now)=_;rw[r1.now],fz 5, ?_⟩;refine iD (j':={j with now:=n}) (s':={s with now:=n}) T hF (r1.ac5 n) r2 r3 (g2.mono fun F' h'=> ?_);unfold jA;rw[cx];exact⟨v,aB h' (bX _ _ _).symm⟩
end
variable{base n:Nat}{dz w:World}{s:St}
def su(base:Nat)(dz:World):Prop:= ∀w',Below base dz w'->Lib.TabIs prog w' "internal/strconv.uint64pow10" .u64 Lib.pow10Tab
theorem su.at(h:su base dz)(hB:base<=w.heap.size)(hb:Below base dz w):Tabs base w:=⟨hB,fun _ h'=>h _ (hb.trans h')⟩
theorem Sd.cV(h:Sd n s)(f:Nat):Sd n (St.cV f s):=⟨St.jL f h.inv,Ok.cV f h.ok h.inv,aw (St.yQ f s) h.sz,Bd.cV f h.bd h.inv⟩
theorem Sd.eE(h:Sd n s):Sd n s.eE:=⟨St.jH h.inv,h.ok.eE h.inv,by unfold St.eE;rw[St.tP];exact h.sz,Bd.fold _ h.bd⟩
theorem tL{x:Nat}{F:Ft}(h:(rB base x s).holds w F):Calls prog 39 #[pt x] w fun e w'=>e= .returned (.bool true)∧w'=w:=by obtain⟨g,j,_,_,_,_,_,_,_,hj⟩:=h;exact Uy (B:=emp) (by rw[mO];exact hj)
theorem RD(HT:su base dz)(x n:Nat)(s:St)(w:World)(F:Ft)(hB:base<=w.heap.size)(hb:Below base dz w)(hg:Mc.Good n s)(hn:n<=1299998)(h:(rB base x s).holds w F):Calls prog 26 #[.pointer (some ⟨x,0,none⟩)] w (Lw.RU (rB base x) s.tick w F):=by
 have SD:=tL h;obtain⟨g,cn,F1,ho,A6,Ir,oc,jJ,qc,n1,cd⟩:=yi hB h;have tR:Below w.heap.size w (w.alloc (.cells #[.slice none 0 0] 94)):=(ah _ _).alloc (ae _) _;have o1:Only F w (w.alloc (.cells #[.slice none 0 0] 94)):=(Only.refl F w).alloc _;have T1:Tabs base (w.alloc (.cells #[.slice none 0 0] 94)):=(HT.at hB hb).new tR;generalize kK:w.alloc (.cells #[.slice none 0 0] 94)=w1 at*;have vW:=Good.sd hg ho (by omega);have BS:=hg.bd.now;obtain⟨c5,f5,gn⟩:=Yw T1 qc (s.now+1);have IA:Sd (12*n) {s with now:=s.now+1}:=⟨St.kU vW.inv _,vW.ok.now _,vW.sz,⟨vW.bd.c,⟨by show 0<=s.now+1;omega,by show s.now+1<=_;omega⟩,vW.bd.rq,vW.bd.at'⟩⟩;have Px:Busy {s with now:=s.now+1} (fun _=>False):=A6;have HEL:Hid (Calls prog 40 #[pt x,pt w.heap.size] (w1.setCell ⟨x,5,none⟩ (.int .i64 (s.now+1))) fun e w3=>e= .returned (.tuple #[])∧
   Hid (Calls prog 41 #[pt x] w3 fun e w4=>e= .returned (.tuple #[])∧
    Hid (Calls prog 42 #[pt x,pt w.heap.size] w4 fun e w5=>e= .returned (.tuple #[])∧ ∃ao n1 cap,w5.cell? ⟨w.heap.size,0,none⟩=some (.slice ao n1 cap)∧Hid (Goes (aa (Mr.iB (.slice ao n1 cap) s.tick.out) (rB base x s.tick.told)) w F w5)))):=by
  have T2:=T1.goes cd gn;obtain⟨F2,eX,o2,n2⟩:=gn;show Calls _ _ _ _ _;refine(Mv T2 eX IA (by omega) Px).mono ?_;rintro e w3⟨rfl,mW⟩;refine⟨rfl, ?_⟩;have T3:=T2.goes (dx eX) mW;obtain⟨F3,iX,o3,n3⟩:=aF o2 n2 mW;show Calls _ _ _ _ _;have BV:=IA.cV ({s with now:=s.now+1}:St).af.length;refine(Ma T3 iX BV (by omega)).mono ?_;rintro e w4⟨rfl,kI⟩;refine⟨rfl, ?_⟩;have T4:=T3.goes (dx iX) kI;obtain⟨F4,th,o4,n4⟩:=aF o3 n3 kI;show Calls _ _ _ _ _;refine(yx T4 th BV.eE (by omega)).mono ?_;rintro e w5⟨rfl,g',hg5⟩;refine⟨rfl, ?_⟩;have iJ:Goes (stA base x w.heap.size g' cn s.tick) w F w5:=aF o1 n1 (aF o4 n4 hg5);obtain⟨v,hv,bK⟩:=uU iJ (ho.tick hg.inv) (A6.tick hg.inv) (fun d=>by rw[oc d,St.rest_of St.Vh d]);obtain⟨F6,xu,o6,n6⟩:=id bK;obtain⟨G6,zG,_⟩:=aM.left xu;obtain⟨ao,cap,ev,_⟩:=bC zG;rw[ev]at hv bK;exact⟨ao,_,cap,hv,bK⟩
 have En:IntKind.i64.wrap (s.now+1)=s.now+1:=by rw[IntKind.wrap_i64];omega
 clear h qc gn hg vW IA A6 Px T1 o1 n1 oc jJ;unfold pt at*;subst kK;generalize s.now=now at*;go_enter func26,ntmps26;go_wp2_with (first
  |(go_at_call 39;go_must(refine SD.mono ?_;rintro e wz⟨rfl,rfl⟩))
  |(go_at_call 40;go_must(refine HEL.out.mono ?_;rintro e w3⟨rfl,HHE⟩;clear HEL))
  |(go_at_call 41;go_must(refine HHE.out.mono ?_;rintro e w4⟨rfl,ZM⟩))
  |(go_at_call 42;go_must(refine ZM.out.mono ?_;rintro e w5⟨rfl,ao,nn,cap,hc,HG⟩)))
 go_ret;exact⟨_,rfl,HG.out⟩
end Pj
namespace Mc
open bJ
theorem Vd{κ:Type} [DecidableEq κ]{N:List κ}(hn:N.Nodup){t0:κ}(ht:t0∈N){f g:κ->Nat}{a:Nat}(hg:g t0=0)(hf: ∀t,f t=if t=t0 then a else g t):(N.map f).sum=a+(N.map g).sum:=by
 induction N with
 |nil=>cases ht
 |cons y N ih=>
  rw[List.nodup_cons]at hn;rw[List.map_cons,List.map_cons,List.sum_cons,List.sum_cons,hf y];by_cases e:y=t0
  ·subst e;rw[if_pos rfl,hg];have:N.map f=N.map g:=bY fun t El=>by
    have:t≠y:=fun e=>hn.1 (e▸El);rw[hf t,if_neg this]
   rw[this];omega
  ·rw[if_neg e];have El:t0∈N:=by
    rcases List.mem_cons.1 ht with h|h
    ·exact absurd h.symm e
    ·exact h
   rw[ih hn.2 El];omega
def B5(r:List Ln)(t:Bs):List Int:=match r.find? (fun l:Ln=>l.ten==t)with|some l=>l.ids|none=> []
theorem Rv{κ:Type}(N:List κ):(N.map fun _=>0).sum=0:=by
 induction N with
 |nil=>rfl
 |cons y N ih=>rw[List.map_cons,List.sum_cons,ih]
theorem Ms(l:Ln)(r:List Ln)(t:Bs):B5 (l::r) t=if t=l.ten then l.ids else B5 r t:=by
 unfold B5;rw[List.find?_cons];by_cases e:t=l.ten
 ·subst e;simp
 ·have:(l.ten==t)=false:=beq_eq_false_iff_ne.2 (fun h=>e h.symm);rw[this,if_neg e]
theorem FJ{N:List Bs}(hn:N.Nodup): ∀{r:List Ln},(r.map (·.ten)).Nodup->(∀l∈r,l.ten∈N)->(N.map fun t=>(B5 r t).length).sum=(r.map (·.ids.length)).sum
 | [],_,_=>Rv N
 |l::r,h1,h2=>by
  rw[List.map_cons,List.nodup_cons]at h1;have ih:=FJ hn h1.2 (fun y hy=>h2 y (bt _ hy));rw[List.map_cons,List.sum_cons,<-ih];refine Vd hn (h2 l (dy ..)) ?_ (fun t=> ?_)
  ·have:r.find? (fun y:Ln=>y.ten==l.ten)=none:=List.find?_eq_none.2 fun y hy e=>h1.1 (aA.2 ⟨y,hy,by simpa using e⟩);unfold B5;rw[this];rfl
  ·rw[Ms];split<;>rfl
theorem Jk{s:St}(hi:Inv s){N:List Bs}(hn:N.Nodup)(hr: ∀l∈s.ring,l.ten∈N):(N.map fun t=>(s.aZ t).length).sum=s.queued:=FJ hn hi.fP hr
end Mc
namespace Pj
open Go.RowKit aM Mc bJ
structure aL(w:World)(tm rr r2 r3:Nat)(m:List (Bs×Nat))(f:Bs->Nat)(now la lp:Value)(seen:List (Bs×Nat))(q:Nat)(wr:World):Prop where
 walk:Walk wU tm rr m seen wr
 sum:q=(seen.map fun y=>f y.1).sum
 abQ:wr.heap[r3]?=some (.cells #[now, .int .i64 q,la,lp] 39 (0,0))
 abP:wr.heap[r2]?=some (.cells #[.int .i64 0, .int .i64 0, .int .i64 0, .int .i64 0] 39 (0,0))
 below:Below w.heap.size w wr
 lts:w.heap.size<=r2∧r2<r3∧r3<rr∧rr<wr.heap.size∧tm<w.heap.size
section
variable{w wr w1:World}{tm rr r2 r3 q:Nat}{m seen:List (Bs×Nat)}{f:Bs->Nat}{now la lp:Value}{y:Bs×Nat}
theorem aL.next(h:aL w tm rr r2 r3 m f now la lp seen q wr)(hw:Walk wU tm rr m (seen++ [y]) w1)(hg:wr.grownBy w1 (some rr))(hs:w1.heap.size=wr.heap.size):Below w.heap.size w w1∧w1.heap[r3]?=some (.cells #[now, .int .i64 q,la,lp] 39 (0,0))∧ ∀nq,aL w tm rr r2 r3 m f now la lp (seen++ [y]) (q+f y.1) ((w1.setCell ⟨r3,1,none⟩ (.int .i64 ((q:Int)+(f y.1:Int)))).drewN nq)∧((w1.setCell ⟨r3,1,none⟩ (.int .i64 ((q:Int)+(f y.1:Int)))).drewN nq).rangeLeft tm rr=w1.rangeLeft tm rr:=by
 have hl:=h.lts;have hz:=h.below.size;have hb:Below w.heap.size w w1:=⟨hg.os.trans h.below.os,hg.tape.trans h.below.tape,hg.output.trans h.below.output,by rw[hs];exact hz,fun k hk=>by rw[hg.block k (by omega) (fun e=>by have:=Option.some.inj e;omega)];exact h.below.block k hk⟩
 have e3:w1.heap[r3]?=_:=(hg.block r3 (by omega) (fun e=>by have:=Option.some.inj e;omega)).trans h.abQ;have e2:w1.heap[r2]?=_:=(hg.block r2 (by omega) (fun e=>by have:=Option.some.inj e;omega)).trans h.abP;refine⟨hb,e3,fun nq=> ?_⟩;have o0:Only (fun b=>b=r3) w1 w1:=Only.refl _ _;have o2:Only (fun b=>b=r3) w1 ((w1.setCell ⟨r3,1,none⟩ (.int .i64 ((q:Int)+(f y.1:Int)))).drewN nq):=(o0.setCell ⟨r3,1,none⟩ _ (fun _=>rfl)).drewN nq;obtain⟨hk,hle⟩:=hw.keep (w':=(w1.setCell ⟨r3,1,none⟩ (.int .i64 ((q:Int)+(f y.1:Int)))).drewN nq) (o2.block tm (by omega) (by omega)) (o2.block rr (by omega) (by omega));refine⟨⟨hk, ?_, ?_,(o2.block r2 (by omega) (by omega)).trans e2, ?_, ?_⟩,hle⟩
 ·rw[aH,List.sum_append,<-h.sum];simp
 ·have:=heap_setCell_same w1 r3 1 _ _ (.int .i64 ((q:Int)+(f y.1:Int))) e3;show(w1.setCell ⟨r3,1,none⟩ (.int .i64 ((q:Int)+(f y.1:Int)))).heap[r3]?=_;rw[this];show some (Obj.cells #[now, .int .i64 ((q:Int)+(f y.1:Int)),la,lp] _ (0,0))=_;rw[<-Int.natCast_add]
 ·exact⟨o2.os.trans hb.os,o2.tape.trans hb.tape,o2.output.trans hb.output,aw hb.size o2.size,fun k hk=>by rw[o2.block k (by have:=hb.size;omega) (by omega)];exact hb.block k hk⟩
 ·have:=o2.size;omega
end
end Pj
namespace Pj
open Go.RowKit aM Mc bJ
attribute [local go_sem] ag ar
theorem Ru{α:Type}{f:α->Nat}{B:Nat}: ∀{l:List α},(∀y∈l,f y<=B)->(l.map f).sum<=l.length*B
 | [],_=>by simp
 |y::l,h=>by rw[List.map_cons,List.sum_cons,List.length_cons,Nat.succ_mul];have h1:=h y (dy ..);have h2:=Ru (l:=l) (fun z hz=>h z (bt _ hz));omega
theorem Qs{base:Nat}(x n:Nat)(s:St)(w:World)(F:Ft)(hg:Mc.Good n s)(hn:n<=1299998)(h:(rB base x s).holds w F):Calls prog 25 #[.pointer (some ⟨x,0,none⟩)] w (Mr.pN s w):=by
 show Calls prog _ _ w fun e w'=>e= .returned (.agg #[.int .i64 s.now, .int .i64 (s.queued:Int), .int .i64 (s.af.length:Int), .int .i64 (s.wait.length:Int)])∧Below w.heap.size w w';have cg:=hg.sz;have SD:Hid (∀w1,Below w.heap.size w w1->Calls prog 39 #[pt x] w1 fun e w'=>e= .returned (.bool true)∧w1=w'):=fun w1 hb=>(tL (aM.keep _ h (fun k hk=>hb.block k (aM.lt _ h k hk)))).mono fun _ _ hh=>⟨hh.1,hh.2.symm⟩;obtain⟨g,j,r1,r2,ho,A6,Ir,oc,NR,hj⟩:=h;have wf:=fI r1 hg.inv (by omega);obtain⟨v,hv⟩:=hj;have D:=yN hv;obtain⟨⟨Gl,xw⟩,_⟩:=Qc hv;obtain⟨ao,cap,LH⟩:=aX (Goes.refl xw);have PW: ∃Gp,(jw v.pv j.pull).holds w Gp:=by obtain⟨Gp,GK,_⟩:=aM.left (aB hv (show _=aa (jw v.pv j.pull) (aa (dB x j v) (aa (kN v.cm j.bT) (aa (jS g v.rm j.reqs) (aa (jk g v.tm j.aW) (aa (all jo j.bT) (aa (all (dO g j.c.re) j.reqs) (aa (all (gA g) j.aW) (aa (fK g v.rv j.ring) (aa (eY g v.lv j.hp) (hpA g j.hp))))))))))by unfold bk;ac_rfl));exact⟨Gp,GK⟩
 obtain⟨Gp,GK⟩:=PW;obtain⟨aop,aaf,epv⟩:=aX (Goes.refl GK);have jI: ∃Gm,(jk g v.tm j.aW).holds w Gm:=by obtain⟨Gm,Ks,_⟩:=aM.left (aB hv (show _=aa (jk g v.tm j.aW) (aa (dB x j v) (aa (kN v.cm j.bT) (aa (jS g v.rm j.reqs) (aa (all jo j.bT) (aa (all (dO g j.c.re) j.reqs) (aa (all (gA g) j.aW) (aa (fK g v.rv j.ring) (aa (jw v.pv j.pull) (aa (eY g v.lv j.hp) (hpA g j.hp))))))))))by unfold bk;ac_rfl));exact⟨Gm,Ks⟩
 obtain⟨Gm,Ks⟩:=jI;have zL:v.tm<w.heap.size:=aM.lt _ Ks v.tm ((Ks.1 v.tm).2 rfl);have ZW:Hid (∀w1,Below w.heap.size w w1->(mapA wU v.tm (j.aW.map fun t=>(t.nm,g.tp t.nm))).holds w1 Gm):=fun w1 hb=>aM.keep _ Ks (fun k hk=>hb.block k (aM.lt _ Ks k hk));have Ae:j.hp.length=s.af.length:=r1.hp.length_eq;have oJ:j.pull.length=s.wait.length:=by rw[r1.pull]
 have mh:=wf.b3;have l9:=wf.b4;have HX:Hid (∀w1,Below w.heap.size w w1->w1.cell? ⟨x,5,none⟩=some (.int .i64 s.now)∧w1.cell? ⟨x,10,none⟩=some (.slice aop s.wait.length aaf)∧w1.cell? ⟨x,11,none⟩=some (.slice ao s.af.length cap)∧w1.cell? ⟨x,8,none⟩=some (.map (some v.tm))):=fun w1 hb=>by
  refine⟨?_, ?_, ?_, ?_⟩
  ·rw[cL hb D.2.2,D.1 5];show some (Value.int .i64 j.now)=_;rw[r1.now]
  ·rw[cL hb D.2.2,D.1 10];show some v.pv=_;rw[epv,oJ]
  ·rw[cL hb D.2.2,D.1 11];show some v.lv=_;rw[LH,Ae]
  ·rw[cL hb D.2.2,D.1 8];rfl
 have HTN:Hid (∀y∈j.aW.map (fun t=>(t.nm,g.tp t.nm)),∀w1,Below w.heap.size w w1-> ∃cU b9,w1.cell? ⟨y.2,1,none⟩=some (.slice cU (s.aZ y.1).length b9)∧(s.aZ y.1).length<=16777210∧y.2<w.heap.size):=fun y hy w1 hb=>by
  obtain⟨t,ht,rfl⟩:=aA.1 hy;obtain⟨q,hq,eq⟩:=r1.zM t ht;have Mn:=St.vD hg.inv hq;have h1: ∃wv G,w.heap[g.tp t.nm]?=some (.cells (JI t wv) 92 (0,0))∧(l8 g wv t.wt).holds w G:=by have h2:=aB hv (show _=aa (all (gA g) j.aW) (aa (dB x j v) (aa (kN v.cm j.bT) (aa (jS g v.rm j.reqs) (aa (jk g v.tm j.aW) (aa (all jo j.bT) (aa (all (dO g j.c.re) j.reqs) (aa (fK g v.rv j.ring) (aa (jw v.pv j.pull) (aa (eY g v.lv j.hp) (hpA g j.hp))))))))))by unfold bk;ac_rfl);rw[my (A:=gA g) (k:=fun t:Tr=>t.nm) wf.rj ht]at h2;obtain⟨G,hG,_⟩:=aM.left (aB h2 (bX _ _ _));obtain⟨wv,N4⟩:=hG;obtain⟨G2,pw,_⟩:=aM.left (aB N4 (cA _ _));exact⟨wv,G2,(dC N4).1,pw⟩
  obtain⟨wv,G,NT,om⟩:=h1;obtain⟨cU,b9,ewv⟩:=aX (Goes.refl om);have ay:g.tp t.nm<w.heap.size:=(cT.1 NT).1;have gS:=wf.b1 t ht;have ewt:=r1.wt t ht;refine⟨cU,b9, ?_,by rw[<-ewt];exact gS,ay⟩;rw[cL hb ay];simp only[World.cell?,NT];show some wv=_;rw[ewv,ewt]
 have HQ:Hid (∀seen:List (Bs×Nat),seen.Perm (j.aW.map fun t=>(t.nm,g.tp t.nm))->(seen.map fun y=>(s.aZ y.1).length).sum=s.queued):=fun seen hp=>by
  have e1:(seen.map fun y=>(s.aZ y.1).length).sum=((j.aW.map fun t=>(t.nm,g.tp t.nm)).map fun y=>(s.aZ y.1).length).sum:=(hp.map _).sum_nat;rw[e1,aG];have e2:j.aW.map ((fun y:Bs×Nat=>(s.aZ y.1).length)∘fun t=>(t.nm,g.tp t.nm))=(j.aW.map (·.nm)).map fun t=>(s.aZ t).length:=by rw[aG];rfl
  rw[e2];refine Jk hg.inv r1.rj (fun l hl=> ?_);exact wf.ring l.ten (by rw[r1.ring];exact aA.2 ⟨l,hl,rfl⟩)
 have jm:s.queued<=16777216:=by
  have h1:=St.dE hg.inv;have h2:(s.ring.flatMap (·.ids)).length=s.queued:=by unfold St.queued;rw[List.length_flatMap]
  unfold St.sz at cg;omega
 have XU:(j.aW.map fun t=>(t.nm,g.tp t.nm)).length<=16777210:=by rw[bf];exact wf.b7
 have HA:Hid (Below w.heap.size w (w.alloc (.cells #[.int .i64 0, .int .i64 0, .int .i64 0, .int .i64 0] 39))∧(w.alloc (.cells #[.int .i64 0, .int .i64 0, .int .i64 0, .int .i64 0] 39)).heap[w.heap.size]?=some (.cells #[.int .i64 0, .int .i64 0, .int .i64 0, .int .i64 0] 39 (0,0))∧(w.alloc (.cells #[.int .i64 0, .int .i64 0, .int .i64 0, .int .i64 0] 39)).heap.size=w.heap.size+1):=⟨(ah _ _).alloc (ae _) _,heap_alloc_new _ _,by simp⟩;clear hv D xw LH GK epv Ks r1 r2 wf oc NR ho A6 Ae oJ hg;unfold pt at SD;generalize hm:(j.aW.map fun t=>(t.nm,g.tp t.nm))=m at*;clear hm;generalize v.tm=tm at*;generalize s.queued=qq at*;generalize s.af.length=na at*;generalize s.wait.length=nw at*;generalize s.now=now at*;go_enter func25,ntmps25;go_wp2_with (first
  |(go_at_call 39;go_must(refine(SD.out _ HA.out.1).mono ?_;rintro e wz⟨rfl,rfl⟩;clear SD)))
 generalize vP:w.alloc (.cells #[.int .i64 0, .int .i64 0, .int .i64 0, .int .i64 0] 39)=w1 at*;obtain⟨x5,x10,x11,x8⟩:=HX.out w1 HA.out.1;have n5:=World.new_ne w1 _ x5;have n10:=World.new_ne w1 _ x10;have n11:=World.new_ne w1 _ x11;have n8:=World.new_ne w1 _ x8;go_region_held3 (fun w'=>w'.cell? ⟨x,5,none⟩=some (.int .i64 now)∧w'.cell? ⟨x,10,none⟩=some (.slice aop nw aaf)∧w'.cell? ⟨x,11,none⟩=some (.slice ao na cap)∧w'.cell? ⟨x,8,none⟩=some (.map (some tm))) (go_keep) (fail);have HW:Hid (Below w.heap.size w (w1.alloc (.cells #[.int .i64 now, .int .i64 0, .int .i64 (na:Int), .int .i64 (nw:Int)] 39)).drew∧(w1.alloc (.cells #[.int .i64 now, .int .i64 0, .int .i64 (na:Int), .int .i64 (nw:Int)] 39)).drew.heap[w1.heap.size]?=some (.cells #[.int .i64 now, .int .i64 0, .int .i64 (na:Int), .int .i64 (nw:Int)] 39 (0,0))∧(w1.alloc (.cells #[.int .i64 now, .int .i64 0, .int .i64 (na:Int), .int .i64 (nw:Int)] 39)).drew.heap[w.heap.size]?=some (.cells #[.int .i64 0, .int .i64 0, .int .i64 0, .int .i64 0] 39 (0,0))∧(w1.alloc (.cells #[.int .i64 now, .int .i64 0, .int .i64 (na:Int), .int .i64 (nw:Int)] 39)).drew.heap.size=w1.heap.size+1):=by obtain⟨b1,z1,s1⟩:=HA.out;refine⟨(b1.alloc b1.size _).drew,heap_alloc_new _ _, ?_,by simp⟩;exact(Below.heap_alloc _ _ _ (by omega)).trans z1
 have iA:=HA.out.2.2;generalize(w1.alloc (.cells #[.int .i64 now, .int .i64 0, .int .i64 (na:Int), .int .i64 (nw:Int)] 39)).drew=W at*;have Iy:Hid (w1.heap.size=w.heap.size+1):=iA;generalize w1.heap.size=r3 at*;have y8:=(HX.out W HW.out.1).2.2.2;have HM:=hide (ZW.out W HW.out.1);have uN:Hid (∀w',Walk wU tm W.heap.size m [] w'->Below W.heap.size W w'->w'.heap.size=W.heap.size+1->aL w tm W.heap.size w.heap.size r3 m (fun t=>(s.aZ t).length) (.int .i64 now) (.int .i64 (na:Int)) (.int .i64 (nw:Int)) [] 0 w'):=fun w' hw hb hz=>by obtain⟨b1,z3,z2,s3⟩:=HW.out;have h3:=Iy.out;refine⟨hw,by simp,(hb.block r3 (by omega)).trans z3,(hb.block w.heap.size (by omega)).trans z2,b1.trans (hb.mono b1.size),by omega,by omega,by omega,by omega,zL⟩
 clear HA HX ZW HW x5 x10 x11 x8 n5 n10 n11 n8 iA vP;go_wp2_with (first
  |(at_range;go_must(refine wG _ rfl _ 83 rfl 89 underlying83 wU tm m rfl HM.out ?_;intro w0 nj iO hs0;have R5:=hide (uN.out w0 nj iO hs0);clear nj iO hs0)))
 go_frame
 clear HM uN y8;generalize W.heap.size=rr at*;go_loopw [] (fun wr=> ∃(seen:List (Bs×Nat)) (q:Nat),Hid (aL w tm rr w.heap.size r3 m (fun t=>(s.aZ t).length) (.int .i64 now) (.int .i64 (na:Int)) (.int .i64 (nw:Int)) seen q wr)) (fun wr=>wr.rangeLeft tm rr)
 case atStart=>exact⟨[],0,R5⟩
 case round=>
  obtain⟨seen,q,HS⟩:=hrel;have WV:=hide HS.out.walk;have adS:q<=281474976710656:=by
   have h1:q<=seen.length*16777210:=by rw[HS.out.sum];exact Ru (f:=fun y:Bs×Nat=>(s.aZ y.1).length) fun y hy=>by obtain⟨_,_,_,hl,_⟩:=HTN.out y (HS.out.walk.2.1 y hy) w (ah _ _);exact hl
   have h2:seen.length<=m.length:=jN (kT HS.out.walk.1) HS.out.walk.2.1;have h3:seen.length*16777210<=16777210*16777210:=Nat.mul_le_mul_right _ (by omega);omega
  have xK:Hid (∀y (kv:Value) w1,y∈m->Walk wU tm rr m (seen++ [y]) w1->w1.rangeLeft tm rr<wr.rangeLeft tm rr->wr.grownBy w1 (some rr)->w1.heap.size=wr.heap.size-> ∃cU b9 ln,w1.cell? ⟨y.2,1,none⟩=some (.slice cU ln b9)∧ln<=16777210∧w1.cell? ⟨r3,1,none⟩=some (.int .i64 q)∧w1.frozen? ⟨r3,1,none⟩=false∧Hid (w1.rangeLeft tm rr<wr.rangeLeft tm rr)∧Hid (∀nq,aL w tm rr w.heap.size r3 m (fun t=>(s.aZ t).length) (.int .i64 now) (.int .i64 (na:Int)) (.int .i64 (nw:Int)) (seen++ [y]) (q+ln) ((w1.setCell ⟨r3,1,none⟩ (.int .i64 ((q:Int)+(ln:Int)))).drewN nq)∧((w1.setCell ⟨r3,1,none⟩ (.int .i64 ((q:Int)+(ln:Int)))).drewN nq).rangeLeft tm rr=w1.rangeLeft tm rr)):=fun y kv w1 Uh hwk ay hgr cg=>by obtain⟨hb1,e3,V4⟩:=HS.out.next hwk hgr cg;obtain⟨cU,b9,c1,hl,_⟩:=HTN.out y Uh w1 hb1;exact⟨cU,b9,_,c1,hl,by simp only[World.cell?,e3];rfl,by simp only[World.frozen?,e3];simp,ay,V4⟩
  go_wp2_with (first
   |(at_next;go_must(refine nY _ rfl _ rfl wU tm rr m seen rfl WV.out ?done ?more)))
  case done=>
   intro fw;have hq:=HQ.out seen fw;have aba:=HS.out.sum;have e3:=HS.out.abQ;have e2:=HS.out.abP;have HB:=hide HS.out.below;have vI:=hide HS.out.lts;have hqq:q=qq:=by rw[aba];exact hq
   subst hqq;have a0:wr.cell? ⟨r3,0,none⟩=some (.int .i64 now):=by simp only[World.cell?,e3];rfl
   have a1:wr.cell? ⟨r3,1,none⟩=some (.int .i64 (q:Int)):=by simp only[World.cell?,e3];rfl
   have a2:wr.cell? ⟨r3,2,none⟩=some (.int .i64 (na:Int)):=by simp only[World.cell?,e3];rfl
   have a3:wr.cell? ⟨r3,3,none⟩=some (.int .i64 (nw:Int)):=by simp only[World.cell?,e3];rfl
   have b0:wr.cell? ⟨w.heap.size,0,none⟩=some (.int .i64 0):=by simp only[World.cell?,e2];rfl
   have f0:wr.frozen? ⟨w.heap.size,0,none⟩=false:=by simp only[World.frozen?,e2];simp
   have b1:wr.cell? ⟨w.heap.size,1,none⟩=some (.int .i64 0):=by simp only[World.cell?,e2];rfl
   have f1:wr.frozen? ⟨w.heap.size,1,none⟩=false:=by simp only[World.frozen?,e2];simp
   have b2:wr.cell? ⟨w.heap.size,2,none⟩=some (.int .i64 0):=by simp only[World.cell?,e2];rfl
   have f2:wr.frozen? ⟨w.heap.size,2,none⟩=false:=by simp only[World.frozen?,e2];simp
   have b3:wr.cell? ⟨w.heap.size,3,none⟩=some (.int .i64 0):=by simp only[World.cell?,e2];rfl
   have f3:wr.frozen? ⟨w.heap.size,3,none⟩=false:=by simp only[World.frozen?,e2];simp
   clear xK WV HS HTN HQ R5 e3 e2 aba hq fw;go_wp2;refine bodyPost_ret (v:= .agg #[.int .i64 now, .int .i64 (q:Int), .int .i64 (na:Int), .int .i64 (nw:Int)]) (by simp[results,results25,go_sem, *]) rfl ⟨rfl, ?_⟩;exact(((HB.out.setCell (ae _) _).setCell (ae _) _).setCell (ae _) _).setCell (ae _) _
  case more=>
   intro ya yb kv w1 Uh hyn hwk ay hgr cg hen;obtain⟨cU,b9,ln,c1,Af,c3,f3,vI,uM⟩:=xK.out (ya,yb) kv w1 Uh hwk ay hgr cg;dsimp only at c1;clear xK WV HS HTN HQ Uh hyn hwk ay hgr cg R5
   (try unfold pt at hen)
   have En:IntKind.i64.wrap ((q:Int)+(ln:Int))=(q:Int)+(ln:Int):=by rw[IntKind.wrap_i64];omega
   go_wp2_with fail;go_region_with (fail)
   all_goals
    have WI:=uM.out 1;clear uM;go_roundw
    case rel=>exact⟨_,_,_,_,_,_,_,_,_,_,_,_,_,_,⟨seen++ [(ya,yb)],q+ln,WI.1⟩,rfl⟩
    case measure=>exact Nat.lt_of_le_of_lt (Nat.le_of_eq WI.2) vI.out
variable{w:World}{base:Nat}
theorem l6(n lo hi:Int)(w:World):Calls prog 92 #[.int .i64 n, .int .i64 lo, .int .i64 hi] w fun e w'=>e= .returned (.bool (decide (lo<=n) &&decide (n<=hi)))∧w'=w:=by
 by_cases h1:lo<=n<;>by_cases h2:n<=hi
 all_goals go_enter func92,ntmps92;go_wp2;go_ret;simp[h1,h2]
theorem Ca(o:uF)(w:World):Calls prog 53 #[Mr.Ds o] w fun e w'=>e= .returned (.bool o.fine)∧ ∃ob,w'=w.alloc ob:=by
 obtain⟨le,re,ca,bo,he⟩:=o;have h1:=fun w=>l6 le 1 20 w;have h2:=fun w=>l6 re 0 5 w;have h3:=fun w=>l6 ca 1 5 w;have h4:=fun w=>l6 bo 1 8 w;have h5:=fun w=>l6 he 0 20 w;have Ah:uF.fine ⟨le,re,ca,bo,he⟩=((((((decide (1<=le) &&decide (le<=20))) &&(decide (0<=re) &&decide (re<=5))) &&(decide (1<=ca) &&decide (ca<=5))) &&(decide (1<=bo) &&decide (bo<=8))) &&(decide (0<=he) &&decide (he<=20))):=rfl;rw[Ah];clear Ah;generalize(decide (1<=le) &&decide (le<=20))=b1 at*;generalize(decide (0<=re) &&decide (re<=5))=b2 at*;generalize(decide (1<=ca) &&decide (ca<=5))=b3 at*;generalize(decide (1<=bo) &&decide (bo<=8))=b4 at*;generalize(decide (0<=he) &&decide (he<=20))=b5 at*;have H1:=hide h1;have H2:=hide h2;have H3:=hide h3;have H4:=hide h4;have H5:=hide h5;clear h1 h2 h3 h4 h5;simp only[Mr.Ds];have M1:True:=trivial;have M2:True:=trivial;have M3:True:=trivial;have M4:True:=trivial;cases b1<;>cases b2<;>cases b3<;>cases b4
 all_goals
  go_enter func53,ntmps53;go_wp2_with (first
   |(go_at_call 92;first
     |(clear M1;go_must(refine(H1.out _).mono ?_;rintro e wz⟨rfl,rfl⟩))
     |(clear M2;go_must(refine(H2.out _).mono ?_;rintro e wz⟨rfl,rfl⟩))
     |(clear M3;go_must(refine(H3.out _).mono ?_;rintro e wz⟨rfl,rfl⟩))
     |(clear M4;go_must(refine(H4.out _).mono ?_;rintro e wz⟨rfl,rfl⟩))
     |(go_must(refine(H5.out _).mono ?_;rintro e wz⟨rfl,rfl⟩))))
  go_ret;exact⟨by simp,_,rfl⟩
def gh0:Gh:=⟨fun _=>0,fun _=>0,fun _=>0,fun _=>0⟩
def js0(o:uF):Js:=⟨o,0,0, [], [], [], [], [], []⟩
theorem ac8(o:uF):Rel gh0 (js0 o) (St.init o):=
 ⟨rfl,rfl,rfl,rfl,rfl,rfl,fun _ h=>(List.not_mem_nil h).elim,List.nodup_nil,fun _ h=>(List.not_mem_nil h).elim,fun _ h=>(List.not_mem_nil h).elim,fun _ h=>(List.not_mem_nil h).elim,fun _ h=>(List.not_mem_nil h).elim,List.Perm.refl _,fun k _ h=>absurd h (Nat.not_lt_zero k),List.Pairwise.nil,fun _ h=>(List.not_mem_nil h).elim,List.nodup_nil,fun _ h=>(List.not_mem_nil h).elim,fun _=>rfl⟩
theorem ok0(o:uF):Ok (St.init o):=⟨fun _ h=>(List.not_mem_nil h).elim,fun _ h=>(List.not_mem_nil h).elim,List.nodup_nil,fun _ h=>(List.not_mem_nil h).elim,fun _ h=>(List.not_mem_nil h).elim⟩
theorem add_nil{A:aM}{F:Ft}(h:A.holds w F)(e:TypeId):(aa A (rowA e 1 (.slice none 0 0) 0 [])).holds w F:=
 ⟨F,fun _=>False,h,dS _ _ _ (fun _ h=>h),fun _ _ h=>h,fun _=>⟨.inl,fun h=>h.elim id False.elim⟩⟩
theorem QE(o:uF){w2:World}(hB:base<=w.heap.size)(h:Goes emp w (fun _=>False) w2):Goes (rB base (w2.heap.size+3) (St.init o)) w (fun _=>False) ((((w2.alloc (.map #[] 0)).alloc (.map #[] 0)).alloc (.map #[] 0)).alloc (.cells #[.int .i64 o.le, .int .i64 o.re, .int .i64 o.ca, .int .i64 o.bo, .int .i64 o.he, .int .i64 0, .map (some w2.heap.size), .map (some (w2.heap.size+1)), .map (some (w2.heap.size+2)), .slice none 0 0, .slice none 0 0, .slice none 0 0, .int .i64 0] 88)):=by
 have g1:=vt kS h;have e1:(w2.alloc (.map #[] 0)).heap.size=w2.heap.size+1:=by simp
 generalize w2.alloc (.map #[] 0)=w3 at*;have g2:=vt kS g1;have e2:(w3.alloc (.map #[] 0)).heap.size=w2.heap.size+2:=by simp;omega
 rw[e1]at g2;generalize w3.alloc (.map #[] 0)=w4 at*;have g3:=vt wU g2;have e3:(w4.alloc (.map #[] 0)).heap.size=w2.heap.size+3:=by simp;omega
 rw[e2]at g3;generalize w4.alloc (.map #[] 0)=w5 at*;have g4:=g3.alloc (.cells #[.int .i64 o.le, .int .i64 o.re, .int .i64 o.ca, .int .i64 o.bo, .int .i64 o.he, .int .i64 0, .map (some w2.heap.size), .map (some (w2.heap.size+1)), .map (some (w2.heap.size+2)), .slice none 0 0, .slice none 0 0, .slice none 0 0, .int .i64 0] 88 (0,0));rw[e3]at g4;obtain⟨F4,th,o4,n4⟩:=g4;refine⟨F4,⟨gh0,js0 o,ac8 o,⟨fun _ h=>(List.not_mem_nil h).elim,fun _ h=>(List.not_mem_nil h).elim⟩,ok0 o,fun _ h=>(List.not_mem_nil h).elim,rfl,fun _=>rfl,fun k hk=> ?_, ?_⟩,o4,n4⟩
 ·rcases n4 k hk with h|h
  ·exact h.elim
  ·exact aw hB h
 ·refine⟨⟨w2.heap.size,w2.heap.size+1,w2.heap.size+2, .slice none 0 0, .slice none 0 0, .slice none 0 0⟩, ?_⟩;have h5:=add_nil (add_nil (add_nil th 89) 3) 127;refine aB h5 ?_;unfold bk;show _=aa (blk (w2.heap.size+3) _) (aa (mapA kS w2.heap.size []) (aa (mapA kS (w2.heap.size+1) []) (aa (mapA wU (w2.heap.size+2) []) (aa emp (aa emp (aa emp (aa (rowA 89 1 (.slice none 0 0) 0 []) (aa (rowA 3 1 (.slice none 0 0) 0 []) (aa (rowA 127 1 (.slice none 0 0) 0 []) emp)))))))));simp only[mO,BJ]
  ac_rfl
theorem UL(o:uF)(w:World)(hB:base<=w.heap.size):Calls prog 35 #[Mr.Ds o] w fun e w'=>(o.fine=false∧e= .returned (.tuple #[.pointer none, .int .i64 1])∧Below w.heap.size w w')∨(o.fine=true∧ ∃x,e= .returned (.tuple #[.pointer (some ⟨x,0,none⟩), .int .i64 0])∧Goes (rB base x (St.init o)) w (fun _=>False) w'):=by
 have HIC:Hid (Calls prog 53 #[Mr.Ds o] (w.alloc (.cells #[.int .i64 o.le, .int .i64 o.re, .int .i64 o.ca, .int .i64 o.bo, .int .i64 o.he] 30)) fun e w2=>e= .returned (.bool o.fine)∧w2.cell? ⟨w.heap.size,0,none⟩=some (.int .i64 o.le)∧w2.cell? ⟨w.heap.size,1,none⟩=some (.int .i64 o.re)∧w2.cell? ⟨w.heap.size,2,none⟩=some (.int .i64 o.ca)∧w2.cell? ⟨w.heap.size,3,none⟩=some (.int .i64 o.bo)∧w2.cell? ⟨w.heap.size,4,none⟩=some (.int .i64 o.he)∧Hid (Below w.heap.size w w2∧Goes emp w (fun _=>False) w2)):=by
  have hz:=heap_alloc_new w (.cells #[.int .i64 o.le, .int .i64 o.re, .int .i64 o.ca, .int .i64 o.bo, .int .i64 o.he] 30);have hs:(w.alloc (.cells #[.int .i64 o.le, .int .i64 o.re, .int .i64 o.ca, .int .i64 o.bo, .int .i64 o.he] 30)).heap.size=w.heap.size+1:=by simp
  have hb:Below w.heap.size w (w.alloc (.cells #[.int .i64 o.le, .int .i64 o.re, .int .i64 o.ca, .int .i64 o.bo, .int .i64 o.he] 30)):=(ah _ _).alloc (ae _) _;have hg:Goes emp w (fun _=>False) w:=Goes.refl (fun _ h=>h);have rF:=hg.dt (.cells #[.int .i64 o.le, .int .i64 o.re, .int .i64 o.ca, .int .i64 o.bo, .int .i64 o.he] 30);generalize w.alloc (.cells #[.int .i64 o.le, .int .i64 o.re, .int .i64 o.ca, .int .i64 o.bo, .int .i64 o.he] 30)=w1 at*;show Calls _ _ _ _ _;refine(Ca o w1).mono ?_;rintro e w2⟨rfl,ob,rfl⟩;have fS:(w1.alloc ob).heap[w.heap.size]?=_:=(Below.heap_alloc w1 ob _ (by omega)).trans hz;exact⟨rfl,by simp only[World.cell?,fS];rfl,by simp only[World.cell?,fS];rfl,by simp only[World.cell?,fS];rfl,by simp only[World.cell?,fS];rfl,by simp only[World.cell?,fS];rfl,hb.alloc hb.size _,rF.dt ob⟩
 have VC:Hid (∀w2,Goes emp w (fun _=>False) w2->_):=fun w2 hg=>QE (base:=base) o hB hg;obtain⟨le,re,ca,bo,he⟩:=o;dsimp only at HIC VC;generalize uJ:uF.fine ⟨le,re,ca,bo,he⟩=fi at*;clear uJ;simp only[Mr.Ds]at HIC⊢;cases fi
 ·clear VC;go_enter func35,ntmps35;go_wp2_with (first
   |(go_at_call 53;go_must(refine HIC.out.mono ?_;rintro e w2⟨rfl,c0,c1,c2,c3,c4,HG⟩)))
  go_ret2
  exact .inl ⟨by first|rfl|trivial,rfl,HG.out.1⟩
 ·have GR:= @run_makeMap prog;go_enter func35,ntmps35;go_wp2_with (first
   |(go_at_call 53;go_must(refine HIC.out.mono ?_;rintro e w2⟨rfl,c0,c1,c2,c3,c4,HG⟩)))
  go_ret2
  exact .inr ⟨by first|rfl|trivial,_,rfl,VC.out _ HG.out.2⟩
variable{s:St}{n:Nat}
theorem yO(cn:List (Int×Nat×Bs))(c d:Int):Ex (cn.filter fun k=>decide (k.1≠c)) d=if d=c then []else Ex cn d:=by
 unfold Ex;rw[List.find?_filter];by_cases e:d=c
 ·subst e;rw[if_pos rfl];have:cn.find? (fun a=>decide (decide (a.1≠d)=true∧(a.1==d)=true))=none:=List.find?_eq_none.2 fun y _=>by simp
  rw[this]
 ·rw[if_neg e];have:(fun a:Int×Nat×Bs=>decide (decide (a.1≠c)=true∧(a.1==d)=true))=fun a=>a.1==d:=by
   funext y;by_cases e2:y.1=d
   ·simp[e2,e]
   ·simp[e2]
  rw[this]
theorem FD{s':St}{c:Int}(h:s'.nr=s.nr.filter fun y=>y.1 !=c)(d:Int):s'.bG d=if d=c then []else s.bG d:=by
 rw[St.qX,St.qX,h,List.find?_filter];by_cases e:d=c
 ·subst e;rw[if_pos rfl];have:s.nr.find? (fun a=>decide ((a.1 !=d)=true∧(a.1==d)=true))=none:=List.find?_eq_none.2 fun y _=>by simp
  rw[this]
 ·rw[if_neg e];have:(fun a:Int×Bs=>decide ((a.1 !=c)=true∧(a.1==d)=true))=fun a=>a.1==d:=by
   funext y;by_cases e2:y.1=d
   ·simp[e2,e]
   ·simp[e2]
  rw[this]
theorem Sd.aQ(h:Sd n s)(f:Nat)(c:Int):Sd n (St.aQ f s c):=⟨St.dW f c h.inv,Ok.aQ f c h.ok h.inv,aw (St.oB f s c) h.sz,Bd.aQ f c h.bd⟩
theorem Sd.aP(h:Sd n s)(f:Nat)(c:Int):Sd n (St.aP f s c):=⟨St.fY f c h.inv,Ok.aP f c h.ok h.inv,aw (St.oA f s c) h.sz,Bd.aP f c h.bd h.inv⟩
theorem Lv{base:Nat}{dz:World}(HT:su base dz)(x:Nat)(c:Int)(n:Nat)(s:St)(w:World)(F:Ft)(hB:base<=w.heap.size)(hb:Below base dz w)(hc:Lw.I64 c)(hg:Mc.Good n s)(hn:n<=1299998)(h:(rB base x s).holds w F):Calls prog 27 #[.pointer (some ⟨x,0,none⟩), .int .i64 c] w (Lw.RU (rB base x) (s.close c) w F):=by
 have SD:=tL h;obtain⟨g,cn,F1,ho,A6,Ir,oc,jJ,qc,n1,cd⟩:=yi hB h;have tR:Below w.heap.size w (w.alloc (.cells #[.slice none 0 0] 94)):=(ah _ _).alloc (ae _) _;have o1:Only F w (w.alloc (.cells #[.slice none 0 0] 94)):=(Only.refl F w).alloc _;have T1:Tabs base (w.alloc (.cells #[.slice none 0 0] 94)):=(HT.at hB hb).new tR;generalize kK:w.alloc (.cells #[.slice none 0 0] 94)=w1 at*;have vW:=Good.sd hg ho (by omega);have hz:=vW.sz;have IA:=vW.forget c;have Px:Busy (oF s c) (fun _=>False):=A6;have HFO:Hid (Calls prog 43 #[pt x, .int .i64 c] w1 fun e w2=>e= .returned (.tuple #[])∧
   Hid (Calls prog 44 #[pt x,pt w.heap.size, .int .i64 c] w2 fun e w3=>e= .returned (.tuple #[])∧
    Hid (Calls prog 45 #[pt x,pt w.heap.size, .int .i64 c] w3 fun e w4=>e= .returned (.tuple #[])∧
     Hid (Calls prog 42 #[pt x,pt w.heap.size] w4 fun e w5=>e= .returned (.tuple #[])∧ ∃ao n1 cap,w5.cell? ⟨w.heap.size,0,none⟩=some (.slice ao n1 cap)∧Hid (Goes (aa (Mr.iB (.slice ao n1 cap) (s.close c).out) (rB base x (s.close c).told)) w F w5))))):=by
  show Calls _ _ _ _ _;refine(H7 T1 qc hg.inv (by omega) c (I6.of hc.1 hc.2)).mono ?_;rintro e w2⟨rfl,ld⟩;refine⟨rfl, ?_⟩;have T2:=T1.goes cd ld;obtain⟨F2,eX,o2,n2⟩:=ld;show Calls _ _ _ _ _;refine(Nd T2 eX IA (by omega) Px c).mono ?_;rintro e w3⟨rfl,mW⟩;refine⟨rfl, ?_⟩;have T3:=T2.goes (dx eX) mW;obtain⟨F3,iX,o3,n3⟩:=aF o2 n2 mW;show Calls _ _ _ _ _;have BV:=IA.aQ (oF s c).reqs.length c;refine(Pm T3 iX BV (by omega) c).mono ?_;rintro e w4⟨rfl,kI⟩;refine⟨rfl, ?_⟩;have T4:=T3.goes (dx iX) kI;obtain⟨F4,th,o4,n4⟩:=aF o3 n3 kI;show Calls _ _ _ _ _;refine(yx T4 th (BV.aP _ c) (by omega)).mono ?_;rintro e w5⟨rfl,g',hg5⟩;refine⟨rfl, ?_⟩;have iJ:Goes (stA base x w.heap.size g' (cn.filter fun k=>decide (k.1≠c)) (s.close c)) w F w5:=aF o1 n1 (aF o4 n4 hg5);obtain⟨v,hv,bK⟩:=uU iJ (ho.close hg.inv c) (A6.close hg.inv c) (fun d=>by rw[yO,FD (St.OP c) d,oc d]);obtain⟨F6,xu,o6,n6⟩:=id bK;obtain⟨G6,zG,_⟩:=aM.left xu;obtain⟨ao,cap,ev,_⟩:=bC zG;rw[ev]at hv bK;exact⟨ao,_,cap,hv,bK⟩
 clear h qc hg vW IA A6 Px T1 o1 n1 oc jJ;unfold pt at*;subst kK;go_enter func27,ntmps27;go_wp2_with (first
  |(go_at_call 39;go_must(refine SD.mono ?_;rintro e wz⟨rfl,rfl⟩))
  |(go_at_call 43;go_must(refine HFO.out.mono ?_;rintro e w2⟨rfl,CS⟩;clear HFO))
  |(go_at_call 44;go_must(refine CS.out.mono ?_;rintro e w3⟨rfl,HGI⟩))
  |(go_at_call 45;go_must(refine HGI.out.mono ?_;rintro e w4⟨rfl,ZM⟩))
  |(go_at_call 42;go_must(refine ZM.out.mono ?_;rintro e w5⟨rfl,ao,nn,cap,hc5,HG⟩)))
 go_ret;exact⟨_,rfl,HG.out⟩
end Pj
namespace Mc
open bJ
namespace St
def Pb(s:St)(c:Int)(ls:List Bs):St:=((s.lines c ls.dropLast).conn c).di c ((ls.getLastD []).take 81)
theorem tM(s:St)(c:Int)(b:Bs):s.feed c b=Pb (s.conn c) c (l5 (s.bG c) (bW 10 b)):=rfl
theorem Pd(s:St)(c:Int)(kept a:Bs){r:List Bs}(hr:r≠ []):Pb s c (l5 kept (a::r))=Pb (s.line c (kept++a)) c (l5 [] r):=by
 match r,hr with
 |x::r,_=>rfl
theorem Ty(s:St)(c:Int)(kept a:Bs):Pb s c (l5 kept [a])=(s.conn c).di c ((kept++a).take 81):=rfl
theorem MC(s:St)(c:Int)(l:Bs):s.line c (l.take 81)=s.line c l:=by
 by_cases h:l.length<=81
 ·rw[List.take_of_length_le h]
 ·have h1:jz l=false:=by
   unfold jz;rw[(kX (l:=l) (by omega)).2];rfl
  have h2:jz (l.take 81)=false:=by unfold jz;rw[(kX (l:=l.take 81) (by rw[List.length_take];omega)).2];rfl
  unfold line;rw[h1,h2];rfl
theorem DU{p:Cn->Bool}{f:Cn->Cn}(hn: ∀x,(f x).n=x.n)(hd: ∀x,(f x).drains=x.drains)(d:Int): ∀l:List Cn,(match (aK p f l).find? (fun x=>x.n==d)with|some x=>x.drains|none=>false)=(match l.find? (fun x=>x.n==d)with|some x=>x.drains|none=>false)
 | []=>rfl
 |y::l=>by
  unfold aK;by_cases hp:p y=true
  ·rw[if_pos hp,List.find?_cons,List.find?_cons,hn];cases y.n==d
   ·rfl
   ·exact hd y
  ·rw[if_neg hp,List.find?_cons,List.find?_cons];cases y.n==d
   ·exact DU hn hd d l
   ·rfl
theorem qx(s:St)(c:Int)(r:Bs)(d:Int):(s.di c r).drains d=s.drains d:=DU (p:=fun x=>x.n==c) (f:=fun x=>{x with rest:=r}) (fun _=>rfl) (fun _=>rfl) d s.aq
end St
theorem Ok.di{s:St}(h:Ok s)(c:Int)(r:Bs):Ok (s.di c r):=by
 have hm: ∀x∈(s.di c r).aq,∃y∈s.aq,x.n=y.n∧x.drains=y.drains∧x.gone=y.gone:=fun x hx=>by
  rcases cR hx with h|⟨y,hy,_,rfl⟩
  ·exact⟨x,h,rfl,rfl,rfl⟩
  ·exact⟨y,hy,rfl,rfl,rfl⟩
 refine⟨fun x hx hd=> ?_,fun x hx hd=> ?_,h.key,h.num,h.hd⟩
 ·obtain⟨y,hy,e1,e2,e3⟩:=hm x hx;rw[e3];exact h.gone y hy (by rw[<-e2];exact hd)
 ·obtain⟨y,hy,e1,e2,e3⟩:=hm x hx;rw[e1,e3];exact h.dr y hy (by rw[<-e2];exact hd)
end Mc
namespace Pj
open Go.RowKit aM Mc bJ
theorem Rel.di{g:Gh}{j:Js}{s:St}(h:Rel g j s)(c:Int)(r:Bs):Rel g j (s.di c r):=by
 refine h.aq j.bT _ h.cnd (fun k hk=> ?_) (fun d=> ?_)
 ·have:(aK (fun x:Cn=>x.n==c) (fun x=>{x with rest:=r}) s.aq).map (·.n)=s.aq.map (·.n):=cr _ (fun x:Cn=>{x with rest:=r}) (·.n) (fun _=>rfl) s.aq;rw[this];exact h.cin k hk
 ·show j.drains d=(s.di c r).drains d;rw[St.qx];exact h.dr d
theorem Ey{cn:List (Int×Nat×Bs)}{c:Int}(b:Bs)(hc:c∈cn.map (·.1))(d:Int):Ex (oZ cn c b) d=if d=c then b else Ex cn d:=by
 unfold Ex oZ;rw[List.find?_map];have e:((fun y:Int×Nat×Bs=>y.1==d)∘fun y=>if y.1=c then(y.1,y.2.1,b)else y)=fun y=>y.1==d:=by funext y;simp only[Function.comp_def];split<;>rfl
 rw[e];by_cases ed:d=c
 ·subst ed;rw[if_pos rfl];cases hf:cn.find? (fun y=>y.1==d)with
  |none=>obtain⟨y,hy,e'⟩:=aA.1 hc;exact absurd (List.find?_eq_none.1 hf y hy) (by simp[e'])
  |some y=>
   have:y.1=d:=by simpa using List.find?_some hf
   simp[this]
 ·rw[if_neg ed];cases hf:cn.find? (fun y=>y.1==d)with
  |none=>rfl
  |some y=>
   have:y.1=d:=by simpa using List.find?_some hf
   have cC:y.1≠c:=by rw[this];exact ed
   simp[cC]
theorem FQ(cn:List (Int×Nat×Bs))(c:Int)(b:Bs):(oZ cn c b).map (·.1)=cn.map (·.1):=by unfold oZ;rw[aG];refine bY fun y _=> ?_;simp only[Function.comp_def];split<;>rfl
theorem KU{cn:List (Int×Nat×Bs)}{c:Int}{p:Nat}{b:Bs}(h:(c,p,b)∈cn):c∈cn.map (·.1):=aA.2 ⟨_,h,rfl⟩
theorem KN{cn:List (Int×Nat×Bs)}(hn:(cn.map (·.1)).Nodup){c:Int}{p:Nat}{b:Bs}(h:(c,p,b)∈cn):Ex cn c=b:=by
 unfold Ex;cases hf:cn.find? (fun y=>y.1==c)with
 |none=>exact absurd (List.find?_eq_none.1 hf _ h) (by simp)
 |some y=>
  have e:y.1=c:=by simpa using List.find?_some hf
  have:y=(c,p,b):=ck (k:=fun y:Int×Nat×Bs=>y.1) hn (dT hf) h e;rw[this]
section
variable{base x tb:Nat}{g:Gh}{cn:List (Int×Nat×Bs)}{s:St}{w wr:World}{F:Ft}
theorem YR(T:Tabs base w)(h:(stA base x tb g cn s).holds w F)(c:Int)(hc:I6 c)(hd:s.drains c=false): ∃cm w2,w.cell? ⟨x,6,none⟩=some (.map (some cm))∧(Builtin.delete_ #[81,3] 0 #[.map (some cm), .int .i64 c]).run prog w= .ok (.tuple #[]) w2∧Goes (stA base x tb g (cn.filter fun k=>decide (k.1≠c)) s) w F w2:=by obtain⟨j,r1,r2,r3,hF,hh⟩:=h;obtain⟨cm,w2,c6,yB,hg⟩:=Eu hh c hc 0;exact⟨cm,w2,c6,yB,iD (s':=s) T hF (r1.YS c (by rw[r1.dr];exact hd)) r2 (Dt r3 c) hg⟩
theorem KZ(h:Goes (stA base x tb g cn s) w F wr)(c:Int)(r:Bs):Goes (stA base x tb g cn (s.di c r)) w F wr:=CF h rfl (fun _ hj=>hj.di c r)
end
structure RT(base x tb n0 tot:Nat)(s0:St)(c:Int)(b:Bs)(p:Nat)(w:World)(F:Ft)(rem:Bs)(g:Gh)(cn:List (Int×Nat×Bs))(kept:Bs)(s:St)(k:Nat)(wr:World):Prop where
 goes:Goes (stA base x tb g cn s) w F wr
 hk:(c,p,kept)∈cn
 nd:(cn.map (·.1)).Nodup
 kl:kept.length<=81
 mid:Mid n0 k s
 ok:Ok s
 busy:Busy s (fun _=>False)
 fin:s0.feed c b=St.Pb s c (St.l5 kept (bW 10 rem))
 cnt:k+(bW 10 rem).length<=tot
 cin:c∈s.aq.map (·.n)
 kof: ∀d,d≠c->Ex cn d=s.bG d
theorem Mid.sd{n m:Nat}{s:St}(h:Mid n m s)(ho:Ok s)(hn:n+m<=1300000):Sd (12*n+10*m+1) s:=⟨h.inv,ho,h.sz,h.bd.up (by omega)⟩
theorem IX{s:St}(c:Int)(l:Bs)(h:c∈s.aq.map (·.n)):c∈(s.line c l).aq.map (·.n):=by rw[<-St.abo,St.KT h,St.abo];exact h
theorem Ok.line{s:St}(h:Ok s)(hi:Inv s)(c:Int)(l:Bs):Ok (s.line c l):=by
 unfold St.line;split
 ·exact(h.message hi c _).serve (St.kd hi c _)
 ·exact h.say _ _
theorem Busy.line{s:St}(h:Busy s (fun _=>False))(hi:Inv s)(c:Int)(l:Bs):Busy (s.line c l) (fun _=>False):=by
 unfold St.line;split
 ·exact(h.message hi c _).serve (St.kd hi c _)
 ·exact h.say _ _
end Pj
namespace Pj
open Go.RowKit aM Mc bJ
attribute [local go_sem] ag ar
section
variable{base x tb n0 tot:Nat}{dz:World}{s0:St}{c:Int}{b:Bs}{p:Nat}{w:World}{F:Ft}{rem:Bs}{g:Gh}{cn:List (Int×Nat×Bs)}{kept:Bs}{s:St}{k:Nat}{wr:World}
def Out(base x tb:Nat)(s:St)(w:World)(F:Ft)(wr:World):Prop:= ∃ao n1 cap,wr.cell? ⟨tb,0,none⟩=some (.slice ao n1 cap)∧Hid (Goes (aa (Mr.iB (.slice ao n1 cap) s.out) (rB base x s.told)) w F wr)
theorem QS(h:Goes (stA base x tb g cn s) w F wr)(ho:Ok s)(hb:Busy s (fun _=>False))(hk: ∀d,Ex cn d=s.bG d):Out base x tb s w F wr:=by obtain⟨v,hv,bK⟩:=uU h ho hb hk;obtain⟨F6,xu,o6,n6⟩:=id bK;obtain⟨G6,zG,_⟩:=aM.left xu;obtain⟨ao,cap,ev,_⟩:=bC zG;rw[ev]at hv bK;exact⟨ao,_,cap,hv,bK⟩
theorem RT.last(T:Tabs base w)(hF: ∀k,F k->base<=k)(hc:I6 c)(h:RT base x tb n0 tot s0 c b p w F rem g cn kept s k wr)(pX:bW 10 rem= [rem])(og:rem.length<=2097152)(nd:Nat):Calls prog 49 #[pt p, .string ⟨rem.toArray⟩] (wr.drewN nd) fun e w3=>e= .returned (.tuple #[])∧ ∃nw:Bool,Hid (Calls prog 52 #[pt p] w3 fun e w4=>e= .returned (.bool nw)∧w4=w3)∧(nw=false->Hid (Out base x tb (s0.feed c b) w F w3))∧(nw=true->Hid (∃cm w5,w3.cell? ⟨x,6,none⟩=some (.map (some cm))∧(Builtin.delete_ #[81,3] 0 #[.map (some cm), .int .i64 c]).run prog w3= .ok (.tuple #[]) w5∧Out base x tb (s0.feed c b) w F w5)):=by
 have g0:=h.goes.drewN nd;have T1:Tabs base (wr.drewN nd):=T.goes hF g0;obtain⟨F1,cd,o1,n1⟩:=g0;have VT:s0.feed c b=s.di c ((kept++rem).take 81):=by rw[h.fin,pX,St.Ty,St.AP h.cin]
 refine(Oq T1 cd h.hk h.kl ⟨rem.toArray⟩ (by show rem.toArray.size<=_;simpa using(by omega:rem.length<=4194304))).mono ?_;rintro e w3⟨rfl,mW⟩;have Il:Goes (stA base x tb g (oZ cn c ((kept++rem).take 81)) s) (wr.drewN nd) F1 w3:=mW;have T3:=T1.goes (dx cd) Il;have kI:=aF o1 n1 Il;obtain⟨F3,iX,o3,n3⟩:=id kI;have pK:=uq h.hk ((kept++rem).take 81);have acM:((oZ cn c ((kept++rem).take 81)).map (·.1)).Nodup:=by rw[FQ];exact h.nd
 have XD:(s.di c ((kept++rem).take 81)).drains c=s.drains c:=St.qx s c _ c;have aaV: ∀d,Ex (oZ cn c ((kept++rem).take 81)) d=(s.di c ((kept++rem).take 81)).bG d:=fun d=>by
  rw[Ey _ (KU h.hk),St.JB _ d h.cin];by_cases e:d=c
  ·rw[if_pos e,if_pos e]
  ·rw[if_neg e,if_neg e];exact h.kof d e
 refine⟨rfl,_,P9 iX pK (by rw[List.length_take];omega),fun hnw=> ?_,fun hnw=> ?_⟩
 ·rw[VT];exact QS (KZ kI c _) (h.ok.di c _) h.busy aaV
 ·simp only[bZ,decide_eq_true_eq,Bool.not_eq_true']at hnw;obtain⟨cm,w5,c6,yB,hg5⟩:=YR T3 iX c hc hnw.2;refine⟨cm,w5,c6,yB, ?_⟩;rw[VT];refine QS (KZ (aF o3 n3 hg5) c _) (h.ok.di c _) h.busy (fun d=> ?_);rw[yO,<-aaV d];by_cases e:d=c
  ·rw[if_pos e,e,KN acM pK,hnw.1]
  ·rw[if_neg e]
theorem RT.next(L:kE base dz)(iO:Below base dz w)(T:Tabs base w)(hF: ∀k,F k->base<=k)(hc:I6 c)(Am:n0+tot<=1300000)(h:RT base x tb n0 tot s0 c b p w F rem g cn kept s k wr){a r:Bs}(pX:bW 10 rem=a::bW 10 r)(Xs:a.length<=2097152)(nd:Nat):Calls prog 49 #[pt p, .string ⟨a.toArray⟩] (wr.drewN nd) fun e w3=>e= .returned (.tuple #[])∧Hid (Calls prog 51 #[pt p] w3 fun e w4=> ∃l:Bs,e= .returned (.string ⟨l.toArray⟩)∧Hid (Calls prog 50 #[pt x,pt tb, .int .i64 c, .string ⟨l.toArray⟩] w4 fun e w5=>e= .returned (.tuple #[])∧Hid (∃g' NP s' k',RT base x tb n0 tot s0 c b p w F r g' NP [] s' k' w5))):=by
 have g0:=h.goes.drewN nd;have T1:Tabs base (wr.drewN nd):=T.goes hF g0;obtain⟨F1,cd,o1,n1⟩:=g0;have LZ:=h.cnt;rw[pX,List.length_cons]at LZ;refine(Oq T1 cd h.hk h.kl ⟨a.toArray⟩ (by show a.toArray.size<=_;simpa using(by omega:a.length<=4194304))).mono ?_;rintro e w3⟨rfl,mW⟩;have Il:Goes (stA base x tb g (oZ cn c ((kept++a).take 81)) s) (wr.drewN nd) F1 w3:=mW;have kI:=aF o1 n1 Il;have T3:Tabs base w3:=T.goes hF kI;obtain⟨F3,iX,o3,n3⟩:=kI;refine⟨rfl, ?_⟩;show Calls _ _ _ _ _;refine(Xf T3 iX (uq h.hk ((kept++a).take 81)) (by rw[List.length_take];omega)).mono ?_;rintro e w4⟨rfl,hg5⟩;rw[Rl]at hg5;have iJ:=aF o3 n3 hg5;have T4:Tabs base w4:=T.goes hF iJ;have l9:Below base dz w4:=by obtain⟨_,_,o,_⟩:=iJ;exact iO.trans (o.toBelow hF T.1)
 obtain⟨F4,th,o4,n4⟩:=iJ;refine⟨(kept++a).take 81,rfl, ?_⟩;show Calls _ _ _ _ _;have vW:=Mid.sd h.mid h.ok (by omega);have hw:(s.wait.length:Int)<=2*((n0:Int)+k):=by have:=h.mid.sz;unfold St.sz at this;omega
 refine(Ia L l9 T4 th vW (by omega) ⟨_,h.mid.bd,hw,by omega⟩ h.busy c hc (uq h.hk []) ((kept++a).take 81) (by rw[List.length_take];omega)).mono ?_;rintro e w5⟨rfl,g',u6⟩;refine⟨rfl,g',oZ cn c [],s.line c ((kept++a).take 81),k+1, ?_⟩;refine⟨aF o4 n4 u6,uq h.hk [],by rw[FQ];exact h.nd,by simp,h.mid.line c _,Pj.Ok.line h.ok h.mid.inv c _,Pj.Busy.line h.busy h.mid.inv c _, ?_,by omega,IX c _ h.cin,fun d hd=> ?_⟩
 ·rw[h.fin,pX,St.Pd s c kept a (BH 10 r),St.MC]
 ·rw[Ey _ (KU h.hk),if_neg hd,h.kof d hd,St.rest_of (St.KT h.cin _) d]
end
theorem O9{base:Nat}{dz:World}(L:kE base dz)(HT:su base dz)(x:Nat)(c:Int)(b:ByteArray)(n:Nat)(s:St)(w:World)(F:Ft)(hB:base<=w.heap.size)(hb:Below base dz w)(hc:Lw.I64 c)(hbs:b.size<=2097152)(hg:Mc.Good n s)(hn:n+(bW 10 b.data.toList).length<=1299999)(h:(rB base x s).holds w F):Calls prog 29 #[.pointer (some ⟨x,0,none⟩), .int .i64 c, .string b] w (Lw.RU (rB base x) (s.feed c b.data.toList) w F):=by
 have SD:Calls prog 39 #[pt x] w fun e w'=>e= .returned (.bool true)∧w=w':=(tL h).mono fun _ _ hh=>⟨hh.1,hh.2.symm⟩;have NR: ∀k,F k->base<=k:=by obtain⟨_,_,_,_,_,_,_,_,h,_⟩:=h;exact h
 obtain⟨g,cn,F1,ho,A6,Ir,oc,jJ,qc,n1,cd⟩:=yi hB h;have T:=HT.at hB hb;have tR:Below w.heap.size w (w.alloc (.cells #[.slice none 0 0] 94)):=(ah _ _).alloc (ae _) _;have o1:Only F w (w.alloc (.cells #[.slice none 0 0] 94)):=(Only.refl F w).alloc _;have T1:Tabs base (w.alloc (.cells #[.slice none 0 0] 94)):=T.new tR;generalize kK:w.alloc (.cells #[.slice none 0 0] 94)=w1 at*;have cg:=hg.sz;have hI6:I6 c:=I6.of hc.1 hc.2;obtain⟨bl,px⟩: ∃bl:Bs,b=⟨bl.toArray⟩:=⟨b.data.toList,by simp⟩;have ebl:b.data.toList=bl:=by rw[px]
 have aco:bl.length<=2097152:=by rw[px]at hbs;simpa[ByteArray.size]using hbs
 rw[ebl]at hn⊢;subst px;have RY:Hid (Calls prog 47 #[pt x, .int .i64 c] w1 fun e w2=> ∃p,e= .returned (pt p)∧ ∃g cn kept s' k,Hid (RT base x w.heap.size n (bW 10 bl).length s c bl p w F bl g cn kept s' k w2)):=by
  show Calls _ _ _ _ _;refine(ny T1 qc hg.inv (by omega) c hI6).mono ?_;rintro e w2⟨p,kept,NP,rfl,hk,hor,ld⟩;refine⟨p,rfl,g,NP,kept,s.conn c,0, ?_⟩;have hkc:kept=s.bG c∧(NP.map (·.1)).Nodup∧ ∀d,Ex NP d=s.bG d:=by
   rcases hor with⟨rfl,jU⟩|⟨sI,rfl,rfl⟩
   ·exact⟨by rw[<-oc c];exact(KN jJ jU).symm,jJ,oc⟩
   ·have A7:s.bG c= []:=by
     rw[<-oc c];unfold Ex;rw[List.find?_eq_none.2 (fun y hy e=>sI (aA.2 ⟨y,hy,by simpa using e⟩))]
    refine⟨A7.symm, ?_,fun d=> ?_⟩
    ·rw[aH,List.nodup_append];refine⟨jJ,by simp,fun u hu v hv e=>sI ?_⟩;simp at hv;rw[<-hv,<-e];exact hu
    ·rw[<-oc d];unfold Ex;rw[List.find?_append];cases hf:cn.find? (fun y=>y.1==d)with
     |some y=>rfl
     |none=>
      by_cases e:c=d
      ·subst e;simp
      ·simp[e]
  refine⟨aF o1 n1 ld,hk,hkc.2.1, ?_,hg.conn c,ho.conn c,A6.conn c, ?_,by omega,Bh s c,fun d _=> ?_⟩
  ·rw[hkc.1];unfold St.bG;split
   ·rename_i y hy;exact hg.rs y.rest (aA.2 ⟨y,dT hy,rfl⟩)
   ·simp
  ·rw[hkc.1];exact St.tM s c bl
  ·rw[St.Lz];exact hkc.2.2 d
 have ie:Hid (∀rem:Bs,rem.length<=2097152-> ∀wr,Below base dz wr->Calls prog 48 #[.string ⟨rem.toArray⟩, .string ⟨#[10]⟩] wr fun e w'=>e= .returned (.tuple #[.string ⟨(Lib.cut rem [10]).1.toArray⟩, .string ⟨(Lib.cut rem [10]).2.1.toArray⟩, .bool (Lib.cut rem [10]).2.2])∧ ∃n,w'=wr.drewN n):=fun rem hr wr yz=>L.cut ⟨rem.toArray⟩ wr (by show rem.toArray.size<=_;simpa using(by omega:rem.length<=4194304)) yz;have HBW:Hid (∀p rem g cn kept s' k wr,RT base x w.heap.size n (bW 10 bl).length s c bl p w F rem g cn kept s' k wr->Below base dz wr):=fun p rem g cn kept s' k wr hf=>by obtain⟨_,_,o,_⟩:=hf.goes;exact hb.trans (o.toBelow NR T.1)
 have HLA:Hid (∀p rem g cn kept s' k wr,RT base x w.heap.size n (bW 10 bl).length s c bl p w F rem g cn kept s' k wr->bW 10 rem= [rem]->rem.length<=2097152-> ∀nd,Calls prog _ _ _ _):=fun p rem g cn kept s' k wr hf h1 h2 nd=>hf.last T NR hI6 h1 h2 nd;have uM:Hid (∀p rem g cn kept s' k wr,RT base x w.heap.size n (bW 10 bl).length s c bl p w F rem g cn kept s' k wr-> ∀a r,bW 10 rem=a::bW 10 r->a.length<=2097152-> ∀nd,Calls prog _ _ _ _):=fun p rem g cn kept s' k wr hf a r h1 h2 nd=>hf.next L hb T NR hI6 (by omega) h1 h2 nd;clear h qc hg A6 T1 o1 n1 oc jJ L HT T hb Ir ho;unfold pt at*;subst kK;generalize(bW 10 bl).length=tot at*;go_enter func29,ntmps29;go_wp2_with (first
  |(go_at_call 39;go_must(refine SD.mono ?_;rintro e wz⟨rfl,rfl⟩))
  |(go_at_call 47;go_must(refine RY.out.mono ?_;rintro e w2⟨p,rfl,g,cn,kept,s',k,Y1⟩;clear RY)))
 go_loopw [2] (fun bv wr=> ∃rem:Bs,bv= .string ⟨rem.toArray⟩∧rem.length<=2097152∧ ∃g cn kept s' k,Hid (RT base x w.heap.size n tot s c bl p w F rem g cn kept s' k wr)) (fun bv _=>match bv with| .string t=>t.size|_=>0)
 case atStart=>exact⟨bl,rfl,aco,g,cn,kept,s',k,Y1⟩
 case round=>
  obtain⟨rem,rfl,og,g1,cn1,Wk,s1,k1,ZF⟩:=hrel;have HC:=hide (ie.out rem og wr (HBW.out _ _ _ _ _ _ _ _ ZF.out));rcases Tg 10 rem with⟨PB,pX,_⟩|⟨a,r,PB,pX,_,hsp⟩
  ·rw[PB]at HC;have HL:=hide (HLA.out p rem g1 cn1 Wk s1 k1 wr ZF.out pX og);clear ie HBW HLA uM ZF Y1 PB pX;dsimp only at HC;go_wp2_with (first
    |(go_at_call 48;go_must(refine HC.out.mono ?_;rintro e w3⟨rfl,nd,rfl⟩;have GH:=hide (HL.out nd);clear HL HC))
    |(go_at_call 49;go_must(refine GH.out.mono ?_;rintro e w4⟨rfl,nw,Lb,Mj,qb⟩;have HN0:=hide Mj;have WI:=hide qb;clear Mj qb GH)))
   cases nw
   ·obtain⟨ao,nn,cap,hcell,HG⟩:=(HN0.out (by first|rfl|trivial)).out;clear HN0 WI;go_wp2_with (first
     |(go_at_call 52;go_must(refine Lb.out.mono ?_;rintro e w5⟨rfl,rfl⟩)))
    go_ret;exact⟨_,rfl,HG.out⟩
   ·obtain⟨cm,w6,c6,yB,ao,nn,cap,hcell,HG⟩:=(WI.out (by first|rfl|trivial)).out;clear HN0 WI;go_wp2_with (first
     |(go_at_call 52;go_must(refine Lb.out.mono ?_;rintro e w5⟨rfl,rfl⟩)))
    go_ret;exact⟨_,rfl,HG.out⟩
  ·rw[PB]at HC;have hlen:rem.length=a.length+r.length+1:=by rw[hsp];simp;omega
   have HX:=hide (uM.out p rem g1 cn1 Wk s1 k1 wr ZF.out a r pX (by omega));clear ie HBW HLA uM ZF Y1 PB pX hsp;dsimp only at HC;go_wp2_with (first
    |(go_at_call 48;go_must(refine HC.out.mono ?_;rintro e w3⟨rfl,nd,rfl⟩;have J1:=hide (HX.out nd);clear HX HC))
    |(go_at_call 49;go_must(refine J1.out.mono ?_;rintro e w4⟨rfl,HEN⟩;clear J1))
    |(go_at_call 51;go_must(refine HEN.out.mono ?_;rintro e w5⟨l,rfl,HHA⟩;clear HEN))
    |(go_at_call 50;go_must(refine HHA.out.mono ?_;rintro e w6⟨rfl,WJ⟩;clear HHA)))
   go_roundw
   case rel=>obtain⟨g',NP,s',k',hf⟩:=WJ.out;exact⟨r,rfl,by omega,g',NP, [],s',k',hf⟩
   case measure=>simp[ByteArray.size];omega
end Pj
namespace bJ
open Go.RowKit Go.Lib
variable{w W:World}
theorem Pe:(Rows.laid_unicode_utf8_first:DataW Unit)=firstData:=by kernel_rfl
theorem Le:(Rows.laid_unicode_utf8_acceptRanges:DataW Unit)=acceptData:=by kernel_rfl
theorem pow_eq:(Rows.laid_internal_strconv_uint64pow10:DataW Unit)=tabData .u64 pow10Tab:=by kernel_rfl
theorem Ho{B:Nat}{w':World}(h:Lib.Utf8Tabs 1 2 w)(hb:Below B w w')(hB:2<B):Lib.Utf8Tabs 1 2 w':=
 ⟨fun c hc=>by rw[hb.cell (p:=⟨1,c,none⟩) (by show 1<B;omega)];exact h.1 c hc,fun i hi=>⟨by rw[hb.cell (p:=⟨2,2*i,none⟩) hB];exact(h.2 i hi).1,by rw[hb.cell (p:=⟨2,2*i+1,none⟩) hB];exact(h.2 i hi).2⟩⟩
theorem cell_lt{a:Addr}{v:Value}(h:w.cell? a=some v):a.block<w.heap.size:=by
 unfold World.cell? at h;split at h
 ·rename_i hb;exact(cT.1 hb).1
 ·cases h
theorem CL{P:Program}{name:String}{k:IntKind}{zs:List Int}{g:Nat}{t e:TypeId}{n:Nat}(hg:P.globalNamed name=some g)(hty:(P.globals[g]?).map (·.type)=some t)(ht:P.underlying t=some (.array n e))(he:P.underlying e=some (.int k))(hce:P.cellsOf e=1)(NV:P.cellsOf t=n)(h:VarReads P W name (tabData k zs)):TabIs P W name k zs:=by obtain⟨g',t',cs,fuel,p,kQ,El,acW,hd⟩:=h;obtain rfl:=Option.some.inj (hg.symm.trans kQ);obtain rfl:=Option.some.inj (hty.symm.trans El);unfold TabIs;rw[acW,<-cells_of_tab ht he hce NV hd]
theorem Qm(hL:laidMetH prog Rows.badsRow.laid W)(oh:W.ShapedOpen prog):kE W.heap.size W∧Pj.su W.heap.size W:=by
 have hL':laidMet prog Rows.badsRow.laid W:=by rw[<-Go.MakeChecks.laidMetH_plain prog _ W (by kernel_rfl)];exact hL
 have hT:Lib.Utf8Tabs 1 2 W:=by
  refine utf8Tabs_of_readsT (U8Types.of196 valid) ⟨by kernel_rfl,by kernel_rfl,by kernel_rfl,by kernel_rfl,by kernel_rfl,by kernel_rfl,by kernel_rfl⟩ ?_ ?_
  ·rw[<-Pe];exact laidMet.reads hL' (by simp[Rows.badsRow])
  ·rw[<-Le];exact laidMet.reads hL' (by simp[Rows.badsRow])
 have hP:TabIs prog W "internal/strconv.uint64pow10" .u64 pow10Tab:=by refine CL (g:=3) (t:=304) (e:=255) (n:=20) (by kernel_rfl) (by kernel_rfl) (by kernel_rfl) (by kernel_rfl) (by kernel_rfl) (by kernel_rfl) ?_;rw[<-pow_eq];exact laidMet.reads hL' (by simp[Rows.badsRow])
 obtain⟨m,hm⟩:=cell_of_shapedOpen_int (P:=prog) (g:=0) (t:=3) (zero:= #[.int .i64 0]) oh (of_decide_eq_true (by kernel_rfl)) (by kernel_rfl) rfl (by kernel_rfl) (by kernel_rfl) underlying3;have h2:2<W.heap.size:=cell_lt (hT.2 0 (by omega)).1;have Eg: ∀w,Below W.heap.size W w->w.cell? ⟨0,0,none⟩=some (.int .i64 m):=fun w hb=>by rw[hb.cell (p:=⟨0,0,none⟩) (by show 0<W.heap.size;omega)];exact hm
 have h3:3<W.heap.size:=cell_lt (hP.cell (g:=3) (by kernel_rfl) 0 (by decide));refine⟨⟨fun s w hs hb=>Any.utf8_ValidString valid s w (by omega) (Ho hT hb h2),fun s w hs hb=> ?_,fun s w hs hb=> ?_⟩,fun w hb=> ?_⟩
 ·refine(Any.strings_Split split (by kernel_rfl) s ⟨#[32]⟩ m w (by omega) (Eg w hb) (by decide)).mono ?_;rintro e w'⟨rfl,rfl⟩;obtain⟨e1,e2⟩:=JC 32 s;rw[e1,e2];exact⟨rfl,rfl⟩
 ·exact Any.strings_Cut cut s ⟨#[10]⟩ m w (by omega) (Eg w hb)
 ·unfold TabIs World.var? at hP⊢;have hg:prog.globalNamed "internal/strconv.uint64pow10" =some 3:=by kernel_rfl
  rw[hg]at hP⊢;dsimp only[Option.bind_some]at hP⊢;rw[hb.block 3 h3];exact hP
end bJ
namespace Pj
open Go.RowKit aM Mc bJ
def mr(base:Nat)(dz:World):Prop:=kE base dz∧su base dz
theorem mr.below{w w1:World}(h:mr w.heap.size w)(hb:Below w.heap.size w w1):mr w1.heap.size w1:=
 ⟨⟨fun s w' hs iI=>h.1.valid s w' hs (hb.trans (iI.mono hb.size)),fun s w' hs iI=>h.1.split s w' hs (hb.trans (iI.mono hb.size)),fun s w' hs iI=>h.1.cut s w' hs (hb.trans (iI.mono hb.size))⟩,fun w' iI=>h.2 w' (hb.trans (iI.mono hb.size))⟩
def prj{base:Nat}{dz:World}(h:mr base dz):Lw.uO base dz where
 A:=rB base
 new o w hB _ _ _ _ _ _:=UL o w hB
 feed x c b n s w F hB hb hc hbs hg hn hA:=O9 h.1 h.2 x c b n s w F hB hb hc hbs hg hn hA
 tick x n s w F hB hb hg hn hA:=RD h.2 x n s w F hB hb hg hn hA
 close x c n s w F hB hb hc hg hn hA:=Lv h.2 x c n s w F hB hb hc hg hn hA
 look x n s w F _ _ hg hn hA:=Qs x n s w F hg hn hA
 sums s w _ _ hs:=aL.Rk s w hs
