import Derived.Test.YtffamlbkmjmipaaGreatDoorC35
import Derived.Test.YtffamlbkmjmipaaGreatDoorC38
import Derived.Test.YtffamlbkmjmipaaGreatDoorC39
set_option maxHeartbeats 8000000
set_option maxRecDepth 100000
namespace Go.Proofs.YtffamlbkmjmipaaGreatDoor
open _root_.Go.Proofs.Tryz
namespace Pj
open Go.RowKit aM Mc bJ
attribute [local go_sem] ag ar
variable{n:Nat}{s:St}
theorem Sd.message(h:Sd n s)(c:Int){m:Mg}(hm:Bd.bJ m)(hP: ∃P:Int,Bd P s∧(s.wait.length:Int)<=P∧P+1<=4398046511104):Sd (n+10) (s.message c m):=by obtain⟨P,h1,h2,h3⟩:=hP;refine⟨St.kd h.inv c m,h.ok.message h.inv c m, ?_,(h1.message h.inv c hm h2).up h3⟩;have:=St.sM (s:=s) c m;have:=h.sz;omega
theorem Ia{base x tb:Nat}{dz:World}(L:kE base dz){g:Gh}{cn:List (Int×Nat×Bs)}{w:World}{F:Ft}(iO:Below base dz w)(T:Tabs base w)(h:(stA base x tb g cn s).holds w F)(hs:Sd n s)(hn:n<=16770000)(hP: ∃P:Int,Bd P s∧(s.wait.length:Int)<=P∧P+1<=4398046511104)(A6:Busy s (fun _=>False))(c:Int)(hc:I6 c){p:Nat}{b:Bs}(hk:(c,p,b)∈cn)(l:Bs)(hl:l.length<=4194304):Calls prog 50 #[pt x,pt tb, .int .i64 c,bs l] w fun e w'=>e= .returned (.tuple #[])∧ ∃g',Goes (stA base x tb g' cn (s.line c l)) w F w':=by
 have hz:=hs.sz;have R4:Hid (Calls prog 87 #[.string ⟨l.toArray⟩] w fun e w'=>e= .returned (.tuple #[.string ⟨(dm l).toArray⟩, .bool (fF l)])∧Below w.heap.size w w'):=aL.MP ⟨l.toArray⟩ w (by simpa[ByteArray.size]using hl);have vU:(⟨(dm l).toArray⟩:ByteArray).size<=4194304:=Fa (s:=⟨l.toArray⟩) (by simpa[ByteArray.size]using hl);have NL:Hid (∀w1,Below w.heap.size w w1->Calls prog 88 #[.string ⟨(dm l).toArray⟩] w1 fun e w2=> ∃M:Mg,e= .returned (.tuple #[.agg #[.string ⟨M.kind.toArray⟩, .int .i64 M.id, .int .i64 M.bS, .string ⟨M.ten.toArray⟩, .string ⟨M.txt.toArray⟩], .bool (dJ (dm l)).2])∧Hid (((dJ (dm l)).2=true->M=(dJ (dm l)).1)∧Below w.heap.size w w2)):=fun w1 b1=>by refine(MU L ⟨(dm l).toArray⟩ w1 vU (iO.trans (b1.mono T.1)) (aw T.1 b1.size)).mono ?_;rintro e w2⟨M,rfl,hM,b2⟩;exact⟨M,rfl,hM,b1.trans (b2.mono b1.size)⟩
 have gq:Hid (∀w2 M,Below w.heap.size w w2->jz l=false->Calls prog 89 #[pt tb, .int .i64 c, .slice (some ⟨w2.heap.size+1,0,none⟩) 1 1] ((w2.alloc (.cells (Mg.cs M) 149)).alloc (.cells #[.iface 9 (.string ⟨#[98,97,100]⟩)] 20)) fun e w'=>e= .returned (.tuple #[])∧ ∃g',Goes (stA base x tb g' cn (s.line c l)) w F w'):=fun w2 M b2 hm=>by
  have b1:Below w.heap.size w (w2.alloc (.cells (Mg.cs M) 149)):=b2.alloc b2.size _;have e1:(w2.alloc (.cells (Mg.cs M) 149)).heap.size=w2.heap.size+1:=by simp
  generalize w2.alloc (.cells (Mg.cs M) 149)=w1 at*;rw[<-e1];refine(CE T h (by omega) c [.s [98,97,100]] [98,97,100] rfl (by simp) (by simp) (by intro p hp;simp at hp;rw[hp];exact Part.vy (by decide)) w1 b1).mono ?_;rintro e w'⟨rfl,hg⟩;refine⟨rfl,g, ?_⟩;unfold St.line;rw[if_neg (by rw[hm];simp)];exact hg
 have Za:Hid (∀w2 M,Below w.heap.size w w2->jz l=true->M=(dJ (dm l)).1->Calls prog 90 #[pt x,pt tb, .int .i64 c, .agg (Mg.cs M)] (w2.alloc (.cells (Mg.cs M) 149)) fun e w2=>e= .returned (.tuple #[])∧
   Hid (Calls prog 42 #[pt x,pt tb] w2 fun e w'=>e= .returned (.tuple #[])∧ ∃g',Goes (stA base x tb g' cn (s.line c l)) w F w')):=fun w2 M b2 hm hM=>by
  have b1:Below w.heap.size w (w2.alloc (.cells (Mg.cs M) 149)):=b2.alloc b2.size _;generalize w2.alloc (.cells (Mg.cs M) 149)=w1 at*;have Ah:=Mc.Ct hm;have eM:M=lR l:=hM;have g1:=(Goes.refl h).below b1;have T1:=T.new b1;obtain⟨F1,cd,o1,n1⟩:=g1;rw[eM];refine(QL T1 cd hs (by omega) A6 c hc hk (lR l) Ah).mono ?_;rintro e w2⟨rfl,g2,ld⟩;refine⟨rfl, ?_⟩;have g3:=aF o1 n1 ld;have T2:=T.goes (dx h) g3;obtain⟨F2,eX,o2,n2⟩:=g3;show Calls _ _ _ _ _;refine(yx T2 eX (hs.message c Ah.bd hP) (by omega)).mono ?_;rintro e w'⟨rfl,g',kQ⟩;refine⟨rfl,g', ?_⟩;unfold St.line;rw[if_pos hm];exact aF o2 n2 kQ
 have JX:Hid (jz l=(fF l &&(dJ (dm l)).2)):=rfl;clear h hs hP A6 hk L iO T vU;unfold Mg.cs pt bs at*;generalize dm l=os at*;cases ho:fF l
 ·rw[ho]at R4 JX;have HNM:Hid (jz l=false):=JX.out.trans (by simp);clear Za JX ho;generalize(dJ os).2=kb at*;go_enter func50,ntmps50;go_wp2_with (first
   |(go_at_call 87;go_must(refine R4.out.mono ?_;rintro e w1⟨rfl,b1⟩;have SK:=hide (NL.out w1 b1);clear b1))
   |(go_at_call 88;go_must(refine SK.out.mono ?_;rintro e w2⟨M,rfl,HM⟩))
   |(go_at_call 89;go_must(refine(gq.out w2 M HM.out.2 HNM.out).mono ?_;rintro e w3⟨rfl,hg⟩;have HG:=hide hg;clear hg)))
  (try simp only[Exit.inBlock,Exit.then])
  exact bodyPost_ret (results_none rfl _ _ _) rfl ⟨rfl,HG.out⟩
 ·rw[ho]at R4 JX;cases TW:(dJ os).2
  ·rw[TW]at NL JX;have HNM:Hid (jz l=false):=JX.out.trans (by simp);clear Za JX ho TW;go_enter func50,ntmps50;go_wp2_with (first
    |(go_at_call 87;go_must(refine R4.out.mono ?_;rintro e w1⟨rfl,b1⟩;have SK:=hide (NL.out w1 b1);clear b1))
    |(go_at_call 88;go_must(refine SK.out.mono ?_;rintro e w2⟨M,rfl,HM⟩))
    |(go_at_call 89;go_must(refine(gq.out w2 M HM.out.2 HNM.out).mono ?_;rintro e w3⟨rfl,hg⟩;have HG:=hide hg;clear hg)))
   (try simp only[Exit.inBlock,Exit.then])
   exact bodyPost_ret (results_none rfl _ _ _) rfl ⟨rfl,HG.out⟩
  ·rw[TW]at NL JX;have HYM:Hid (jz l=true):=JX.out.trans (by simp);clear gq JX ho TW;go_enter func50,ntmps50;go_wp2_with (first
    |(go_at_call 87;go_must(refine R4.out.mono ?_;rintro e w1⟨rfl,b1⟩;have SK:=hide (NL.out w1 b1);clear b1))
    |(go_at_call 88;go_must(refine SK.out.mono ?_;rintro e w2⟨M,rfl,HM⟩))
    |(go_at_call 90;go_must(refine(Za.out w2 M HM.out.2 HYM.out (HM.out.1 (by first|rfl|trivial))).mono ?_;rintro e w3⟨rfl,ZM⟩))
    |(go_at_call 42;go_must(refine ZM.out.mono ?_;rintro e w4⟨rfl,hg⟩;have HG:=hide hg;clear hg)))
   go_end0;exact⟨rfl,HG.out⟩
def oZ(cn:List (Int×Nat×Bs))(c:Int)(b:Bs):List (Int×Nat×Bs):=cn.map fun y=>if y.1=c then(y.1,y.2.1,b)else y
theorem uq{cn:List (Int×Nat×Bs)}{c:Int}{p:Nat}{b:Bs}(h:(c,p,b)∈cn)(b':Bs):(c,p,b')∈oZ cn c b':=aA.2 ⟨_,h,by simp⟩
theorem Rl(cn:List (Int×Nat×Bs))(c:Int)(b b':Bs):oZ (oZ cn c b) c b'=oZ cn c b':=by unfold oZ;rw[aG];refine bY fun y _=> ?_;simp only[Function.comp_def];by_cases e:y.1=c<;>simp[e]
section
variable{base x tb:Nat}{g:Gh}{cn:List (Int×Nat×Bs)}{s:St}{w w':World}{F:Ft}
theorem Td{j:Js}(hc:jx j=cn)(c:Int)(b:Bs):jx {j with bT:=upd (fun k:Kn=>k.n) c (fun k=>{k with kept:=b}) j.bT}=oZ cn c b:=by subst hc;unfold jx oZ upd;dsimp only;rw[aG,aG];refine bY fun k _=> ?_;simp only[Function.comp_def];by_cases e:k.n=c<;>simp[e]
theorem KP{f:FuncId}{args:Array Value}{v:Ending}(T:Tabs base w)(h:(stA base x tb g cn s).holds w F){c:Int}{p:Nat}{b b':Bs}(hk:(c,p,b)∈cn)(call: ∀dr kv G,(aa (EA p dr kv) (KO kv b)).holds w G->Calls prog f args w fun e w'=>e=v∧ ∃IP,Goes (aa (EA p dr IP) (KO IP b')) w G w'):Calls prog f args w fun e w'=>e=v∧Goes (stA base x tb g (oZ cn c b') s) w F w':=by obtain⟨j,r1,r2,r3,hF,hh⟩:=h;obtain⟨k,GQ,rfl,rfl,rfl⟩:=KQ r3 hk;obtain⟨cm,kv,c6,od,wS,zP⟩:=KM hh r1.cnd GQ;obtain⟨G,H,ha,hb,d,e⟩:=aB wS (bX _ _ _).symm;refine(call k.dr kv G ha).mono ?_;rintro e' w'⟨rfl,IP,hg⟩;refine⟨rfl, ?_⟩;have g1:=(aV hb hg d e).eq (bX _ _ _);have g2:=zP (fun k=>{k with kept:=b'}) rfl rfl IP w' g1;exact iD (s':=s) T hF (r1.bytes (fun k=>{k with kept:=b'}) (fun _=>rfl) (fun _=>rfl) k.n) r2 (Td r3 k.n b') g2
theorem Oq(T:Tabs base w)(h:(stA base x tb g cn s).holds w F){c:Int}{p:Nat}{b:Bs}(hk:(c,p,b)∈cn)(hb:b.length<=81)(t:ByteArray)(ht:t.size<=4194304):Calls prog 49 #[pt p, .string t] w fun e w'=>e= .returned (.tuple #[])∧Goes (stA base x tb g (oZ cn c ((b++t.data.toList).take 81)) s) w F w':=
 KP T h hk fun dr kv G hG=>QT p dr kv b t w G hG hb ht
theorem Xf(T:Tabs base w)(h:(stA base x tb g cn s).holds w F){c:Int}{p:Nat}{b:Bs}(hk:(c,p,b)∈cn)(hb:b.length<=81):Calls prog 51 #[pt p] w fun e w'=>e= .returned (bs b)∧Goes (stA base x tb g (oZ cn c []) s) w F w':=
 KP T h hk fun dr kv G hG=>QU p dr kv b w G hG hb
theorem P9(h:(stA base x tb g cn s).holds w F){c:Int}{p:Nat}{b:Bs}(hk:(c,p,b)∈cn)(hb:b.length<=81):Calls prog 52 #[pt p] w fun e w'=>e= .returned (.bool (decide (b= []) && !s.drains c))∧w'=w:=by
 obtain⟨j,r1,r2,r3,hF,hh⟩:=h;obtain⟨k,GQ,rfl,rfl,rfl⟩:=KQ r3 hk;obtain⟨cm,kv,c6,od,wS,zP⟩:=KM hh r1.cnd GQ;obtain⟨G,H,ha,_,_,_⟩:=aB wS (bX _ _ _).symm;have HE:=Ji k.p k.dr kv k.kept w G ha hb;obtain⟨px,_⟩:=tU ha;have c1:w.cell? ⟨k.p,1,none⟩=some (.bool k.dr):=by simp only[World.cell?,px];rfl
 rw[VM r1 GQ];clear hh wS zP ha od r1 r2 r3 px;unfold pt at*;generalize k.p=p at*;generalize k.dr=dr at*;cases hd:decide (k.kept= [])
 ·rw[hd]at HE;go_enter func52,ntmps52;go_wp2_with (first|(go_at_call 91;go_must(refine HE.mono ?_;rintro e w1⟨rfl,rfl⟩)));go_ret;exact⟨by simp,rfl⟩
 ·rw[hd]at HE;go_enter func52,ntmps52;go_wp2_with (first|(go_at_call 91;go_must(refine HE.mono ?_;rintro e w1⟨rfl,rfl⟩)));go_ret;exact⟨by simp,rfl⟩
theorem Uy{B:aM}{j:Js}(h:(aa (jA x g j) B).holds w F):Calls prog 39 #[pt x] w fun e w'=>e= .returned (.bool true)∧w'=w:=by obtain⟨G,hj,_⟩:=aM.left h;obtain⟨v,hv⟩:=hj;have c6:w.cell? ⟨x,6,none⟩=some (.map (some v.cm)):=(yN hv).1 6;generalize v.cm=mb at*;have KD: ∀w:World,(binOp .neq 81 (.map (some mb)) (.map none)).run prog w= .ok (.bool true) w:=fun w=>run_neq_map_nil w _ _ _ _ underlying81;clear h hv;unfold pt;go_enter func39,ntmps39;go_wp2;go_ret;exact⟨rfl,rfl⟩
