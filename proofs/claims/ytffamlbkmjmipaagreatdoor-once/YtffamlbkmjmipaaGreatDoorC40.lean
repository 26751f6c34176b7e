import Derived.Test.YtffamlbkmjmipaaGreatDoorC35
import Derived.Test.YtffamlbkmjmipaaGreatDoorC38
import Derived.Test.YtffamlbkmjmipaaGreatDoorC39
set_option maxHeartbeats 8000000
set_option maxRecDepth 100000
namespace Go.Proofs.YtffamlbkmjmipaaGreatDoor
open _root_.Go.Proofs.Tryz
namespace Pj
open Go.RowKit aJ Mc bG
attribute [local go_sem] ae ag
variable{n:Nat}{s:St}
theorem Sd.message(h:Sd n s)(c:Int){m:Mg}(hm:Bd.bG m)(hP: ∃P:Int,Bd P s∧(s.wait.length:Int)<=P∧P+1<=4398046511104):Sd (n+10) (s.message c m):=by obtain⟨P,h1,h2,h3⟩:=hP;refine⟨St.ku h.inv c m,h.ok.message h.inv c m, ?_,(h1.message h.inv c hm h2).up h3⟩;have:=St.yu (s:=s) c m;have:=h.sz;omega
theorem Ge{base x tb:Nat}{cg:World}(L:iP base cg){g:Gh}{cn:List (Int×Nat×Bs)}{w:World}{F:Ft}(vv:Below base cg w)(T:Tabs base w)(h:(stA base x tb g cn s).holds w F)(hs:Sd n s)(hn:n<=16770000)(hP: ∃P:Int,Bd P s∧(s.wait.length:Int)<=P∧P+1<=4398046511104)(zZ:Busy s (fun _=>False))(c:Int)(hc:I6 c){p:Nat}{b:Bs}(hk:(c,p,b)∈cn)(l:Bs)(hl:l.length<=4194304):Calls prog 50 #[pt x,pt tb, .int .i64 c,bs l] w fun e w'=>e= .returned (.tuple #[])∧ ∃g',Goes (stA base x tb g' cn (s.line c l)) w F w':=by
 have hz:=hs.sz;have Yc:Hid (Calls prog 87 #[.string ⟨l.toArray⟩] w fun e w'=>e= .returned (.tuple #[.string ⟨(di l).toArray⟩, .bool (fZ l)])∧Below w.heap.size w w'):=aG.KW ⟨l.toArray⟩ w (by simpa[ByteArray.size]using hl);have ZB:(⟨(di l).toArray⟩:ByteArray).size<=4194304:=Qo (s:=⟨l.toArray⟩) (by simpa[ByteArray.size]using hl);have Yf:Hid (∀w1,Below w.heap.size w w1->Calls prog 88 #[.string ⟨(di l).toArray⟩] w1 fun e w2=> ∃M:Mg,e= .returned (.tuple #[.agg #[.string ⟨M.kind.toArray⟩, .int .i64 M.id, .int .i64 M.bF, .string ⟨M.ten.toArray⟩, .string ⟨M.txt.toArray⟩], .bool (gH (di l)).2])∧Hid (((gH (di l)).2=true->M=(gH (di l)).1)∧Below w.heap.size w w2)):=fun w1 b1=>by refine(K5 L ⟨(di l).toArray⟩ w1 ZB (vv.trans (b1.mono T.1)) (ar T.1 b1.size)).mono ?_;rintro e w2⟨M,rfl,hM,b2⟩;exact⟨M,rfl,hM,b1.trans (b2.mono b1.size)⟩
 have j8:Hid (∀w2 M,Below w.heap.size w w2->ju l=false->Calls prog 89 #[pt tb, .int .i64 c, .slice (some ⟨w2.heap.size+1,0,none⟩) 1 1] ((w2.alloc (.cells (Mg.cs M) 149)).alloc (.cells #[.iface 9 (.string ⟨#[98,97,100]⟩)] 20)) fun e w'=>e= .returned (.tuple #[])∧ ∃g',Goes (stA base x tb g' cn (s.line c l)) w F w'):=fun w2 M b2 hm=>by
  have b1:Below w.heap.size w (w2.alloc (.cells (Mg.cs M) 149)):=b2.alloc b2.size _;have e1:(w2.alloc (.cells (Mg.cs M) 149)).heap.size=w2.heap.size+1:=by simp
  generalize w2.alloc (.cells (Mg.cs M) 149)=w1 at*;rw[<-e1];refine(BF T h (by omega) c [.s [98,97,100]] [98,97,100] rfl (by simp) (by simp) (by intro p hp;simp at hp;rw[hp];exact Part.tO (by decide)) w1 b1).mono ?_;rintro e w'⟨rfl,hg⟩;refine⟨rfl,g, ?_⟩;unfold St.line;rw[if_neg (by rw[hm];simp)];exact hg
 have HOB:Hid (∀w2 M,Below w.heap.size w w2->ju l=true->M=(gH (di l)).1->Calls prog 90 #[pt x,pt tb, .int .i64 c, .agg (Mg.cs M)] (w2.alloc (.cells (Mg.cs M) 149)) fun e w2=>e= .returned (.tuple #[])∧
   Hid (Calls prog 42 #[pt x,pt tb] w2 fun e w'=>e= .returned (.tuple #[])∧ ∃g',Goes (stA base x tb g' cn (s.line c l)) w F w')):=fun w2 M b2 hm hM=>by
  have b1:Below w.heap.size w (w2.alloc (.cells (Mg.cs M) 149)):=b2.alloc b2.size _;generalize w2.alloc (.cells (Mg.cs M) 149)=w1 at*;have BZ:=Mc.GU hm;have eM:M=rR l:=hM;have g1:=(Goes.refl h).below b1;have T1:=T.new b1;obtain⟨F1,bU,o1,n1⟩:=g1;rw[eM];refine(Qj T1 bU hs (by omega) zZ c hc hk (rR l) BZ).mono ?_;rintro e w2⟨rfl,g2,fw⟩;refine⟨rfl, ?_⟩;have g3:=aC o1 n1 fw;have T2:=T.goes (cB h) g3;obtain⟨F2,gV,o2,n2⟩:=g3;show Calls _ _ _ _ _;refine(wC T2 gV (hs.message c BZ.bd hP) (by omega)).mono ?_;rintro e w'⟨rfl,g',jI⟩;refine⟨rfl,g', ?_⟩;unfold St.line;rw[if_pos hm];exact aC o2 n2 jI
 have Jy:Hid (ju l=(fZ l &&(gH (di l)).2)):=rfl;clear h hs hP zZ hk L vv T ZB;unfold Mg.cs pt bs at*;generalize di l=os at*;cases ho:fZ l
 ·rw[ho]at Yc Jy;have HNM:Hid (ju l=false):=Jy.out.trans (by simp);clear HOB Jy ho;generalize(gH os).2=kb at*;go_enter func50,ntmps50;go_wp2_with (first
   |(go_at_call 87;go_must(refine Yc.out.mono ?_;rintro e w1⟨rfl,b1⟩;have Ye:=hide (Yf.out w1 b1);clear b1))
   |(go_at_call 88;go_must(refine Ye.out.mono ?_;rintro e w2⟨M,rfl,HM⟩))
   |(go_at_call 89;go_must(refine(j8.out w2 M HM.out.2 HNM.out).mono ?_;rintro e w3⟨rfl,hg⟩;have HG:=hide hg;clear hg)))
  (try simp only[Exit.inBlock,Exit.then])
  exact bodyPost_ret (results_none rfl _ _ _) rfl ⟨rfl,HG.out⟩
 ·rw[ho]at Yc Jy;cases V0:(gH os).2
  ·rw[V0]at Yf Jy;have HNM:Hid (ju l=false):=Jy.out.trans (by simp);clear HOB Jy ho V0;go_enter func50,ntmps50;go_wp2_with (first
    |(go_at_call 87;go_must(refine Yc.out.mono ?_;rintro e w1⟨rfl,b1⟩;have Ye:=hide (Yf.out w1 b1);clear b1))
    |(go_at_call 88;go_must(refine Ye.out.mono ?_;rintro e w2⟨M,rfl,HM⟩))
    |(go_at_call 89;go_must(refine(j8.out w2 M HM.out.2 HNM.out).mono ?_;rintro e w3⟨rfl,hg⟩;have HG:=hide hg;clear hg)))
   (try simp only[Exit.inBlock,Exit.then])
   exact bodyPost_ret (results_none rfl _ _ _) rfl ⟨rfl,HG.out⟩
  ·rw[V0]at Yf Jy;have HYM:Hid (ju l=true):=Jy.out.trans (by simp);clear j8 Jy ho V0;go_enter func50,ntmps50;go_wp2_with (first
    |(go_at_call 87;go_must(refine Yc.out.mono ?_;rintro e w1⟨rfl,b1⟩;have Ye:=hide (Yf.out w1 b1);clear b1))
    |(go_at_call 88;go_must(refine Ye.out.mono ?_;rintro e w2⟨M,rfl,HM⟩))
    |(go_at_call 90;go_must(refine(HOB.out w2 M HM.out.2 HYM.out (HM.out.1 (by first|rfl|trivial))).mono ?_;rintro e w3⟨rfl,X7⟩))
    |(go_at_call 42;go_must(refine X7.out.mono ?_;rintro e w4⟨rfl,hg⟩;have HG:=hide hg;clear hg)))
   go_end0;exact⟨rfl,HG.out⟩
def mg(cn:List (Int×Nat×Bs))(c:Int)(b:Bs):List (Int×Nat×Bs):=cn.map fun y=>if y.1=c then(y.1,y.2.1,b)else y
theorem sg{cn:List (Int×Nat×Bs)}{c:Int}{p:Nat}{b:Bs}(h:(c,p,b)∈cn)(b':Bs):(c,p,b')∈mg cn c b':=az.2 ⟨_,h,by simp⟩
theorem QN(cn:List (Int×Nat×Bs))(c:Int)(b b':Bs):mg (mg cn c b) c b'=mg cn c b':=by unfold mg;rw[aB];refine bz fun y _=> ?_;simp only[Function.comp_def];by_cases e:y.1=c<;>simp[e]
section
variable{base x tb:Nat}{g:Gh}{cn:List (Int×Nat×Bs)}{s:St}{w w':World}{F:Ft}
theorem R4{j:Js}(hc:gO j=cn)(c:Int)(b:Bs):gO {j with bu:=upd (fun k:Kn=>k.n) c (fun k=>{k with kept:=b}) j.bu}=mg cn c b:=by subst hc;unfold gO mg upd;dsimp only;rw[aB,aB];refine bz fun k _=> ?_;simp only[Function.comp_def];by_cases e:k.n=c<;>simp[e]
theorem Jb{f:FuncId}{args:Array Value}{v:Ending}(T:Tabs base w)(h:(stA base x tb g cn s).holds w F){c:Int}{p:Nat}{b b':Bs}(hk:(c,p,b)∈cn)(call: ∀dr kv G,(aa (Dn p dr kv) (I9 kv b)).holds w G->Calls prog f args w fun e w'=>e=v∧ ∃GM,Goes (aa (Dn p dr GM) (I9 GM b')) w G w'):Calls prog f args w fun e w'=>e=v∧Goes (stA base x tb g (mg cn c b') s) w F w':=by obtain⟨j,r1,r2,r3,hF,hh⟩:=h;obtain⟨k,Km,rfl,rfl,rfl⟩:=Jc r3 hk;obtain⟨cm,kv,c6,nH,Bb,ER⟩:=I7 hh r1.cnd Km;obtain⟨G,H,ha,hb,d,e⟩:=aA Bb (bA _ _ _).symm;refine(call k.dr kv G ha).mono ?_;rintro e' w'⟨rfl,GM,hg⟩;refine⟨rfl, ?_⟩;have g1:=(aO hb hg d e).eq (bA _ _ _);have g2:=ER (fun k=>{k with kept:=b'}) rfl rfl GM w' g1;exact gj (s':=s) T hF (r1.bytes (fun k=>{k with kept:=b'}) (fun _=>rfl) (fun _=>rfl) k.n) r2 (R4 r3 k.n b') g2
theorem Mi(T:Tabs base w)(h:(stA base x tb g cn s).holds w F){c:Int}{p:Nat}{b:Bs}(hk:(c,p,b)∈cn)(hb:b.length<=81)(t:ByteArray)(ht:t.size<=4000000000000000):Calls prog 49 #[pt p, .string t] w fun e w'=>e= .returned (.tuple #[])∧Goes (stA base x tb g (mg cn c ((b++t.data.toList).take 81)) s) w F w':=
 Jb T h hk fun dr kv G hG=>Qu p dr kv b t w G hG hb ht
theorem VA(T:Tabs base w)(h:(stA base x tb g cn s).holds w F){c:Int}{p:Nat}{b:Bs}(hk:(c,p,b)∈cn)(hb:b.length<=81):Calls prog 51 #[pt p] w fun e w'=>e= .returned (bs b)∧Goes (stA base x tb g (mg cn c []) s) w F w':=
 Jb T h hk fun dr kv G hG=>Qv p dr kv b w G hG hb
theorem N7(h:(stA base x tb g cn s).holds w F){c:Int}{p:Nat}{b:Bs}(hk:(c,p,b)∈cn)(hb:b.length<=81):Calls prog 52 #[pt p] w fun e w'=>e= .returned (.bool (decide (b= []) && !s.drains c))∧w'=w:=by
 obtain⟨j,r1,r2,r3,hF,hh⟩:=h;obtain⟨k,Km,rfl,rfl,rfl⟩:=Jc r3 hk;obtain⟨cm,kv,c6,nH,Bb,ER⟩:=I7 hh r1.cnd Km;obtain⟨G,H,ha,_,_,_⟩:=aA Bb (bA _ _ _).symm;have HE:=GZ k.p k.dr kv k.kept w G ha hb;obtain⟨lC,_⟩:=rN ha;have c1:w.cell? ⟨k.p,1,none⟩=some (.bool k.dr):=by simp only[World.cell?,lC];rfl
 rw[Un r1 Km];clear hh Bb ER ha nH r1 r2 r3 lC;unfold pt at*;generalize k.p=p at*;generalize k.dr=dr at*;cases hd:decide (k.kept= [])
 ·rw[hd]at HE;go_enter func52,ntmps52;go_wp2_with (first|(go_at_call 91;go_must(refine HE.mono ?_;rintro e w1⟨rfl,rfl⟩)));go_ret;exact⟨by simp,rfl⟩
 ·rw[hd]at HE;go_enter func52,ntmps52;go_wp2_with (first|(go_at_call 91;go_must(refine HE.mono ?_;rintro e w1⟨rfl,rfl⟩)));go_ret;exact⟨by simp,rfl⟩
theorem Tg{B:aJ}{j:Js}(h:(aa (jA x g j) B).holds w F):Calls prog 39 #[pt x] w fun e w'=>e= .returned (.bool true)∧w'=w:=by obtain⟨G,hj,_⟩:=aJ.left h;obtain⟨v,hv⟩:=hj;have c6:w.cell? ⟨x,6,none⟩=some (.map (some v.cm)):=(wJ hv).1 6;generalize v.cm=mb at*;have V6: ∀w:World,(binOp .neq 81 (.map (some mb)) (.map none)).run prog w= .ok (.bool true) w:=fun w=>run_neq_map_nil w _ _ _ _ underlying81;clear h hv;unfold pt;go_enter func39,ntmps39;go_wp2;go_ret;exact⟨rfl,rfl⟩
