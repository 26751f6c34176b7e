import Derived.Test.YtffamlbkmjmipaaGreatDoorC35
import Derived.Test.YtffamlbkmjmipaaGreatDoorC38
import Derived.Test.YtffamlbkmjmipaaGreatDoorC39
set_option maxHeartbeats 8000000
set_option maxRecDepth 100000
namespace Go.Proofs.YtffamlbkmjmipaaGreatDoor
open _root_.Go.Proofs.Tryz
namespace Pj
open Go.RowKit aD Mc bA
attribute [local go_sem] ae ah
variable{n:Nat}{s:St}
theorem Sd.message(h:Sd n s)(c:Int){m:Mg}(hm:Bd.bA m)(hP: ∃P:Int,Bd P s∧(s.wait.length:Int)<=P∧P+1<=4398046511104):Sd (n+10) (s.message c m):=by obtain⟨P,h1,h2,h3⟩:=hP;refine⟨St.jx h.inv c m,h.ok.message h.inv c m, ?_,(h1.message h.inv c hm h2).up h3⟩;have:=St.ue (s:=s) c m;have:=h.sz;omega
theorem Cf{base x tb:Nat}{bL:World}(L:ig base bL){g:Gh}{cn:List (Int×Nat×Bs)}{w:World}{F:Ft}(yy:Below base bL w)(T:Tabs base w)(h:(stA base x tb g cn s).holds w F)(hs:Sd n s)(hn:n<=16770000)(hP: ∃P:Int,Bd P s∧(s.wait.length:Int)<=P∧P+1<=4398046511104)(vY:Busy s (fun _=>False))(c:Int)(hc:I6 c){p:Nat}{b:Bs}(hk:(c,p,b)∈cn)(l:Bs)(hl:l.length<=4194304):Calls prog 50 #[pt x,pt tb, .int .i64 c,bs l] w fun e w'=>e= .returned (.tuple #[])∧ ∃g',Goes (stA base x tb g' cn (s.line c l)) w F w':=by
 have hz:=hs.sz;have Ss:Hid (Calls prog 87 #[.string ⟨l.toArray⟩] w fun e w'=>e= .returned (.tuple #[.string ⟨(dn l).toArray⟩, .bool (fG l)])∧Below w.heap.size w w'):=aP.FZ ⟨l.toArray⟩ w (by simpa[ByteArray.size]using hl);have Ug:(⟨(dn l).toArray⟩:ByteArray).size<=4194304:=KL (s:=⟨l.toArray⟩) (by simpa[ByteArray.size]using hl);have Sw:Hid (∀w1,Below w.heap.size w w1->Calls prog 88 #[.string ⟨(dn l).toArray⟩] w1 fun e w2=> ∃M:Mg,e= .returned (.tuple #[.agg #[.string ⟨M.kind.toArray⟩, .int .i64 M.id, .int .i64 M.bB, .string ⟨M.ten.toArray⟩, .string ⟨M.txt.toArray⟩], .bool (fU (dn l)).2])∧Hid (((fU (dn l)).2=true->M=(fU (dn l)).1)∧Below w.heap.size w w2)):=fun w1 b1=>by refine(Gd L ⟨(dn l).toArray⟩ w1 Ug (yy.trans (b1.mono T.1)) (au T.1 b1.size)).mono ?_;rintro e w2⟨M,rfl,hM,b2⟩;exact⟨M,rfl,hM,b1.trans (b2.mono b1.size)⟩
 have gj:Hid (∀w2 M,Below w.heap.size w w2->ju l=false->Calls prog 89 #[pt tb, .int .i64 c, .slice (some ⟨w2.heap.size+1,0,none⟩) 1 1] ((w2.alloc (.cells (Mg.cs M) 149)).alloc (.cells #[.iface 9 (.string ⟨#[98,97,100]⟩)] 20)) fun e w'=>e= .returned (.tuple #[])∧ ∃g',Goes (stA base x tb g' cn (s.line c l)) w F w'):=fun w2 M b2 hm=>by
  have b1:Below w.heap.size w (w2.alloc (.cells (Mg.cs M) 149)):=b2.alloc b2.size _;have e1:(w2.alloc (.cells (Mg.cs M) 149)).heap.size=w2.heap.size+1:=by simp
  generalize w2.alloc (.cells (Mg.cs M) 149)=w1 at*;rw[<-e1];refine(x9 T h (by omega) c [.s [98,97,100]] [98,97,100] rfl (by simp) (by simp) (by intro p hp;simp at hp;rw[hp];exact Part.qD (by decide)) w1 b1).mono ?_;rintro e w'⟨rfl,hg⟩;refine⟨rfl,g, ?_⟩;unfold St.line;rw[if_neg (by rw[hm];simp)];exact hg
 have V2:Hid (∀w2 M,Below w.heap.size w w2->ju l=true->M=(fU (dn l)).1->Calls prog 90 #[pt x,pt tb, .int .i64 c, .agg (Mg.cs M)] (w2.alloc (.cells (Mg.cs M) 149)) fun e w2=>e= .returned (.tuple #[])∧
   Hid (Calls prog 42 #[pt x,pt tb] w2 fun e w'=>e= .returned (.tuple #[])∧ ∃g',Goes (stA base x tb g' cn (s.line c l)) w F w')):=fun w2 M b2 hm hM=>by
  have b1:Below w.heap.size w (w2.alloc (.cells (Mg.cs M) 149)):=b2.alloc b2.size _;generalize w2.alloc (.cells (Mg.cs M) 149)=w1 at*;have yD:=Mc.KA hm;have eM:M=ui l:=hM;have g1:=(Goes.refl h).below b1;have T1:=T.new b1;obtain⟨F1,bU,o1,n1⟩:=g1;rw[eM];refine(KI T1 bU hs (by omega) vY c hc hk (ui l) yD).mono ?_;rintro e w2⟨rfl,g2,eO⟩;refine⟨rfl, ?_⟩;have g3:=ay o1 n1 eO;have T2:=T.goes (cr h) g3;obtain⟨F2,gl,o2,n2⟩:=g3;show Calls _ _ _ _ _;refine(tu T2 gl (hs.message c yD.bd hP) (by omega)).mono ?_;rintro e w'⟨rfl,g',iG⟩;refine⟨rfl,g', ?_⟩;unfold St.line;rw[if_pos hm];exact ay o2 n2 iG
 have jG:Hid (ju l=(fG l &&(fU (dn l)).2)):=rfl;clear h hs hP vY hk L yy T Ug;unfold Mg.cs pt bs at*;generalize dn l=os at*;cases ho:fG l
 ·rw[ho]at Ss jG;have VZ:Hid (ju l=false):=jG.out.trans (by simp);clear V2 jG ho;generalize(fU os).2=kb at*;go_enter func50,ntmps50;go_wp2_with (first
   |(go_at_call 87;go_must(refine Ss.out.mono ?_;rintro e w1⟨rfl,b1⟩;have Sv:=hide (Sw.out w1 b1);clear b1))
   |(go_at_call 88;go_must(refine Sv.out.mono ?_;rintro e w2⟨M,rfl,HM⟩))
   |(go_at_call 89;go_must(refine(gj.out w2 M HM.out.2 VZ.out).mono ?_;rintro e w3⟨rfl,hg⟩;have HG:=hide hg;clear hg)))
  (try simp only[Exit.inBlock,Exit.then])
  exact bodyPost_ret (results_none rfl _ _ _) rfl ⟨rfl,HG.out⟩
 ·rw[ho]at Ss jG;cases Qy:(fU os).2
  ·rw[Qy]at Sw jG;have VZ:Hid (ju l=false):=jG.out.trans (by simp);clear V2 jG ho Qy;go_enter func50,ntmps50;go_wp2_with (first
    |(go_at_call 87;go_must(refine Ss.out.mono ?_;rintro e w1⟨rfl,b1⟩;have Sv:=hide (Sw.out w1 b1);clear b1))
    |(go_at_call 88;go_must(refine Sv.out.mono ?_;rintro e w2⟨M,rfl,HM⟩))
    |(go_at_call 89;go_must(refine(gj.out w2 M HM.out.2 VZ.out).mono ?_;rintro e w3⟨rfl,hg⟩;have HG:=hide hg;clear hg)))
   (try simp only[Exit.inBlock,Exit.then])
   exact bodyPost_ret (results_none rfl _ _ _) rfl ⟨rfl,HG.out⟩
  ·rw[Qy]at Sw jG;have HYM:Hid (ju l=true):=jG.out.trans (by simp);clear gj jG ho Qy;go_enter func50,ntmps50;go_wp2_with (first
    |(go_at_call 87;go_must(refine Ss.out.mono ?_;rintro e w1⟨rfl,b1⟩;have Sv:=hide (Sw.out w1 b1);clear b1))
    |(go_at_call 88;go_must(refine Sv.out.mono ?_;rintro e w2⟨M,rfl,HM⟩))
    |(go_at_call 90;go_must(refine(V2.out w2 M HM.out.2 HYM.out (HM.out.1 (by first|rfl|trivial))).mono ?_;rintro e w3⟨rfl,Sk⟩))
    |(go_at_call 42;go_must(refine Sk.out.mono ?_;rintro e w4⟨rfl,hg⟩;have HG:=hide hg;clear hg)))
   go_end0;exact⟨rfl,HG.out⟩
def gT(cn:List (Int×Nat×Bs))(c:Int)(b:Bs):List (Int×Nat×Bs):=cn.map fun y=>if y.1=c then(y.1,y.2.1,b)else y
theorem py{cn:List (Int×Nat×Bs)}{c:Int}{p:Nat}{b:Bs}(h:(c,p,b)∈cn)(b':Bs):(c,p,b')∈gT cn c b':=ax.2 ⟨_,h,by simp⟩
theorem Lc(cn:List (Int×Nat×Bs))(c:Int)(b b':Bs):gT (gT cn c b) c b'=gT cn c b':=by unfold gT;rw[az];refine bu fun y _=> ?_;simp only[Function.comp_def];by_cases e:y.1=c<;>simp[e]
section
variable{base x tb:Nat}{g:Gh}{cn:List (Int×Nat×Bs)}{s:St}{w w':World}{F:Ft}
theorem MA{j:Js}(hc:gu j=cn)(c:Int)(b:Bs):gu {j with br:=upd (fun k:Kn=>k.n) c (fun k=>{k with kept:=b}) j.br}=gT cn c b:=by subst hc;unfold gu gT upd;dsimp only;rw[az,az];refine bu fun k _=> ?_;simp only[Function.comp_def];by_cases e:k.n=c<;>simp[e]
theorem Ek{f:FuncId}{args:Array Value}{v:Ending}(T:Tabs base w)(h:(stA base x tb g cn s).holds w F){c:Int}{p:Nat}{b b':Bs}(hk:(c,p,b)∈cn)(call: ∀dr kv G,(aa (Ae p dr kv) (Ej kv b)).holds w G->Calls prog f args w fun e w'=>e=v∧ ∃CI,Goes (aa (Ae p dr CI) (Ej CI b')) w G w'):Calls prog f args w fun e w'=>e=v∧Goes (stA base x tb g (gT cn c b') s) w F w':=by obtain⟨j,r1,r2,r3,hF,hh⟩:=h;obtain⟨k,Fu,rfl,rfl,rfl⟩:=El r3 hk;obtain⟨cm,kv,c6,gZ,rM,BM⟩:=Eh hh r1.cnd Fu;obtain⟨G,H,ha,hb,d,e⟩:=aw rM (bn _ _ _).symm;refine(call k.dr kv G ha).mono ?_;rintro e' w'⟨rfl,CI,hg⟩;refine⟨rfl, ?_⟩;have g1:=(aH hb hg d e).eq (bn _ _ _);have g2:=BM (fun k=>{k with kept:=b'}) rfl rfl CI w' g1;exact fJ (s':=s) T hF (r1.bytes (fun k=>{k with kept:=b'}) (fun _=>rfl) (fun _=>rfl) k.n) r2 (MA r3 k.n b') g2
theorem Ia(T:Tabs base w)(h:(stA base x tb g cn s).holds w F){c:Int}{p:Nat}{b:Bs}(hk:(c,p,b)∈cn)(hb:b.length<=81)(t:ByteArray)(ht:t.size<=4194304):Calls prog 49 #[pt p, .string t] w fun e w'=>e= .returned (.tuple #[])∧Goes (stA base x tb g (gT cn c ((b++t.data.toList).take 81)) s) w F w':=
 Ek T h hk fun dr kv G hG=>KQ p dr kv b t w G hG hb ht
theorem Qb(T:Tabs base w)(h:(stA base x tb g cn s).holds w F){c:Int}{p:Nat}{b:Bs}(hk:(c,p,b)∈cn)(hb:b.length<=81):Calls prog 51 #[pt p] w fun e w'=>e= .returned (bs b)∧Goes (stA base x tb g (gT cn c []) s) w F w':=
 Ek T h hk fun dr kv G hG=>KR p dr kv b w G hG hb
theorem J4(h:(stA base x tb g cn s).holds w F){c:Int}{p:Nat}{b:Bs}(hk:(c,p,b)∈cn)(hb:b.length<=81):Calls prog 52 #[pt p] w fun e w'=>e= .returned (.bool (decide (b= []) && !s.drains c))∧w'=w:=by
 obtain⟨j,r1,r2,r3,hF,hh⟩:=h;obtain⟨k,Fu,rfl,rfl,rfl⟩:=El r3 hk;obtain⟨cm,kv,c6,gZ,rM,BM⟩:=Eh hh r1.cnd Fu;obtain⟨G,H,ha,_,_,_⟩:=aw rM (bn _ _ _).symm;have HE:=CS k.p k.dr kv k.kept w G ha hb;obtain⟨kA,_⟩:=oN ha;have c1:w.cell? ⟨k.p,1,none⟩=some (.bool k.dr):=by simp only[World.cell?,kA];rfl
 rw[O3 r1 Fu];clear hh rM BM ha gZ r1 r2 r3 kA;unfold pt at*;generalize k.p=p at*;generalize k.dr=dr at*;cases hd:decide (k.kept= [])
 ·rw[hd]at HE;go_enter func52,ntmps52;go_wp2_with (first|(go_at_call 91;go_must(refine HE.mono ?_;rintro e w1⟨rfl,rfl⟩)));go_ret;exact⟨by simp,rfl⟩
 ·rw[hd]at HE;go_enter func52,ntmps52;go_wp2_with (first|(go_at_call 91;go_must(refine HE.mono ?_;rintro e w1⟨rfl,rfl⟩)));go_ret;exact⟨by simp,rfl⟩
theorem NH{B:aD}{j:Js}(h:(aa (jA x g j) B).holds w F):Calls prog 39 #[pt x] w fun e w'=>e= .returned (.bool true)∧w'=w:=by obtain⟨G,hj,_⟩:=aD.left h;obtain⟨v,hv⟩:=hj;have c6:w.cell? ⟨x,6,none⟩=some (.map (some v.cm)):=(tO hv).1 6;generalize v.cm=mb at*;have zQ: ∀w:World,(binOp .neq 81 (.map (some mb)) (.map none)).run prog w= .ok (.bool true) w:=fun w=>run_neq_map_nil w _ _ _ _ underlying81;clear h hv;unfold pt;go_enter func39,ntmps39;go_wp2;go_ret;exact⟨rfl,rfl⟩
