import Derived.Test.YtffamlbkmjmipaaGreatDoorB28
import Derived.Test.YtffamlbkmjmipaaGreatDoorB36
import Derived.Test.YtffamlbkmjmipaaGreatDoorB42
set_option maxHeartbeats 8000000
set_option maxRecDepth 100000
namespace Go.Proofs.YtffamlbkmjmipaaGreatDoor
open _root_.Go.Proofs.Tryz
namespace Pj
open Go.RowKit aM Mc bJ
attribute [local go_sem] ag ar
variable{cn:List (Int×Nat×Bs)}{s:St}
def oF(s:St)(c:Int):St:={s.idle c with aq:=(s.idle c).aq.filter (·.n !=c)}
theorem Dt{j:Js}(h:jx j=cn)(c:Int):jx {j with bT:=j.bT.filter (fun k=>k.n !=c)}=cn.filter fun k=>decide (k.1≠c):=by subst h;unfold jx;dsimp only;rw[Ki,List.filter_map];rfl
theorem Sd.forget{n:Nat}(h:Sd n s)(c:Int):Sd n (oF s c):=by have hi:=St.iY h.inv c;refine⟨⟨hi.rid,hi.bS,hi.ring,hi.fP,hi.once,(List.filter_sublist.map _).nodup hi.cn,hi.wt⟩,(h.ok.idle c).less _, ?_,(h.bd.idle c).aq _⟩;have h1:=h.sz;have h2:=St.tS (s:=s) c;unfold oF St.sz at*;have h3:((s.idle c).aq.filter (·.n !=c)).length<=(s.idle c).aq.length:=List.length_filter_le ..;dsimp only at*;omega
theorem H7{base x tb:Nat}{g:Gh}{w:World}{F:Ft}(T:Tabs base w)(h:(stA base x tb g cn s).holds w F)(hi:Inv s)(hz:s.sz<=16777000)(c:Int)(hc:I6 c):Calls prog 43 #[pt x, .int .i64 c] w fun e w'=>e= .returned (.tuple #[])∧Goes (stA base x tb g (cn.filter fun k=>decide (k.1≠c)) (oF s c)) w F w':=by
 obtain⟨j,r1,r2,r3,hF,hh⟩:=h;have wf:=fI r1 hi hz;obtain⟨cm,w2,c6,yB,hg⟩:=Eu hh c hc 0;have adg:(Builtin.delete_ #[81,3] 0 #[.map (some cm), .int .i64 c]).run prog w= .ok (.tuple #[]) w2:=yB;have AH:Hid (Calls prog 73 #[pt x, .int .i64 c] w2 fun e w'=>e= .returned (.tuple #[])∧Goes (stA base x tb g (cn.filter fun k=>decide (k.1≠c)) (oF s c)) w F w'):=by
  show Calls _ _ _ _ _;obtain⟨F1,cd,o1,n1⟩:=hg;refine(BX cd wf.b3 c).mono ?_;rintro e w'⟨rfl,mW⟩;refine⟨rfl, ?_⟩;have g4:=aF o1 n1 mW;have R:=(r1.idle c).forget c;have hpn:j.pull.Nodup:=by rw[r1.pull];exact hi.wt
  refine iD (s':=oF s c) T hF R ⟨r2.1,fun y hy=>r2.2 y (aR.1 hy).1⟩ (Dt (j:={j with pull:=j.pull.filter (· !=c)}) r3 c) ?_;rw[<-erase_filter hpn c];exact g4
 clear hh wf r1 r2 r3 hg yB;unfold pt at*;go_enter func43,ntmps43;go_wp2_with (first
  |(go_at_call 73;go_must(refine AH.out.mono ?_;rintro e w3⟨rfl,mW⟩;have HG:=hide mW;clear mW)))
 go_end0;exact⟨rfl,HG.out⟩
end Pj
namespace Lw
open Go.RowKit aM Mc Mr fA bJ
attribute [local go_sem] aL.ag aL.ar
theorem Ti(c:UInt8)(l:List UInt8):(bW c l).length<=l.length+1:=by have:=(tK c l).1;unfold bW;rw[aN];simp only[List.length_cons,List.length_nil];omega
theorem CH{base:Nat}{dz:World}(pM:fV)(P:uO base dz)(wp n:Nat)(aO:List Pr)(hs:List (Value×Nat))(x:fU)(w:World)(F:Ft)(hp:Pre P wp n aO hs w F)(hn:n+x.s.size+1<=1048576)(hx:x.k=4)(ha:I64 x.a)(hb:I64 x.b):Calls prog 37 #[.pointer (some ⟨wp,0,none⟩), .agg x.cs] w (gu P wp (n+x.s.size+1)):=by
 obtain⟨k,a,b,le,re,ca,bo,he,s⟩:=x;simp only at hx hn ha hb⊢;subst hx;simp only[fU.cs]at*;have HP:=hide hp;obtain⟨ds,ls,ao,cp,c0,PQ,XW,Ej,qb,Mk,xL,GF,j6⟩:=rh hp (by omega) ha;have GG:=hide hp.good;clear hp;by_cases h0:aO.length=0
 ·rw[h0]at c0;clear j6;go_enter func37,ntmps37;go_wp2;go_ret;exact HP.out.same ((ah _ _).alloc (ae _) _) (by omega)
 have j7:0<aO.length:=by omega
 obtain⟨g,off,i,dM,rfl,Hi,q0,q1,sG,sH,AG⟩:=j6 j7;clear j6;go_enter func37,ntmps37;go_wp2_with fail;go_region_held3 (fun w'=>w'.cell? ⟨wp,0,none⟩=some (.slice (some ⟨g,off,none⟩) aO.length cp)∧w'.cell? ⟨w.heap.size,1,none⟩=some (.int .i64 a)∧w'.cell? ⟨g,off+i*2,none⟩=some (.pointer (some ⟨(aO[i]'dM).x,0,none⟩))∧w'.cell? ⟨g,off+i*2+1,none⟩=some (.pointer (some ⟨(aO[i]'dM).m,0,none⟩))) (go_keep)
  (first|(go_at_call 59;refine(Hi.out _).mono ?_;rintro e w1⟨rfl,rfl⟩))
 all_goals
  clear q0 q1 c0 qb sH Mk;obtain⟨w0,nj,iO,IE,gI,o0,o2,o8,r0,r1,HK⟩:=nU GF 4 a b le re ca bo he s (aO[i]'dM).x (aO[i]'dM).m;rw[nj];clear nj;have qM:=HP.out.below iO;have wP:=qM.big;have hold:=qM.old;have kt:(jl P wp aO hs ds ls).holds w0 F:=au xL.out iO;have D2:(bW 10 s.data.toList).length<=s.size+1:=by have:=Ti 10 s.data.toList;simpa using this
  have Im:Mc.Good (n+s.size+1) ((aO[i]'dM).s.feed b s.data.toList):=by have:=AG.out.feed b s.data.toList (k:=s.size+1) (by omega) (by omega);exact this.le (by omega)
  have vU:((aO[i]'dM).s.feed b s.data.toList).out.length<=33554432:=by have:=Im.sz;unfold St.sz at this;omega
  have lI:=oX P wp aO hs ds ls i dM ((aO[i]'dM).s.feed b s.data.toList) w0 F kt (by omega) vU (f1:=29) (f2:=60) (args1:= #[.pointer (some ⟨(aO[i]'dM).x,0,none⟩), .int .i64 b, .string s]) (args2:= #[.pointer (some ⟨(aO[i]'dM).m,0,none⟩), .int .i64 b, .string s])
   (fun G1 lH=>P.feed _ b s n _ w0 G1 wP hold hb (by omega) AG.out (by omega) lH) (fun w' G1 lH=>DK pM _ b s (by omega) _ AG.out (by omega) w' G1 lH)
  have JW:=hide lI;have fg:Hid (∀a' w',Goes (AE P wp (aO.set i ⟨(aO[i]'dM).x,(aO[i]'dM).m,((aO[i]'dM).s.feed b s.data.toList).told⟩) (hs++ [(a',((aO[i]'dM).s.feed b s.data.toList).out.length+2)])) w0 F w'->gu P wp (n+s.size+1) (.returned (.bool true)) w'):=fun a' w' hg=>⟨rfl,qM.next hg (by omega) (ur GG.out (by omega) Im.told) (by rw[List.length_set];omega) (by simp)⟩
  clear lI qM kt Im vU;go_wp2_with fail;refine JW.out.mono ?_;rintro e w1⟨v,rfl,QP,hc⟩;obtain⟨Yy,Yz,YA,YE,YF⟩:=HK.out _ QP;have wJ:=hide hc;clear hc QP o0 o2 o8 r0 r1 JW;go_wp2_with fail;refine wJ.out.mono ?_;rintro e w2⟨v2,rfl,QQ,hc⟩;obtain⟨Jc,Jd,Je,Jl,Jm⟩:=HK.out _ QQ;have JV:=hide hc;clear hc QQ Yy Yz YA YE YF wJ;go_wp2_with fail;refine JV.out.mono ?_;rintro e w3⟨rfl,YB,hc⟩;have N8:=hide hc;clear hc YB Jc Jd Je Jl Jm JV;go_wp2_with fail;refine N8.out.mono ?_;rintro e w4⟨rfl,a',kI⟩;have HX:=hide (fg.out a' _ kI);clear kI fg N8 HK;go_wp2;go_ret;exact HX.out
theorem AR(c:UInt8): ∀(n:Nat) (l:List UInt8),l.length=n->(mV c l).1.length=l.countP (· ==c)
 |0,l,h=>by obtain rfl:=List.length_eq_zero_iff.1 h;rfl
 |n+1,l,h=>by
  rcases List.eq_nil_or_concat l with rfl|⟨L,b,rfl⟩
  ·simp at h
  ·rw[List.concat_eq_append]at h⊢;have hl:L.length=n:=by simpa using h
   have ih:=AR c n L hl;rw[qF,List.countP_append,<-ih];unfold fx;by_cases hb:b=c
   ·subst hb;simp
   ·simp[hb]
theorem uA(n:Int)(h0:0<=n)(h1:n<=255):(10:UInt8)∉aL.two n:=by
 have h: ∀n:Fin 256,(10:UInt8)∉aL.two (n.val:Int):=by decide+kernel
 have:=h ⟨n.toNat,by omega⟩;simpa[Int.toNat_of_nonneg h0]using this
theorem PF(t:List UInt8):(10:UInt8)∉aL.hex t:=by have b0:=aL.gW t t.length 0;have b1:=aL.gW t t.length 1;have b2:=aL.gW t t.length 2;have b3:=aL.gW t t.length 3;unfold aL.hex;simp only[List.mem_append,not_or];exact⟨⟨⟨uA _ (by omega) (by omega),uA _ (by omega) (by omega)⟩,uA _ (by omega) (by omega)⟩,uA _ (by omega) (by omega)⟩
theorem U7(l:List UInt8):(bW 10 (aL.line l++ [10])).length<=l.length+2:=by
 have h:=AR 10 _ (aL.line l++ [10]) rfl;have h0:(aL.hex l).countP (· ==(10:UInt8))=0:=by
  rw[List.countP_eq_zero];intro x hx he;have:x=10:=by simpa using he
  exact PF l (this▸hx)
 unfold bW;rw[aN,h];unfold aL.line;rw[List.countP_append,List.countP_append,List.countP_append,h0];have:=List.countP_le_length (p:=fun x:UInt8=>x==10) (l:=l);simp;omega
theorem MB(l:List UInt8):(aL.line l++ [10]).length=l.length+10:=by simp[aL.line,aL.hex,aL.two]
theorem FW{base:Nat}{dz:World}(pM:fV)(P:uO base dz)(wp n:Nat)(aO:List Pr)(hs:List (Value×Nat))(x:fU)(w:World)(F:Ft)(hp:Pre P wp n aO hs w F)(hn:n+x.s.size+1<=1048576)(hx:x.k=3)(ha:I64 x.a)(hb:I64 x.b):Calls prog 37 #[.pointer (some ⟨wp,0,none⟩), .agg x.cs] w (gu P wp (n+x.s.size+1)):=by
 obtain⟨k,a,b,le,re,ca,bo,he,s⟩:=x;simp only at hx hn ha hb⊢;subst hx;simp only[fU.cs]at*;have HP:=hide hp;obtain⟨ds,ls,ao,cp,c0,PQ,XW,Ej,qb,Mk,xL,GF,j6⟩:=rh hp (by omega) ha;have GG:=hide hp.good;clear hp;by_cases h0:aO.length=0
 ·rw[h0]at c0;clear j6;go_enter func37,ntmps37;go_wp2;go_ret;exact HP.out.same ((ah _ _).alloc (ae _) _) (by omega)
 have j7:0<aO.length:=by omega
 obtain⟨g,off,i,dM,rfl,Hi,q0,q1,sG,sH,AG⟩:=j6 j7;clear j6;go_enter func37,ntmps37;go_wp2_with fail;go_region_held3 (fun w'=>w'.cell? ⟨wp,0,none⟩=some (.slice (some ⟨g,off,none⟩) aO.length cp)∧w'.cell? ⟨w.heap.size,1,none⟩=some (.int .i64 a)∧w'.cell? ⟨g,off+i*2,none⟩=some (.pointer (some ⟨(aO[i]'dM).x,0,none⟩))∧w'.cell? ⟨g,off+i*2+1,none⟩=some (.pointer (some ⟨(aO[i]'dM).m,0,none⟩))) (go_keep)
  (first|(go_at_call 59;refine(Hi.out _).mono ?_;rintro e w1⟨rfl,rfl⟩))
 all_goals
  clear q0 q1 c0 qb sH Mk;obtain⟨w0,nj,iO,IE,gI,o0,o2,o8,r0,r1,HK⟩:=nU GF 3 a b le re ca bo he s (aO[i]'dM).x (aO[i]'dM).m;rw[nj];clear nj;have pC:Hid (Calls prog 58 #[.string s] w0 fun e w'=>e= .returned (.string ⟨(aL.line s.data.toList).toArray⟩)∧Below w0.heap.size w0 w'):=aL.lX s w0 (by omega);have HSZ:Hid ((⟨(aL.line s.data.toList).toArray⟩:ByteArray)++⟨#[10]⟩=⟨(aL.line s.data.toList++ [10]).toArray⟩):=aL.jC (aL.line s.data.toList) [10];have D2:(bW 10 (aL.line s.data.toList++ [10])).length<=s.size+2:=by have:=U7 s.data.toList;simpa using this
  have zK:(aL.line s.data.toList++ [10]).length=s.size+10:=by have:=MB s.data.toList;simpa using this
  have PN:(aL.line s.data.toList).length<=1048600:=by rw[aN]at zK;simp only[List.length_cons,List.length_nil]at zK;omega
  have hfs: ¬9223372036854775807<(aL.line s.data.toList).length+1:=by omega
  have NU:(⟨(aL.line s.data.toList++ [10]).toArray⟩:ByteArray).size<=2097152:=by show(aL.line s.data.toList++ [10]).toArray.size<=_;rw[List.size_toArray,zK];omega
  obtain⟨bb,BN⟩: ∃bb:ByteArray,bb=⟨(aL.line s.data.toList++ [10]).toArray⟩:=⟨_,rfl⟩;have px:bb.data.toList=aL.line s.data.toList++ [10]:=by rw[BN]
  rw[<-BN]at HSZ NU;rw[<-px]at D2;clear BN px zK;generalize aL.line s.data.toList=tx at*;go_wp2_with fail;refine pC.out.mono ?_;rintro e w9⟨rfl,VQ⟩;have qM:=HP.out.below (iO.trans (VQ.mono iO.size));have wP:=qM.big;have hold:=qM.old;have kt:(jl P wp aO hs ds ls).holds w9 F:=au xL.out (iO.trans (VQ.mono iO.size));have oo9:Only F w0 w9:=(Only.refl F w0).below VQ;have HK9:Hid (∀w',Only F w9 w'->Only F w0 w'):=fun w' o=>oo9.trans o (fun _ _ h=>h);obtain⟨o0,o2,o8,r0,r1⟩:=HK.out _ oo9;clear pC oo9 VQ;have Im:Mc.Good (n+s.size+1) ((aO[i]'dM).s.feed b bb.data.toList):=by have:=AG.out.feed b bb.data.toList (k:=s.size+1) (by omega) (by omega);exact this.le (by omega)
  have vU:((aO[i]'dM).s.feed b bb.data.toList).out.length<=33554432:=by have:=Im.sz;unfold St.sz at this;omega
  have lI:=oX P wp aO hs ds ls i dM ((aO[i]'dM).s.feed b bb.data.toList) w9 F kt (by omega) vU (f1:=29) (f2:=60) (args1:= #[.pointer (some ⟨(aO[i]'dM).x,0,none⟩), .int .i64 b, .string bb]) (args2:= #[.pointer (some ⟨(aO[i]'dM).m,0,none⟩), .int .i64 b, .string bb])
   (fun G1 lH=>P.feed _ b bb n _ w9 G1 wP hold hb NU AG.out (by omega) lH) (fun w' G1 lH=>DK pM _ b bb NU _ AG.out (by omega) w' G1 lH)
  have JW:=hide lI;have fg:Hid (∀a' w',Goes (AE P wp (aO.set i ⟨(aO[i]'dM).x,(aO[i]'dM).m,((aO[i]'dM).s.feed b bb.data.toList).told⟩) (hs++ [(a',((aO[i]'dM).s.feed b bb.data.toList).out.length+2)])) w9 F w'->gu P wp (n+s.size+1) (.returned (.bool true)) w'):=fun a' w' hg=>⟨rfl,qM.next hg (by omega) (ur GG.out (by omega) Im.told) (by rw[List.length_set];omega) (by simp)⟩
  clear lI qM kt Im vU NU D2;go_wp2_with fail;rw[HSZ.out];refine JW.out.mono ?_;rintro e w1⟨v,rfl,QP,hc⟩;obtain⟨Yy,Yz,YA,YE,YF⟩:=HK.out _ (HK9.out _ QP);have wJ:=hide hc;clear hc QP o0 o2 o8 r0 r1 JW;go_wp2_with fail;refine wJ.out.mono ?_;rintro e w2⟨v2,rfl,QQ,hc⟩;obtain⟨Jc,Jd,Je,Jl,Jm⟩:=HK.out _ (HK9.out _ QQ);have JV:=hide hc;clear hc QQ Yy Yz YA YE YF wJ;go_wp2_with fail;refine JV.out.mono ?_;rintro e w3⟨rfl,YB,hc⟩;have N8:=hide hc;clear hc YB Jc Jd Je Jl Jm JV;go_wp2_with fail;refine N8.out.mono ?_;rintro e w4⟨rfl,a',kI⟩;have HX:=hide (fg.out a' _ kI);clear kI fg N8 HK;go_wp2;go_ret;exact HX.out
end Lw
namespace Lw
open Go.RowKit aM Mc Mr fA bJ
variable{base:Nat}{dz w:World}
structure Fit(x:fU):Prop where
 a:I64 x.a
 b:I64 x.b
 le:I64 x.le
 re:I64 x.re
 ca:I64 x.ca
 bo:I64 x.bo
 he:I64 x.he
theorem qy(pM:fV)(P:uO base dz)(wp n:Nat)(aO:List Pr)(hs:List (Value×Nat))(x:fU)(w:World)(F:Ft)(hp:Pre P wp n aO hs w F)(hn:n+x.s.size+1<=1048576)(hf:Fit x):Calls prog 37 #[.pointer (some ⟨wp,0,none⟩), .agg x.cs] w (gu P wp (n+x.s.size+1)):=by
 by_cases h1:x.k=1
 ·exact FV P wp n aO hs x w F hp hn h1 hf.le hf.re hf.ca hf.bo hf.he
 by_cases h2:x.k=2
 ·exact CJ P wp n aO hs x w F hp hn h2
 by_cases h3:x.k=3
 ·exact FW pM P wp n aO hs x w F hp hn h3 hf.a hf.b
 by_cases h4:x.k=4
 ·exact CH pM P wp n aO hs x w F hp hn h4 hf.a hf.b
 by_cases h5:x.k=5
 ·exact CK P wp n aO hs x w F hp hn h5 hf.a hf.b
 by_cases h6:x.k=6
 ·exact AA P wp n aO hs x w F hp hn h6 hf.a hf.b
 by_cases h7:x.k=7
 ·exact CI P wp n aO hs x w F hp hn h7 hf.a hf.b
 exact CG P wp n aO hs x w F hp hn ⟨h1,h2,h3,h4,h5,h6,h7⟩ hf.a hf.b
def cost(ops:Nat->fU):Nat->Nat
 |0=>0
 |k+1=>cost ops k+(ops k).s.size+1
theorem Dw(len:Nat)(ops:Nat->fU): ∀k,(cost ops k:Int)+len=tot len ops k+k
 |0=>by show((0:Nat):Int)+len=len+((0:Nat):Int);omega
 |k+1=>by have ih:=Dw len ops k;show((cost ops k+(ops k).s.size+1:Nat):Int)+len=tot len ops k+((ops k).s.size:Int)+((k+1:Nat):Int);omega
theorem tJ{len:Nat}{ops:Nat->fU}(h:tot len ops len<=1048576){k:Nat}(hk:k<=len):cost ops k<=1048576:=by have h1:=Dw len ops k;have h2:=Gs len ops k (len-k);rw[Nat.add_sub_cancel' hk]at h2;omega
theorem nP(P:uO w.heap.size w): ∃aO hs F',Pre P w.heap.size 0 aO hs (w.alloc (.cells #[.slice none 0 0, .slice none 0 0, .bool false] 78)) F':=by have hn: ∀(e:TypeId) (z:Nat),(rowA e z (.slice none 0 0) 0 []).holds w (fun _=>False):=fun e z=>dS _ _ _ (fun _ h=>h);have he:(emp:aM).holds w (fun _=>False):=fun _ h=>h;have h1:=Goes.alloc (Goes.refl (jg (A:=VN P (.slice none 0 0) []) (jg (hn _ _) he) (B:=lsA (.slice none 0 0) []) (jg (hn _ _) he))) (.cells #[.slice none 0 0, .slice none 0 0, .bool false] 78);obtain⟨F',dR,o,nn⟩:=h1;refine⟨[], [],F',⟨.slice none 0 0, .slice none 0 0,dR⟩,fun _ h=>(List.not_mem_nil h).elim,ae _,ae _,o.size,(ah _ _).alloc (ae _) _,fun k hk=>(nn k hk).elim (fun h=>h.elim) id⟩
theorem MQ{P:uO base dz}{wp n:Nat}{aO:List Pr}{hs:List (Value×Nat)}{F:Ft}(h:Pre P wp n aO hs w F)(hn:n<=1048576):Calls prog 38 #[.pointer (some ⟨wp,0,none⟩)] w fun e w'=>e= .returned (.bool true)∧Below w.heap.size w w':=by obtain⟨ds,ls,ho⟩:=h.holds;obtain⟨hb,_⟩:=dC (show(aa (blk wp _) _).holds w F from ho);obtain⟨_,_,_,⟨_,_,_,⟨G,H,hG,hH,_,_⟩,_,_⟩,_,_⟩:=ho;refine MD wp ds ls hs w hb G hG (fun k hk=> ?_) (by have:=h.nh;omega);exact tv hH _ (List.mk_mem_zipIdx_iff_getElem?.2 (a7 hk))
end Lw
namespace fA
open Go.RowKit
theorem yt{x:fU}(h:x.fits):Lw.Fit x:=by obtain⟨_,h1,h2,h3,h4,h5,h6,h7⟩:=h;exact⟨Go.Joins.in64_of_wf h1,Go.Joins.in64_of_wf h2,Go.Joins.in64_of_wf h3,Go.Joins.in64_of_wf h4,Go.Joins.in64_of_wf h5,Go.Joins.in64_of_wf h6,Go.Joins.in64_of_wf h7⟩
