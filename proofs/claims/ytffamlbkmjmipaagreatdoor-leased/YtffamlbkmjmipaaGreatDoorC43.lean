import Derived.Test.YtffamlbkmjmipaaGreatDoorC41
import Derived.Test.YtffamlbkmjmipaaGreatDoorRows
import Derived.Shelf.Vars
import Derived.MakeChecks
import Derived.Lib.LaidTab
import Derived.Lib.LaidU8T
set_option maxHeartbeats 8000000
set_option maxRecDepth 100000
namespace Go.Proofs.YtffamlbkmjmipaaGreatDoor
open _root_.Go.Proofs.Tryz
namespace Pj
open Go.RowKit aM Mc bJ
attribute [local go_sem] ag ar
variable{s:St}{n:Nat}
theorem yO(cn:List (Int×Nat×Bs))(c d:Int):Ex (cn.filter fun k=>decide (k.1≠c)) d=if d=c then []else Ex cn d:=by
 unfold Ex;rw[List.find?_filter];by_cases e:d=c
 ·subst e;rw[if_pos rfl];have:cn.find? (fun a=>decide (decide (a.1≠d)=true∧(a.1==d)=true))=none:=List.find?_eq_none.2 fun y _=>by simp
  rw[this]
 ·rw[if_neg e];have:(fun a:Int×Nat×Bs=>decide (decide (a.1≠c)=true∧(a.1==d)=true))=fun a=>a.1==d:=by
   funext y;by_cases e2:y.1=d
   ·simp[e2,e]
   ·simp[e2]
  rw[this]
theorem FD{s':St}{c:Int}(h:s'.nr=s.nr.filter fun y=>y.1 !=c)(d:Int):s'.bG d=if d=c then []else s.bG d:=by
 rw[St.qX,St.qX,h,List.find?_filter];by_cases e:d=c
 ·subst e;rw[if_pos rfl];have:s.nr.find? (fun a=>decide ((a.1 !=d)=true∧(a.1==d)=true))=none:=List.find?_eq_none.2 fun y _=>by simp
  rw[this]
 ·rw[if_neg e];have:(fun a:Int×Bs=>decide ((a.1 !=c)=true∧(a.1==d)=true))=fun a=>a.1==d:=by
   funext y;by_cases e2:y.1=d
   ·simp[e2,e]
   ·simp[e2]
  rw[this]
theorem Sd.aQ(h:Sd n s)(f:Nat)(c:Int):Sd n (St.aQ f s c):=⟨St.dW f c h.inv,Ok.aQ f c h.ok h.inv,aw (St.oB f s c) h.sz,Bd.aQ f c h.bd⟩
theorem Sd.aP(h:Sd n s)(f:Nat)(c:Int):Sd n (St.aP f s c):=⟨St.fY f c h.inv,Ok.aP f c h.ok h.inv,aw (St.oA f s c) h.sz,Bd.aP f c h.bd h.inv⟩
theorem Lv{base:Nat}{dz:World}(HT:su base dz)(x:Nat)(c:Int)(n:Nat)(s:St)(w:World)(F:Ft)(hB:base<=w.heap.size)(hb:Below base dz w)(hc:Lw.I64 c)(hg:Mc.Good n s)(hn:n<=1299998)(h:(rB base x s).holds w F):Calls prog 27 #[.pointer (some ⟨x,0,none⟩), .int .i64 c] w (Lw.RU (rB base x) (s.close c) w F):=by
 have SD:=tL h;obtain⟨g,cn,F1,ho,A6,Ir,oc,jJ,qc,n1,cd⟩:=yi hB h;have tR:Below w.heap.size w (w.alloc (.cells #[.slice none 0 0] 94)):=(ah _ _).alloc (ae _) _;have o1:Only F w (w.alloc (.cells #[.slice none 0 0] 94)):=(Only.refl F w).alloc _;have T1:Tabs base (w.alloc (.cells #[.slice none 0 0] 94)):=(HT.at hB hb).new tR;generalize kK:w.alloc (.cells #[.slice none 0 0] 94)=w1 at*;have vW:=Good.sd hg ho (by omega);have hz:=vW.sz;have IA:=vW.forget c;have Px:Busy (oF s c) (fun _=>False):=A6;have HFO:Hid (Calls prog 43 #[pt x, .int .i64 c] w1 fun e w2=>e= .returned (.tuple #[])∧
   Hid (Calls prog 44 #[pt x,pt w.heap.size, .int .i64 c] w2 fun e w3=>e= .returned (.tuple #[])∧
    Hid (Calls prog 45 #[pt x,pt w.heap.size, .int .i64 c] w3 fun e w4=>e= .returned (.tuple #[])∧
     Hid (Calls prog 42 #[pt x,pt w.heap.size] w4 fun e w5=>e= .returned (.tuple #[])∧ ∃ao n1 cap,w5.cell? ⟨w.heap.size,0,none⟩=some (.slice ao n1 cap)∧Hid (Goes (aa (Mr.iB (.slice ao n1 cap) (s.close c).out) (rB base x (s.close c).told)) w F w5))))):=by
  show Calls _ _ _ _ _;refine(H7 T1 qc hg.inv (by omega) c (I6.of hc.1 hc.2)).mono ?_;rintro e w2⟨rfl,ld⟩;refine⟨rfl, ?_⟩;have T2:=T1.goes cd ld;obtain⟨F2,eX,o2,n2⟩:=ld;show Calls _ _ _ _ _;refine(Nd T2 eX IA (by omega) Px c).mono ?_;rintro e w3⟨rfl,mW⟩;refine⟨rfl, ?_⟩;have T3:=T2.goes (dx eX) mW;obtain⟨F3,iX,o3,n3⟩:=aF o2 n2 mW;show Calls _ _ _ _ _;have BV:=IA.aQ (oF s c).reqs.length c;refine(Pm T3 iX BV (by omega) c).mono ?_;rintro e w4⟨rfl,kI⟩;refine⟨rfl, ?_⟩;have T4:=T3.goes (dx iX) kI;obtain⟨F4,th,o4,n4⟩:=aF o3 n3 kI;show Calls _ _ _ _ _;refine(yx T4 th (BV.aP _ c) (by omega)).mono ?_;rintro e w5⟨rfl,g',hg5⟩;refine⟨rfl, ?_⟩;have iJ:Goes (stA base x w.heap.size g' (cn.filter fun k=>decide (k.1≠c)) (s.close c)) w F w5:=aF o1 n1 (aF o4 n4 hg5);obtain⟨v,hv,bK⟩:=uU iJ (ho.close hg.inv c) (A6.close hg.inv c) (fun d=>by rw[yO,FD (St.OP c) d,oc d]);obtain⟨F6,xu,o6,n6⟩:=id bK;obtain⟨G6,zG,_⟩:=aM.left xu;obtain⟨ao,cap,ev,_⟩:=bC zG;rw[ev]at hv bK;exact⟨ao,_,cap,hv,bK⟩
 clear h qc hg vW IA A6 Px T1 o1 n1 oc jJ;unfold pt at*;subst kK;go_enter func27,ntmps27;go_wp2_with (first
  |(go_at_call 39;go_must(refine SD.mono ?_;rintro e wz⟨rfl,rfl⟩))
  |(go_at_call 43;go_must(refine HFO.out.mono ?_;rintro e w2⟨rfl,CS⟩;clear HFO))
  |(go_at_call 44;go_must(refine CS.out.mono ?_;rintro e w3⟨rfl,HGI⟩))
  |(go_at_call 45;go_must(refine HGI.out.mono ?_;rintro e w4⟨rfl,ZM⟩))
  |(go_at_call 42;go_must(refine ZM.out.mono ?_;rintro e w5⟨rfl,ao,nn,cap,hc5,HG⟩)))
 go_ret;exact⟨_,rfl,HG.out⟩
end Pj
namespace Mc
open bJ
namespace St
def Pb(s:St)(c:Int)(ls:List Bs):St:=((s.lines c ls.dropLast).conn c).di c ((ls.getLastD []).take 81)
theorem tM(s:St)(c:Int)(b:Bs):s.feed c b=Pb (s.conn c) c (l5 (s.bG c) (bW 10 b)):=rfl
theorem Pd(s:St)(c:Int)(kept a:Bs){r:List Bs}(hr:r≠ []):Pb s c (l5 kept (a::r))=Pb (s.line c (kept++a)) c (l5 [] r):=by
 match r,hr with
 |x::r,_=>rfl
theorem Ty(s:St)(c:Int)(kept a:Bs):Pb s c (l5 kept [a])=(s.conn c).di c ((kept++a).take 81):=rfl
theorem MC(s:St)(c:Int)(l:Bs):s.line c (l.take 81)=s.line c l:=by
 by_cases h:l.length<=81
 ·rw[List.take_of_length_le h]
 ·have h1:jz l=false:=by
   unfold jz;rw[(kX (l:=l) (by omega)).2];rfl
  have h2:jz (l.take 81)=false:=by unfold jz;rw[(kX (l:=l.take 81) (by rw[List.length_take];omega)).2];rfl
  unfold line;rw[h1,h2];rfl
theorem DU{p:Cn->Bool}{f:Cn->Cn}(hn: ∀x,(f x).n=x.n)(hd: ∀x,(f x).drains=x.drains)(d:Int): ∀l:List Cn,(match (aK p f l).find? (fun x=>x.n==d)with|some x=>x.drains|none=>false)=(match l.find? (fun x=>x.n==d)with|some x=>x.drains|none=>false)
 | []=>rfl
 |y::l=>by
  unfold aK;by_cases hp:p y=true
  ·rw[if_pos hp,List.find?_cons,List.find?_cons,hn];cases y.n==d
   ·rfl
   ·exact hd y
  ·rw[if_neg hp,List.find?_cons,List.find?_cons];cases y.n==d
   ·exact DU hn hd d l
   ·rfl
theorem qx(s:St)(c:Int)(r:Bs)(d:Int):(s.di c r).drains d=s.drains d:=DU (p:=fun x=>x.n==c) (f:=fun x=>{x with rest:=r}) (fun _=>rfl) (fun _=>rfl) d s.aq
end St
theorem Ok.di{s:St}(h:Ok s)(c:Int)(r:Bs):Ok (s.di c r):=by
 have hm: ∀x∈(s.di c r).aq,∃y∈s.aq,x.n=y.n∧x.drains=y.drains∧x.gone=y.gone:=fun x hx=>by
  rcases cR hx with h|⟨y,hy,_,rfl⟩
  ·exact⟨x,h,rfl,rfl,rfl⟩
  ·exact⟨y,hy,rfl,rfl,rfl⟩
 refine⟨fun x hx hd=> ?_,fun x hx hd=> ?_,h.key,h.num,h.hd⟩
 ·obtain⟨y,hy,e1,e2,e3⟩:=hm x hx;rw[e3];exact h.gone y hy (by rw[<-e2];exact hd)
 ·obtain⟨y,hy,e1,e2,e3⟩:=hm x hx;rw[e1,e3];exact h.dr y hy (by rw[<-e2];exact hd)
end Mc
namespace Pj
open Go.RowKit aM Mc bJ
theorem Rel.di{g:Gh}{j:Js}{s:St}(h:Rel g j s)(c:Int)(r:Bs):Rel g j (s.di c r):=by
 refine h.aq j.bT _ h.cnd (fun k hk=> ?_) (fun d=> ?_)
 ·have:(aK (fun x:Cn=>x.n==c) (fun x=>{x with rest:=r}) s.aq).map (·.n)=s.aq.map (·.n):=cr _ (fun x:Cn=>{x with rest:=r}) (·.n) (fun _=>rfl) s.aq;rw[this];exact h.cin k hk
 ·show j.drains d=(s.di c r).drains d;rw[St.qx];exact h.dr d
theorem Ey{cn:List (Int×Nat×Bs)}{c:Int}(b:Bs)(hc:c∈cn.map (·.1))(d:Int):Ex (oZ cn c b) d=if d=c then b else Ex cn d:=by
 unfold Ex oZ;rw[List.find?_map];have e:((fun y:Int×Nat×Bs=>y.1==d)∘fun y=>if y.1=c then(y.1,y.2.1,b)else y)=fun y=>y.1==d:=by funext y;simp only[Function.comp_def];split<;>rfl
 rw[e];by_cases ed:d=c
 ·subst ed;rw[if_pos rfl];cases hf:cn.find? (fun y=>y.1==d)with
  |none=>obtain⟨y,hy,e'⟩:=aA.1 hc;exact absurd (List.find?_eq_none.1 hf y hy) (by simp[e'])
  |some y=>
   have:y.1=d:=by simpa using List.find?_some hf
   simp[this]
 ·rw[if_neg ed];cases hf:cn.find? (fun y=>y.1==d)with
  |none=>rfl
  |some y=>
   have:y.1=d:=by simpa using List.find?_some hf
   have cC:y.1≠c:=by rw[this];exact ed
   simp[cC]
theorem FQ(cn:List (Int×Nat×Bs))(c:Int)(b:Bs):(oZ cn c b).map (·.1)=cn.map (·.1):=by unfold oZ;rw[aG];refine bY fun y _=> ?_;simp only[Function.comp_def];split<;>rfl
theorem KU{cn:List (Int×Nat×Bs)}{c:Int}{p:Nat}{b:Bs}(h:(c,p,b)∈cn):c∈cn.map (·.1):=aA.2 ⟨_,h,rfl⟩
theorem KN{cn:List (Int×Nat×Bs)}(hn:(cn.map (·.1)).Nodup){c:Int}{p:Nat}{b:Bs}(h:(c,p,b)∈cn):Ex cn c=b:=by
 unfold Ex;cases hf:cn.find? (fun y=>y.1==c)with
 |none=>exact absurd (List.find?_eq_none.1 hf _ h) (by simp)
 |some y=>
  have e:y.1=c:=by simpa using List.find?_some hf
  have:y=(c,p,b):=ck (k:=fun y:Int×Nat×Bs=>y.1) hn (dT hf) h e;rw[this]
section
variable{base x tb:Nat}{g:Gh}{cn:List (Int×Nat×Bs)}{s:St}{w wr:World}{F:Ft}
theorem YR(T:Tabs base w)(h:(stA base x tb g cn s).holds w F)(c:Int)(hc:I6 c)(hd:s.drains c=false): ∃cm w2,w.cell? ⟨x,6,none⟩=some (.map (some cm))∧(Builtin.delete_ #[81,3] 0 #[.map (some cm), .int .i64 c]).run prog w= .ok (.tuple #[]) w2∧Goes (stA base x tb g (cn.filter fun k=>decide (k.1≠c)) s) w F w2:=by obtain⟨j,r1,r2,r3,hF,hh⟩:=h;obtain⟨cm,w2,c6,yB,hg⟩:=Eu hh c hc 0;exact⟨cm,w2,c6,yB,iD (s':=s) T hF (r1.YS c (by rw[r1.dr];exact hd)) r2 (Dt r3 c) hg⟩
theorem KZ(h:Goes (stA base x tb g cn s) w F wr)(c:Int)(r:Bs):Goes (stA base x tb g cn (s.di c r)) w F wr:=CF h rfl (fun _ hj=>hj.di c r)
end
structure RT(base x tb n0 tot:Nat)(s0:St)(c:Int)(b:Bs)(p:Nat)(w:World)(F:Ft)(rem:Bs)(g:Gh)(cn:List (Int×Nat×Bs))(kept:Bs)(s:St)(k:Nat)(wr:World):Prop where
 goes:Goes (stA base x tb g cn s) w F wr
 hk:(c,p,kept)∈cn
 nd:(cn.map (·.1)).Nodup
 kl:kept.length<=81
 mid:Mid n0 k s
 ok:Ok s
 busy:Busy s (fun _=>False)
 fin:s0.feed c b=St.Pb s c (St.l5 kept (bW 10 rem))
 cnt:k+(bW 10 rem).length<=tot
 cin:c∈s.aq.map (·.n)
 kof: ∀d,d≠c->Ex cn d=s.bG d
theorem Mid.sd{n m:Nat}{s:St}(h:Mid n m s)(ho:Ok s)(hn:n+m<=1300000):Sd (12*n+10*m+1) s:=⟨h.inv,ho,h.sz,h.bd.up (by omega)⟩
theorem IX{s:St}(c:Int)(l:Bs)(h:c∈s.aq.map (·.n)):c∈(s.line c l).aq.map (·.n):=by rw[<-St.abo,St.KT h,St.abo];exact h
theorem Ok.line{s:St}(h:Ok s)(hi:Inv s)(c:Int)(l:Bs):Ok (s.line c l):=by
 unfold St.line;split
 ·exact(h.message hi c _).serve (St.kd hi c _)
 ·exact h.say _ _
theorem Busy.line{s:St}(h:Busy s (fun _=>False))(hi:Inv s)(c:Int)(l:Bs):Busy (s.line c l) (fun _=>False):=by
 unfold St.line;split
 ·exact(h.message hi c _).serve (St.kd hi c _)
 ·exact h.say _ _
end Pj
namespace Pj
open Go.RowKit aM Mc bJ
attribute [local go_sem] ag ar
section
variable{base x tb n0 tot:Nat}{dz:World}{s0:St}{c:Int}{b:Bs}{p:Nat}{w:World}{F:Ft}{rem:Bs}{g:Gh}{cn:List (Int×Nat×Bs)}{kept:Bs}{s:St}{k:Nat}{wr:World}
def Out(base x tb:Nat)(s:St)(w:World)(F:Ft)(wr:World):Prop:= ∃ao n1 cap,wr.cell? ⟨tb,0,none⟩=some (.slice ao n1 cap)∧Hid (Goes (aa (Mr.iB (.slice ao n1 cap) s.out) (rB base x s.told)) w F wr)
theorem QS(h:Goes (stA base x tb g cn s) w F wr)(ho:Ok s)(hb:Busy s (fun _=>False))(hk: ∀d,Ex cn d=s.bG d):Out base x tb s w F wr:=by obtain⟨v,hv,bK⟩:=uU h ho hb hk;obtain⟨F6,xu,o6,n6⟩:=id bK;obtain⟨G6,zG,_⟩:=aM.left xu;obtain⟨ao,cap,ev,_⟩:=bC zG;rw[ev]at hv bK;exact⟨ao,_,cap,hv,bK⟩
theorem RT.last(T:Tabs base w)(hF: ∀k,F k->base<=k)(hc:I6 c)(h:RT base x tb n0 tot s0 c b p w F rem g cn kept s k wr)(pX:bW 10 rem= [rem])(og:rem.length<=2097152)(nd:Nat):Calls prog 49 #[pt p, .string ⟨rem.toArray⟩] (wr.drewN nd) fun e w3=>e= .returned (.tuple #[])∧ ∃nw:Bool,Hid (Calls prog 52 #[pt p] w3 fun e w4=>e= .returned (.bool nw)∧w4=w3)∧(nw=false->Hid (Out base x tb (s0.feed c b) w F w3))∧(nw=true->Hid (∃cm w5,w3.cell? ⟨x,6,none⟩=some (.map (some cm))∧(Builtin.delete_ #[81,3] 0 #[.map (some cm), .int .i64 c]).run prog w3= .ok (.tuple #[]) w5∧Out base x tb (s0.feed c b) w F w5)):=by
 have g0:=h.goes.drewN nd;have T1:Tabs base (wr.drewN nd):=T.goes hF g0;obtain⟨F1,cd,o1,n1⟩:=g0;have VT:s0.feed c b=s.di c ((kept++rem).take 81):=by rw[h.fin,pX,St.Ty,St.AP h.cin]
 refine(Oq T1 cd h.hk h.kl ⟨rem.toArray⟩ (by show rem.toArray.size<=_;simpa using(by omega:rem.length<=4194304))).mono ?_;rintro e w3⟨rfl,mW⟩;have Il:Goes (stA base x tb g (oZ cn c ((kept++rem).take 81)) s) (wr.drewN nd) F1 w3:=mW;have T3:=T1.goes (dx cd) Il;have kI:=aF o1 n1 Il;obtain⟨F3,iX,o3,n3⟩:=id kI;have pK:=uq h.hk ((kept++rem).take 81);have acM:((oZ cn c ((kept++rem).take 81)).map (·.1)).Nodup:=by rw[FQ];exact h.nd
 have XD:(s.di c ((kept++rem).take 81)).drains c=s.drains c:=St.qx s c _ c;have aaV: ∀d,Ex (oZ cn c ((kept++rem).take 81)) d=(s.di c ((kept++rem).take 81)).bG d:=fun d=>by
  rw[Ey _ (KU h.hk),St.JB _ d h.cin];by_cases e:d=c
  ·rw[if_pos e,if_pos e]
  ·rw[if_neg e,if_neg e];exact h.kof d e
 refine⟨rfl,_,P9 iX pK (by rw[List.length_take];omega),fun hnw=> ?_,fun hnw=> ?_⟩
 ·rw[VT];exact QS (KZ kI c _) (h.ok.di c _) h.busy aaV
 ·simp only[bZ,decide_eq_true_eq,Bool.not_eq_true']at hnw;obtain⟨cm,w5,c6,yB,hg5⟩:=YR T3 iX c hc hnw.2;refine⟨cm,w5,c6,yB, ?_⟩;rw[VT];refine QS (KZ (aF o3 n3 hg5) c _) (h.ok.di c _) h.busy (fun d=> ?_);rw[yO,<-aaV d];by_cases e:d=c
  ·rw[if_pos e,e,KN acM pK,hnw.1]
  ·rw[if_neg e]
theorem RT.next(L:kE base dz)(iO:Below base dz w)(T:Tabs base w)(hF: ∀k,F k->base<=k)(hc:I6 c)(Am:n0+tot<=1300000)(h:RT base x tb n0 tot s0 c b p w F rem g cn kept s k wr){a r:Bs}(pX:bW 10 rem=a::bW 10 r)(Xs:a.length<=2097152)(nd:Nat):Calls prog 49 #[pt p, .string ⟨a.toArray⟩] (wr.drewN nd) fun e w3=>e= .returned (.tuple #[])∧Hid (Calls prog 51 #[pt p] w3 fun e w4=> ∃l:Bs,e= .returned (.string ⟨l.toArray⟩)∧Hid (Calls prog 50 #[pt x,pt tb, .int .i64 c, .string ⟨l.toArray⟩] w4 fun e w5=>e= .returned (.tuple #[])∧Hid (∃g' NP s' k',RT base x tb n0 tot s0 c b p w F r g' NP [] s' k' w5))):=by
 have g0:=h.goes.drewN nd;have T1:Tabs base (wr.drewN nd):=T.goes hF g0;obtain⟨F1,cd,o1,n1⟩:=g0;have LZ:=h.cnt;rw[pX,List.length_cons]at LZ;refine(Oq T1 cd h.hk h.kl ⟨a.toArray⟩ (by show a.toArray.size<=_;simpa using(by omega:a.length<=4194304))).mono ?_;rintro e w3⟨rfl,mW⟩;have Il:Goes (stA base x tb g (oZ cn c ((kept++a).take 81)) s) (wr.drewN nd) F1 w3:=mW;have kI:=aF o1 n1 Il;have T3:Tabs base w3:=T.goes hF kI;obtain⟨F3,iX,o3,n3⟩:=kI;refine⟨rfl, ?_⟩;show Calls _ _ _ _ _;refine(Xf T3 iX (uq h.hk ((kept++a).take 81)) (by rw[List.length_take];omega)).mono ?_;rintro e w4⟨rfl,hg5⟩;rw[Rl]at hg5;have iJ:=aF o3 n3 hg5;have T4:Tabs base w4:=T.goes hF iJ;have l9:Below base dz w4:=by obtain⟨_,_,o,_⟩:=iJ;exact iO.trans (o.toBelow hF T.1)
 obtain⟨F4,th,o4,n4⟩:=iJ;refine⟨(kept++a).take 81,rfl, ?_⟩;show Calls _ _ _ _ _;have vW:=Mid.sd h.mid h.ok (by omega);have hw:(s.wait.length:Int)<=2*((n0:Int)+k):=by have:=h.mid.sz;unfold St.sz at this;omega
 refine(Ia L l9 T4 th vW (by omega) ⟨_,h.mid.bd,hw,by omega⟩ h.busy c hc (uq h.hk []) ((kept++a).take 81) (by rw[List.length_take];omega)).mono ?_;rintro e w5⟨rfl,g',u6⟩;refine⟨rfl,g',oZ cn c [],s.line c ((kept++a).take 81),k+1, ?_⟩;refine⟨aF o4 n4 u6,uq h.hk [],by rw[FQ];exact h.nd,by simp,h.mid.line c _,Pj.Ok.line h.ok h.mid.inv c _,Pj.Busy.line h.busy h.mid.inv c _, ?_,by omega,IX c _ h.cin,fun d hd=> ?_⟩
 ·rw[h.fin,pX,St.Pd s c kept a (BH 10 r),St.MC]
 ·rw[Ey _ (KU h.hk),if_neg hd,h.kof d hd,St.rest_of (St.KT h.cin _) d]
end
theorem O9{base:Nat}{dz:World}(L:kE base dz)(HT:su base dz)(x:Nat)(c:Int)(b:ByteArray)(n:Nat)(s:St)(w:World)(F:Ft)(hB:base<=w.heap.size)(hb:Below base dz w)(hc:Lw.I64 c)(hbs:b.size<=2097152)(hg:Mc.Good n s)(hn:n+(bW 10 b.data.toList).length<=1299999)(h:(rB base x s).holds w F):Calls prog 29 #[.pointer (some ⟨x,0,none⟩), .int .i64 c, .string b] w (Lw.RU (rB base x) (s.feed c b.data.toList) w F):=by
 have SD:Calls prog 39 #[pt x] w fun e w'=>e= .returned (.bool true)∧w=w':=(tL h).mono fun _ _ hh=>⟨hh.1,hh.2.symm⟩;have NR: ∀k,F k->base<=k:=by obtain⟨_,_,_,_,_,_,_,_,h,_⟩:=h;exact h
 obtain⟨g,cn,F1,ho,A6,Ir,oc,jJ,qc,n1,cd⟩:=yi hB h;have T:=HT.at hB hb;have tR:Below w.heap.size w (w.alloc (.cells #[.slice none 0 0] 94)):=(ah _ _).alloc (ae _) _;have o1:Only F w (w.alloc (.cells #[.slice none 0 0] 94)):=(Only.refl F w).alloc _;have T1:Tabs base (w.alloc (.cells #[.slice none 0 0] 94)):=T.new tR;generalize kK:w.alloc (.cells #[.slice none 0 0] 94)=w1 at*;have cg:=hg.sz;have hI6:I6 c:=I6.of hc.1 hc.2;obtain⟨bl,px⟩: ∃bl:Bs,b=⟨bl.toArray⟩:=⟨b.data.toList,by simp⟩;have ebl:b.data.toList=bl:=by rw[px]
 have aco:bl.length<=2097152:=by rw[px]at hbs;simpa[ByteArray.size]using hbs
 rw[ebl]at hn⊢;subst px;have RY:Hid (Calls prog 47 #[pt x, .int .i64 c] w1 fun e w2=> ∃p,e= .returned (pt p)∧ ∃g cn kept s' k,Hid (RT base x w.heap.size n (bW 10 bl).length s c bl p w F bl g cn kept s' k w2)):=by
  show Calls _ _ _ _ _;refine(ny T1 qc hg.inv (by omega) c hI6).mono ?_;rintro e w2⟨p,kept,NP,rfl,hk,hor,ld⟩;refine⟨p,rfl,g,NP,kept,s.conn c,0, ?_⟩;have hkc:kept=s.bG c∧(NP.map (·.1)).Nodup∧ ∀d,Ex NP d=s.bG d:=by
   rcases hor with⟨rfl,jU⟩|⟨sI,rfl,rfl⟩
   ·exact⟨by rw[<-oc c];exact(KN jJ jU).symm,jJ,oc⟩
   ·have A7:s.bG c= []:=by
     rw[<-oc c];unfold Ex;rw[List.find?_eq_none.2 (fun y hy e=>sI (aA.2 ⟨y,hy,by simpa using e⟩))]
    refine⟨A7.symm, ?_,fun d=> ?_⟩
    ·rw[aH,List.nodup_append];refine⟨jJ,by simp,fun u hu v hv e=>sI ?_⟩;simp at hv;rw[<-hv,<-e];exact hu
    ·rw[<-oc d];unfold Ex;rw[List.find?_append];cases hf:cn.find? (fun y=>y.1==d)with
     |some y=>rfl
     |none=>
      by_cases e:c=d
      ·subst e;simp
      ·simp[e]
  refine⟨aF o1 n1 ld,hk,hkc.2.1, ?_,hg.conn c,ho.conn c,A6.conn c, ?_,by omega,Bh s c,fun d _=> ?_⟩
  ·rw[hkc.1];unfold St.bG;split
   ·rename_i y hy;exact hg.rs y.rest (aA.2 ⟨y,dT hy,rfl⟩)
   ·simp
  ·rw[hkc.1];exact St.tM s c bl
  ·rw[St.Lz];exact hkc.2.2 d
 have ie:Hid (∀rem:Bs,rem.length<=2097152-> ∀wr,Below base dz wr->Calls prog 48 #[.string ⟨rem.toArray⟩, .string ⟨#[10]⟩] wr fun e w'=>e= .returned (.tuple #[.string ⟨(Lib.cut rem [10]).1.toArray⟩, .string ⟨(Lib.cut rem [10]).2.1.toArray⟩, .bool (Lib.cut rem [10]).2.2])∧ ∃n,w'=wr.drewN n):=fun rem hr wr yz=>L.cut ⟨rem.toArray⟩ wr (by show rem.toArray.size<=_;simpa using(by omega:rem.length<=4194304)) yz;have HBW:Hid (∀p rem g cn kept s' k wr,RT base x w.heap.size n (bW 10 bl).length s c bl p w F rem g cn kept s' k wr->Below base dz wr):=fun p rem g cn kept s' k wr hf=>by obtain⟨_,_,o,_⟩:=hf.goes;exact hb.trans (o.toBelow NR T.1)
 have HLA:Hid (∀p rem g cn kept s' k wr,RT base x w.heap.size n (bW 10 bl).length s c bl p w F rem g cn kept s' k wr->bW 10 rem= [rem]->rem.length<=2097152-> ∀nd,Calls prog _ _ _ _):=fun p rem g cn kept s' k wr hf h1 h2 nd=>hf.last T NR hI6 h1 h2 nd;have uM:Hid (∀p rem g cn kept s' k wr,RT base x w.heap.size n (bW 10 bl).length s c bl p w F rem g cn kept s' k wr-> ∀a r,bW 10 rem=a::bW 10 r->a.length<=2097152-> ∀nd,Calls prog _ _ _ _):=fun p rem g cn kept s' k wr hf a r h1 h2 nd=>hf.next L hb T NR hI6 (by omega) h1 h2 nd;clear h qc hg A6 T1 o1 n1 oc jJ L HT T hb Ir ho;unfold pt at*;subst kK;generalize(bW 10 bl).length=tot at*;go_enter func29,ntmps29;go_wp2_with (first
  |(go_at_call 39;go_must(refine SD.mono ?_;rintro e wz⟨rfl,rfl⟩))
  |(go_at_call 47;go_must(refine RY.out.mono ?_;rintro e w2⟨p,rfl,g,cn,kept,s',k,Y1⟩;clear RY)))
 go_loopw [2] (fun bv wr=> ∃rem:Bs,bv= .string ⟨rem.toArray⟩∧rem.length<=2097152∧ ∃g cn kept s' k,Hid (RT base x w.heap.size n tot s c bl p w F rem g cn kept s' k wr)) (fun bv _=>match bv with| .string t=>t.size|_=>0)
 case atStart=>exact⟨bl,rfl,aco,g,cn,kept,s',k,Y1⟩
 case round=>
  obtain⟨rem,rfl,og,g1,cn1,Wk,s1,k1,ZF⟩:=hrel;have HC:=hide (ie.out rem og wr (HBW.out _ _ _ _ _ _ _ _ ZF.out));rcases Tg 10 rem with⟨PB,pX,_⟩|⟨a,r,PB,pX,_,hsp⟩
  ·rw[PB]at HC;have HL:=hide (HLA.out p rem g1 cn1 Wk s1 k1 wr ZF.out pX og);clear ie HBW HLA uM ZF Y1 PB pX;dsimp only at HC;go_wp2_with (first
    |(go_at_call 48;go_must(refine HC.out.mono ?_;rintro e w3⟨rfl,nd,rfl⟩;have GH:=hide (HL.out nd);clear HL HC))
    |(go_at_call 49;go_must(refine GH.out.mono ?_;rintro e w4⟨rfl,nw,Lb,Mj,qb⟩;have HN0:=hide Mj;have WI:=hide qb;clear Mj qb GH)))
   cases nw
   ·obtain⟨ao,nn,cap,hcell,HG⟩:=(HN0.out (by first|rfl|trivial)).out;clear HN0 WI;go_wp2_with (first
     |(go_at_call 52;go_must(refine Lb.out.mono ?_;rintro e w5⟨rfl,rfl⟩)))
    go_ret;exact⟨_,rfl,HG.out⟩
   ·obtain⟨cm,w6,c6,yB,ao,nn,cap,hcell,HG⟩:=(WI.out (by first|rfl|trivial)).out;clear HN0 WI;go_wp2_with (first
     |(go_at_call 52;go_must(refine Lb.out.mono ?_;rintro e w5⟨rfl,rfl⟩)))
    go_ret;exact⟨_,rfl,HG.out⟩
  ·rw[PB]at HC;have hlen:rem.length=a.length+r.length+1:=by rw[hsp];simp;omega
   have HX:=hide (uM.out p rem g1 cn1 Wk s1 k1 wr ZF.out a r pX (by omega));clear ie HBW HLA uM ZF Y1 PB pX hsp;dsimp only at HC;go_wp2_with (first
    |(go_at_call 48;go_must(refine HC.out.mono ?_;rintro e w3⟨rfl,nd,rfl⟩;have J1:=hide (HX.out nd);clear HX HC))
    |(go_at_call 49;go_must(refine J1.out.mono ?_;rintro e w4⟨rfl,HEN⟩;clear J1))
    |(go_at_call 51;go_must(refine HEN.out.mono ?_;rintro e w5⟨l,rfl,HHA⟩;clear HEN))
    |(go_at_call 50;go_must(refine HHA.out.mono ?_;rintro e w6⟨rfl,WJ⟩;clear HHA)))
   go_roundw
   case rel=>obtain⟨g',NP,s',k',hf⟩:=WJ.out;exact⟨r,rfl,by omega,g',NP, [],s',k',hf⟩
   case measure=>simp[ByteArray.size];omega
end Pj
namespace bJ
open Go.RowKit Go.Lib
variable{w W:World}
theorem Pe:(Rows.laid_unicode_utf8_first:DataW Unit)=firstData:=by kernel_rfl
theorem Le:(Rows.laid_unicode_utf8_acceptRanges:DataW Unit)=acceptData:=by kernel_rfl
theorem pow_eq:(Rows.laid_internal_strconv_uint64pow10:DataW Unit)=tabData .u64 pow10Tab:=by kernel_rfl
theorem Ho{B:Nat}{w':World}(h:Lib.Utf8Tabs 1 2 w)(hb:Below B w w')(hB:2<B):Lib.Utf8Tabs 1 2 w':=
 ⟨fun c hc=>by rw[hb.cell (p:=⟨1,c,none⟩) (by show 1<B;omega)];exact h.1 c hc,fun i hi=>⟨by rw[hb.cell (p:=⟨2,2*i,none⟩) hB];exact(h.2 i hi).1,by rw[hb.cell (p:=⟨2,2*i+1,none⟩) hB];exact(h.2 i hi).2⟩⟩
theorem cell_lt{a:Addr}{v:Value}(h:w.cell? a=some v):a.block<w.heap.size:=by
 unfold World.cell? at h;split at h
 ·rename_i hb;exact(cT.1 hb).1
 ·cases h
theorem CL{P:Program}{name:String}{k:IntKind}{zs:List Int}{g:Nat}{t e:TypeId}{n:Nat}(hg:P.globalNamed name=some g)(hty:(P.globals[g]?).map (·.type)=some t)(ht:P.underlying t=some (.array n e))(he:P.underlying e=some (.int k))(hce:P.cellsOf e=1)(NV:P.cellsOf t=n)(h:VarReads P W name (tabData k zs)):TabIs P W name k zs:=by obtain⟨g',t',cs,fuel,p,kQ,El,acW,hd⟩:=h;obtain rfl:=Option.some.inj (hg.symm.trans kQ);obtain rfl:=Option.some.inj (hty.symm.trans El);unfold TabIs;rw[acW,<-cells_of_tab ht he hce NV hd]
theorem Qm(hL:laidMetH prog Rows.badsRow.laid W)(oh:W.ShapedOpen prog):kE W.heap.size W∧Pj.su W.heap.size W:=by
 have hL':laidMet prog Rows.badsRow.laid W:=by rw[<-Go.MakeChecks.laidMetH_plain prog _ W (by kernel_rfl)];exact hL
 have hT:Lib.Utf8Tabs 1 2 W:=by
  refine utf8Tabs_of_readsT (U8Types.of196 valid) ⟨by kernel_rfl,by kernel_rfl,by kernel_rfl,by kernel_rfl,by kernel_rfl,by kernel_rfl,by kernel_rfl⟩ ?_ ?_
  ·rw[<-Pe];exact laidMet.reads hL' (by simp[Rows.badsRow])
  ·rw[<-Le];exact laidMet.reads hL' (by simp[Rows.badsRow])
 have hP:TabIs prog W "internal/strconv.uint64pow10" .u64 pow10Tab:=by refine CL (g:=3) (t:=304) (e:=255) (n:=20) (by kernel_rfl) (by kernel_rfl) (by kernel_rfl) (by kernel_rfl) (by kernel_rfl) (by kernel_rfl) ?_;rw[<-pow_eq];exact laidMet.reads hL' (by simp[Rows.badsRow])
 obtain⟨m,hm⟩:=cell_of_shapedOpen_int (P:=prog) (g:=0) (t:=3) (zero:= #[.int .i64 0]) oh (of_decide_eq_true (by kernel_rfl)) (by kernel_rfl) rfl (by kernel_rfl) (by kernel_rfl) underlying3;have h2:2<W.heap.size:=cell_lt (hT.2 0 (by omega)).1;have Eg: ∀w,Below W.heap.size W w->w.cell? ⟨0,0,none⟩=some (.int .i64 m):=fun w hb=>by rw[hb.cell (p:=⟨0,0,none⟩) (by show 0<W.heap.size;omega)];exact hm
 have h3:3<W.heap.size:=cell_lt (hP.cell (g:=3) (by kernel_rfl) 0 (by decide));refine⟨⟨fun s w hs hb=>Any.utf8_ValidString valid s w (by omega) (Ho hT hb h2),fun s w hs hb=> ?_,fun s w hs hb=> ?_⟩,fun w hb=> ?_⟩
 ·refine(Any.strings_Split split (by kernel_rfl) s ⟨#[32]⟩ m w (by omega) (Eg w hb) (by decide)).mono ?_;rintro e w'⟨rfl,rfl⟩;obtain⟨e1,e2⟩:=JC 32 s;rw[e1,e2];exact⟨rfl,rfl⟩
 ·exact Any.strings_Cut cut s ⟨#[10]⟩ m w (by omega) (Eg w hb)
 ·unfold TabIs World.var? at hP⊢;have hg:prog.globalNamed "internal/strconv.uint64pow10" =some 3:=by kernel_rfl
  rw[hg]at hP⊢;dsimp only[Option.bind_some]at hP⊢;rw[hb.block 3 h3];exact hP
