import Derived.Test.YtffamlbkmjmipaaGreatDoorC41
import Derived.Test.YtffamlbkmjmipaaGreatDoorRows
import Derived.Shelf.Vars
import Derived.MakeChecks
import Derived.Lib.LaidTab
import Derived.Lib.LaidU8T
set_option maxHeartbeats 8000000
set_option maxRecDepth 100000
namespace Go.Proofs.YtffamlbkmjmipaaGreatDoor
open _root_.Go.Proofs.Tryz
namespace Pj
open Go.RowKit aJ Mc bG
attribute [local go_sem] ae ag
variable{s:St}{n:Nat}
theorem wK(cn:List (Int×Nat×Bs))(c d:Int):Dl (cn.filter fun k=>decide (k.1≠c)) d=if d=c then []else Dl cn d:=by
 unfold Dl;rw[List.find?_filter];by_cases e:d=c
 ·subst e;rw[if_pos rfl];have:cn.find? (fun a=>decide (decide (a.1≠d)=true∧(a.1==d)=true))=none:=List.find?_eq_none.2 fun y _=>by simp
  rw[this]
 ·rw[if_neg e];have:(fun a:Int×Nat×Bs=>decide (decide (a.1≠c)=true∧(a.1==d)=true))=fun a=>a.1==d:=by
   funext y;by_cases e2:y.1=d
   ·simp[e2,e]
   ·simp[e2]
  rw[this]
theorem D2{s':St}{c:Int}(h:s'.nr=s.nr.filter fun y=>y.1 !=c)(d:Int):s'.cW d=if d=c then []else s.cW d:=by
 rw[St.nP,St.nP,h,List.find?_filter];by_cases e:d=c
 ·subst e;rw[if_pos rfl];have:s.nr.find? (fun a=>decide ((a.1 !=d)=true∧(a.1==d)=true))=none:=List.find?_eq_none.2 fun y _=>by simp
  rw[this]
 ·rw[if_neg e];have:(fun a:Int×Bs=>decide ((a.1 !=c)=true∧(a.1==d)=true))=fun a=>a.1==d:=by
   funext y;by_cases e2:y.1=d
   ·simp[e2,e]
   ·simp[e2]
  rw[this]
theorem Sd.aM(h:Sd n s)(f:Nat)(c:Int):Sd n (St.aM f s c):=⟨St.cP f c h.inv,Ok.aM f c h.ok h.inv,ar (St.lK f s c) h.sz,Bd.aM f c h.bd⟩
theorem Sd.aP(h:Sd n s)(f:Nat)(c:Int):Sd n (St.aP f s c):=⟨St.fo f c h.inv,Ok.aP f c h.ok h.inv,ar (St.lJ f s c) h.sz,Bd.aP f c h.bd h.inv⟩
theorem JI{base:Nat}{cg:World}(HT:pO base cg)(x:Nat)(c:Int)(n:Nat)(s:St)(w:World)(F:Ft)(hB:base<=w.heap.size)(hb:Below base cg w)(hc:Lw.I64 c)(hg:Mc.Good n s)(hn:n<=1299998)(h:(og base x s).holds w F):Calls prog 27 #[.pointer (some ⟨x,0,none⟩), .int .i64 c] w (Lw.LZ (og base x) (s.close c) w F):=by
 have RF:=rk h;obtain⟨g,cn,F1,ho,zZ,Gz,lD,iL,ED,n1,bU⟩:=vX hB h;have rH:Below w.heap.size w (w.alloc (.cells #[.slice none 0 0] 94)):=(au _ _).alloc (af _) _;have o1:Only F w (w.alloc (.cells #[.slice none 0 0] 94)):=(Only.refl F w).alloc _;have T1:Tabs base (w.alloc (.cells #[.slice none 0 0] 94)):=(HT.at hB hb).new rH;generalize i7:w.alloc (.cells #[.slice none 0 0] 94)=w1 at*;have uz:=Good.sd hg ho (by omega);have hz:=uz.sz;have GG:=uz.forget c;have Ny:Busy (lR s c) (fun _=>False):=zZ;have HFO:Hid (Calls prog 43 #[pt x, .int .i64 c] w1 fun e w2=>e= .returned (.tuple #[])∧
   Hid (Calls prog 44 #[pt x,pt w.heap.size, .int .i64 c] w2 fun e w3=>e= .returned (.tuple #[])∧
    Hid (Calls prog 45 #[pt x,pt w.heap.size, .int .i64 c] w3 fun e w4=>e= .returned (.tuple #[])∧
     Hid (Calls prog 42 #[pt x,pt w.heap.size] w4 fun e w5=>e= .returned (.tuple #[])∧ ∃ao n1 cap,w5.cell? ⟨w.heap.size,0,none⟩=some (.slice ao n1 cap)∧Hid (Goes (aa (Mr.gZ (.slice ao n1 cap) (s.close c).out) (og base x (s.close c).told)) w F w5))))):=by
  show Calls _ _ _ _ _;refine(F0 T1 ED hg.inv (by omega) c (I6.of hc.1 hc.2)).mono ?_;rintro e w2⟨rfl,fw⟩;refine⟨rfl, ?_⟩;have T2:=T1.goes bU fw;obtain⟨F2,gV,o2,n2⟩:=fw;show Calls _ _ _ _ _;refine(Lg T2 gV GG (by omega) Ny c).mono ?_;rintro e w3⟨rfl,iD⟩;refine⟨rfl, ?_⟩;have T3:=T2.goes (cB gV) iD;obtain⟨F3,mB,o3,n3⟩:=aC o2 n2 iD;show Calls _ _ _ _ _;have Bc:=GG.aM (lR s c).reqs.length c;refine(Ns T3 mB Bc (by omega) c).mono ?_;rintro e w4⟨rfl,uu⟩;refine⟨rfl, ?_⟩;have T4:=T3.goes (cB mB) uu;obtain⟨F4,zq,o4,n4⟩:=aC o3 n3 uu;show Calls _ _ _ _ _;refine(wC T4 zq (Bc.aP _ c) (by omega)).mono ?_;rintro e w5⟨rfl,g',kq⟩;refine⟨rfl, ?_⟩;have tD:Goes (stA base x w.heap.size g' (cn.filter fun k=>decide (k.1≠c)) (s.close c)) w F w5:=aC o1 n1 (aC o4 n4 kq);obtain⟨v,hv,bE⟩:=tk tD (ho.close hg.inv c) (zZ.close hg.inv c) (fun d=>by rw[wK,D2 (St.MT c) d,lD d]);obtain⟨F6,J3,o6,n6⟩:=id bE;obtain⟨G6,VG,_⟩:=aJ.left J3;obtain⟨ao,cap,ev,_⟩:=bX VG;rw[ev]at hv bE;exact⟨ao,_,cap,hv,bE⟩
 clear h ED hg uz GG zZ Ny T1 o1 n1 lD iL;unfold pt at*;subst i7;go_enter func27,ntmps27;go_wp2_with (first
  |(go_at_call 39;go_must(refine RF.mono ?_;rintro e wz⟨rfl,rfl⟩))
  |(go_at_call 43;go_must(refine HFO.out.mono ?_;rintro e w2⟨rfl,JA⟩;clear HFO))
  |(go_at_call 44;go_must(refine JA.out.mono ?_;rintro e w3⟨rfl,HGI⟩))
  |(go_at_call 45;go_must(refine HGI.out.mono ?_;rintro e w4⟨rfl,X7⟩))
  |(go_at_call 42;go_must(refine X7.out.mono ?_;rintro e w5⟨rfl,ao,nn,cap,hc5,HG⟩)))
 go_ret;exact⟨_,rfl,HG.out⟩
end Pj
namespace Mc
open bG
namespace St
def Nj(s:St)(c:Int)(ls:List Bs):St:=((s.lines c ls.dropLast).conn c).bW c ((ls.getLastD []).take 81)
theorem Ng(s:St)(c:Int)(b:Bs):s.feed c b=Nj (s.conn c) c (jE (s.cW c) (bB 10 b)):=rfl
theorem Nl(s:St)(c:Int)(kept a:Bs){r:List Bs}(hr:r≠ []):Nj s c (jE kept (a::r))=Nj (s.line c (kept++a)) c (jE [] r):=by
 match r,hr with
 |x::r,_=>rfl
theorem Sr(s:St)(c:Int)(kept a:Bs):Nj s c (jE kept [a])=(s.conn c).bW c ((kept++a).take 81):=rfl
theorem nM(s:St)(c:Int)(l:Bs):s.line c (l.take 81)=s.line c l:=by
 by_cases h:l.length<=81
 ·rw[List.take_of_length_le h]
 ·have h1:ju l=false:=by
   unfold ju;rw[(lW (l:=l) (by omega)).2];rfl
  have h2:ju (l.take 81)=false:=by unfold ju;rw[(lW (l:=l.take 81) (by rw[List.length_take];omega)).2];rfl
  unfold line;rw[h1,h2];rfl
theorem CS{p:Cn->Bool}{f:Cn->Cn}(hn: ∀x,(f x).n=x.n)(hd: ∀x,(f x).drains=x.drains)(d:Int): ∀l:List Cn,(match (aK p f l).find? (fun x=>x.n==d)with|some x=>x.drains|none=>false)=(match l.find? (fun x=>x.n==d)with|some x=>x.drains|none=>false)
 | []=>rfl
 |y::l=>by
  unfold aK;by_cases hp:p y=true
  ·rw[if_pos hp,List.find?_cons,List.find?_cons,hn];cases y.n==d
   ·rfl
   ·exact hd y
  ·rw[if_neg hp,List.find?_cons,List.find?_cons];cases y.n==d
   ·exact CS hn hd d l
   ·rfl
theorem nj(s:St)(c:Int)(r:Bs)(d:Int):(s.bW c r).drains d=s.drains d:=CS (p:=fun x=>x.n==c) (f:=fun x=>{x with rest:=r}) (fun _=>rfl) (fun _=>rfl) d s.aq
end St
theorem Ok.bW{s:St}(h:Ok s)(c:Int)(r:Bs):Ok (s.bW c r):=by
 have hm: ∀x∈(s.bW c r).aq,∃y∈s.aq,x.n=y.n∧x.drains=y.drains∧x.gone=y.gone:=fun x hx=>by
  rcases bJ hx with h|⟨y,hy,_,rfl⟩
  ·exact⟨x,h,rfl,rfl,rfl⟩
  ·exact⟨y,hy,rfl,rfl,rfl⟩
 refine⟨fun x hx hd=> ?_,fun x hx hd=> ?_,h.key,h.num,h.hd⟩
 ·obtain⟨y,hy,e1,e2,e3⟩:=hm x hx;rw[e3];exact h.gone y hy (by rw[<-e2];exact hd)
 ·obtain⟨y,hy,e1,e2,e3⟩:=hm x hx;rw[e1,e3];exact h.dr y hy (by rw[<-e2];exact hd)
end Mc
namespace Pj
open Go.RowKit aJ Mc bG
theorem Rel.bW{g:Gh}{j:Js}{s:St}(h:Rel g j s)(c:Int)(r:Bs):Rel g j (s.bW c r):=by
 refine h.aq j.bu _ h.cnd (fun k hk=> ?_) (fun d=> ?_)
 ·have:(aK (fun x:Cn=>x.n==c) (fun x=>{x with rest:=r}) s.aq).map (·.n)=s.aq.map (·.n):=bn _ (fun x:Cn=>{x with rest:=r}) (·.n) (fun _=>rfl) s.aq;rw[this];exact h.cin k hk
 ·show j.drains d=(s.bW c r).drains d;rw[St.nj];exact h.dr d
theorem Dm{cn:List (Int×Nat×Bs)}{c:Int}(b:Bs)(hc:c∈cn.map (·.1))(d:Int):Dl (mg cn c b) d=if d=c then b else Dl cn d:=by
 unfold Dl mg;rw[List.find?_map];have e:((fun y:Int×Nat×Bs=>y.1==d)∘fun y=>if y.1=c then(y.1,y.2.1,b)else y)=fun y=>y.1==d:=by funext y;simp only[Function.comp_def];split<;>rfl
 rw[e];by_cases ed:d=c
 ·subst ed;rw[if_pos rfl];cases hf:cn.find? (fun y=>y.1==d)with
  |none=>obtain⟨y,hy,e'⟩:=az.1 hc;exact absurd (List.find?_eq_none.1 hf y hy) (by simp[e'])
  |some y=>
   have:y.1=d:=by simpa using List.find?_some hf
   simp[this]
 ·rw[if_neg ed];cases hf:cn.find? (fun y=>y.1==d)with
  |none=>rfl
  |some y=>
   have:y.1=d:=by simpa using List.find?_some hf
   have cA:y.1≠c:=by rw[this];exact ed
   simp[cA]
theorem Ea(cn:List (Int×Nat×Bs))(c:Int)(b:Bs):(mg cn c b).map (·.1)=cn.map (·.1):=by unfold mg;rw[aB];refine bz fun y _=> ?_;simp only[Function.comp_def];split<;>rfl
theorem Ji{cn:List (Int×Nat×Bs)}{c:Int}{p:Nat}{b:Bs}(h:(c,p,b)∈cn):c∈cn.map (·.1):=az.2 ⟨_,h,rfl⟩
theorem I8{cn:List (Int×Nat×Bs)}(hn:(cn.map (·.1)).Nodup){c:Int}{p:Nat}{b:Bs}(h:(c,p,b)∈cn):Dl cn c=b:=by
 unfold Dl;cases hf:cn.find? (fun y=>y.1==c)with
 |none=>exact absurd (List.find?_eq_none.1 hf _ h) (by simp)
 |some y=>
  have e:y.1=c:=by simpa using List.find?_some hf
  have:y=(c,p,b):=bC (k:=fun y:Int×Nat×Bs=>y.1) hn (cI hf) h e;rw[this]
section
variable{base x tb:Nat}{g:Gh}{cn:List (Int×Nat×Bs)}{s:St}{w wr:World}{F:Ft}
theorem W5(T:Tabs base w)(h:(stA base x tb g cn s).holds w F)(c:Int)(hc:I6 c)(hd:s.drains c=false): ∃cm w2,w.cell? ⟨x,6,none⟩=some (.map (some cm))∧(Builtin.delete_ #[81,3] 0 #[.map (some cm), .int .i64 c]).run prog w= .ok (.tuple #[]) w2∧Goes (stA base x tb g (cn.filter fun k=>decide (k.1≠c)) s) w F w2:=by obtain⟨j,r1,r2,r3,hF,hh⟩:=h;obtain⟨cm,w2,c6,wD,hg⟩:=Di hh c hc 0;exact⟨cm,w2,c6,wD,gj (s':=s) T hF (r1.W6 c (by rw[r1.dr];exact hd)) r2 (Cy r3 c) hg⟩
theorem Jk(h:Goes (stA base x tb g cn s) w F wr)(c:Int)(r:Bs):Goes (stA base x tb g cn (s.bW c r)) w F wr:=BH h rfl (fun _ hj=>hj.bW c r)
end
structure Rc(base x tb n0 tot:Nat)(s0:St)(c:Int)(b:Bs)(p:Nat)(w:World)(F:Ft)(rem:Bs)(g:Gh)(cn:List (Int×Nat×Bs))(kept:Bs)(s:St)(k:Nat)(wr:World):Prop where
 goes:Goes (stA base x tb g cn s) w F wr
 hk:(c,p,kept)∈cn
 nd:(cn.map (·.1)).Nodup
 kl:kept.length<=81
 mid:Mid n0 k s
 ok:Ok s
 busy:Busy s (fun _=>False)
 fin:s0.feed c b=St.Nj s c (St.jE kept (bB 10 rem))
 cnt:k+(bB 10 rem).length<=tot
 cin:c∈s.aq.map (·.n)
 kof: ∀d,d≠c->Dl cn d=s.cW d
theorem Mid.sd{n m:Nat}{s:St}(h:Mid n m s)(ho:Ok s)(hn:n+m<=1300000):Sd (12*n+10*m+1) s:=⟨h.inv,ho,h.sz,h.bd.up (by omega)⟩
theorem GS{s:St}(c:Int)(l:Bs)(h:c∈s.aq.map (·.n)):c∈(s.line c l).aq.map (·.n):=by rw[<-St.Z0,St.Jg h,St.Z0];exact h
theorem Ok.line{s:St}(h:Ok s)(hi:Inv s)(c:Int)(l:Bs):Ok (s.line c l):=by
 unfold St.line;split
 ·exact(h.message hi c _).serve (St.ku hi c _)
 ·exact h.say _ _
theorem Busy.line{s:St}(h:Busy s (fun _=>False))(hi:Inv s)(c:Int)(l:Bs):Busy (s.line c l) (fun _=>False):=by
 unfold St.line;split
 ·exact(h.message hi c _).serve (St.ku hi c _)
 ·exact h.say _ _
end Pj
namespace Pj
open Go.RowKit aJ Mc bG
attribute [local go_sem] ae ag
section
variable{base x tb n0 tot:Nat}{cg:World}{s0:St}{c:Int}{b:Bs}{p:Nat}{w:World}{F:Ft}{rem:Bs}{g:Gh}{cn:List (Int×Nat×Bs)}{kept:Bs}{s:St}{k:Nat}{wr:World}
def Out(base x tb:Nat)(s:St)(w:World)(F:Ft)(wr:World):Prop:= ∃ao n1 cap,wr.cell? ⟨tb,0,none⟩=some (.slice ao n1 cap)∧Hid (Goes (aa (Mr.gZ (.slice ao n1 cap) s.out) (og base x s.told)) w F wr)
theorem Qs(h:Goes (stA base x tb g cn s) w F wr)(ho:Ok s)(hb:Busy s (fun _=>False))(hk: ∀d,Dl cn d=s.cW d):Out base x tb s w F wr:=by obtain⟨v,hv,bE⟩:=tk h ho hb hk;obtain⟨F6,J3,o6,n6⟩:=id bE;obtain⟨G6,VG,_⟩:=aJ.left J3;obtain⟨ao,cap,ev,_⟩:=bX VG;rw[ev]at hv bE;exact⟨ao,_,cap,hv,bE⟩
theorem Rc.last(T:Tabs base w)(hF: ∀k,F k->base<=k)(hc:I6 c)(h:Rc base x tb n0 tot s0 c b p w F rem g cn kept s k wr)(uq:bB 10 rem= [rem])(nJ:rem.length<=2000000000000000)(nd:Nat):Calls prog 49 #[pt p, .string ⟨rem.toArray⟩] (wr.drewN nd) fun e w3=>e= .returned (.tuple #[])∧ ∃nw:Bool,Hid (Calls prog 52 #[pt p] w3 fun e w4=>e= .returned (.bool nw)∧w4=w3)∧(nw=false->Hid (Out base x tb (s0.feed c b) w F w3))∧(nw=true->Hid (∃cm w5,w3.cell? ⟨x,6,none⟩=some (.map (some cm))∧(Builtin.delete_ #[81,3] 0 #[.map (some cm), .int .i64 c]).run prog w3= .ok (.tuple #[]) w5∧Out base x tb (s0.feed c b) w F w5)):=by
 have g0:=h.goes.drewN nd;have T1:Tabs base (wr.drewN nd):=T.goes hF g0;obtain⟨F1,bU,o1,n1⟩:=g0;have Uw:s0.feed c b=s.bW c ((kept++rem).take 81):=by rw[h.fin,uq,St.Sr,St.zO h.cin]
 refine(Mi T1 bU h.hk h.kl ⟨rem.toArray⟩ (by show rem.toArray.size<=_;simpa using(by omega:rem.length<=4000000000000000))).mono ?_;rintro e w3⟨rfl,iD⟩;have Gs:Goes (stA base x tb g (mg cn c ((kept++rem).take 81)) s) (wr.drewN nd) F1 w3:=iD;have T3:=T1.goes (cB bU) Gs;have uu:=aC o1 n1 Gs;obtain⟨F3,mB,o3,n3⟩:=id uu;have C4:=sg h.hk ((kept++rem).take 81);have aaV:((mg cn c ((kept++rem).take 81)).map (·.1)).Nodup:=by rw[Ea];exact h.nd
 have NF:(s.bW c ((kept++rem).take 81)).drains c=s.drains c:=St.nj s c _ c;have Zx: ∀d,Dl (mg cn c ((kept++rem).take 81)) d=(s.bW c ((kept++rem).take 81)).cW d:=fun d=>by
  rw[Dm _ (Ji h.hk),St.Hm _ d h.cin];by_cases e:d=c
  ·rw[if_pos e,if_pos e]
  ·rw[if_neg e,if_neg e];exact h.kof d e
 refine⟨rfl,_,N7 mB C4 (by rw[List.length_take];omega),fun hnw=> ?_,fun hnw=> ?_⟩
 ·rw[Uw];exact Qs (Jk uu c _) (h.ok.bW c _) h.busy Zx
 ·simp only[bm,decide_eq_true_eq,Bool.not_eq_true']at hnw;obtain⟨cm,w5,c6,wD,kq⟩:=W5 T3 mB c hc hnw.2;refine⟨cm,w5,c6,wD, ?_⟩;rw[Uw];refine Qs (Jk (aC o3 n3 kq) c _) (h.ok.bW c _) h.busy (fun d=> ?_);rw[wK,<-Zx d];by_cases e:d=c
  ·rw[if_pos e,e,I8 aaV C4,hnw.1]
  ·rw[if_neg e]
theorem Rc.next(L:iP base cg)(vv:Below base cg w)(T:Tabs base w)(hF: ∀k,F k->base<=k)(hc:I6 c)(abN:n0+tot<=1300000)(h:Rc base x tb n0 tot s0 c b p w F rem g cn kept s k wr){a r:Bs}(uq:bB 10 rem=a::bB 10 r)(Y6:a.length<=2000000000000000)(nd:Nat):Calls prog 49 #[pt p, .string ⟨a.toArray⟩] (wr.drewN nd) fun e w3=>e= .returned (.tuple #[])∧Hid (Calls prog 51 #[pt p] w3 fun e w4=> ∃l:Bs,e= .returned (.string ⟨l.toArray⟩)∧Hid (Calls prog 50 #[pt x,pt tb, .int .i64 c, .string ⟨l.toArray⟩] w4 fun e w5=>e= .returned (.tuple #[])∧Hid (∃g' LM s' k',Rc base x tb n0 tot s0 c b p w F r g' LM [] s' k' w5))):=by
 have g0:=h.goes.drewN nd;have T1:Tabs base (wr.drewN nd):=T.goes hF g0;obtain⟨F1,bU,o1,n1⟩:=g0;have Kc:=h.cnt;rw[uq,List.length_cons]at Kc;refine(Mi T1 bU h.hk h.kl ⟨a.toArray⟩ (by show a.toArray.size<=_;simpa using(by omega:a.length<=4000000000000000))).mono ?_;rintro e w3⟨rfl,iD⟩;have Gs:Goes (stA base x tb g (mg cn c ((kept++a).take 81)) s) (wr.drewN nd) F1 w3:=iD;have uu:=aC o1 n1 Gs;have T3:Tabs base w3:=T.goes hF uu;obtain⟨F3,mB,o3,n3⟩:=uu;refine⟨rfl, ?_⟩;show Calls _ _ _ _ _;refine(VA T3 mB (sg h.hk ((kept++a).take 81)) (by rw[List.length_take];omega)).mono ?_;rintro e w4⟨rfl,kq⟩;rw[QN]at kq;have tD:=aC o3 n3 kq;have T4:Tabs base w4:=T.goes hF tD;have yZ:Below base cg w4:=by obtain⟨_,_,o,_⟩:=tD;exact vv.trans (o.toBelow hF T.1)
 obtain⟨F4,zq,o4,n4⟩:=tD;refine⟨(kept++a).take 81,rfl, ?_⟩;show Calls _ _ _ _ _;have uz:=Mid.sd h.mid h.ok (by omega);have hw:(s.wait.length:Int)<=2*((n0:Int)+k):=by have:=h.mid.sz;unfold St.sz at this;omega
 refine(Ge L yZ T4 zq uz (by omega) ⟨_,h.mid.bd,hw,by omega⟩ h.busy c hc (sg h.hk []) ((kept++a).take 81) (by rw[List.length_take];omega)).mono ?_;rintro e w5⟨rfl,g',Kk⟩;refine⟨rfl,g',mg cn c [],s.line c ((kept++a).take 81),k+1, ?_⟩;refine⟨aC o4 n4 Kk,sg h.hk [],by rw[Ea];exact h.nd,by simp,h.mid.line c _,Pj.Ok.line h.ok h.mid.inv c _,Pj.Busy.line h.busy h.mid.inv c _, ?_,by omega,GS c _ h.cin,fun d hd=> ?_⟩
 ·rw[h.fin,uq,St.Nl s c kept a (M0 10 r),St.nM]
 ·rw[Dm _ (Ji h.hk),if_neg hd,h.kof d hd,St.rest_of (St.Jg h.cin _) d]
end
theorem Nh{base:Nat}{cg:World}(L:iP base cg)(HT:pO base cg)(x:Nat)(c:Int)(b:ByteArray)(n:Nat)(s:St)(w:World)(F:Ft)(hB:base<=w.heap.size)(hb:Below base cg w)(hc:Lw.I64 c)(Ut:b.size<=2000000000000000)(hg:Mc.Good n s)(hn:n+(bB 10 b.data.toList).length<=1299999)(h:(og base x s).holds w F):Calls prog 29 #[.pointer (some ⟨x,0,none⟩), .int .i64 c, .string b] w (Lw.LZ (og base x) (s.feed c b.data.toList) w F):=by
 have RF:Calls prog 39 #[pt x] w fun e w'=>e= .returned (.bool true)∧w=w':=(rk h).mono fun _ _ hh=>⟨hh.1,hh.2.symm⟩;have YY: ∀k,F k->base<=k:=by obtain⟨_,_,_,_,_,_,_,_,h,_⟩:=h;exact h
 obtain⟨g,cn,F1,ho,zZ,Gz,lD,iL,ED,n1,bU⟩:=vX hB h;have T:=HT.at hB hb;have rH:Below w.heap.size w (w.alloc (.cells #[.slice none 0 0] 94)):=(au _ _).alloc (af _) _;have o1:Only F w (w.alloc (.cells #[.slice none 0 0] 94)):=(Only.refl F w).alloc _;have T1:Tabs base (w.alloc (.cells #[.slice none 0 0] 94)):=T.new rH;generalize i7:w.alloc (.cells #[.slice none 0 0] 94)=w1 at*;have dc:=hg.sz;have hI6:I6 c:=I6.of hc.1 hc.2;obtain⟨bl,lC⟩: ∃bl:Bs,b=⟨bl.toArray⟩:=⟨b.data.toList,by simp⟩;have ebl:b.data.toList=bl:=by rw[lC]
 have aaJ:bl.length<=2000000000000000:=by rw[lC]at Ut;simpa[ByteArray.size]using Ut
 rw[ebl]at hn⊢;subst lC;have HCN:Hid (Calls prog 47 #[pt x, .int .i64 c] w1 fun e w2=> ∃p,e= .returned (pt p)∧ ∃g cn kept s' k,Hid (Rc base x w.heap.size n (bB 10 bl).length s c bl p w F bl g cn kept s' k w2)):=by
  show Calls _ _ _ _ _;refine(Cz T1 ED hg.inv (by omega) c hI6).mono ?_;rintro e w2⟨p,kept,LM,rfl,hk,hor,fw⟩;refine⟨p,rfl,g,LM,kept,s.conn c,0, ?_⟩;have hkc:kept=s.cW c∧(LM.map (·.1)).Nodup∧ ∀d,Dl LM d=s.cW d:=by
   rcases hor with⟨rfl,mQ⟩|⟨Ba,rfl,rfl⟩
   ·exact⟨by rw[<-lD c];exact(I8 iL mQ).symm,iL,lD⟩
   ·have VL:s.cW c= []:=by
     rw[<-lD c];unfold Dl;rw[List.find?_eq_none.2 (fun y hy e=>Ba (az.2 ⟨y,hy,by simpa using e⟩))]
    refine⟨VL.symm, ?_,fun d=> ?_⟩
    ·rw[aD,List.nodup_append];refine⟨iL,by simp,fun u hu v hv e=>Ba ?_⟩;simp at hv;rw[<-hv,<-e];exact hu
    ·rw[<-lD d];unfold Dl;rw[List.find?_append];cases hf:cn.find? (fun y=>y.1==d)with
     |some y=>rfl
     |none=>
      by_cases e:c=d
      ·subst e;simp
      ·simp[e]
  refine⟨aC o1 n1 fw,hk,hkc.2.1, ?_,hg.conn c,ho.conn c,zZ.conn c, ?_,by omega,Af s c,fun d _=> ?_⟩
  ·rw[hkc.1];unfold St.cW;split
   ·rename_i y hy;exact hg.rs y.rest (az.2 ⟨y,cI hy,rfl⟩)
   ·simp
  ·rw[hkc.1];exact St.Ng s c bl
  ·rw[St.JK];exact hkc.2.2 d
 have U2:Hid (∀rem:Bs,rem.length<=2000000000000000-> ∀wr,Below base cg wr->Calls prog 48 #[.string ⟨rem.toArray⟩, .string ⟨#[10]⟩] wr fun e w'=>e= .returned (.tuple #[.string ⟨(Lib.cut rem [10]).1.toArray⟩, .string ⟨(Lib.cut rem [10]).2.1.toArray⟩, .bool (Lib.cut rem [10]).2.2])∧ ∃n,w'=wr.drewN n):=fun rem hr wr tC=>L.cut ⟨rem.toArray⟩ wr (by show rem.toArray.size<=_;simpa using(by omega:rem.length<=4000000000000000)) tC;have HBW:Hid (∀p rem g cn kept s' k wr,Rc base x w.heap.size n (bB 10 bl).length s c bl p w F rem g cn kept s' k wr->Below base cg wr):=fun p rem g cn kept s' k wr hf=>by obtain⟨_,_,o,_⟩:=hf.goes;exact hb.trans (o.toBelow YY T.1)
 have Ue:Hid (∀p rem g cn kept s' k wr,Rc base x w.heap.size n (bB 10 bl).length s c bl p w F rem g cn kept s' k wr->bB 10 rem= [rem]->rem.length<=2000000000000000-> ∀nd,Calls prog _ _ _ _):=fun p rem g cn kept s' k wr hf h1 h2 nd=>hf.last T YY hI6 h1 h2 nd;have EP:Hid (∀p rem g cn kept s' k wr,Rc base x w.heap.size n (bB 10 bl).length s c bl p w F rem g cn kept s' k wr-> ∀a r,bB 10 rem=a::bB 10 r->a.length<=2000000000000000-> ∀nd,Calls prog _ _ _ _):=fun p rem g cn kept s' k wr hf a r h1 h2 nd=>hf.next L hb T YY hI6 (by omega) h1 h2 nd;clear h ED hg zZ T1 o1 n1 lD iL L HT T hb Gz ho;unfold pt at*;subst i7;generalize(bB 10 bl).length=tot at*;go_enter func29,ntmps29;go_wp2_with (first
  |(go_at_call 39;go_must(refine RF.mono ?_;rintro e wz⟨rfl,rfl⟩))
  |(go_at_call 47;go_must(refine HCN.out.mono ?_;rintro e w2⟨p,rfl,g,cn,kept,s',k,HF0⟩;clear HCN)))
 go_loopw [2] (fun bv wr=> ∃rem:Bs,bv= .string ⟨rem.toArray⟩∧rem.length<=2000000000000000∧ ∃g cn kept s' k,Hid (Rc base x w.heap.size n tot s c bl p w F rem g cn kept s' k wr)) (fun bv _=>match bv with| .string t=>t.size|_=>0)
 case atStart=>exact⟨bl,rfl,aaJ,g,cn,kept,s',k,HF0⟩
 case round=>
  obtain⟨rem,rfl,nJ,g1,cn1,UQ,s1,k1,U4⟩:=hrel;have HC:=hide (U2.out rem nJ wr (HBW.out _ _ _ _ _ _ _ _ U4.out));rcases R9 10 rem with⟨ND,uq,_⟩|⟨a,r,ND,uq,_,hsp⟩
  ·rw[ND]at HC;have HL:=hide (Ue.out p rem g1 cn1 UQ s1 k1 wr U4.out uq nJ);clear U2 HBW Ue EP U4 HF0 ND uq;dsimp only at HC;go_wp2_with (first
    |(go_at_call 48;go_must(refine HC.out.mono ?_;rintro e w3⟨rfl,nd,rfl⟩;have HL2:=hide (HL.out nd);clear HL HC))
    |(go_at_call 49;go_must(refine HL2.out.mono ?_;rintro e w4⟨rfl,nw,Jz,NM,BX⟩;have HN0:=hide NM;have Uf:=hide BX;clear NM BX HL2)))
   cases nw
   ·obtain⟨ao,nn,cap,hcell,HG⟩:=(HN0.out (by first|rfl|trivial)).out;clear HN0 Uf;go_wp2_with (first
     |(go_at_call 52;go_must(refine Jz.out.mono ?_;rintro e w5⟨rfl,rfl⟩)))
    go_ret;exact⟨_,rfl,HG.out⟩
   ·obtain⟨cm,w6,c6,wD,ao,nn,cap,hcell,HG⟩:=(Uf.out (by first|rfl|trivial)).out;clear HN0 Uf;go_wp2_with (first
     |(go_at_call 52;go_must(refine Jz.out.mono ?_;rintro e w5⟨rfl,rfl⟩)))
    go_ret;exact⟨_,rfl,HG.out⟩
  ·rw[ND]at HC;have hlen:rem.length=a.length+r.length+1:=by rw[hsp];simp;omega
   have HX:=hide (EP.out p rem g1 cn1 UQ s1 k1 wr U4.out a r uq (by omega));clear U2 HBW Ue EP U4 HF0 ND uq hsp;dsimp only at HC;go_wp2_with (first
    |(go_at_call 48;go_must(refine HC.out.mono ?_;rintro e w3⟨rfl,nd,rfl⟩;have Mb:=hide (HX.out nd);clear HX HC))
    |(go_at_call 49;go_must(refine Mb.out.mono ?_;rintro e w4⟨rfl,X2⟩;clear Mb))
    |(go_at_call 51;go_must(refine X2.out.mono ?_;rintro e w5⟨l,rfl,HHA⟩;clear X2))
    |(go_at_call 50;go_must(refine HHA.out.mono ?_;rintro e w6⟨rfl,HNE⟩;clear HHA)))
   go_roundw
   case rel=>obtain⟨g',LM,s',k',hf⟩:=HNE.out;exact⟨r,rfl,by omega,g',LM, [],s',k',hf⟩
   case measure=>simp[ByteArray.size];omega
end Pj
namespace bG
open Go.RowKit
theorem index10(s:ByteArray)(w:World):Calls prog 131 #[.string s, .string ⟨#[10]⟩] w fun e w'=>e= .returned (.int .i64 (Lib.index s.data.toList [10]))∧w'=w:=by
 have HB:Hid (Calls prog 169 #[.string s, .int .u8 10] w fun e w'=>e= .returned (.int .i64 (Lib.index s.data.toList [10]))∧w'=w):=by show Calls _ _ _ _ _;rw[show Lib.index s.data.toList [10]=Lib.indexByte s.data.toList (10:Int).toNat.toUInt8 from Lib.one s ⟨#[10]⟩ rfl];exact Any.stringslite_IndexByte (ρ:=Sa) {cut with} s 10 w
 by_cases h0:s=⟨#[10]⟩
 ·subst h0;go_enter func131,ntmps131;go_wp2;go_ret;exact⟨congrArg (fun z=>Ending.returned (.int .i64 z)) (Lib.zero ⟨#[10]⟩ ⟨#[10]⟩ (.inr (by simp))).symm,rfl⟩
 ·have h1:([10]==s.toList)=false:=by
   rw[beq_eq_false_iff_ne];intro e;apply h0;apply ByteArray.ext;apply Array.ext';rw[ByteArray.toList_eq]at e;exact e.symm
  clear h0;go_enter func131,ntmps131;go_wp2_with fail;refine HB.out.mono ?_;rintro e w'⟨rfl,rfl⟩;go_wp2;go_ret;exact⟨rfl,rfl⟩
theorem liteCut10(s:ByteArray)(w:World)(hs:s.size<=4000000000000000):Calls prog 86 #[.string s, .string ⟨#[10]⟩] w fun e w'=>e= .returned (.tuple #[.string ⟨(Lib.cut s.data.toList [10]).1.toArray⟩, .string ⟨(Lib.cut s.data.toList [10]).2.1.toArray⟩, .bool (Lib.cut s.data.toList [10]).2.2])∧ ∃n,w'=w.drewN n:=by
 have HI:Hid (Calls prog 131 #[.string s, .string ⟨#[10]⟩] w fun e w'=>e= .returned (.int .i64 (Lib.index s.data.toList [10]))∧w'=w):=index10 s w;rcases Lib.indexB_cases s ⟨#[10]⟩with uY|⟨i,uY,uy⟩
 ·obtain⟨e1,e2,e3⟩:=Lib.cutB_miss s ⟨#[10]⟩ uY;rw[e1,e2,e3];rw[show Lib.index s.data.toList [10]=_ from uY]at HI;go_enter func86,ntmps86;go_wp2_with fail;refine HI.out.mono ?_;rintro e w'⟨rfl,rfl⟩;go_wp2
  go_ret3
  exact⟨rfl,0,rfl⟩
 ·obtain⟨e1,e2,e3⟩:=Lib.cutB_hit s ⟨#[10]⟩ i uY;rw[e1,e2,e3];rw[show Lib.index s.data.toList [10]=_ from uY]at HI;have hr:i+1<=s.size:=uy;have c1:(0:Int)<=(i:Int):=by omega
  have c2:(i:Int)<=(s.size:Int):=by omega
  have c3:(0:Int)<=(i:Int)+1:=by omega
  have c4:(i:Int)+1<=(s.size:Int):=by omega
  go_enter func86,ntmps86;go_wp2_with fail;refine HI.out.mono ?_;rintro e w'⟨rfl,rfl⟩;go_wp2
  go_region
  go_wp2
  go_ret3
  exact⟨rfl,1,rfl⟩
theorem cut10(s:ByteArray)(w:World)(hs:s.size<=4000000000000000):Calls prog 48 #[.string s, .string ⟨#[10]⟩] w fun e w'=>e= .returned (.tuple #[.string ⟨(Lib.cut s.data.toList [10]).1.toArray⟩, .string ⟨(Lib.cut s.data.toList [10]).2.1.toArray⟩, .bool (Lib.cut s.data.toList [10]).2.2])∧ ∃n,w'=w.drewN n:=by
 have HI:Hid (Calls prog 86 #[.string s, .string ⟨#[10]⟩] w fun e w'=>e= .returned (.tuple #[.string ⟨(Lib.cut s.data.toList [10]).1.toArray⟩, .string ⟨(Lib.cut s.data.toList [10]).2.1.toArray⟩, .bool (Lib.cut s.data.toList [10]).2.2])∧ ∃n,w'=w.drewN n):=liteCut10 s w hs;go_enter func48,ntmps48;go_wp2_with fail;refine HI.out.mono ?_;rintro e w'⟨rfl,n,rfl⟩;go_wp2
 go_ret3
 exact⟨rfl,n,rfl⟩
end bG
namespace bG
open Go.RowKit Go.Lib
variable{w W:World}
theorem Nn:(Rows.laid_unicode_utf8_first:DataW Unit)=firstData:=by kernel_rfl
theorem JD:(Rows.laid_unicode_utf8_acceptRanges:DataW Unit)=acceptData:=by kernel_rfl
theorem pow_eq:(Rows.laid_internal_strconv_uint64pow10:DataW Unit)=tabData .u64 pow10Tab:=by kernel_rfl
theorem FO{B:Nat}{w':World}(h:Lib.Utf8Tabs 1 2 w)(hb:Below B w w')(hB:2<B):Lib.Utf8Tabs 1 2 w':=
 ⟨fun c hc=>by rw[hb.cell (p:=⟨1,c,none⟩) (by show 1<B;omega)];exact h.1 c hc,fun i hi=>⟨by rw[hb.cell (p:=⟨2,2*i,none⟩) hB];exact(h.2 i hi).1,by rw[hb.cell (p:=⟨2,2*i+1,none⟩) hB];exact(h.2 i hi).2⟩⟩
theorem cell_lt{a:Addr}{v:Value}(h:w.cell? a=some v):a.block<w.heap.size:=by
 unfold World.cell? at h;split at h
 ·rename_i hb;exact(cC.1 hb).1
 ·cases h
theorem BI{P:Program}{name:String}{k:IntKind}{zs:List Int}{g:Nat}{t e:TypeId}{n:Nat}(hg:P.globalNamed name=some g)(hty:(P.globals[g]?).map (·.type)=some t)(ht:P.underlying t=some (.array n e))(he:P.underlying e=some (.int k))(VN:P.cellsOf e=1)(hct:P.cellsOf t=n)(h:VarReads P W name (tabData k zs)):TabIs P W name k zs:=by obtain⟨g',t',cs,fuel,p,jI,C9,aa3,hd⟩:=h;obtain rfl:=Option.some.inj (hg.symm.trans jI);obtain rfl:=Option.some.inj (hty.symm.trans C9);unfold TabIs;rw[aa3,<-cells_of_tab ht he VN hct hd]
theorem aba(hL:laidMetH prog Rows.badsRow.laid W)(IZ:W.ShapedOpen prog):iP W.heap.size W∧Pj.pO W.heap.size W:=by
 have Y0:laidMet prog Rows.badsRow.laid W:=by rw[<-Go.MakeChecks.laidMetH_plain prog _ W (by kernel_rfl)];exact hL
 have hT:Lib.Utf8Tabs 1 2 W:=by
  refine utf8Tabs_of_readsT (U8Types.of196 valid) ⟨by kernel_rfl,by kernel_rfl,by kernel_rfl,by kernel_rfl,by kernel_rfl,by kernel_rfl,by kernel_rfl⟩ ?_ ?_
  ·rw[<-Nn];exact laidMet.reads Y0 (by simp[Rows.badsRow])
  ·rw[<-JD];exact laidMet.reads Y0 (by simp[Rows.badsRow])
 have hP:TabIs prog W "internal/strconv.uint64pow10" .u64 pow10Tab:=by refine BI (g:=3) (t:=304) (e:=255) (n:=20) (by kernel_rfl) (by kernel_rfl) (by kernel_rfl) (by kernel_rfl) (by kernel_rfl) (by kernel_rfl) ?_;rw[<-pow_eq];exact laidMet.reads Y0 (by simp[Rows.badsRow])
 obtain⟨m,hm⟩:=cell_of_shapedOpen_int (P:=prog) (g:=0) (t:=3) (zero:= #[.int .i64 0]) IZ (of_decide_eq_true (by kernel_rfl)) (by kernel_rfl) rfl (by kernel_rfl) (by kernel_rfl) underlying3;have h2:2<W.heap.size:=cell_lt (hT.2 0 (by omega)).1;have EB: ∀w,Below W.heap.size W w->w.cell? ⟨0,0,none⟩=some (.int .i64 m):=fun w hb=>by rw[hb.cell (p:=⟨0,0,none⟩) (by show 0<W.heap.size;omega)];exact hm
 have h3:3<W.heap.size:=cell_lt (hP.cell (g:=3) (by kernel_rfl) 0 (by decide));refine⟨⟨fun s w hs hb=>Any.utf8_ValidString valid s w (by omega) (FO hT hb h2),fun s w hs hb=> ?_,fun s w hs hb=> ?_⟩,fun w hb=> ?_⟩
 ·refine(Any.strings_Split split (by kernel_rfl) s ⟨#[32]⟩ m w (by omega) (EB w hb) (by decide)).mono ?_;rintro e w'⟨rfl,rfl⟩;obtain⟨e1,e2⟩:=Hn 32 s;rw[e1,e2];exact⟨rfl,rfl⟩
 ·exact cut10 s w (by omega)
 ·unfold TabIs World.var? at hP⊢;have hg:prog.globalNamed "internal/strconv.uint64pow10" =some 3:=by kernel_rfl
  rw[hg]at hP⊢;dsimp only[Option.bind_some]at hP⊢;rw[hb.block 3 h3];exact hP
