import Derived.Test.YtffamlbkmjmipaaGreatDoorC41
import Derived.Test.YtffamlbkmjmipaaGreatDoorRows
import Derived.Shelf.Vars
import Derived.MakeChecks
import Derived.Lib.LaidTab
import Derived.Lib.LaidU8T
set_option maxHeartbeats 8000000
set_option maxRecDepth 100000
namespace Go.Proofs.YtffamlbkmjmipaaGreatDoor
open _root_.Go.Proofs.Tryz
namespace Pj
open Go.RowKit aD Mc bA
attribute [local go_sem] ae ah
variable{s:St}{n:Nat}
theorem tP(cn:List (Int×Nat×Bs))(c d:Int):Ab (cn.filter fun k=>decide (k.1≠c)) d=if d=c then []else Ab cn d:=by
 unfold Ab;rw[List.find?_filter];by_cases e:d=c
 ·subst e;rw[if_pos rfl];have:cn.find? (fun a=>decide (decide (a.1≠d)=true∧(a.1==d)=true))=none:=List.find?_eq_none.2 fun y _=>by simp
  rw[this]
 ·rw[if_neg e];have:(fun a:Int×Nat×Bs=>decide (decide (a.1≠c)=true∧(a.1==d)=true))=fun a=>a.1==d:=by
   funext y;by_cases e2:y.1=d
   ·simp[e2,e]
   ·simp[e2]
  rw[this]
theorem AX{s':St}{c:Int}(h:s'.nr=s.nr.filter fun y=>y.1 !=c)(d:Int):s'.cu d=if d=c then []else s.cu d:=by
 rw[St.l7,St.l7,h,List.find?_filter];by_cases e:d=c
 ·subst e;rw[if_pos rfl];have:s.nr.find? (fun a=>decide ((a.1 !=d)=true∧(a.1==d)=true))=none:=List.find?_eq_none.2 fun y _=>by simp
  rw[this]
 ·rw[if_neg e];have:(fun a:Int×Bs=>decide ((a.1 !=c)=true∧(a.1==d)=true))=fun a=>a.1==d:=by
   funext y;by_cases e2:y.1=d
   ·simp[e2,e]
   ·simp[e2]
  rw[this]
theorem Sd.aO(h:Sd n s)(f:Nat)(c:Int):Sd n (St.aO f s c):=⟨St.cM f c h.inv,Ok.aO f c h.ok h.inv,au (St.kq f s c) h.sz,Bd.aO f c h.bd⟩
theorem Sd.aN(h:Sd n s)(f:Nat)(c:Int):Sd n (St.aN f s c):=⟨St.dS f c h.inv,Ok.aN f c h.ok h.inv,au (St.ko f s c) h.sz,Bd.aN f c h.bd h.inv⟩
theorem EW{base:Nat}{bL:World}(HT:mZ base bL)(x:Nat)(c:Int)(n:Nat)(s:St)(w:World)(F:Ft)(hB:base<=w.heap.size)(hb:Below base bL w)(hc:Lw.I64 c)(hg:Mc.Good n s)(hn:n<=1299998)(h:(my base x s).holds w F):Calls prog 27 #[.pointer (some ⟨x,0,none⟩), .int .i64 c] w (Lw.Ho (my base x) (s.close c) w F):=by
 have Md:=ot h;obtain⟨g,cn,F1,ho,vY,Cq,kh,gw,ra,n1,bU⟩:=sZ hB h;have oG:Below w.heap.size w (w.alloc (.cells #[.slice none 0 0] 94)):=(ar _ _).alloc (af _) _;have o1:Only F w (w.alloc (.cells #[.slice none 0 0] 94)):=(Only.refl F w).alloc _;have T1:Tabs base (w.alloc (.cells #[.slice none 0 0] 94)):=(HT.at hB hb).new oG;generalize fZ:w.alloc (.cells #[.slice none 0 0] 94)=w1 at*;have q9:=Good.sd hg ho (by omega);have hz:=q9.sz;have Cu:=q9.forget c;have Jq:Busy (kz s c) (fun _=>False):=vY;have YH:Hid (Calls prog 43 #[pt x, .int .i64 c] w1 fun e w2=>e= .returned (.tuple #[])∧
   Hid (Calls prog 44 #[pt x,pt w.heap.size, .int .i64 c] w2 fun e w3=>e= .returned (.tuple #[])∧
    Hid (Calls prog 45 #[pt x,pt w.heap.size, .int .i64 c] w3 fun e w4=>e= .returned (.tuple #[])∧
     Hid (Calls prog 42 #[pt x,pt w.heap.size] w4 fun e w5=>e= .returned (.tuple #[])∧ ∃ao n1 cap,w5.cell? ⟨w.heap.size,0,none⟩=some (.slice ao n1 cap)∧Hid (Goes (aa (Mr.dT (.slice ao n1 cap) (s.close c).out) (my base x (s.close c).told)) w F w5))))):=by
  show Calls _ _ _ _ _;refine(Ca T1 ra hg.inv (by omega) c (I6.of hc.1 hc.2)).mono ?_;rintro e w2⟨rfl,eO⟩;refine⟨rfl, ?_⟩;have T2:=T1.goes bU eO;obtain⟨F2,gl,o2,n2⟩:=eO;show Calls _ _ _ _ _;refine(Gy T2 gl Cu (by omega) Jq c).mono ?_;rintro e w3⟨rfl,eP⟩;refine⟨rfl, ?_⟩;have T3:=T2.goes (cr gl) eP;obtain⟨F3,kT,o3,n3⟩:=ay o2 n2 eP;show Calls _ _ _ _ _;have xu:=Cu.aO (kz s c).reqs.length c;refine(Ji T3 kT xu (by omega) c).mono ?_;rintro e w4⟨rfl,gL⟩;refine⟨rfl, ?_⟩;have T4:=T3.goes (cr kT) gL;obtain⟨F4,u9,o4,n4⟩:=ay o3 n3 gL;show Calls _ _ _ _ _;refine(tu T4 u9 (xu.aN _ c) (by omega)).mono ?_;rintro e w5⟨rfl,g',fO⟩;refine⟨rfl, ?_⟩;have gM:Goes (stA base x w.heap.size g' (cn.filter fun k=>decide (k.1≠c)) (s.close c)) w F w5:=ay o1 n1 (ay o4 n4 fO);obtain⟨v,hv,bz⟩:=qa gM (ho.close hg.inv c) (vY.close hg.inv c) (fun d=>by rw[tP,AX (St.IH c) d,kh d]);obtain⟨F6,Fa,o6,n6⟩:=id bz;obtain⟨G6,Qh,_⟩:=aD.left Fa;obtain⟨ao,cap,ev,_⟩:=bS Qh;rw[ev]at hv bz;exact⟨ao,_,cap,hv,bz⟩
 clear h ra hg q9 Cu vY Jq T1 o1 n1 kh gw;unfold pt at*;subst fZ;go_enter func27,ntmps27;go_wp2_with (first
  |(go_at_call 39;go_must(refine Md.mono ?_;rintro e wz⟨rfl,rfl⟩))
  |(go_at_call 43;go_must(refine YH.out.mono ?_;rintro e w2⟨rfl,EM⟩;clear YH))
  |(go_at_call 44;go_must(refine EM.out.mono ?_;rintro e w3⟨rfl,HGI⟩))
  |(go_at_call 45;go_must(refine HGI.out.mono ?_;rintro e w4⟨rfl,Sk⟩))
  |(go_at_call 42;go_must(refine Sk.out.mono ?_;rintro e w5⟨rfl,ao,nn,cap,Hk,HG⟩)))
 go_ret;exact⟨_,rfl,HG.out⟩
end Pj
namespace Mc
open bA
namespace St
def Jb(s:St)(c:Int)(ls:List Bs):St:=((s.lines c ls.dropLast).conn c).bD c ((ls.getLastD []).take 81)
theorem I7(s:St)(c:Int)(b:Bs):s.feed c b=Jb (s.conn c) c (gW (s.cu c) (cD 10 b)):=rfl
theorem Jc(s:St)(c:Int)(kept a:Bs){r:List Bs}(hr:r≠ []):Jb s c (gW kept (a::r))=Jb (s.line c (kept++a)) c (gW [] r):=by
 match r,hr with
 |x::r,_=>rfl
theorem MS(s:St)(c:Int)(kept a:Bs):Jb s c (gW kept [a])=(s.conn c).bD c ((kept++a).take 81):=rfl
theorem FO(s:St)(c:Int)(l:Bs):s.line c (l.take 81)=s.line c l:=by
 by_cases h:l.length<=81
 ·rw[List.take_of_length_le h]
 ·have h1:ju l=false:=by
   unfold ju;rw[(kH (l:=l) (by omega)).2];rfl
  have h2:ju (l.take 81)=false:=by unfold ju;rw[(kH (l:=l.take 81) (by rw[List.length_take];omega)).2];rfl
  unfold line;rw[h1,h2];rfl
theorem zD{p:Cn->Bool}{f:Cn->Cn}(hn: ∀x,(f x).n=x.n)(hd: ∀x,(f x).drains=x.drains)(d:Int): ∀l:List Cn,(match (aA p f l).find? (fun x=>x.n==d)with|some x=>x.drains|none=>false)=(match l.find? (fun x=>x.n==d)with|some x=>x.drains|none=>false)
 | []=>rfl
 |y::l=>by
  unfold aA;by_cases hp:p y=true
  ·rw[if_pos hp,List.find?_cons,List.find?_cons,hn];cases y.n==d
   ·rfl
   ·exact hd y
  ·rw[if_neg hp,List.find?_cons,List.find?_cons];cases y.n==d
   ·exact zD hn hd d l
   ·rfl
theorem lH(s:St)(c:Int)(r:Bs)(d:Int):(s.bD c r).drains d=s.drains d:=zD (p:=fun x=>x.n==c) (f:=fun x=>{x with rest:=r}) (fun _=>rfl) (fun _=>rfl) d s.ak
end St
theorem Ok.bD{s:St}(h:Ok s)(c:Int)(r:Bs):Ok (s.bD c r):=by
 have hm: ∀x∈(s.bD c r).ak,∃y∈s.ak,x.n=y.n∧x.drains=y.drains∧x.gone=y.gone:=fun x hx=>by
  rcases bR hx with h|⟨y,hy,_,rfl⟩
  ·exact⟨x,h,rfl,rfl,rfl⟩
  ·exact⟨y,hy,rfl,rfl,rfl⟩
 refine⟨fun x hx hd=> ?_,fun x hx hd=> ?_,h.key,h.num,h.hd⟩
 ·obtain⟨y,hy,e1,e2,e3⟩:=hm x hx;rw[e3];exact h.gone y hy (by rw[<-e2];exact hd)
 ·obtain⟨y,hy,e1,e2,e3⟩:=hm x hx;rw[e1,e3];exact h.dr y hy (by rw[<-e2];exact hd)
end Mc
namespace Pj
open Go.RowKit aD Mc bA
theorem Rel.bD{g:Gh}{j:Js}{s:St}(h:Rel g j s)(c:Int)(r:Bs):Rel g j (s.bD c r):=by
 refine h.ak j.br _ h.cnd (fun k hk=> ?_) (fun d=> ?_)
 ·have:(aA (fun x:Cn=>x.n==c) (fun x=>{x with rest:=r}) s.ak).map (·.n)=s.ak.map (·.n):=bp _ (fun x:Cn=>{x with rest:=r}) (·.n) (fun _=>rfl) s.ak;rw[this];exact h.cin k hk
 ·show j.drains d=(s.bD c r).drains d;rw[St.lH];exact h.dr d
theorem Ac{cn:List (Int×Nat×Bs)}{c:Int}(b:Bs)(hc:c∈cn.map (·.1))(d:Int):Ab (gT cn c b) d=if d=c then b else Ab cn d:=by
 unfold Ab gT;rw[List.find?_map];have e:((fun y:Int×Nat×Bs=>y.1==d)∘fun y=>if y.1=c then(y.1,y.2.1,b)else y)=fun y=>y.1==d:=by funext y;simp only[Function.comp_def];split<;>rfl
 rw[e];by_cases ed:d=c
 ·subst ed;rw[if_pos rfl];cases hf:cn.find? (fun y=>y.1==d)with
  |none=>obtain⟨y,hy,e'⟩:=ax.1 hc;exact absurd (List.find?_eq_none.1 hf y hy) (by simp[e'])
  |some y=>
   have:y.1=d:=by simpa using List.find?_some hf
   simp[this]
 ·rw[if_neg ed];cases hf:cn.find? (fun y=>y.1==d)with
  |none=>rfl
  |some y=>
   have:y.1=d:=by simpa using List.find?_some hf
   have cz:y.1≠c:=by rw[this];exact ed
   simp[cz]
theorem A8(cn:List (Int×Nat×Bs))(c:Int)(b:Bs):(gT cn c b).map (·.1)=cn.map (·.1):=by unfold gT;rw[az];refine bu fun y _=> ?_;simp only[Function.comp_def];split<;>rfl
theorem Es{cn:List (Int×Nat×Bs)}{c:Int}{p:Nat}{b:Bs}(h:(c,p,b)∈cn):c∈cn.map (·.1):=ax.2 ⟨_,h,rfl⟩
theorem Ei{cn:List (Int×Nat×Bs)}(hn:(cn.map (·.1)).Nodup){c:Int}{p:Nat}{b:Bs}(h:(c,p,b)∈cn):Ab cn c=b:=by
 unfold Ab;cases hf:cn.find? (fun y=>y.1==c)with
 |none=>exact absurd (List.find?_eq_none.1 hf _ h) (by simp)
 |some y=>
  have e:y.1=c:=by simpa using List.find?_some hf
  have:y=(c,p,b):=bC (k:=fun y:Int×Nat×Bs=>y.1) hn (cO hf) h e;rw[this]
section
variable{base x tb:Nat}{g:Gh}{cn:List (Int×Nat×Bs)}{s:St}{w wr:World}{F:Ft}
theorem Rj(T:Tabs base w)(h:(stA base x tb g cn s).holds w F)(c:Int)(hc:I6 c)(hd:s.drains c=false): ∃cm w2,w.cell? ⟨x,6,none⟩=some (.map (some cm))∧(Builtin.delete_ #[81,3] 0 #[.map (some cm), .int .i64 c]).run prog w= .ok (.tuple #[]) w2∧Goes (stA base x tb g (cn.filter fun k=>decide (k.1≠c)) s) w F w2:=by obtain⟨j,r1,r2,r3,hF,hh⟩:=h;obtain⟨cm,w2,c6,tD,hg⟩:=z6 hh c hc 0;exact⟨cm,w2,c6,tD,fJ (s':=s) T hF (r1.Rk c (by rw[r1.dr];exact hd)) r2 (zk r3 c) hg⟩
theorem Ez(h:Goes (stA base x tb g cn s) w F wr)(c:Int)(r:Bs):Goes (stA base x tb g cn (s.bD c r)) w F wr:=yi h rfl (fun _ hj=>hj.bD c r)
end
structure LK(base x tb n0 tot:Nat)(s0:St)(c:Int)(b:Bs)(p:Nat)(w:World)(F:Ft)(rem:Bs)(g:Gh)(cn:List (Int×Nat×Bs))(kept:Bs)(s:St)(k:Nat)(wr:World):Prop where
 goes:Goes (stA base x tb g cn s) w F wr
 hk:(c,p,kept)∈cn
 nd:(cn.map (·.1)).Nodup
 kl:kept.length<=81
 mid:Mid n0 k s
 ok:Ok s
 busy:Busy s (fun _=>False)
 fin:s0.feed c b=St.Jb s c (St.gW kept (cD 10 rem))
 cnt:k+(cD 10 rem).length<=tot
 cin:c∈s.ak.map (·.n)
 kof: ∀d,d≠c->Ab cn d=s.cu d
theorem Mid.sd{n m:Nat}{s:St}(h:Mid n m s)(ho:Ok s)(hn:n+m<=1300000):Sd (12*n+10*m+1) s:=⟨h.inv,ho,h.sz,h.bd.up (by omega)⟩
theorem CN{s:St}(c:Int)(l:Bs)(h:c∈s.ak.map (·.n)):c∈(s.line c l).ak.map (·.n):=by rw[<-St.UH,St.Ep h,St.UH];exact h
theorem Ok.line{s:St}(h:Ok s)(hi:Inv s)(c:Int)(l:Bs):Ok (s.line c l):=by
 unfold St.line;split
 ·exact(h.message hi c _).serve (St.jx hi c _)
 ·exact h.say _ _
theorem Busy.line{s:St}(h:Busy s (fun _=>False))(hi:Inv s)(c:Int)(l:Bs):Busy (s.line c l) (fun _=>False):=by
 unfold St.line;split
 ·exact(h.message hi c _).serve (St.jx hi c _)
 ·exact h.say _ _
end Pj
namespace Pj
open Go.RowKit aD Mc bA
attribute [local go_sem] ae ah
section
variable{base x tb n0 tot:Nat}{bL:World}{s0:St}{c:Int}{b:Bs}{p:Nat}{w:World}{F:Ft}{rem:Bs}{g:Gh}{cn:List (Int×Nat×Bs)}{kept:Bs}{s:St}{k:Nat}{wr:World}
def Out(base x tb:Nat)(s:St)(w:World)(F:Ft)(wr:World):Prop:= ∃ao n1 cap,wr.cell? ⟨tb,0,none⟩=some (.slice ao n1 cap)∧Hid (Goes (aa (Mr.dT (.slice ao n1 cap) s.out) (my base x s.told)) w F wr)
theorem KP(h:Goes (stA base x tb g cn s) w F wr)(ho:Ok s)(hb:Busy s (fun _=>False))(hk: ∀d,Ab cn d=s.cu d):Out base x tb s w F wr:=by obtain⟨v,hv,bz⟩:=qa h ho hb hk;obtain⟨F6,Fa,o6,n6⟩:=id bz;obtain⟨G6,Qh,_⟩:=aD.left Fa;obtain⟨ao,cap,ev,_⟩:=bS Qh;rw[ev]at hv bz;exact⟨ao,_,cap,hv,bz⟩
theorem LK.last(T:Tabs base w)(hF: ∀k,F k->base<=k)(hc:I6 c)(h:LK base x tb n0 tot s0 c b p w F rem g cn kept s k wr)(mA:cD 10 rem= [rem])(jH:rem.length<=2097152)(nd:Nat):Calls prog 49 #[pt p, .string ⟨rem.toArray⟩] (wr.drewN nd) fun e w3=>e= .returned (.tuple #[])∧ ∃nw:Bool,Hid (Calls prog 52 #[pt p] w3 fun e w4=>e= .returned (.bool nw)∧w4=w3)∧(nw=false->Hid (Out base x tb (s0.feed c b) w F w3))∧(nw=true->Hid (∃cm w5,w3.cell? ⟨x,6,none⟩=some (.map (some cm))∧(Builtin.delete_ #[81,3] 0 #[.map (some cm), .int .i64 c]).run prog w3= .ok (.tuple #[]) w5∧Out base x tb (s0.feed c b) w F w5)):=by
 have g0:=h.goes.drewN nd;have T1:Tabs base (wr.drewN nd):=T.goes hF g0;obtain⟨F1,bU,o1,n1⟩:=g0;have O8:s0.feed c b=s.bD c ((kept++rem).take 81):=by rw[h.fin,mA,St.MS,St.vK h.cin]
 refine(Ia T1 bU h.hk h.kl ⟨rem.toArray⟩ (by show rem.toArray.size<=_;simpa using(by omega:rem.length<=4194304))).mono ?_;rintro e w3⟨rfl,eP⟩;have Cm:Goes (stA base x tb g (gT cn c ((kept++rem).take 81)) s) (wr.drewN nd) F1 w3:=eP;have T3:=T1.goes (cr bU) Cm;have gL:=ay o1 n1 Cm;obtain⟨F3,kT,o3,n3⟩:=id gL;have Z3:=py h.hk ((kept++rem).take 81);have Xz:((gT cn c ((kept++rem).take 81)).map (·.1)).Nodup:=by rw[A8];exact h.nd
 have Qp:(s.bD c ((kept++rem).take 81)).drains c=s.drains c:=St.lH s c _ c;have T9: ∀d,Ab (gT cn c ((kept++rem).take 81)) d=(s.bD c ((kept++rem).take 81)).cu d:=fun d=>by
  rw[Ac _ (Es h.hk),St.C4 _ d h.cin];by_cases e:d=c
  ·rw[if_pos e,if_pos e]
  ·rw[if_neg e,if_neg e];exact h.kof d e
 refine⟨rfl,_,J4 kT Z3 (by rw[List.length_take];omega),fun Vu=> ?_,fun Vu=> ?_⟩
 ·rw[O8];exact KP (Ez gL c _) (h.ok.bD c _) h.busy T9
 ·simp only[a8,decide_eq_true_eq,Bool.not_eq_true']at Vu;obtain⟨cm,w5,c6,tD,fO⟩:=Rj T3 kT c hc Vu.2;refine⟨cm,w5,c6,tD, ?_⟩;rw[O8];refine KP (Ez (ay o3 n3 fO) c _) (h.ok.bD c _) h.busy (fun d=> ?_);rw[tP,<-T9 d];by_cases e:d=c
  ·rw[if_pos e,e,Ei Xz Z3,Vu.1]
  ·rw[if_neg e]
theorem LK.next(L:ig base bL)(yy:Below base bL w)(T:Tabs base w)(hF: ∀k,F k->base<=k)(hc:I6 c)(aaz:n0+tot<=1300000)(h:LK base x tb n0 tot s0 c b p w F rem g cn kept s k wr){a r:Bs}(mA:cD 10 rem=a::cD 10 r)(Na:a.length<=2097152)(nd:Nat):Calls prog 49 #[pt p, .string ⟨a.toArray⟩] (wr.drewN nd) fun e w3=>e= .returned (.tuple #[])∧Hid (Calls prog 51 #[pt p] w3 fun e w4=> ∃l:Bs,e= .returned (.string ⟨l.toArray⟩)∧Hid (Calls prog 50 #[pt x,pt tb, .int .i64 c, .string ⟨l.toArray⟩] w4 fun e w5=>e= .returned (.tuple #[])∧Hid (∃g' Hh s' k',LK base x tb n0 tot s0 c b p w F r g' Hh [] s' k' w5))):=by
 have g0:=h.goes.drewN nd;have T1:Tabs base (wr.drewN nd):=T.goes hF g0;obtain⟨F1,bU,o1,n1⟩:=g0;have Fi:=h.cnt;rw[mA,List.length_cons]at Fi;refine(Ia T1 bU h.hk h.kl ⟨a.toArray⟩ (by show a.toArray.size<=_;simpa using(by omega:a.length<=4194304))).mono ?_;rintro e w3⟨rfl,eP⟩;have Cm:Goes (stA base x tb g (gT cn c ((kept++a).take 81)) s) (wr.drewN nd) F1 w3:=eP;have gL:=ay o1 n1 Cm;have T3:Tabs base w3:=T.goes hF gL;obtain⟨F3,kT,o3,n3⟩:=gL;refine⟨rfl, ?_⟩;show Calls _ _ _ _ _;refine(Qb T3 kT (py h.hk ((kept++a).take 81)) (by rw[List.length_take];omega)).mono ?_;rintro e w4⟨rfl,fO⟩;rw[Lc]at fO;have gM:=ay o3 n3 fO;have T4:Tabs base w4:=T.goes hF gM;have kQ:Below base bL w4:=by obtain⟨_,_,o,_⟩:=gM;exact yy.trans (o.toBelow hF T.1)
 obtain⟨F4,u9,o4,n4⟩:=gM;refine⟨(kept++a).take 81,rfl, ?_⟩;show Calls _ _ _ _ _;have q9:=Mid.sd h.mid h.ok (by omega);have hw:(s.wait.length:Int)<=2*((n0:Int)+k):=by have:=h.mid.sz;unfold St.sz at this;omega
 refine(Cf L kQ T4 u9 q9 (by omega) ⟨_,h.mid.bd,hw,by omega⟩ h.busy c hc (py h.hk []) ((kept++a).take 81) (by rw[List.length_take];omega)).mono ?_;rintro e w5⟨rfl,g',ik⟩;refine⟨rfl,g',gT cn c [],s.line c ((kept++a).take 81),k+1, ?_⟩;refine⟨ay o4 n4 ik,py h.hk [],by rw[A8];exact h.nd,by simp,h.mid.line c _,Pj.Ok.line h.ok h.mid.inv c _,Pj.Busy.line h.busy h.mid.inv c _, ?_,by omega,CN c _ h.cin,fun d hd=> ?_⟩
 ·rw[h.fin,mA,St.Jc s c kept a (IU 10 r),St.FO]
 ·rw[Ac _ (Es h.hk),if_neg hd,h.kof d hd,St.rest_of (St.Ep h.cin _) d]
end
theorem I8{base:Nat}{bL:World}(L:ig base bL)(HT:mZ base bL)(x:Nat)(c:Int)(b:ByteArray)(n:Nat)(s:St)(w:World)(F:Ft)(hB:base<=w.heap.size)(hb:Below base bL w)(hc:Lw.I64 c)(Bx:b.size<=2097152)(hg:Mc.Good n s)(hn:n+(cD 10 b.data.toList).length<=1299999)(h:(my base x s).holds w F):Calls prog 29 #[.pointer (some ⟨x,0,none⟩), .int .i64 c, .string b] w (Lw.Ho (my base x) (s.feed c b.data.toList) w F):=by
 have Md:Calls prog 39 #[pt x] w fun e w'=>e= .returned (.bool true)∧w=w':=(ot h).mono fun _ _ hh=>⟨hh.1,hh.2.symm⟩;have Tf: ∀k,F k->base<=k:=by obtain⟨_,_,_,_,_,_,_,_,h,_⟩:=h;exact h
 obtain⟨g,cn,F1,ho,vY,Cq,kh,gw,ra,n1,bU⟩:=sZ hB h;have T:=HT.at hB hb;have oG:Below w.heap.size w (w.alloc (.cells #[.slice none 0 0] 94)):=(ar _ _).alloc (af _) _;have o1:Only F w (w.alloc (.cells #[.slice none 0 0] 94)):=(Only.refl F w).alloc _;have T1:Tabs base (w.alloc (.cells #[.slice none 0 0] 94)):=T.new oG;generalize fZ:w.alloc (.cells #[.slice none 0 0] 94)=w1 at*;have cY:=hg.sz;have WQ:I6 c:=I6.of hc.1 hc.2;obtain⟨bl,kA⟩: ∃bl:Bs,b=⟨bl.toArray⟩:=⟨b.data.toList,by simp⟩;have ebl:b.data.toList=bl:=by rw[kA]
 have W6:bl.length<=2097152:=by rw[kA]at Bx;simpa[ByteArray.size]using Bx
 rw[ebl]at hn⊢;subst kA;have YB:Hid (Calls prog 47 #[pt x, .int .i64 c] w1 fun e w2=> ∃p,e= .returned (pt p)∧ ∃g cn kept s' k,Hid (LK base x w.heap.size n (cD 10 bl).length s c bl p w F bl g cn kept s' k w2)):=by
  show Calls _ _ _ _ _;refine(om T1 ra hg.inv (by omega) c WQ).mono ?_;rintro e w2⟨p,kept,Hh,rfl,hk,hor,eO⟩;refine⟨p,rfl,g,Hh,kept,s.conn c,0, ?_⟩;have Vo:kept=s.cu c∧(Hh.map (·.1)).Nodup∧ ∀d,Ab Hh d=s.cu d:=by
   rcases hor with⟨rfl,lj⟩|⟨xt,rfl,rfl⟩
   ·exact⟨by rw[<-kh c];exact(Ei gw lj).symm,gw,kh⟩
   ·have Bz:s.cu c= []:=by
     rw[<-kh c];unfold Ab;rw[List.find?_eq_none.2 (fun y hy e=>xt (ax.2 ⟨y,hy,by simpa using e⟩))]
    refine⟨Bz.symm, ?_,fun d=> ?_⟩
    ·rw[aB,List.nodup_append];refine⟨gw,by simp,fun u hu v hv e=>xt ?_⟩;simp at hv;rw[<-hv,<-e];exact hu
    ·rw[<-kh d];unfold Ab;rw[List.find?_append];cases hf:cn.find? (fun y=>y.1==d)with
     |some y=>rfl
     |none=>
      by_cases e:c=d
      ·subst e;simp
      ·simp[e]
  refine⟨ay o1 n1 eO,hk,Vo.2.1, ?_,hg.conn c,ho.conn c,vY.conn c, ?_,by omega,wC s c,fun d _=> ?_⟩
  ·rw[Vo.1];unfold St.cu;split
   ·rename_i y hy;exact hg.rs y.rest (ax.2 ⟨y,cO hy,rfl⟩)
   ·simp
  ·rw[Vo.1];exact St.I7 s c bl
  ·rw[St.EX];exact Vo.2.2 d
 have PO:Hid (∀rem:Bs,rem.length<=2097152-> ∀wr,Below base bL wr->Calls prog 48 #[.string ⟨rem.toArray⟩, .string ⟨#[10]⟩] wr fun e w'=>e= .returned (.tuple #[.string ⟨(Lib.cut rem [10]).1.toArray⟩, .string ⟨(Lib.cut rem [10]).2.1.toArray⟩, .bool (Lib.cut rem [10]).2.2])∧ ∃n,w'=wr.drewN n):=fun rem hr wr tB=>L.cut ⟨rem.toArray⟩ wr (by show rem.toArray.size<=_;simpa using(by omega:rem.length<=4194304)) tB;have VL:Hid (∀p rem g cn kept s' k wr,LK base x w.heap.size n (cD 10 bl).length s c bl p w F rem g cn kept s' k wr->Below base bL wr):=fun p rem g cn kept s' k wr hf=>by obtain⟨_,_,o,_⟩:=hf.goes;exact hb.trans (o.toBelow Tf T.1)
 have VX:Hid (∀p rem g cn kept s' k wr,LK base x w.heap.size n (cD 10 bl).length s c bl p w F rem g cn kept s' k wr->cD 10 rem= [rem]->rem.length<=2097152-> ∀nd,Calls prog _ _ _ _):=fun p rem g cn kept s' k wr hf h1 h2 nd=>hf.last T Tf WQ h1 h2 nd;have BL:Hid (∀p rem g cn kept s' k wr,LK base x w.heap.size n (cD 10 bl).length s c bl p w F rem g cn kept s' k wr-> ∀a r,cD 10 rem=a::cD 10 r->a.length<=2097152-> ∀nd,Calls prog _ _ _ _):=fun p rem g cn kept s' k wr hf a r h1 h2 nd=>hf.next L hb T Tf WQ (by omega) h1 h2 nd;clear h ra hg vY T1 o1 n1 kh gw L HT T hb Cq ho;unfold pt at*;subst fZ;generalize(cD 10 bl).length=tot at*;go_enter func29,ntmps29;go_wp2_with (first
  |(go_at_call 39;go_must(refine Md.mono ?_;rintro e wz⟨rfl,rfl⟩))
  |(go_at_call 47;go_must(refine YB.out.mono ?_;rintro e w2⟨p,rfl,g,cn,kept,s',k,VP⟩;clear YB)))
 go_loopw [2] (fun bv wr=> ∃rem:Bs,bv= .string ⟨rem.toArray⟩∧rem.length<=2097152∧ ∃g cn kept s' k,Hid (LK base x w.heap.size n tot s c bl p w F rem g cn kept s' k wr)) (fun bv _=>match bv with| .string t=>t.size|_=>0)
 case atStart=>exact⟨bl,rfl,W6,g,cn,kept,s',k,VP⟩
 case round=>
  obtain⟨rem,rfl,jH,g1,Zc,Px,s1,k1,PR⟩:=hrel;have HC:=hide (PO.out rem jH wr (VL.out _ _ _ _ _ _ _ _ PR.out));rcases MD 10 rem with⟨Jv,mA,_⟩|⟨a,r,Jv,mA,_,hsp⟩
  ·rw[Jv]at HC;have HL:=hide (VX.out p rem g1 Zc Px s1 k1 wr PR.out mA jH);clear PO VL VX BL PR VP Jv mA;dsimp only at HC;go_wp2_with (first
    |(go_at_call 48;go_must(refine HC.out.mono ?_;rintro e w3⟨rfl,nd,rfl⟩;have Rw:=hide (HL.out nd);clear HL HC))
    |(go_at_call 49;go_must(refine Rw.out.mono ?_;rintro e w4⟨rfl,nw,EL,JH,tH⟩;have Rx:=hide JH;have Ry:=hide tH;clear JH tH Rw)))
   cases nw
   ·obtain⟨ao,nn,cap,hcell,HG⟩:=(Rx.out (by first|rfl|trivial)).out;clear Rx Ry;go_wp2_with (first
     |(go_at_call 52;go_must(refine EL.out.mono ?_;rintro e w5⟨rfl,rfl⟩)))
    go_ret;exact⟨_,rfl,HG.out⟩
   ·obtain⟨cm,w6,c6,tD,ao,nn,cap,hcell,HG⟩:=(Ry.out (by first|rfl|trivial)).out;clear Rx Ry;go_wp2_with (first
     |(go_at_call 52;go_must(refine EL.out.mono ?_;rintro e w5⟨rfl,rfl⟩)))
    go_ret;exact⟨_,rfl,HG.out⟩
  ·rw[Jv]at HC;have hlen:rem.length=a.length+r.length+1:=by rw[hsp];simp;omega
   have HX:=hide (BL.out p rem g1 Zc Px s1 k1 wr PR.out a r mA (by omega));clear PO VL VX BL PR VP Jv mA hsp;dsimp only at HC;go_wp2_with (first
    |(go_at_call 48;go_must(refine HC.out.mono ?_;rintro e w3⟨rfl,nd,rfl⟩;have Dx:=hide (HX.out nd);clear HX HC))
    |(go_at_call 49;go_must(refine Dx.out.mono ?_;rintro e w4⟨rfl,YE⟩;clear Dx))
    |(go_at_call 51;go_must(refine YE.out.mono ?_;rintro e w5⟨l,rfl,YK⟩;clear YE))
    |(go_at_call 50;go_must(refine YK.out.mono ?_;rintro e w6⟨rfl,HNE⟩;clear YK)))
   go_roundw
   case rel=>obtain⟨g',Hh,s',k',hf⟩:=HNE.out;exact⟨r,rfl,by omega,g',Hh, [],s',k',hf⟩
   case measure=>simp[ByteArray.size];omega
end Pj
namespace bA
open Go.RowKit Go.Lib
variable{w W:World}
theorem Jd:(Rows.laid_unicode_utf8_first:DataW Unit)=firstData:=by kernel_rfl
theorem ER:(Rows.laid_unicode_utf8_acceptRanges:DataW Unit)=acceptData:=by kernel_rfl
theorem pow_eq:(Rows.laid_internal_strconv_uint64pow10:DataW Unit)=tabData .u64 pow10Tab:=by kernel_rfl
theorem BN{B:Nat}{w':World}(h:Lib.Utf8Tabs 1 2 w)(hb:Below B w w')(hB:2<B):Lib.Utf8Tabs 1 2 w':=
 ⟨fun c hc=>by rw[hb.cell (p:=⟨1,c,none⟩) (by show 1<B;omega)];exact h.1 c hc,fun i hi=>⟨by rw[hb.cell (p:=⟨2,2*i,none⟩) hB];exact(h.2 i hi).1,by rw[hb.cell (p:=⟨2,2*i+1,none⟩) hB];exact(h.2 i hi).2⟩⟩
theorem cell_lt{a:Addr}{v:Value}(h:w.cell? a=some v):a.block<w.heap.size:=by
 unfold World.cell? at h;split at h
 ·rename_i hb;exact(bZ.1 hb).1
 ·cases h
theorem yj{P:Program}{name:String}{k:IntKind}{zs:List Int}{g:Nat}{t e:TypeId}{n:Nat}(hg:P.globalNamed name=some g)(hty:(P.globals[g]?).map (·.type)=some t)(ht:P.underlying t=some (.array n e))(he:P.underlying e=some (.int k))(Ql:P.cellsOf e=1)(hct:P.cellsOf t=n)(h:VarReads P W name (tabData k zs)):TabIs P W name k zs:=by obtain⟨g',t',cs,fuel,p,iG,zT,XQ,hd⟩:=h;obtain rfl:=Option.some.inj (hg.symm.trans iG);obtain rfl:=Option.some.inj (hty.symm.trans zT);unfold TabIs;rw[XQ,<-cells_of_tab ht he Ql hct hd]
theorem FN(hL:laidMetH prog Rows.badsRow.laid W)(lU:W.ShapedOpen prog):ig W.heap.size W∧Pj.mZ W.heap.size W:=by
 have Tg:laidMet prog Rows.badsRow.laid W:=by rw[<-Go.MakeChecks.laidMetH_plain prog _ W (by kernel_rfl)];exact hL
 have hT:Lib.Utf8Tabs 1 2 W:=by
  refine utf8Tabs_of_readsT (U8Types.of196 valid) ⟨by kernel_rfl,by kernel_rfl,by kernel_rfl,by kernel_rfl,by kernel_rfl,by kernel_rfl,by kernel_rfl⟩ ?_ ?_
  ·rw[<-Jd];exact laidMet.reads Tg (by simp[Rows.badsRow])
  ·rw[<-ER];exact laidMet.reads Tg (by simp[Rows.badsRow])
 have hP:TabIs prog W "internal/strconv.uint64pow10" .u64 pow10Tab:=by refine yj (g:=3) (t:=304) (e:=255) (n:=20) (by kernel_rfl) (by kernel_rfl) (by kernel_rfl) (by kernel_rfl) (by kernel_rfl) (by kernel_rfl) ?_;rw[<-pow_eq];exact laidMet.reads Tg (by simp[Rows.badsRow])
 obtain⟨m,hm⟩:=cell_of_shapedOpen_int (P:=prog) (g:=0) (t:=3) (zero:= #[.int .i64 0]) lU (of_decide_eq_true (by kernel_rfl)) (by kernel_rfl) rfl (by kernel_rfl) (by kernel_rfl) underlying3;have h2:2<W.heap.size:=cell_lt (hT.2 0 (by omega)).1;have BC: ∀w,Below W.heap.size W w->w.cell? ⟨0,0,none⟩=some (.int .i64 m):=fun w hb=>by rw[hb.cell (p:=⟨0,0,none⟩) (by show 0<W.heap.size;omega)];exact hm
 have h3:3<W.heap.size:=cell_lt (hP.cell (g:=3) (by kernel_rfl) 0 (by decide));refine⟨⟨fun s w hs hb=>Any.utf8_ValidString valid s w (by omega) (BN hT hb h2),fun s w hs hb=> ?_,fun s w hs hb=> ?_⟩,fun w hb=> ?_⟩
 ·refine(Any.strings_Split split (by kernel_rfl) s ⟨#[32]⟩ m w (by omega) (BC w hb) (by decide)).mono ?_;rintro e w'⟨rfl,rfl⟩;obtain⟨e1,e2⟩:=C7 32 s;rw[e1,e2];exact⟨rfl,rfl⟩
 ·exact Any.strings_Cut cut s ⟨#[10]⟩ m w (by omega) (BC w hb)
 ·unfold TabIs World.var? at hP⊢;have hg:prog.globalNamed "internal/strconv.uint64pow10" =some 3:=by kernel_rfl
  rw[hg]at hP⊢;dsimp only[Option.bind_some]at hP⊢;rw[hb.block 3 h3];exact hP
