import Derived.Test.YtffamlbkmjmipaaGreatDoorC26
set_option maxHeartbeats 8000000
set_option maxRecDepth 100000
namespace Go.Proofs.YtffamlbkmjmipaaGreatDoor
open _root_.Go.Proofs.Tryz
namespace Pj
open Go.RowKit aJ Mc bG
attribute [local go_sem] ae ag
variable{s s':St}{n k base x tb:Nat}{c:Int}{g:Gh}{cn:List (Int×Nat×Bs)}{w:World}{F:Ft}
theorem wq{α:Type}{p:α->Bool}: ∀{l:List α} {a:α} {r:List α},l.filter p=a::r-> ∃i,l[i]?=some a∧p a=true∧(l.eraseIdx i).filter p=r
 | [],a,r,h=>by cases h
 |y::l,a,r,h=>by
  by_cases e:p y=true
  ·rw[List.filter_cons_of_pos e]at h;obtain⟨rfl,h2⟩:=List.cons.inj h;exact⟨0,rfl,e,h2⟩
  ·rw[List.filter_cons_of_neg e]at h;obtain⟨i,h1,h2,h3⟩:=wq h;exact⟨i+1,by simpa using h1,h2,by rw[List.eraseIdx_cons_succ,List.filter_cons_of_neg e];exact h3⟩
theorem zK{id:Int}{q:Rq}(hq:s.req id=some q):s.again id false=if(s.waits id||decide (0<s.count id))=true then s else s.aX id true:=by
 unfold St.again;by_cases h:(s.waits id||decide (0<s.count id))=true
 ·rw[if_pos h,if_pos h]
 ·rw[if_neg h,if_neg h,hq];simp
structure Giving(n:Nat)(s:St)(c:Int)(k:Nat)(s':St):Prop where
 sd:Sd n s'
 is:s'=((s.ah.filter fun a=>a.conn==c).take k).foldl St.kU s
 left:s'.ah.filter (fun a=>a.conn==c)=(s.ah.filter fun a=>a.conn==c).drop k
theorem Sd.Vj(h:Sd n s)(id:Int):Sd n (s.again id false):=
 ⟨St.dn h.inv id false,h.ok.again h.inv id false,ar (St.pA id) h.sz,h.bd.again h.inv id false⟩
theorem Giving.step(h:Giving n s c k s')(hk:k<(s.ah.filter fun a=>a.conn==c).length): ∃i,s'.ah[i]?=some (s.ah.filter fun a=>a.conn==c)[k]∧Giving n s c (k+1) ((s'.aZ i).again (s.ah.filter fun a=>a.conn==c)[k].id false):=by
 have hl:=h.left;rw[<-List.getElem_cons_drop (h:=hk)]at hl;obtain⟨i,h1,h2,h3⟩:=wq hl;refine⟨i,h1,(h.sd.Ir i).Vj _, ?_, ?_⟩
 ·rw[iG hk,List.foldl_append,<-h.is];show _=St.kU s' _;unfold St.kU;rw[St.vq h.sd.ok h1]
 ·rw[St.kK,(St.dD (s:=s') i).2.1];exact h3
structure Gives(base x tb:Nat)(g:Gh)(cn:List (Int×Nat×Bs))(n:Nat)(s:St)(c:Int)(v':Value)(w:World)(F:Ft)(k:Nat)(s':St)(wr:World):Prop where
 on:Giving n s c k s'
 goes:Goes (aa (stA base x tb g cn s') (rowA 127 1 v' (s.ah.filter fun a=>a.conn==c).length ((s.ah.filter fun a=>a.conn==c).map fun a=>pt (g.ap (key a))))) w F wr
theorem Gives.round{v':Value}{wr:World}(T:Tabs base w)(hF: ∀k,F k->base<=k)(hn:n<=16776000)(h:Gives base x tb g cn n s c v' w F k s' wr){L:List At}(hL:s.ah.filter (fun a=>a.conn==c)=L)(hk:k<L.length): ∃(b off cap:Nat),v'= .slice (some ⟨b,off,none⟩) L.length cap∧wr.cell? ⟨b,off+k,none⟩=some (pt (g.ap (key L[k])))∧Calls prog 80 #[pt x,pt tb,pt (g.ap (key L[k]))] wr fun e w3=>e= .returned (.tuple #[])∧w3.cell? ⟨g.ap (key L[k]),1,none⟩=some (pt (g.rp L[k].id))∧ ∃go:Bool,Hid (Calls prog 82 #[pt (g.rp L[k].id)] w3 fun e w4=>e= .returned (.bool go)∧w4=w3)∧(go=true->Hid (∃uM,Gives base x tb g cn n s c v' w F (k+1) uM w3))∧(go=false->Hid (Calls prog 83 #[pt x,pt (g.rp L[k].id)] w3 fun e w5=>e= .returned (.tuple #[])∧Hid (∃uM,Gives base x tb g cn n s c v' w F (k+1) uM w5))):=by
 subst hL;obtain⟨F1,bU,o1,n1⟩:=h.goes;obtain⟨G,H,ha,hb,d,e⟩:=id bU;have nI:=h.on;have hz:=nI.sd.sz;have T1:Tabs base wr:=T.goes hF ⟨F1,bU,o1,n1⟩;obtain⟨i,pY,I0⟩:=nI.step hk;generalize eL:(s.ah.filter fun a=>a.conn==c)[k]=a at*;obtain⟨aor,FQ,rfl,cX,bQ⟩:=Mr.cE hb;obtain⟨b,off,rfl⟩:=bQ (by omega);refine⟨b,off,FQ,rfl, ?_, ?_⟩
 ·rw[bf hb k (by omega),List.getElem?_map,aY hk,eL];rfl
 ·refine(ry T1 ha nI.sd.inv nI.sd.ok (by omega) pY).mono ?_;rintro e' w3⟨rfl,kk,hg⟩;have g3:=(aO hb hg d e).eq (bA _ _ _);obtain⟨F3,mB,o3,n3⟩:=id g3;obtain⟨G3,H3,Xq,uX,d3,e3⟩:=id mB;have mN:=(cK uX).1;have T3:Tabs base w3:=T1.goes (cB ha) hg.drop;have hs3:=nI.sd.Ir i;have hz3:=hs3.sz;obtain⟨q,hq,wE,GD⟩:=St.cu (nI.sd.inv.bF a (cJ pY));have hq3:(s'.aZ i).req a.id=some q:=by rw[mZ];exact hq
  refine⟨rfl,by simp only[World.cell?,mN];rfl,_,wA Xq hs3.inv (by omega) hq3,fun bE=> ?_,fun bE=> ?_⟩
  ·refine⟨_,I0, ?_⟩;rw[zK hq3,if_pos bE];refine aC o1 n1 (g3.trans fun F' h'=> ?_);exact nD ((Goes.refl h').eq (cD _ _ _))
  ·show Calls _ _ _ _ _;refine(sR T3 Xq hs3.inv (by omega) hq3).mono ?_;rintro e' w5⟨rfl,kq⟩;refine⟨rfl, ?_⟩;refine⟨_,I0, ?_⟩;rw[zK hq3,if_neg (by rw[bE];simp)];have g5:=aC o3 n3 (aO uX kq d3 e3);exact aC o1 n1 (nD (g5.eq (cD _ _ _)))
theorem Ns(T:Tabs base w)(h:(stA base x tb g cn s).holds w F)(hs:Sd n s)(hn:n<=16776000)(c:Int):Calls prog 45 #[pt x,pt tb, .int .i64 c] w fun e w'=>e= .returned (.tuple #[])∧Goes (stA base x tb g cn (St.aP s.ah.length s c)) w F w':=by
 have hz:=hs.sz;have hF:=cB h;have L8:Hid (Calls prog 68 #[pt x, .func (.func 124) #[] #[pt w.heap.size]] (w.alloc (.cells #[.int .i64 c] 3)) fun e w'=> ∃fX bP,e= .returned (.slice fX (s.ah.filter fun a=>a.conn==c).length bP)∧Hid (Gives base x tb g cn n s c (.slice fX (s.ah.filter fun a=>a.conn==c).length bP) w F 0 s w')):=by
  show Calls _ _ _ _ _;have hB:Below w.heap.size w (w.alloc (.cells #[.int .i64 c] 3)):=(au _ _).alloc (af _) _;refine(uL h hs.inv (by omega) hB (fun a=>a.conn==c) 124 #[pt w.heap.size] (enters_of func124 (by kernel_rfl) rfl) (fun wr hr a Xr=> ?_)).mono ?_
  ·obtain⟨kk,q,hq,GD,rG,av,LU⟩:=Jt h hs.inv (by omega) Xr;have aN:g.ap (key a)<w.heap.size:=(cC.1 rG).1;refine nE (g.ap (key a)) w.heap.size c a.conn wr ?_ ?_
   ·rw[hr.cell (p:=⟨_,2,none⟩) (bD aN hB.size),hB.cell (p:=⟨_,2,none⟩) aN];simp only[World.cell?,rG];rfl
   ·rw[hr.cell (p:=⟨w.heap.size,0,none⟩) (by simp)];simp only[World.cell?,heap_alloc_new];rfl
  ·rintro e w'⟨v',rfl,_,hg⟩;have fw:=hg;obtain⟨F1,bU,_⟩:=hg;obtain⟨G,H,_,cZ,_⟩:=bU;obtain⟨fX,bP,rfl⟩:=aR (Goes.refl cZ);exact⟨fX,bP,rfl,⟨⟨hs,rfl,by simp⟩,fw⟩⟩
 have L5:Hid (∀k (hk:k<(s.ah.filter fun a=>a.conn==c).length) v' s' wr,Gives base x tb g cn n s c v' w F k s' wr->_):=fun k hk v' s' wr hb=>hb.round T hF hn rfl hk;have kJ:Hid (∀v' s' wr,Gives base x tb g cn n s c v' w F (s.ah.filter fun a=>a.conn==c).length s' wr->Goes (stA base x tb g cn (St.aP s.ah.length s c)) w F wr):=fun v' s' wr hb=>by have:=hb.goes.drop;rw[hb.on.is,List.take_length,<-St.mG _ s.ah.length s c hs.inv hs.ok rfl (List.length_filter_le ..)]at this;exact this
 have LS:(s.ah.filter fun a=>a.conn==c).length<=16777216:=by have h1:(s.ah.filter fun a=>a.conn==c).length<=s.ah.length:=List.length_filter_le ..;unfold St.sz at hz;omega
 clear h;unfold pt at*;generalize hL:(s.ah.filter fun a=>a.conn==c)=L at*;clear hL;go_enter func45,ntmps45;go_wp2_with (first
  |(go_at_call 79;go_must(refine(jn c _).mono ?_;rintro e w6⟨rfl,rfl⟩))
  |(go_at_call 68;go_must(refine L8.out.mono ?_;rintro e w2⟨fX,bP,rfl,L1⟩)))
 clear L8;go_loopw [13] (fun i wr=> ∃k:Nat,k<=L.length∧i= .int .i64 k∧ ∃s',Hid (Gives base x tb g cn n s c (.slice fX L.length bP) w F k s' wr)) (fun i _=>L.length-(intOf i).toNat)
 case atStart=>exact⟨0,bh _,rfl,s,L1⟩
 case round=>
  obtain⟨k,hk,rfl,s',oa⟩:=hrel;by_cases aN:k<L.length
  ·obtain⟨b,off,cQ,ev,c0,zt⟩:=L5.out k aN _ _ _ oa.out;cases ev;have pK:=hide zt;clear L5 oa L1 kJ zt;generalize g.ap (key L[k])=ap at*;generalize g.rp L[k].id=rp at*;go_wp2_with (first
    |(go_at_call 80;go_must(refine pK.out.mono ?_;rintro e w3⟨rfl,c1,go,BN,Be,Ba⟩;have HY:=hide Be;have HN:=hide Ba;clear Be Ba pK;cases go))
    |(go_at_call 82;go_must(refine BN.out.mono ?_;rintro e w4⟨rfl,rfl⟩))
    |(go_at_call 83;go_must(refine(HN.out (by first|rfl|trivial)).out.mono ?_;rintro e w5⟨rfl,EP⟩)))
   ·go_roundw
    case rel=>obtain⟨uM,hb⟩:=EP.out;exact⟨k+1,by omega,by go_num,uM,hb⟩
    case measure=>simp[intOf];omega
   ·go_roundw
    case rel=>obtain⟨uM,hb⟩:=(HY.out (by first|rfl|trivial)).out;exact⟨k+1,by omega,by go_num,uM,hb⟩
    case measure=>simp[intOf];omega
  ·obtain rfl:k=L.length:=by omega
   have HE:=hide (kJ.out _ _ _ oa.out);clear L5 oa L1 kJ;go_wp2;go_end0;exact⟨rfl,HE.out⟩
