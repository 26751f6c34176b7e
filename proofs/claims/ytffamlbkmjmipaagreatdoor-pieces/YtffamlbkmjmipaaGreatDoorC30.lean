import Derived.Test.YtffamlbkmjmipaaGreatDoorC26
set_option maxHeartbeats 8000000
set_option maxRecDepth 100000
namespace Go.Proofs.YtffamlbkmjmipaaGreatDoor
open _root_.Go.Proofs.Tryz
namespace Pj
open Go.RowKit aD Mc bA
attribute [local go_sem] ae ah
variable{s s':St}{n k base x tb:Nat}{c:Int}{g:Gh}{cn:List (Int×Nat×Bs)}{w:World}{F:Ft}
theorem th{α:Type}{p:α->Bool}: ∀{l:List α} {a:α} {r:List α},l.filter p=a::r-> ∃i,l[i]?=some a∧p a=true∧(l.eraseIdx i).filter p=r
 | [],a,r,h=>by cases h
 |y::l,a,r,h=>by
  by_cases e:p y=true
  ·rw[List.filter_cons_of_pos e]at h;obtain⟨rfl,h2⟩:=List.cons.inj h;exact⟨0,rfl,e,h2⟩
  ·rw[List.filter_cons_of_neg e]at h;obtain⟨i,h1,h2,h3⟩:=th h;exact⟨i+1,by simpa using h1,h2,by rw[List.eraseIdx_cons_succ,List.filter_cons_of_neg e];exact h3⟩
theorem vE{id:Int}{q:Rq}(hq:s.req id=some q):s.again id false=if(s.waits id||decide (0<s.count id))=true then s else s.aT id true:=by
 unfold St.again;by_cases h:(s.waits id||decide (0<s.count id))=true
 ·rw[if_pos h,if_pos h]
 ·rw[if_neg h,if_neg h,hq];simp
structure Giving(n:Nat)(s:St)(c:Int)(k:Nat)(s':St):Prop where
 sd:Sd n s'
 is:s'=((s.ag.filter fun a=>a.conn==c).take k).foldl St.j5 s
 left:s'.ag.filter (fun a=>a.conn==c)=(s.ag.filter fun a=>a.conn==c).drop k
theorem Sd.P3(h:Sd n s)(id:Int):Sd n (s.again id false):=
 ⟨St.dt h.inv id false,h.ok.again h.inv id false,au (St.mH id) h.sz,h.bd.again h.inv id false⟩
theorem Giving.step(h:Giving n s c k s')(hk:k<(s.ag.filter fun a=>a.conn==c).length): ∃i,s'.ag[i]?=some (s.ag.filter fun a=>a.conn==c)[k]∧Giving n s c (k+1) ((s'.aU i).again (s.ag.filter fun a=>a.conn==c)[k].id false):=by
 have hl:=h.left;rw[<-List.getElem_cons_drop (h:=hk)]at hl;obtain⟨i,h1,h2,h3⟩:=th hl;refine⟨i,h1,(h.sd.DL i).P3 _, ?_, ?_⟩
 ·rw[kV hk,List.foldl_append,<-h.is];show _=St.j5 s' _;unfold St.j5;rw[St.rY h.sd.ok h1]
 ·rw[St.jO,(St.dC (s:=s') i).2.1];exact h3
structure Gives(base x tb:Nat)(g:Gh)(cn:List (Int×Nat×Bs))(n:Nat)(s:St)(c:Int)(v':Value)(w:World)(F:Ft)(k:Nat)(s':St)(wr:World):Prop where
 on:Giving n s c k s'
 goes:Goes (aa (stA base x tb g cn s') (rowA 127 1 v' (s.ag.filter fun a=>a.conn==c).length ((s.ag.filter fun a=>a.conn==c).map fun a=>pt (g.ap (key a))))) w F wr
theorem Gives.round{v':Value}{wr:World}(T:Tabs base w)(hF: ∀k,F k->base<=k)(hn:n<=16776000)(h:Gives base x tb g cn n s c v' w F k s' wr){L:List At}(hL:s.ag.filter (fun a=>a.conn==c)=L)(hk:k<L.length): ∃(b off cap:Nat),v'= .slice (some ⟨b,off,none⟩) L.length cap∧wr.cell? ⟨b,off+k,none⟩=some (pt (g.ap (key L[k])))∧Calls prog 80 #[pt x,pt tb,pt (g.ap (key L[k]))] wr fun e w3=>e= .returned (.tuple #[])∧w3.cell? ⟨g.ap (key L[k]),1,none⟩=some (pt (g.rp L[k].id))∧ ∃go:Bool,Hid (Calls prog 82 #[pt (g.rp L[k].id)] w3 fun e w4=>e= .returned (.bool go)∧w4=w3)∧(go=true->Hid (∃rz,Gives base x tb g cn n s c v' w F (k+1) rz w3))∧(go=false->Hid (Calls prog 83 #[pt x,pt (g.rp L[k].id)] w3 fun e w5=>e= .returned (.tuple #[])∧Hid (∃rz,Gives base x tb g cn n s c v' w F (k+1) rz w5))):=by
 subst hL;obtain⟨F1,bU,o1,n1⟩:=h.goes;obtain⟨G,H,ha,hb,d,e⟩:=id bU;have lT:=h.on;have hz:=lT.sd.sz;have T1:Tabs base wr:=T.goes hF ⟨F1,bU,o1,n1⟩;obtain⟨i,nu,Ed⟩:=lT.step hk;generalize eL:(s.ag.filter fun a=>a.conn==c)[k]=a at*;obtain⟨Wh,BV,rfl,cV,ck⟩:=Mr.cE hb;obtain⟨b,off,rfl⟩:=ck (by omega);refine⟨b,off,BV,rfl, ?_, ?_⟩
 ·rw[aW hb k (by omega),List.getElem?_map,aV hk,eL];rfl
 ·refine(ox T1 ha lT.sd.inv lT.sd.ok (by omega) nu).mono ?_;rintro e' w3⟨rfl,kk,hg⟩;have g3:=(aH hb hg d e).eq (bn _ _ _);obtain⟨F3,kT,o3,n3⟩:=id g3;obtain⟨G3,H3,RL,nU,d3,e3⟩:=id kT;have tA:=(bQ nU).1;have T3:Tabs base w3:=T1.goes (cr ha) hg.drop;have XJ:=lT.sd.DL i;have hz3:=XJ.sz;obtain⟨q,hq,tK,Cs⟩:=St.cf (lT.sd.inv.bB a (cK nu));have Vy:(s'.aU i).req a.id=some q:=by rw[lC];exact hq
  refine⟨rfl,by simp only[World.cell?,tA];rfl,_,tr RL XJ.inv (by omega) Vy,fun bz=> ?_,fun bz=> ?_⟩
  ·refine⟨_,Ed, ?_⟩;rw[vE Vy,if_pos bz];refine ay o1 n1 (g3.trans fun F' h'=> ?_);exact lQ ((Goes.refl h').eq (cA _ _ _))
  ·show Calls _ _ _ _ _;refine(pG T3 RL XJ.inv (by omega) Vy).mono ?_;rintro e' w5⟨rfl,fO⟩;refine⟨rfl, ?_⟩;refine⟨_,Ed, ?_⟩;rw[vE Vy,if_neg (by rw[bz];simp)];have g5:=ay o3 n3 (aH nU fO d3 e3);exact ay o1 n1 (lQ (g5.eq (cA _ _ _)))
theorem Ji(T:Tabs base w)(h:(stA base x tb g cn s).holds w F)(hs:Sd n s)(hn:n<=16776000)(c:Int):Calls prog 45 #[pt x,pt tb, .int .i64 c] w fun e w'=>e= .returned (.tuple #[])∧Goes (stA base x tb g cn (St.aN s.ag.length s c)) w F w':=by
 have hz:=hs.sz;have hF:=cr h;have HR:Hid (Calls prog 68 #[pt x, .func (.func 124) #[] #[pt w.heap.size]] (w.alloc (.cells #[.int .i64 c] 3)) fun e w'=> ∃eK bO,e= .returned (.slice eK (s.ag.filter fun a=>a.conn==c).length bO)∧Hid (Gives base x tb g cn n s c (.slice eK (s.ag.filter fun a=>a.conn==c).length bO) w F 0 s w')):=by
  show Calls _ _ _ _ _;have hB:Below w.heap.size w (w.alloc (.cells #[.int .i64 c] 3)):=(ar _ _).alloc (af _) _;refine(ry h hs.inv (by omega) hB (fun a=>a.conn==c) 124 #[pt w.heap.size] (enters_of func124 (by kernel_rfl) rfl) (fun wr hr a RM=> ?_)).mono ?_
  ·obtain⟨kk,q,hq,Cs,qi,av,JQ⟩:=EE h hs.inv (by omega) RM;have aQ:g.ap (key a)<w.heap.size:=(bZ.1 qi).1;refine lS (g.ap (key a)) w.heap.size c a.conn wr ?_ ?_
   ·rw[hr.cell (p:=⟨_,2,none⟩) (bE aQ hB.size),hB.cell (p:=⟨_,2,none⟩) aQ];simp only[World.cell?,qi];rfl
   ·rw[hr.cell (p:=⟨w.heap.size,0,none⟩) (by simp)];simp only[World.cell?,heap_alloc_new];rfl
  ·rintro e w'⟨v',rfl,_,hg⟩;have eO:=hg;obtain⟨F1,bU,_⟩:=hg;obtain⟨G,H,_,cL,_⟩:=bU;obtain⟨eK,bO,rfl⟩:=aJ (Goes.refl cL);exact⟨eK,bO,rfl,⟨⟨hs,rfl,by simp⟩,eO⟩⟩
 have Hz:Hid (∀k (hk:k<(s.ag.filter fun a=>a.conn==c).length) v' s' wr,Gives base x tb g cn n s c v' w F k s' wr->_):=fun k hk v' s' wr hb=>hb.round T hF hn rfl hk;have jM:Hid (∀v' s' wr,Gives base x tb g cn n s c v' w F (s.ag.filter fun a=>a.conn==c).length s' wr->Goes (stA base x tb g cn (St.aN s.ag.length s c)) w F wr):=fun v' s' wr hb=>by have:=hb.goes.drop;rw[hb.on.is,List.take_length,<-St.kZ _ s.ag.length s c hs.inv hs.ok rfl (List.length_filter_le ..)]at this;exact this
 have Nk:(s.ag.filter fun a=>a.conn==c).length<=16777216:=by have h1:(s.ag.filter fun a=>a.conn==c).length<=s.ag.length:=List.length_filter_le ..;unfold St.sz at hz;omega
 clear h;unfold pt at*;generalize hL:(s.ag.filter fun a=>a.conn==c)=L at*;clear hL;go_enter func45,ntmps45;go_wp2_with (first
  |(go_at_call 79;go_must(refine(iR c _).mono ?_;rintro e w6⟨rfl,rfl⟩))
  |(go_at_call 68;go_must(refine HR.out.mono ?_;rintro e w2⟨eK,bO,rfl,Hq⟩)))
 clear HR;go_loopw [13] (fun i wr=> ∃k:Nat,k<=L.length∧i= .int .i64 k∧ ∃s',Hid (Gives base x tb g cn n s c (.slice eK L.length bO) w F k s' wr)) (fun i _=>L.length-(intOf i).toNat)
 case atStart=>exact⟨0,bk _,rfl,s,Hq⟩
 case round=>
  obtain⟨k,hk,rfl,s',mv⟩:=hrel;by_cases aQ:k<L.length
  ·obtain⟨b,off,cJ,ev,c0,vh⟩:=Hz.out k aQ _ _ _ mv.out;cases ev;have mS:=hide vh;clear Hz mv Hq jM vh;generalize g.ap (key L[k])=ap at*;generalize g.rp L[k].id=rp at*;go_wp2_with (first
    |(go_at_call 80;go_must(refine mS.out.mono ?_;rintro e w3⟨rfl,c1,go,yv,xw,xt⟩;have HY:=hide xw;have HN:=hide xt;clear xw xt mS;cases go))
    |(go_at_call 82;go_must(refine yv.out.mono ?_;rintro e w4⟨rfl,rfl⟩))
    |(go_at_call 83;go_must(refine(HN.out (by first|rfl|trivial)).out.mono ?_;rintro e w5⟨rfl,BL⟩)))
   ·go_roundw
    case rel=>obtain⟨rz,hb⟩:=BL.out;exact⟨k+1,by omega,by go_num,rz,hb⟩
    case measure=>simp[intOf];omega
   ·go_roundw
    case rel=>obtain⟨rz,hb⟩:=(HY.out (by first|rfl|trivial)).out;exact⟨k+1,by omega,by go_num,rz,hb⟩
    case measure=>simp[intOf];omega
  ·obtain rfl:k=L.length:=by omega
   have HE:=hide (jM.out _ _ _ mv.out);clear Hz mv Hq jM;go_wp2;go_end0;exact⟨rfl,HE.out⟩
