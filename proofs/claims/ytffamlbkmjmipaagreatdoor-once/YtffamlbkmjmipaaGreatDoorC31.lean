import Derived.Test.YtffamlbkmjmipaaGreatDoorC29
import Derived.Test.YtffamlbkmjmipaaGreatDoorC30
set_option maxHeartbeats 8000000
set_option maxRecDepth 100000
namespace Go.Proofs.YtffamlbkmjmipaaGreatDoor
open _root_.Go.Proofs.Tryz
namespace Pj
open Go.RowKit aJ Mc bG
attribute [local go_sem] ae ag
variable{n:Nat}{s t:St}{id c:Int}
def own(s:St)(id c:Int):List At:=s.ah.filter fun a=>a.id==id &&a.conn==c
structure pN(n:Nat)(s:St)(id c:Int)(i:Nat)(t:St):Prop where
 sd:Sd n t
 busy:Busy t (fun y=>y=id)
 is:t=(((own s id c).take i).map key).foldl St.JP s
 reqs:t.reqs=s.reqs
 left:t.ah.filter (fun a=>a.id==id &&a.conn==c)=(own s id c).drop i
theorem pN.step{i:Nat}(h:pN n s id c i t)(hi:i<(own s id c).length): ∃ix,t.ah[ix]?=some (own s id c)[i]∧pN n s id c (i+1) (t.aZ ix):=by
 have hl:=h.left;rw[<-List.getElem_cons_drop (h:=hi)]at hl;obtain⟨ix,h1,h2,h3⟩:=wq hl;have hid:(own s id c)[i].id=id:=by simp only[bm,beq_iff_eq]at h2;exact h2.1
 refine⟨ix,h1,h.sd.Ir ix,(h.busy.aZ h1).mono (fun y hy=>hy.elim (fun h=>h) (fun e=>e.trans hid)), ?_, ?_, ?_⟩
 ·rw[iG hi,aD,List.foldl_append,<-h.is];show _=St.JP t (key (own s id c)[i]);exact(St.vq h.sd.ok h1).symm
 ·rw[(St.dD (s:=t) ix).2.2.2.1];exact h.reqs
 ·rw[(St.dD (s:=t) ix).2.1];exact h3
theorem pN.last(h:pN n s id c (own s id c).length t)(hi:Inv s)(ho:Ok s):t.shut id=s.gq c id:=by unfold St.gq;rw[St.lY s.ah.length s 0 id c hi ho (by omega),List.drop_zero,h.is,List.take_length];rfl
structure Closing(n:Nat)(s:St)(c:Int)(L:List Int)(k:Nat)(s':St):Prop where
 sd:Sd n s'
 busy:Busy s' (fun _=>False)
 is:s'=(L.take k).foldl (St.gq c) s
 rest: ∀i∈L.drop k,i∈s'.ks.map (·.1)
theorem Sd.shut(h:Sd n s)(id:Int):Sd n (s.shut id):=⟨St.iF h.inv id,h.ok.shut h.inv id,ar (St.sq id) h.sz,h.bd.shut id⟩
theorem Closing.step{s':St}{L:List Int}{k:Nat}(h:Closing n s c L k s')(hL:L.Pairwise (· < ·))(hk:k<L.length)(ht:pN n s' L[k] c (own s' L[k] c).length t):Closing n s c L (k+1) (t.shut L[k]):=by
 have e:=ht.last h.sd.inv h.sd.ok;refine⟨ht.sd.shut _,Busy.shut (P:=fun _=>False) (ht.busy.mono fun y hy=> .inr hy) ht.sd.inv, ?_,fun i hi=> ?_⟩
 ·rw[iG hk,List.foldl_append,<-h.is,e];rfl
 ·have hd:L.drop k=L[k]::L.drop (k+1):=(List.getElem_cons_drop (h:=hk)).symm;have hp:(L.drop k).Pairwise (· < ·):=hL.sublist (List.drop_sublist _ _);rw[hd,List.pairwise_cons]at hp;have cA:i≠L[k]:=fun e'=>by have:=hp.1 i hi;omega
  have hm:=h.rest i (by rw[hd];exact aV _ hi);rw[e];have uw:(s'.gq c L[k]).ks=(dropFirst (·.id==L[k]) s'.reqs).map fun r=>(r.id,r.ten):=by unfold St.ks;rw[St.pB]
  rw[uw];obtain⟨⟨i',t'⟩,EB,rfl⟩:=az.1 hm;exact az.2 ⟨(i',t'),St.mX EB cA,rfl⟩
theorem TB{base x tb:Nat}{g:Gh}{cn:List (Int×Nat×Bs)}{w:World}{F:Ft}(h:(stA base x tb g cn s).holds w F)(hi:Inv s)(ho:Ok s)(hz:s.sz<=16777000){q:Rq}(hq:s.req id=some q)(c:Int): ∃(nn:Nat) (ao:Option Addr) (cap:Nat),nn<=16777210∧g.rp id<w.heap.size∧w.cell? ⟨g.rp id,7,none⟩=some (.slice ao nn cap)∧ ∀w1,Below w.heap.size w w1->Calls prog 78 #[.slice ao nn cap, .func (.func 124) #[] #[.pointer (some ⟨w1.heap.size,0,none⟩)]] (w1.alloc (.cells #[.int .i64 c] 3)) fun e w'=> ∃v',e= .returned v'∧Below w.heap.size w w'∧Goes (aa (stA base x tb g cn s) (rowA 127 1 v' (own s id c).length ((own s id c).map fun a=>pt (g.ap (key a))))) w F w':=by
 have h0:=h;obtain⟨ao,cap,dK,cQ,RA⟩:=fL h0 hi hz hq;have Ku: ∃G,(jh g (.slice ao (s.nums id).length cap) id (s.nums id)).holds w G:=by
  obtain⟨j,r1,r2,r3,hF,hh⟩:=h;have wf:=dJ r1 hi hz;obtain⟨r,hr,t,ht,er,ei,et,zn,BO⟩:=gI r1 hq;obtain⟨v,av,wv,Kl,hw⟩:=mj hh wf hr ht;obtain⟨G0,mv,_⟩:=Q8 hw;have c7:=(Rw hw).1 7;have om:r.q.id=id:=by rw[er];exact ei
  rw[om]at c7 mv;have hav:av= .slice ao (s.nums id).length cap:=by have h2:=RA.al;rw[c7]at h2;exact Option.some.inj h2
  rw[<-hav,<-BO];exact⟨G0,mv⟩
 obtain⟨Gl,vu⟩:=Ku;unfold jh at vu;refine⟨_,ao,cap,RA.Co.1,RA.lt.1,RA.al,fun w1 hB=> ?_⟩;have pD:Below w.heap.size w (w1.alloc (.cells #[.int .i64 c] 3)):=hB.alloc hB.size _;have zv: ∀nn∈s.nums id,∃a∈s.ah,a.id=id∧a.n=nn:=fun nn V6=>mY.1 V6;have Xz: ∀a∈s.ah,a.id=id->(s.ah.any fun b=>b.id==id &&b.n==a.n &&b.conn==c)=(a.conn==c):=fun a ha ea=>by
  by_cases hc:a.conn=c
  ·have:(s.ah.any fun b=>b.id==id &&b.n==a.n &&b.conn==c)=true:=List.any_eq_true.2 ⟨a,ha,by simp[ea,hc]⟩;rw[this];simp[hc]
  ·have:(s.ah.any fun b=>b.id==id &&b.n==a.n &&b.conn==c)=false:=by
    rw[List.any_eq_false];intro b hb e;simp only[bm,beq_iff_eq]at e;have:b=a:=bC (k:=fun a:At=>(a.id,a.n)) ho.key hb ha (by show(b.id,b.n)=(a.id,a.n);rw[e.1.1,e.1.2,ea]);rw[this]at e;exact hc e.2
   rw[this];simp[hc]
 have YS:(s.nums id).filter (fun nn=>s.ah.any fun b=>b.id==id &&b.n==nn &&b.conn==c)=(own s id c).map (·.n):=by
  unfold St.nums own;rw[List.filter_map];have:(s.ah.filter fun a=>a.id==id).filter ((fun nn=>s.ah.any fun b=>b.id==id &&b.n==nn &&b.conn==c)∘fun a=>a.n)=s.ah.filter fun a=>a.id==id &&a.conn==c:=by
   rw[List.filter_filter];refine List.filter_congr fun a ha=> ?_;by_cases ea:a.id=id
   ·simp only[Function.comp_def];rw[Xz a ha ea,Bool.and_comm]
   ·have e0:(a.id==id)=false:=beq_eq_false_iff_ne.2 ea;simp only[Function.comp_def];rw[e0,Bool.and_false,Bool.false_and]
  rw[this]
 refine(vO _ (s.nums id) (fun nn=>g.ap (id,nn)) (fun nn=>s.ah.any fun b=>b.id==id &&b.n==nn &&b.conn==c) 124 #[.pointer (some ⟨w1.heap.size,0,none⟩)] (enters_of func124 (by kernel_rfl) rfl) _ Gl (Mr.aI vu pD) (fun wr hr y hy=> ?_) (by have:=RA.Co.1;omega)).mono ?_
 ·obtain⟨a,Xr,ea1,ea2⟩:=zv y hy;obtain⟨kk,q',_,_,rG,_⟩:=Jt h0 hi hz Xr;have BU:key a=(id,y):=by unfold key;rw[ea1,ea2]
  rw[BU]at rG;have aN:g.ap (id,y)<w.heap.size:=(cC.1 rG).1;have LV:=pD.size;have:=Xz a Xr ea1;rw[ea2]at this;show Calls _ _ _ _ fun e w'=>e= .returned (.bool (s.ah.any fun b=>b.id==id &&b.n==y &&b.conn==c))∧_;rw[this];refine nE (g.ap (id,y)) w1.heap.size c a.conn wr ?_ ?_
  ·rw[hr.cell (p:=⟨_,2,none⟩) (bD aN LV),pD.cell (p:=⟨_,2,none⟩) aN];simp only[World.cell?,rG];rfl
  ·rw[hr.cell (p:=⟨w1.heap.size,0,none⟩) (by simp)];simp only[World.cell?,heap_alloc_new];rfl
 ·rintro e w'⟨v',rfl,hg⟩;have tC:=fY pD ((gU hg).mono pD.size);refine⟨v',rfl,tC,rF h0 pD ?_⟩;rw[YS]at hg;have e1:((own s id c).map (·.n)).map (fun nn=>pt (g.ap (id,nn)))=(own s id c).map fun a=>pt (g.ap (key a)):=by
   rw[aB];refine bz fun a ha=> ?_;have:a.id=id:=by have:=(aL.1 ha).2;simp only[bm,beq_iff_eq]at this;exact this.1
   simp only[Function.comp_def];unfold key;rw[this]
  rw[e1,aF]at hg;exact hg
def Bh(g:Gh)(v':Value)(L:List Int):aJ:=rowA 124 1 v' L.length (L.map fun i=>pt (g.rp i))
structure Closes(base x tb:Nat)(g:Gh)(cn:List (Int×Nat×Bs))(n:Nat)(s:St)(c:Int)(L:List Int)(v':Value)(w:World)(F:Ft)(k:Nat)(s':St)(wr:World):Prop where
 on:Closing n s c L k s'
 goes:Goes (aa (stA base x tb g cn s') (Bh g v' L)) w F wr
structure AJ(base x tb:Nat)(g:Gh)(cn:List (Int×Nat×Bs))(n:Nat)(s:St)(c:Int)(L:List Int)(v':Value)(w:World)(F:Ft)(k:Nat)(s':St)(id:Int)(v2:Value)(i:Nat)(t:St)(wr:World):Prop where
 out:Closing n s c L k s'
 on:pN n s' id c i t
 goes:Goes (aa (stA base x tb g cn t) (aa (Bh g v' L) (rowA 127 1 v2 (own s' id c).length ((own s' id c).map fun a=>pt (g.ap (key a)))))) w F wr
section
variable{base x tb:Nat}{g:Gh}{cn:List (Int×Nat×Bs)}{n:Nat}{s s' t:St}{c id:Int}{L:List Int}{v' v2:Value}{w wr:World}{F:Ft}{k i:Nat}
theorem Closes.round(hn:n<=16776000)(h:Closes base x tb g cn n s c L v' w F k s' wr)(hk:k<L.length): ∃(b off cap:Nat),v'= .slice (some ⟨b,off,none⟩) L.length cap∧wr.cell? ⟨b,off+k,none⟩=some (pt (g.rp L[k]))∧ ∃(nn:Nat) (ao:Option Addr) (cp:Nat),nn<=16777210∧Hid (∀w1,Below wr.heap.size wr w1->w1.cell? ⟨g.rp L[k],7,none⟩=some (.slice ao nn cp))∧(own s' L[k] c).length<=16777216∧ ∀w1,Below wr.heap.size wr w1->Calls prog 78 #[.slice ao nn cp, .func (.func 124) #[] #[.pointer (some ⟨w1.heap.size,0,none⟩)]] (w1.alloc (.cells #[.int .i64 c] 3)) fun e w'=> ∃fX bP,e= .returned (.slice fX (own s' L[k] c).length bP)∧Below wr.heap.size wr w'∧Hid (AJ base x tb g cn n s c L v' w F k s' L[k] (.slice fX (own s' L[k] c).length bP) 0 s' w'):=by
 obtain⟨F1,bU,o1,n1⟩:=h.goes;obtain⟨G,H,ha,hb,d,e⟩:=id bU;have nI:=h.on;have hz:=nI.sd.sz;have hm:=nI.rest L[k] (by rw[<-List.getElem_cons_drop (h:=hk)];exact bY ..);obtain⟨q,hq,wE,GD⟩:=St.cu hm;obtain⟨nn,ao,cp,V6,aN,c7,Gd⟩:=TB ha nI.sd.inv nI.sd.ok (by omega) hq c;have vv:=hb;unfold Bh at hb;obtain⟨aor,FQ,rfl,cX,bQ⟩:=Mr.cE hb;obtain⟨b,off,rfl⟩:=bQ (by omega);have ZB:(own s' L[k] c).length<=16777216:=by have h1:(own s' L[k] c).length<=s'.ah.length:=List.length_filter_le ..;unfold St.sz at hz;omega
 refine⟨b,off,FQ,rfl,by rw[bf hb k (by omega),List.getElem?_map,aY hk];rfl,nn,ao,cp,V6,fun w1 hB=>by rw[bN hB aN];exact c7,ZB,fun w1 hB=>(Gd w1 hB).mono ?_⟩;rintro e' w'⟨v2,rfl,tC,hg⟩;have ur:=hg;obtain⟨F2,gV,_⟩:=hg;obtain⟨_,_,_,cZ,_⟩:=gV;obtain⟨fX,bP,rfl⟩:=aR (Goes.refl cZ);refine⟨fX,bP,rfl,tC,nI,⟨nI.sd,nI.busy.mono (fun _ h=>h.elim),rfl,rfl,by simp[own]⟩, ?_⟩;refine aC o1 n1 ((aO vv ur d e).eq ?_)
 ac_rfl
theorem AJ.round(T:Tabs base w)(hF: ∀k,F k->base<=k)(hn:n<=16776000)(h:AJ base x tb g cn n s c L v' w F k s' id v2 i t wr){A:List At}(hA:own s' id c=A)(hi:i<A.length): ∃(b off cap:Nat),v2= .slice (some ⟨b,off,none⟩) A.length cap∧wr.cell? ⟨b,off+i,none⟩=some (pt (g.ap (key A[i])))∧Calls prog 80 #[pt x,pt tb,pt (g.ap (key A[i]))] wr fun e w3=>e= .returned (.tuple #[])∧Hid (∃t',AJ base x tb g cn n s c L v' w F k s' id v2 (i+1) t' w3):=by
 subst hA;obtain⟨F1,bU,o1,n1⟩:=h.goes;obtain⟨G,H,ha,hb,d,e⟩:=_root_.id bU;have nI:=h.on;have hz:=nI.sd.sz;have T1:Tabs base wr:=T.goes hF ⟨F1,bU,o1,n1⟩;obtain⟨ix,pY,I0⟩:=nI.step hi;obtain⟨Gr,pX,_⟩:=aJ.left (aA hb (bq _ _));obtain⟨aor,FQ,rfl,cX,bQ⟩:=Mr.cE pX;obtain⟨b,off,rfl⟩:=bQ (by omega);refine⟨b,off,FQ,rfl, ?_, ?_⟩
 ·rw[bf pX i (by omega),List.getElem?_map,aY hi];rfl
 ·refine(ry T1 ha nI.sd.inv nI.sd.ok (by omega) pY).mono ?_;rintro e' w3⟨rfl,kk,hg⟩;exact⟨rfl,_,h.out,I0,aC o1 n1 (aO hb hg.drop d e)⟩
theorem AJ.fin(T:Tabs base w)(hF: ∀k,F k->base<=k)(hn:n<=16776000)(hL:L.Pairwise (· < ·))(hk:k<L.length)(h:AJ base x tb g cn n s c L v' w F k s' L[k] v2 (own s' L[k] c).length t wr):Calls prog 81 #[pt x,pt tb,pt (g.rp L[k])] wr fun e w3=>e= .returned (.tuple #[])∧Hid (∃uM,Closes base x tb g cn n s c L v' w F (k+1) uM w3):=by
 obtain⟨F1,bU,o1,n1⟩:=h.goes;obtain⟨G,H,ha,hb,d,e⟩:=id bU;have nI:=h.on;have T1:Tabs base wr:=T.goes hF ⟨F1,bU,o1,n1⟩;have hm:=h.out.rest L[k] (by rw[<-List.getElem_cons_drop (h:=hk)];exact bY ..);have EB:L[k]∈t.ks.map (·.1):=by
  have:t.ks=s'.ks:=by unfold St.ks;rw[nI.reqs]
  rw[this];exact hm
 obtain⟨q,hq,wE,GD⟩:=St.cu EB;refine(sk T1 ha nI.sd hn hq nI.busy).mono ?_;rintro e' w3⟨rfl,hg⟩;refine⟨rfl,_,h.out.step hL hk nI, ?_⟩;have g3:=aC o1 n1 (aO hb hg d e);have g4:=g3.eq (bA _ _ _).symm;exact g4.drop
end
theorem Lg{base x tb:Nat}{g:Gh}{cn:List (Int×Nat×Bs)}{s:St}{w:World}{F:Ft}{n:Nat}(T:Tabs base w)(h:(stA base x tb g cn s).holds w F)(hs:Sd n s)(hn:n<=16776000)(zZ:Busy s (fun _=>False))(c:Int):Calls prog 44 #[pt x,pt tb, .int .i64 c] w fun e w'=>e= .returned (.tuple #[])∧Goes (stA base x tb g cn (St.aM s.reqs.length s c)) w F w':=by
 have hz:=hs.sz;have hF:=cB h;have HRQ:Hid (Calls prog 77 #[pt x, .int .i64 c] w fun e w'=> ∃(L:List Int) (fX:Option Addr) (bP:Nat),e= .returned (.slice fX L.length bP)∧L.length<=16777216∧Hid (L.Pairwise (· < ·))∧Hid (Closes base x tb g cn n s c L (.slice fX L.length bP) w F 0 s w')∧Hid (∀v' s' wr,Closes base x tb g cn n s c L v' w F L.length s' wr->Goes (stA base x tb g cn (St.aM s.reqs.length s c)) w F wr)):=by
  show Calls _ _ _ _ _;refine(QC h hs.inv (by omega) c).mono ?_;rintro e w'⟨v',L,rfl,hp,hL,hg⟩;have ur:=hg;obtain⟨F2,gV,_⟩:=hg;obtain⟨_,_,_,cZ,_⟩:=gV;obtain⟨fX,bP,rfl⟩:=aR (Goes.refl cZ);have hlen:L.length<=s.reqs.length:=by rw[hp.length_eq];unfold St.fK;rw[aF];exact List.length_filter_le ..
  have Xw:L.length<=16777216:=by unfold St.sz at hz;omega
  refine⟨L,fX,bP,rfl,Xw,hL,⟨⟨hs,zZ,rfl,fun i hi=> ?_⟩,ur⟩,fun v' s' wr hc=> ?_⟩
  ·have zu:i∈L:=by simpa using hi
   obtain⟨r,hr,_,e⟩:=St.lV.1 (hp.subset zu);unfold St.ks;rw[aB];exact az.2 ⟨r,hr,e⟩
  ·have:=hc.goes.drop;rw[hc.on.is,List.take_length,<-St.mI L s.reqs.length s c hs.inv hp hL hlen]at this;exact this
 have HT:=hide T;have HF:=hide hF;clear h T hF;unfold pt at*;go_enter func44,ntmps44;go_wp2_with (first
  |(go_at_call 77;go_must(refine HRQ.out.mono ?_;rintro e w2⟨L,fX,bP,rfl,LS,HL,HC0,kJ⟩)))
 clear HRQ;go_loopw [14] (fun i wr=> ∃k:Nat,k<=L.length∧i= .int .i64 k∧ ∃s',Hid (Closes base x tb g cn n s c L (.slice fX L.length bP) w F k s' wr)) (fun i _=>L.length-(intOf i).toNat)
 case atStart=>exact⟨0,bh _,rfl,s,HC0⟩
 case round=>
  obtain⟨k,hk,rfl,s',oa⟩:=hrel;by_cases aN:k<L.length
  ·obtain⟨b,off,cQ,ev,c0,nn,ao,cp,V6,Rz,ZB,Gd⟩:=oa.out.round hn aN;cases ev;have EM:=hide Gd;have c7:=Rz.out wr (au _ _);have Vb:Hid (∀v2 i (hi:i<(own s' L[k] c).length) t wr,AJ base x tb g cn n s c L (.slice (some ⟨b,off,none⟩) L.length bP) w F k s' L[k] v2 i t wr->_):=fun v2 i hi t wr ho=>ho.round HT.out HF.out hn rfl hi;have Va:Hid (∀v2 t wr,AJ base x tb g cn n s c L (.slice (some ⟨b,off,none⟩) L.length bP) w F k s' L[k] v2 (own s' L[k] c).length t wr->Calls _ _ _ _ _):=fun v2 t wr ho=>ho.fin HT.out HF.out hn HL.out aN;clear oa HC0 kJ Gd;unfold pt at*;generalize L[k]=id at*;generalize g.rp id=rp at*;go_wp2_with fail;go_region_held3 (fun w'=>w'.cell? ⟨rp,7,none⟩=some (.slice ao nn cp)) (go_keep)
    (first
     |(go_at_call 79;go_must(refine(jn c _).mono ?_;rintro e w6⟨rfl,rfl⟩;have q2:=Rz.out _ ((au wr.heap.size wr).drew.alloc (af _) (.cells #[.int .i64 c] 3))))
     |(go_at_call 78;go_must(refine(EM.out _ (au _ _).drew).mono ?_;rintro e w7⟨dK,cT,rfl,J7,HO0⟩;have q3:=Rz.out _ J7)))
   all_goals
    clear EM Rz q2 q3 J7 c7;generalize hA:own s' id c=A at*;go_wp2;go_loopw [26] (fun i wr=> ∃m:Nat,m<=A.length∧i= .int .i64 m∧ ∃t,Hid (AJ base x tb g cn n s c L (.slice (some ⟨b,off,none⟩) L.length bP) w F k s' id (.slice dK A.length cT) m t wr)) (fun i _=>A.length-(intOf i).toNat)
    case atStart=>exact⟨0,bh _,rfl,s',HO0⟩
    case round=>
     obtain⟨m,hm,rfl,t,RG⟩:=hrel;by_cases IU:m<A.length
     ·obtain⟨b2,abe,Rh,ev,d0,zt⟩:=Vb.out _ m IU t wr RG.out;cases ev;have pK:=hide zt;clear Vb Va RG HO0 zt hA;generalize g.ap (key A[m])=ap at*;go_wp2_with (first
       |(go_at_call 80;go_must(refine pK.out.mono ?_;rintro e w3⟨rfl,EP⟩)))
      go_roundw
      case rel=>obtain⟨t',C9⟩:=EP.out;exact⟨m+1,by omega,by go_num,t',C9⟩
      case measure=>simp[intOf];omega
     ·obtain rfl:m=A.length:=by omega
      have JA:=hide (Va.out _ t wr RG.out);clear Vb Va RG HO0 hA;go_wp2_with (first
       |(go_at_call 81;go_must(refine JA.out.mono ?_;rintro e w3⟨rfl,EP⟩)))
      go_roundw
      case rel=>obtain⟨uM,aaZ⟩:=EP.out;exact⟨k+1,by omega,by go_num,uM,aaZ⟩
      case measure=>simp[intOf];omega
  ·obtain rfl:k=L.length:=by omega
   have HE:=hide (kJ.out _ _ _ oa.out);clear oa HC0 kJ;go_wp2;go_end0;exact⟨rfl,HE.out⟩
