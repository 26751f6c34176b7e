import Derived.Test.YtffamlbkmjmipaaGreatDoorC29
import Derived.Test.YtffamlbkmjmipaaGreatDoorC30
set_option maxHeartbeats 8000000
set_option maxRecDepth 100000
namespace Go.Proofs.YtffamlbkmjmipaaGreatDoor
open _root_.Go.Proofs.Tryz
namespace Pj
open Go.RowKit aD Mc bA
attribute [local go_sem] ae ah
variable{n:Nat}{s t:St}{id c:Int}
def own(s:St)(id c:Int):List At:=s.ag.filter fun a=>a.id==id &&a.conn==c
structure mY(n:Nat)(s:St)(id c:Int)(i:Nat)(t:St):Prop where
 sd:Sd n t
 busy:Busy t (fun y=>y=id)
 is:t=(((own s id c).take i).map key).foldl St.E2 s
 reqs:t.reqs=s.reqs
 left:t.ag.filter (fun a=>a.id==id &&a.conn==c)=(own s id c).drop i
theorem mY.step{i:Nat}(h:mY n s id c i t)(hi:i<(own s id c).length): ∃ix,t.ag[ix]?=some (own s id c)[i]∧mY n s id c (i+1) (t.aU ix):=by
 have hl:=h.left;rw[<-List.getElem_cons_drop (h:=hi)]at hl;obtain⟨ix,h1,h2,h3⟩:=th hl;have hid:(own s id c)[i].id=id:=by simp only[a8,beq_iff_eq]at h2;exact h2.1
 refine⟨ix,h1,h.sd.DL ix,(h.busy.aU h1).mono (fun y hy=>hy.elim (fun h=>h) (fun e=>e.trans hid)), ?_, ?_, ?_⟩
 ·rw[kV hi,aB,List.foldl_append,<-h.is];show _=St.E2 t (key (own s id c)[i]);exact(St.rY h.sd.ok h1).symm
 ·rw[(St.dC (s:=t) ix).2.2.2.1];exact h.reqs
 ·rw[(St.dC (s:=t) ix).2.1];exact h3
theorem mY.last(h:mY n s id c (own s id c).length t)(hi:Inv s)(ho:Ok s):t.shut id=s.fN c id:=by unfold St.fN;rw[St.kI s.ag.length s 0 id c hi ho (by omega),List.drop_zero,h.is,List.take_length];rfl
structure Closing(n:Nat)(s:St)(c:Int)(L:List Int)(k:Nat)(s':St):Prop where
 sd:Sd n s'
 busy:Busy s' (fun _=>False)
 is:s'=(L.take k).foldl (St.fN c) s
 rest: ∀i∈L.drop k,i∈s'.ks.map (·.1)
theorem Sd.shut(h:Sd n s)(id:Int):Sd n (s.shut id):=⟨St.gU h.inv id,h.ok.shut h.inv id,au (St.pA id) h.sz,h.bd.shut id⟩
theorem Closing.step{s':St}{L:List Int}{k:Nat}(h:Closing n s c L k s')(hL:L.Pairwise (· < ·))(hk:k<L.length)(ht:mY n s' L[k] c (own s' L[k] c).length t):Closing n s c L (k+1) (t.shut L[k]):=by
 have e:=ht.last h.sd.inv h.sd.ok;refine⟨ht.sd.shut _,Busy.shut (P:=fun _=>False) (ht.busy.mono fun y hy=> .inr hy) ht.sd.inv, ?_,fun i hi=> ?_⟩
 ·rw[kV hk,List.foldl_append,<-h.is,e];rfl
 ·have hd:L.drop k=L[k]::L.drop (k+1):=(List.getElem_cons_drop (h:=hk)).symm;have hp:(L.drop k).Pairwise (· < ·):=hL.sublist (List.drop_sublist _ _);rw[hd,List.pairwise_cons]at hp;have cz:i≠L[k]:=fun e'=>by have:=hp.1 i hi;omega
  have hm:=h.rest i (by rw[hd];exact aY _ hi);rw[e];have qZ:(s'.fN c L[k]).ks=(dropFirst (·.id==L[k]) s'.reqs).map fun r=>(r.id,r.ten):=by unfold St.ks;rw[St.mI]
  rw[qZ];obtain⟨⟨i',t'⟩,BC,rfl⟩:=ax.1 hm;exact ax.2 ⟨(i',t'),St.lx BC cz,rfl⟩
theorem NZ{base x tb:Nat}{g:Gh}{cn:List (Int×Nat×Bs)}{w:World}{F:Ft}(h:(stA base x tb g cn s).holds w F)(hi:Inv s)(ho:Ok s)(hz:s.sz<=16777000){q:Rq}(hq:s.req id=some q)(c:Int): ∃(nn:Nat) (ao:Option Addr) (cap:Nat),nn<=16777210∧g.rp id<w.heap.size∧w.cell? ⟨g.rp id,7,none⟩=some (.slice ao nn cap)∧ ∀w1,Below w.heap.size w w1->Calls prog 78 #[.slice ao nn cap, .func (.func 124) #[] #[.pointer (some ⟨w1.heap.size,0,none⟩)]] (w1.alloc (.cells #[.int .i64 c] 3)) fun e w'=> ∃v',e= .returned v'∧Below w.heap.size w w'∧Goes (aa (stA base x tb g cn s) (rowA 127 1 v' (own s id c).length ((own s id c).map fun a=>pt (g.ap (key a))))) w F w':=by
 have h0:=h;obtain⟨ao,cap,dz,cJ,RA⟩:=eZ h0 hi hz hq;have FB: ∃G,(iM g (.slice ao (s.nums id).length cap) id (s.nums id)).holds w G:=by
  obtain⟨j,r1,r2,r3,hF,hh⟩:=h;have wf:=dD r1 hi hz;obtain⟨r,hr,t,ht,er,ei,et,uY,yw⟩:=fV r1 hq;obtain⟨v,av,wv,Fs,hw⟩:=kK hh wf hr ht;obtain⟨G0,kP,_⟩:=LG hw;have c7:=(L4 hw).1 7;have mB:r.q.id=id:=by rw[er];exact ei
  rw[mB]at c7 kP;have hav:av= .slice ao (s.nums id).length cap:=by have h2:=RA.al;rw[c7]at h2;exact Option.some.inj h2
  rw[<-hav,<-yw];exact⟨G0,kP⟩
 obtain⟨Gl,r7⟩:=FB;unfold iM at r7;refine⟨_,ao,cap,RA.y7.1,RA.lt.1,RA.al,fun w1 hB=> ?_⟩;have mL:Below w.heap.size w (w1.alloc (.cells #[.int .i64 c] 3)):=hB.alloc hB.size _;have Fx: ∀nn∈s.nums id,∃a∈s.ag,a.id=id∧a.n=nn:=fun nn zQ=>ly.1 zQ;have RY: ∀a∈s.ag,a.id=id->(s.ag.any fun b=>b.id==id &&b.n==a.n &&b.conn==c)=(a.conn==c):=fun a ha ea=>by
  by_cases hc:a.conn=c
  ·have:(s.ag.any fun b=>b.id==id &&b.n==a.n &&b.conn==c)=true:=List.any_eq_true.2 ⟨a,ha,by simp[ea,hc]⟩;rw[this];simp[hc]
  ·have:(s.ag.any fun b=>b.id==id &&b.n==a.n &&b.conn==c)=false:=by
    rw[List.any_eq_false];intro b hb e;simp only[a8,beq_iff_eq]at e;have:b=a:=bC (k:=fun a:At=>(a.id,a.n)) ho.key hb ha (by show(b.id,b.n)=(a.id,a.n);rw[e.1.1,e.1.2,ea]);rw[this]at e;exact hc e.2
   rw[this];simp[hc]
 have S9:(s.nums id).filter (fun nn=>s.ag.any fun b=>b.id==id &&b.n==nn &&b.conn==c)=(own s id c).map (·.n):=by
  unfold St.nums own;rw[List.filter_map];have:(s.ag.filter fun a=>a.id==id).filter ((fun nn=>s.ag.any fun b=>b.id==id &&b.n==nn &&b.conn==c)∘fun a=>a.n)=s.ag.filter fun a=>a.id==id &&a.conn==c:=by
   rw[List.filter_filter];refine List.filter_congr fun a ha=> ?_;by_cases ea:a.id=id
   ·simp only[Function.comp_def];rw[RY a ha ea,Bool.and_comm]
   ·have e0:(a.id==id)=false:=beq_eq_false_iff_ne.2 ea;simp only[Function.comp_def];rw[e0,Bool.and_false,Bool.false_and]
  rw[this]
 refine(sM _ (s.nums id) (fun nn=>g.ap (id,nn)) (fun nn=>s.ag.any fun b=>b.id==id &&b.n==nn &&b.conn==c) 124 #[.pointer (some ⟨w1.heap.size,0,none⟩)] (enters_of func124 (by kernel_rfl) rfl) _ Gl (Mr.aF r7 mL) (fun wr hr y hy=> ?_) (by have:=RA.y7.1;omega)).mono ?_
 ·obtain⟨a,RM,Ze,Zf⟩:=Fx y hy;obtain⟨kk,q',_,_,qi,_⟩:=EE h0 hi hz RM;have yA:key a=(id,y):=by unfold key;rw[Ze,Zf]
  rw[yA]at qi;have aQ:g.ap (id,y)<w.heap.size:=(bZ.1 qi).1;have JR:=mL.size;have:=RY a RM Ze;rw[Zf]at this;show Calls _ _ _ _ fun e w'=>e= .returned (.bool (s.ag.any fun b=>b.id==id &&b.n==y &&b.conn==c))∧_;rw[this];refine lS (g.ap (id,y)) w1.heap.size c a.conn wr ?_ ?_
  ·rw[hr.cell (p:=⟨_,2,none⟩) (bE aQ JR),mL.cell (p:=⟨_,2,none⟩) aQ];simp only[World.cell?,qi];rfl
  ·rw[hr.cell (p:=⟨w1.heap.size,0,none⟩) (by simp)];simp only[World.cell?,heap_alloc_new];rfl
 ·rintro e w'⟨v',rfl,hg⟩;have tB:=fC mL ((gD hg).mono mL.size);refine⟨v',rfl,tB,oF h0 mL ?_⟩;rw[S9]at hg;have e1:((own s id c).map (·.n)).map (fun nn=>pt (g.ap (id,nn)))=(own s id c).map fun a=>pt (g.ap (key a)):=by
   rw[az];refine bu fun a ha=> ?_;have:a.id=id:=by have:=(aG.1 ha).2;simp only[a8,beq_iff_eq]at this;exact this.1
   simp only[Function.comp_def];unfold key;rw[this]
  rw[e1,aR]at hg;exact hg
def xz(g:Gh)(v':Value)(L:List Int):aD:=rowA 124 1 v' L.length (L.map fun i=>pt (g.rp i))
structure Closes(base x tb:Nat)(g:Gh)(cn:List (Int×Nat×Bs))(n:Nat)(s:St)(c:Int)(L:List Int)(v':Value)(w:World)(F:Ft)(k:Nat)(s':St)(wr:World):Prop where
 on:Closing n s c L k s'
 goes:Goes (aa (stA base x tb g cn s') (xz g v' L)) w F wr
structure wV(base x tb:Nat)(g:Gh)(cn:List (Int×Nat×Bs))(n:Nat)(s:St)(c:Int)(L:List Int)(v':Value)(w:World)(F:Ft)(k:Nat)(s':St)(id:Int)(v2:Value)(i:Nat)(t:St)(wr:World):Prop where
 out:Closing n s c L k s'
 on:mY n s' id c i t
 goes:Goes (aa (stA base x tb g cn t) (aa (xz g v' L) (rowA 127 1 v2 (own s' id c).length ((own s' id c).map fun a=>pt (g.ap (key a)))))) w F wr
section
variable{base x tb:Nat}{g:Gh}{cn:List (Int×Nat×Bs)}{n:Nat}{s s' t:St}{c id:Int}{L:List Int}{v' v2:Value}{w wr:World}{F:Ft}{k i:Nat}
theorem Closes.round(hn:n<=16776000)(h:Closes base x tb g cn n s c L v' w F k s' wr)(hk:k<L.length): ∃(b off cap:Nat),v'= .slice (some ⟨b,off,none⟩) L.length cap∧wr.cell? ⟨b,off+k,none⟩=some (pt (g.rp L[k]))∧ ∃(nn:Nat) (ao:Option Addr) (cp:Nat),nn<=16777210∧Hid (∀w1,Below wr.heap.size wr w1->w1.cell? ⟨g.rp L[k],7,none⟩=some (.slice ao nn cp))∧(own s' L[k] c).length<=16777216∧ ∀w1,Below wr.heap.size wr w1->Calls prog 78 #[.slice ao nn cp, .func (.func 124) #[] #[.pointer (some ⟨w1.heap.size,0,none⟩)]] (w1.alloc (.cells #[.int .i64 c] 3)) fun e w'=> ∃eK bO,e= .returned (.slice eK (own s' L[k] c).length bO)∧Below wr.heap.size wr w'∧Hid (wV base x tb g cn n s c L v' w F k s' L[k] (.slice eK (own s' L[k] c).length bO) 0 s' w'):=by
 obtain⟨F1,bU,o1,n1⟩:=h.goes;obtain⟨G,H,ha,hb,d,e⟩:=id bU;have lT:=h.on;have hz:=lT.sd.sz;have hm:=lT.rest L[k] (by rw[<-List.getElem_cons_drop (h:=hk)];exact cB ..);obtain⟨q,hq,tK,Cs⟩:=St.cf hm;obtain⟨nn,ao,cp,zQ,aQ,c7,Ce⟩:=NZ ha lT.sd.inv lT.sd.ok (by omega) hq c;have yy:=hb;unfold xz at hb;obtain⟨Wh,BV,rfl,cV,ck⟩:=Mr.cE hb;obtain⟨b,off,rfl⟩:=ck (by omega);have Ug:(own s' L[k] c).length<=16777216:=by have h1:(own s' L[k] c).length<=s'.ag.length:=List.length_filter_le ..;unfold St.sz at hz;omega
 refine⟨b,off,BV,rfl,by rw[aW hb k (by omega),List.getElem?_map,aV hk];rfl,nn,ao,cp,zQ,fun w1 hB=>by rw[bN hB aQ];exact c7,Ug,fun w1 hB=>(Ce w1 hB).mono ?_⟩;rintro e' w'⟨v2,rfl,tB,hg⟩;have qX:=hg;obtain⟨F2,gl,_⟩:=hg;obtain⟨_,_,_,cL,_⟩:=gl;obtain⟨eK,bO,rfl⟩:=aJ (Goes.refl cL);refine⟨eK,bO,rfl,tB,lT,⟨lT.sd,lT.busy.mono (fun _ h=>h.elim),rfl,rfl,by simp[own]⟩, ?_⟩;refine ay o1 n1 ((aH yy qX d e).eq ?_)
 ac_rfl
theorem wV.round(T:Tabs base w)(hF: ∀k,F k->base<=k)(hn:n<=16776000)(h:wV base x tb g cn n s c L v' w F k s' id v2 i t wr){A:List At}(hA:own s' id c=A)(hi:i<A.length): ∃(b off cap:Nat),v2= .slice (some ⟨b,off,none⟩) A.length cap∧wr.cell? ⟨b,off+i,none⟩=some (pt (g.ap (key A[i])))∧Calls prog 80 #[pt x,pt tb,pt (g.ap (key A[i]))] wr fun e w3=>e= .returned (.tuple #[])∧Hid (∃t',wV base x tb g cn n s c L v' w F k s' id v2 (i+1) t' w3):=by
 subst hA;obtain⟨F1,bU,o1,n1⟩:=h.goes;obtain⟨G,H,ha,hb,d,e⟩:=_root_.id bU;have lT:=h.on;have hz:=lT.sd.sz;have T1:Tabs base wr:=T.goes hF ⟨F1,bU,o1,n1⟩;obtain⟨ix,nu,Ed⟩:=lT.step hi;obtain⟨Gr,nt,_⟩:=aD.left (aw hb (aZ _ _));obtain⟨Wh,BV,rfl,cV,ck⟩:=Mr.cE nt;obtain⟨b,off,rfl⟩:=ck (by omega);refine⟨b,off,BV,rfl, ?_, ?_⟩
 ·rw[aW nt i (by omega),List.getElem?_map,aV hi];rfl
 ·refine(ox T1 ha lT.sd.inv lT.sd.ok (by omega) nu).mono ?_;rintro e' w3⟨rfl,kk,hg⟩;exact⟨rfl,_,h.out,Ed,ay o1 n1 (aH hb hg.drop d e)⟩
theorem wV.fin(T:Tabs base w)(hF: ∀k,F k->base<=k)(hn:n<=16776000)(hL:L.Pairwise (· < ·))(hk:k<L.length)(h:wV base x tb g cn n s c L v' w F k s' L[k] v2 (own s' L[k] c).length t wr):Calls prog 81 #[pt x,pt tb,pt (g.rp L[k])] wr fun e w3=>e= .returned (.tuple #[])∧Hid (∃rz,Closes base x tb g cn n s c L v' w F (k+1) rz w3):=by
 obtain⟨F1,bU,o1,n1⟩:=h.goes;obtain⟨G,H,ha,hb,d,e⟩:=id bU;have lT:=h.on;have T1:Tabs base wr:=T.goes hF ⟨F1,bU,o1,n1⟩;have hm:=h.out.rest L[k] (by rw[<-List.getElem_cons_drop (h:=hk)];exact cB ..);have BC:L[k]∈t.ks.map (·.1):=by
  have:t.ks=s'.ks:=by unfold St.ks;rw[lT.reqs]
  rw[this];exact hm
 obtain⟨q,hq,tK,Cs⟩:=St.cf BC;refine(pz T1 ha lT.sd hn hq lT.busy).mono ?_;rintro e' w3⟨rfl,hg⟩;refine⟨rfl,_,h.out.step hL hk lT, ?_⟩;have g3:=ay o1 n1 (aH hb hg d e);have g4:=g3.eq (bn _ _ _).symm;exact g4.drop
end
theorem Gy{base x tb:Nat}{g:Gh}{cn:List (Int×Nat×Bs)}{s:St}{w:World}{F:Ft}{n:Nat}(T:Tabs base w)(h:(stA base x tb g cn s).holds w F)(hs:Sd n s)(hn:n<=16776000)(vY:Busy s (fun _=>False))(c:Int):Calls prog 44 #[pt x,pt tb, .int .i64 c] w fun e w'=>e= .returned (.tuple #[])∧Goes (stA base x tb g cn (St.aO s.reqs.length s c)) w F w':=by
 have hz:=hs.sz;have hF:=cr h;have YV:Hid (Calls prog 77 #[pt x, .int .i64 c] w fun e w'=> ∃(L:List Int) (eK:Option Addr) (bO:Nat),e= .returned (.slice eK L.length bO)∧L.length<=16777216∧Hid (L.Pairwise (· < ·))∧Hid (Closes base x tb g cn n s c L (.slice eK L.length bO) w F 0 s w')∧Hid (∀v' s' wr,Closes base x tb g cn n s c L v' w F L.length s' wr->Goes (stA base x tb g cn (St.aO s.reqs.length s c)) w F wr)):=by
  show Calls _ _ _ _ _;refine(K0 h hs.inv (by omega) c).mono ?_;rintro e w'⟨v',L,rfl,hp,hL,hg⟩;have qX:=hg;obtain⟨F2,gl,_⟩:=hg;obtain⟨_,_,_,cL,_⟩:=gl;obtain⟨eK,bO,rfl⟩:=aJ (Goes.refl cL);have hlen:L.length<=s.reqs.length:=by rw[hp.length_eq];unfold St.eY;rw[aR];exact List.length_filter_le ..
  have yB:L.length<=16777216:=by unfold St.sz at hz;omega
  refine⟨L,eK,bO,rfl,yB,hL,⟨⟨hs,vY,rfl,fun i hi=> ?_⟩,qX⟩,fun v' s' wr hc=> ?_⟩
  ·have vk:i∈L:=by simpa using hi
   obtain⟨r,hr,_,e⟩:=St.kG.1 (hp.subset vk);unfold St.ks;rw[az];exact ax.2 ⟨r,hr,e⟩
  ·have:=hc.goes.drop;rw[hc.on.is,List.take_length,<-St.k6 L s.reqs.length s c hs.inv hp hL hlen]at this;exact this
 have HT:=hide T;have HF:=hide hF;clear h T hF;unfold pt at*;go_enter func44,ntmps44;go_wp2_with (first
  |(go_at_call 77;go_must(refine YV.out.mono ?_;rintro e w2⟨L,eK,bO,rfl,Nk,HL,VM,jM⟩)))
 clear YV;go_loopw [14] (fun i wr=> ∃k:Nat,k<=L.length∧i= .int .i64 k∧ ∃s',Hid (Closes base x tb g cn n s c L (.slice eK L.length bO) w F k s' wr)) (fun i _=>L.length-(intOf i).toNat)
 case atStart=>exact⟨0,bk _,rfl,s,VM⟩
 case round=>
  obtain⟨k,hk,rfl,s',mv⟩:=hrel;by_cases aQ:k<L.length
  ·obtain⟨b,off,cJ,ev,c0,nn,ao,cp,zQ,L9,Ug,Ce⟩:=mv.out.round hn aQ;cases ev;have BI:=hide Ce;have c7:=L9.out wr (ar _ _);have PW:Hid (∀v2 i (hi:i<(own s' L[k] c).length) t wr,wV base x tb g cn n s c L (.slice (some ⟨b,off,none⟩) L.length bO) w F k s' L[k] v2 i t wr->_):=fun v2 i hi t wr ho=>ho.round HT.out HF.out hn rfl hi;have PV:Hid (∀v2 t wr,wV base x tb g cn n s c L (.slice (some ⟨b,off,none⟩) L.length bO) w F k s' L[k] v2 (own s' L[k] c).length t wr->Calls _ _ _ _ _):=fun v2 t wr ho=>ho.fin HT.out HF.out hn HL.out aQ;clear mv VM jM Ce;unfold pt at*;generalize L[k]=id at*;generalize g.rp id=rp at*;go_wp2_with fail;go_region_held3 (fun w'=>w'.cell? ⟨rp,7,none⟩=some (.slice ao nn cp)) (go_keep)
    (first
     |(go_at_call 79;go_must(refine(iR c _).mono ?_;rintro e w6⟨rfl,rfl⟩;have q2:=L9.out _ ((ar wr.heap.size wr).drew.alloc (af _) (.cells #[.int .i64 c] 3))))
     |(go_at_call 78;go_must(refine(BI.out _ (ar _ _).drew).mono ?_;rintro e w7⟨dz,cP,rfl,r9,V1⟩;have q3:=L9.out _ r9)))
   all_goals
    clear BI L9 q2 q3 r9 c7;generalize hA:own s' id c=A at*;go_wp2;go_loopw [26] (fun i wr=> ∃m:Nat,m<=A.length∧i= .int .i64 m∧ ∃t,Hid (wV base x tb g cn n s c L (.slice (some ⟨b,off,none⟩) L.length bO) w F k s' id (.slice dz A.length cP) m t wr)) (fun i _=>A.length-(intOf i).toNat)
    case atStart=>exact⟨0,bk _,rfl,s',V1⟩
    case round=>
     obtain⟨m,hm,rfl,t,Du⟩:=hrel;by_cases Fw:m<A.length
     ·obtain⟨b2,Yi,cp4,ev,d0,vh⟩:=PW.out _ m Fw t wr Du.out;cases ev;have mS:=hide vh;clear PW PV Du V1 vh hA;generalize g.ap (key A[m])=ap at*;go_wp2_with (first
       |(go_at_call 80;go_must(refine mS.out.mono ?_;rintro e w3⟨rfl,BL⟩)))
      go_roundw
      case rel=>obtain⟨t',zT⟩:=BL.out;exact⟨m+1,by omega,by go_num,t',zT⟩
      case measure=>simp[intOf];omega
     ·obtain rfl:m=A.length:=by omega
      have EM:=hide (PV.out _ t wr Du.out);clear PW PV Du V1 hA;go_wp2_with (first
       |(go_at_call 81;go_must(refine EM.out.mono ?_;rintro e w3⟨rfl,BL⟩)))
      go_roundw
      case rel=>obtain⟨rz,XI⟩:=BL.out;exact⟨k+1,by omega,by go_num,rz,XI⟩
      case measure=>simp[intOf];omega
  ·obtain rfl:k=L.length:=by omega
   have HE:=hide (jM.out _ _ _ mv.out);clear mv VM jM;go_wp2;go_end0;exact⟨rfl,HE.out⟩
