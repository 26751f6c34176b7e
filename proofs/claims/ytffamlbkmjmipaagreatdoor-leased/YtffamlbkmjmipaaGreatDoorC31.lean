import Derived.Test.YtffamlbkmjmipaaGreatDoorC29
import Derived.Test.YtffamlbkmjmipaaGreatDoorC30
set_option maxHeartbeats 8000000
set_option maxRecDepth 100000
namespace Go.Proofs.YtffamlbkmjmipaaGreatDoor
open _root_.Go.Proofs.Tryz
namespace Pj
open Go.RowKit aM Mc bJ
attribute [local go_sem] ag ar
variable{n:Nat}{s t:St}{id c:Int}
def own(s:St)(id c:Int):List At:=s.af.filter fun a=>a.id==id &&a.conn==c
structure fO(n:Nat)(s:St)(id c:Int)(i:Nat)(t:St):Prop where
 sd:Sd n t
 busy:Busy t (fun y=>y=id)
 is:t=(((own s id c).take i).map key).foldl St.LJ s
 reqs:t.reqs=s.reqs
 left:t.af.filter (fun a=>a.id==id &&a.conn==c)=(own s id c).drop i
theorem fO.step{i:Nat}(h:fO n s id c i t)(hi:i<(own s id c).length): ∃ix,t.af[ix]?=some (own s id c)[i]∧fO n s id c (i+1) (t.aS ix):=by
 have hl:=h.left;rw[<-List.getElem_cons_drop (h:=hi)]at hl;obtain⟨ix,h1,h2,h3⟩:=yr hl;have hid:(own s id c)[i].id=id:=by simp only[bZ,beq_iff_eq]at h2;exact h2.1
 refine⟨ix,h1,h.sd.Kf ix,(h.busy.aS h1).mono (fun y hy=>hy.elim (fun h=>h) (fun e=>e.trans hid)), ?_, ?_, ?_⟩
 ·rw[fp hi,aH,List.foldl_append,<-h.is];show _=St.LJ t (key (own s id c)[i]);exact(St.xo h.sd.ok h1).symm
 ·rw[(St.cG (s:=t) ix).2.2.2.1];exact h.reqs
 ·rw[(St.cG (s:=t) ix).2.1];exact h3
theorem fO.last(h:fO n s id c (own s id c).length t)(hi:Inv s)(ho:Ok s):t.shut id=s.iR c id:=by unfold St.iR;rw[St.oV s.af.length s 0 id c hi ho (by omega),List.drop_zero,h.is,List.take_length];rfl
structure Closing(n:Nat)(s:St)(c:Int)(L:List Int)(k:Nat)(s':St):Prop where
 sd:Sd n s'
 busy:Busy s' (fun _=>False)
 is:s'=(L.take k).foldl (St.iR c) s
 rest: ∀i∈L.drop k,i∈s'.ks.map (·.1)
theorem Sd.shut(h:Sd n s)(id:Int):Sd n (s.shut id):=⟨St.ji h.inv id,h.ok.shut h.inv id,aw (St.rf id) h.sz,h.bd.shut id⟩
theorem Closing.step{s':St}{L:List Int}{k:Nat}(h:Closing n s c L k s')(hL:L.Pairwise (· < ·))(hk:k<L.length)(ht:fO n s' L[k] c (own s' L[k] c).length t):Closing n s c L (k+1) (t.shut L[k]):=by
 have e:=ht.last h.sd.inv h.sd.ok;refine⟨ht.sd.shut _,Busy.shut (P:=fun _=>False) (ht.busy.mono fun y hy=> .inr hy) ht.sd.inv, ?_,fun i hi=> ?_⟩
 ·rw[fp hk,List.foldl_append,<-h.is,e];rfl
 ·have hd:L.drop k=L[k]::L.drop (k+1):=(List.getElem_cons_drop (h:=hk)).symm;have hp:(L.drop k).Pairwise (· < ·):=hL.sublist (List.drop_sublist _ _);rw[hd,List.pairwise_cons]at hp;have cC:i≠L[k]:=fun e'=>by have:=hp.1 i hi;omega
  have hm:=h.rest i (by rw[hd];exact bt _ hi);rw[e];have kJ:(s'.iR c L[k]).ks=(dropFirst (·.id==L[k]) s'.reqs).map fun r=>(r.id,r.ten):=by unfold St.ks;rw[St.rM]
  rw[kJ];obtain⟨⟨i',t'⟩,Eg,rfl⟩:=aA.1 hm;exact aA.2 ⟨(i',t'),St.qm Eg cC,rfl⟩
theorem UX{base x tb:Nat}{g:Gh}{cn:List (Int×Nat×Bs)}{w:World}{F:Ft}(h:(stA base x tb g cn s).holds w F)(hi:Inv s)(ho:Ok s)(hz:s.sz<=16777000){q:Rq}(hq:s.req id=some q)(c:Int): ∃(nn:Nat) (ao:Option Addr) (cap:Nat),nn<=16777210∧g.rp id<w.heap.size∧w.cell? ⟨g.rp id,7,none⟩=some (.slice ao nn cap)∧ ∀w1,Below w.heap.size w w1->Calls prog 78 #[.slice ao nn cap, .func (.func 124) #[] #[.pointer (some ⟨w1.heap.size,0,none⟩)]] (w1.alloc (.cells #[.int .i64 c] 3)) fun e w'=> ∃v',e= .returned v'∧Below w.heap.size w w'∧Goes (aa (stA base x tb g cn s) (rowA 127 1 v' (own s id c).length ((own s id c).map fun a=>pt (g.ap (key a))))) w F w':=by
 have h0:=h;obtain⟨ao,cap,cU,b9,RA⟩:=gK h0 hi hz hq;have pH: ∃G,(lx g (.slice ao (s.nums id).length cap) id (s.nums id)).holds w G:=by
  obtain⟨j,r1,r2,r3,hF,hh⟩:=h;have wf:=fI r1 hi hz;obtain⟨r,hr,t,ht,er,ei,et,zY,CT⟩:=je r1 hq;obtain⟨v,av,wv,Md,hw⟩:=pc hh wf hr ht;obtain⟨G0,pD,_⟩:=RN hw;have c7:=(Sn hw).1 7;have oK:r.q.id=id:=by rw[er];exact ei
  rw[oK]at c7 pD;have yy:av= .slice ao (s.nums id).length cap:=by have h2:=RA.al;rw[c7]at h2;exact Option.some.inj h2
  rw[<-yy,<-CT];exact⟨G0,pD⟩
 obtain⟨Gl,xw⟩:=pH;unfold lx at xw;refine⟨_,ao,cap,RA.Dm.1,RA.lt.1,RA.al,fun w1 hB=> ?_⟩;have hB2:Below w.heap.size w (w1.alloc (.cells #[.int .i64 c] 3)):=hB.alloc hB.size _;have Ag: ∀nn∈s.nums id,∃a∈s.af,a.id=id∧a.n=nn:=fun nn KD=>qo.1 KD;have BU: ∀a∈s.af,a.id=id->(s.af.any fun b=>b.id==id &&b.n==a.n &&b.conn==c)=(a.conn==c):=fun a ha ea=>by
  by_cases hc:a.conn=c
  ·have:(s.af.any fun b=>b.id==id &&b.n==a.n &&b.conn==c)=true:=List.any_eq_true.2 ⟨a,ha,by simp[ea,hc]⟩;rw[this];simp[hc]
  ·have:(s.af.any fun b=>b.id==id &&b.n==a.n &&b.conn==c)=false:=by
    rw[List.any_eq_false];intro b hb e;simp only[bZ,beq_iff_eq]at e;have:b=a:=ck (k:=fun a:At=>(a.id,a.n)) ho.key hb ha (by show(b.id,b.n)=(a.id,a.n);rw[e.1.1,e.1.2,ea]);rw[this]at e;exact hc e.2
   rw[this];simp[hc]
 have aam:(s.nums id).filter (fun nn=>s.af.any fun b=>b.id==id &&b.n==nn &&b.conn==c)=(own s id c).map (·.n):=by
  unfold St.nums own;rw[List.filter_map];have:(s.af.filter fun a=>a.id==id).filter ((fun nn=>s.af.any fun b=>b.id==id &&b.n==nn &&b.conn==c)∘fun a=>a.n)=s.af.filter fun a=>a.id==id &&a.conn==c:=by
   rw[List.filter_filter];refine List.filter_congr fun a ha=> ?_;by_cases ea:a.id=id
   ·simp only[Function.comp_def];rw[BU a ha ea,Bool.and_comm]
   ·have e0:(a.id==id)=false:=beq_eq_false_iff_ne.2 ea;simp only[Function.comp_def];rw[e0,Bool.and_false,Bool.false_and]
  rw[this]
 refine(xT _ (s.nums id) (fun nn=>g.ap (id,nn)) (fun nn=>s.af.any fun b=>b.id==id &&b.n==nn &&b.conn==c) 124 #[.pointer (some ⟨w1.heap.size,0,none⟩)] (enters_of func124 (by kernel_rfl) rfl) _ Gl (Mr.au xw hB2) (fun wr hr y hy=> ?_) (by have:=RA.Dm.1;omega)).mono ?_
 ·obtain⟨a,Zi,ea1,ea2⟩:=Ag y hy;obtain⟨kk,q',_,_,oa,_⟩:=K5 h0 hi hz Zi;have CX:key a=(id,y):=by unfold key;rw[ea1,ea2]
  rw[CX]at oa;have ay:g.ap (id,y)<w.heap.size:=(cT.1 oa).1;have Iz:=hB2.size;have:=BU a Zi ea1;rw[ea2]at this;show Calls _ _ _ _ fun e w'=>e= .returned (.bool (s.af.any fun b=>b.id==id &&b.n==y &&b.conn==c))∧_;rw[this];refine qL (g.ap (id,y)) w1.heap.size c a.conn wr ?_ ?_
  ·rw[hr.cell (p:=⟨_,2,none⟩) (bP ay Iz),hB2.cell (p:=⟨_,2,none⟩) ay];simp only[World.cell?,oa];rfl
  ·rw[hr.cell (p:=⟨w1.heap.size,0,none⟩) (by simp)];simp only[World.cell?,heap_alloc_new];rfl
 ·rintro e w'⟨v',rfl,hg⟩;have yz:=iz hB2 ((jG hg).mono hB2.size);refine⟨v',rfl,yz,tQ h0 hB2 ?_⟩;rw[aam]at hg;have e1:((own s id c).map (·.n)).map (fun nn=>pt (g.ap (id,nn)))=(own s id c).map fun a=>pt (g.ap (key a)):=by
   rw[aG];refine bY fun a ha=> ?_;have:a.id=id:=by have:=(aR.1 ha).2;simp only[bZ,beq_iff_eq]at this;exact this.1
   simp only[Function.comp_def];unfold key;rw[this]
  rw[e1,bf]at hg;exact hg
def B5(g:Gh)(v':Value)(L:List Int):aM:=rowA 124 1 v' L.length (L.map fun i=>pt (g.rp i))
structure Closes(base x tb:Nat)(g:Gh)(cn:List (Int×Nat×Bs))(n:Nat)(s:St)(c:Int)(L:List Int)(v':Value)(w:World)(F:Ft)(k:Nat)(s':St)(wr:World):Prop where
 on:Closing n s c L k s'
 goes:Goes (aa (stA base x tb g cn s') (B5 g v' L)) w F wr
structure BA(base x tb:Nat)(g:Gh)(cn:List (Int×Nat×Bs))(n:Nat)(s:St)(c:Int)(L:List Int)(v':Value)(w:World)(F:Ft)(k:Nat)(s':St)(id:Int)(v2:Value)(i:Nat)(t:St)(wr:World):Prop where
 out:Closing n s c L k s'
 on:fO n s' id c i t
 goes:Goes (aa (stA base x tb g cn t) (aa (B5 g v' L) (rowA 127 1 v2 (own s' id c).length ((own s' id c).map fun a=>pt (g.ap (key a)))))) w F wr
section
variable{base x tb:Nat}{g:Gh}{cn:List (Int×Nat×Bs)}{n:Nat}{s s' t:St}{c id:Int}{L:List Int}{v' v2:Value}{w wr:World}{F:Ft}{k i:Nat}
theorem Closes.round(hn:n<=16776000)(h:Closes base x tb g cn n s c L v' w F k s' wr)(hk:k<L.length): ∃(b off cap:Nat),v'= .slice (some ⟨b,off,none⟩) L.length cap∧wr.cell? ⟨b,off+k,none⟩=some (pt (g.rp L[k]))∧ ∃(nn:Nat) (ao:Option Addr) (cp:Nat),nn<=16777210∧Hid (∀w1,Below wr.heap.size wr w1->w1.cell? ⟨g.rp L[k],7,none⟩=some (.slice ao nn cp))∧(own s' L[k] c).length<=16777216∧ ∀w1,Below wr.heap.size wr w1->Calls prog 78 #[.slice ao nn cp, .func (.func 124) #[] #[.pointer (some ⟨w1.heap.size,0,none⟩)]] (w1.alloc (.cells #[.int .i64 c] 3)) fun e w'=> ∃iw cM,e= .returned (.slice iw (own s' L[k] c).length cM)∧Below wr.heap.size wr w'∧Hid (BA base x tb g cn n s c L v' w F k s' L[k] (.slice iw (own s' L[k] c).length cM) 0 s' w'):=by
 obtain⟨F1,cd,o1,n1⟩:=h.goes;obtain⟨G,H,ha,hb,d,e⟩:=id cd;have pF:=h.on;have hz:=pF.sd.sz;have hm:=pF.rest L[k] (by rw[<-List.getElem_cons_drop (h:=hk)];exact dy ..);obtain⟨q,hq,yH,Ix⟩:=St.cz hm;obtain⟨nn,ao,cp,KD,ay,c7,u5⟩:=UX ha pF.sd.inv pF.sd.ok (by omega) hq c;have iO:=hb;unfold B5 at hb;obtain⟨aor,Hr,rfl,dF,bI⟩:=Mr.bO hb;obtain⟨b,off,rfl⟩:=bI (by omega);have vU:(own s' L[k] c).length<=16777216:=by have h1:(own s' L[k] c).length<=s'.af.length:=List.length_filter_le ..;unfold St.sz at hz;omega
 refine⟨b,off,Hr,rfl,by rw[bm hb k (by omega),List.getElem?_map,a7 hk];rfl,nn,ao,cp,KD,fun w1 hB=>by rw[cL hB ay];exact c7,vU,fun w1 hB=>(u5 w1 hB).mono ?_⟩;rintro e' w'⟨v2,rfl,yz,hg⟩;have rF:=hg;obtain⟨F2,eX,_⟩:=hg;obtain⟨_,_,_,bN,_⟩:=eX;obtain⟨iw,cM,rfl⟩:=aX (Goes.refl bN);refine⟨iw,cM,rfl,yz,pF,⟨pF.sd,pF.busy.mono (fun _ h=>h.elim),rfl,rfl,by simp[own]⟩, ?_⟩;refine aF o1 n1 ((aV iO rF d e).eq ?_)
 ac_rfl
theorem BA.round(T:Tabs base w)(hF: ∀k,F k->base<=k)(hn:n<=16776000)(h:BA base x tb g cn n s c L v' w F k s' id v2 i t wr){A:List At}(hA:own s' id c=A)(hi:i<A.length): ∃(b off cap:Nat),v2= .slice (some ⟨b,off,none⟩) A.length cap∧wr.cell? ⟨b,off+i,none⟩=some (pt (g.ap (key A[i])))∧Calls prog 80 #[pt x,pt tb,pt (g.ap (key A[i]))] wr fun e w3=>e= .returned (.tuple #[])∧Hid (∃t',BA base x tb g cn n s c L v' w F k s' id v2 (i+1) t' w3):=by
 subst hA;obtain⟨F1,cd,o1,n1⟩:=h.goes;obtain⟨G,H,ha,hb,d,e⟩:=_root_.id cd;have pF:=h.on;have hz:=pF.sd.sz;have T1:Tabs base wr:=T.goes hF ⟨F1,cd,o1,n1⟩;obtain⟨ix,sB,KJ⟩:=pF.step hi;obtain⟨Gr,kG,_⟩:=aM.left (aB hb (cA _ _));obtain⟨aor,Hr,rfl,dF,bI⟩:=Mr.bO kG;obtain⟨b,off,rfl⟩:=bI (by omega);refine⟨b,off,Hr,rfl, ?_, ?_⟩
 ·rw[bm kG i (by omega),List.getElem?_map,a7 hi];rfl
 ·refine(hE T1 ha pF.sd.inv pF.sd.ok (by omega) sB).mono ?_;rintro e' w3⟨rfl,kk,hg⟩;exact⟨rfl,_,h.out,KJ,aF o1 n1 (aV hb hg.drop d e)⟩
theorem BA.fin(T:Tabs base w)(hF: ∀k,F k->base<=k)(hn:n<=16776000)(hL:L.Pairwise (· < ·))(hk:k<L.length)(h:BA base x tb g cn n s c L v' w F k s' L[k] v2 (own s' L[k] c).length t wr):Calls prog 81 #[pt x,pt tb,pt (g.rp L[k])] wr fun e w3=>e= .returned (.tuple #[])∧Hid (∃wy,Closes base x tb g cn n s c L v' w F (k+1) wy w3):=by
 obtain⟨F1,cd,o1,n1⟩:=h.goes;obtain⟨G,H,ha,hb,d,e⟩:=id cd;have pF:=h.on;have T1:Tabs base wr:=T.goes hF ⟨F1,cd,o1,n1⟩;have hm:=h.out.rest L[k] (by rw[<-List.getElem_cons_drop (h:=hk)];exact dy ..);have Eg:L[k]∈t.ks.map (·.1):=by
  have:t.ks=s'.ks:=by unfold St.ks;rw[pF.reqs]
  rw[this];exact hm
 obtain⟨q,hq,yH,Ix⟩:=St.cz Eg;refine(jh T1 ha pF.sd hn hq pF.busy).mono ?_;rintro e' w3⟨rfl,hg⟩;refine⟨rfl,_,h.out.step hL hk pF, ?_⟩;have g3:=aF o1 n1 (aV hb hg d e);have g4:=g3.eq (bX _ _ _).symm;exact g4.drop
end
theorem Nd{base x tb:Nat}{g:Gh}{cn:List (Int×Nat×Bs)}{s:St}{w:World}{F:Ft}{n:Nat}(T:Tabs base w)(h:(stA base x tb g cn s).holds w F)(hs:Sd n s)(hn:n<=16776000)(A6:Busy s (fun _=>False))(c:Int):Calls prog 44 #[pt x,pt tb, .int .i64 c] w fun e w'=>e= .returned (.tuple #[])∧Goes (stA base x tb g cn (St.aQ s.reqs.length s c)) w F w':=by
 have hz:=hs.sz;have hF:=dx h;have HRQ:Hid (Calls prog 77 #[pt x, .int .i64 c] w fun e w'=> ∃(L:List Int) (iw:Option Addr) (cM:Nat),e= .returned (.slice iw L.length cM)∧L.length<=16777216∧Hid (L.Pairwise (· < ·))∧Hid (Closes base x tb g cn n s c L (.slice iw L.length cM) w F 0 s w')∧Hid (∀v' s' wr,Closes base x tb g cn n s c L v' w F L.length s' wr->Goes (stA base x tb g cn (St.aQ s.reqs.length s c)) w F wr)):=by
  show Calls _ _ _ _ _;refine(Q8 h hs.inv (by omega) c).mono ?_;rintro e w'⟨v',L,rfl,hp,hL,hg⟩;have rF:=hg;obtain⟨F2,eX,_⟩:=hg;obtain⟨_,_,_,bN,_⟩:=eX;obtain⟨iw,cM,rfl⟩:=aX (Goes.refl bN);have hlen:L.length<=s.reqs.length:=by rw[hp.length_eq];unfold St.gJ;rw[bf];exact List.length_filter_le ..
  have oJ:L.length<=16777216:=by unfold St.sz at hz;omega
  refine⟨L,iw,cM,rfl,oJ,hL,⟨⟨hs,A6,rfl,fun i hi=> ?_⟩,rF⟩,fun v' s' wr hc=> ?_⟩
  ·have Ab:i∈L:=by simpa using hi
   obtain⟨r,hr,_,e⟩:=St.oP.1 (hp.subset Ab);unfold St.ks;rw[aG];exact aA.2 ⟨r,hr,e⟩
  ·have:=hc.goes.drop;rw[hc.on.is,List.take_length,<-St.pQ L s.reqs.length s c hs.inv hp hL hlen]at this;exact this
 have HT:=hide T;have HF:=hide hF;clear h T hF;unfold pt at*;go_enter func44,ntmps44;go_wp2_with (first
  |(go_at_call 77;go_must(refine HRQ.out.mono ?_;rintro e w2⟨L,iw,cM,rfl,PN,HL,Y0,fg⟩)))
 clear HRQ;go_loopw [14] (fun i wr=> ∃k:Nat,k<=L.length∧i= .int .i64 k∧ ∃s',Hid (Closes base x tb g cn n s c L (.slice iw L.length cM) w F k s' wr)) (fun i _=>L.length-(intOf i).toNat)
 case atStart=>exact⟨0,aJ _,rfl,s,Y0⟩
 case round=>
  obtain⟨k,hk,rfl,s',pL⟩:=hrel;by_cases ay:k<L.length
  ·obtain⟨b,off,b9,ev,c0,nn,ao,cp,KD,Sr,vU,u5⟩:=pL.out.round hn ay;cases ev;have Hb:=hide u5;have c7:=Sr.out wr (ah _ _);have WO:Hid (∀v2 i (hi:i<(own s' L[k] c).length) t wr,BA base x tb g cn n s c L (.slice (some ⟨b,off,none⟩) L.length cM) w F k s' L[k] v2 i t wr->_):=fun v2 i hi t wr ho=>ho.round HT.out HF.out hn rfl hi;have WN:Hid (∀v2 t wr,BA base x tb g cn n s c L (.slice (some ⟨b,off,none⟩) L.length cM) w F k s' L[k] v2 (own s' L[k] c).length t wr->Calls _ _ _ _ _):=fun v2 t wr ho=>ho.fin HT.out HF.out hn HL.out ay;clear pL Y0 fg u5;unfold pt at*;generalize L[k]=id at*;generalize g.rp id=rp at*;go_wp2_with fail;go_region_held3 (fun w'=>w'.cell? ⟨rp,7,none⟩=some (.slice ao nn cp)) (go_keep)
    (first
     |(go_at_call 79;go_must(refine(lJ c _).mono ?_;rintro e w6⟨rfl,rfl⟩;have q2:=Sr.out _ ((ah wr.heap.size wr).drew.alloc (ae _) (.cells #[.int .i64 c] 3))))
     |(go_at_call 78;go_must(refine(Hb.out _ (ah _ _).drew).mono ?_;rintro e w7⟨cU,eA,rfl,D1,Y9⟩;have q3:=Sr.out _ D1)))
   all_goals
    clear Hb Sr q2 q3 D1 c7;generalize hA:own s' id c=A at*;go_wp2;go_loopw [26] (fun i wr=> ∃m:Nat,m<=A.length∧i= .int .i64 m∧ ∃t,Hid (BA base x tb g cn n s c L (.slice (some ⟨b,off,none⟩) L.length cM) w F k s' id (.slice cU A.length eA) m t wr)) (fun i _=>A.length-(intOf i).toNat)
    case atStart=>exact⟨0,aJ _,rfl,s',Y9⟩
    case round=>
     obtain⟨m,hm,rfl,t,GI⟩:=hrel;by_cases KC:m<A.length
     ·obtain⟨b2,fl,Xb,ev,d0,wQ⟩:=WO.out _ m KC t wr GI.out;cases ev;have jq:=hide wQ;clear WO WN GI Y9 wQ hA;generalize g.ap (key A[m])=ap at*;go_wp2_with (first
       |(go_at_call 80;go_must(refine jq.out.mono ?_;rintro e w3⟨rfl,uM⟩)))
      go_roundw
      case rel=>obtain⟨t',El⟩:=uM.out;exact⟨m+1,by omega,by go_num,t',El⟩
      case measure=>simp[intOf];omega
     ·obtain rfl:m=A.length:=by omega
      have CS:=hide (WN.out _ t wr GI.out);clear WO WN GI Y9 hA;go_wp2_with (first
       |(go_at_call 81;go_must(refine CS.out.mono ?_;rintro e w3⟨rfl,uM⟩)))
      go_roundw
      case rel=>obtain⟨wy,acR⟩:=uM.out;exact⟨k+1,by omega,by go_num,wy,acR⟩
      case measure=>simp[intOf];omega
  ·obtain rfl:k=L.length:=by omega
   have HE:=hide (fg.out _ _ _ pL.out);clear pL Y0 fg;go_wp2;go_end0;exact⟨rfl,HE.out⟩
