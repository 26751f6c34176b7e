import Derived.Test.YtffamlbkmjmipaaGreatDoorC26
set_option maxHeartbeats 8000000
set_option maxRecDepth 100000
namespace Go.Proofs.YtffamlbkmjmipaaGreatDoor
open _root_.Go.Proofs.Tryz
namespace Pj
open Go.RowKit aD Mc bA
attribute [local go_sem] ae ah
theorem GH(l:List Int)(hn:l.Nodup): ∃S:List Int,l.Perm S∧S.Pairwise (· < ·):=by
 induction l with
 |nil=>exact⟨[],List.Perm.refl _,by simp⟩
 |cons a l ih=>
  rw[List.nodup_cons]at hn;obtain⟨S,h1,h2⟩:=ih hn.2;have hna:a∉S:=fun h=>hn.1 (h1.symm.subset h);clear ih;have: ∃S',(a::S).Perm S'∧S'.Pairwise (· < ·):=by
   clear h1
   induction S with
   |nil=>exact⟨[a],List.Perm.refl _,by simp⟩
   |cons b S ih=>
    rw[List.pairwise_cons]at h2;by_cases qi:a<b
    ·refine⟨a::b::S,List.Perm.refl _,List.pairwise_cons.2 ⟨fun y hy=> ?_,List.pairwise_cons.2 h2⟩⟩;rcases List.mem_cons.1 hy with e|e
     ·omega
     ·have:=h2.1 y e;omega
    ·have cz:a≠b:=fun e=>hna (e▸cB ..);obtain⟨S',h3,h4⟩:=ih h2.2 (fun h=>hna (aY _ h));refine⟨b::S',(List.Perm.swap b a S).trans (h3.cons b),List.pairwise_cons.2 ⟨fun y hy=> ?_,h4⟩⟩;rcases List.mem_cons.1 (h3.symm.subset hy)with e|e
     ·omega
     ·exact h2.1 y e
  obtain⟨S',h3,h4⟩:=this;exact⟨S',(h1.cons a).trans h3,h4⟩
theorem Walk.keep{P:Program}{k:TypeId}{κ:Type}{K:Kd P k κ}{b r:Nat}{m seen:List (κ×Nat)}{w w':World}(h:Walk K b r m seen w)(hb:w'.heap[b]?=w.heap[b]?)(hr:w'.heap[r]?=w.heap[r]?):Walk K b r m seen w'∧w'.rangeLeft b r=w.rangeLeft b r:=by refine⟨?_,by unfold World.rangeLeft;rw[hb,hr]⟩;obtain⟨h1,h2,D,left,cnt,h3,h4⟩:=h;refine⟨h1,h2,D,left,cnt, ?_,h4⟩;obtain⟨es,clock,since,sn,c0,e1,e2,e3,e4,e5,e6⟩:=h3;exact⟨es,clock,since,sn,c0,hb.trans e1,e2,e3,e4,hr.trans e5,e6⟩
structure jl(w:World)(rm r:Nat)(m:List (Int×Nat))(p:Int×Nat->Bool)(seen:List (Int×Nat))(n1:Nat)(sv:Value)(wr:World):Prop where
 walk:Walk iA rm r m seen wr
 len:n1=(seen.filter p).length
 row: ∃Gr,(rowA 124 1 sv n1 ((seen.filter p).map fun y=>pt y.2)).holds wr Gr∧ ¬Gr r∧ ∀k,Gr k->w.heap.size<=k
 below:Below w.heap.size w wr
 VD:w.heap.size<=r∧r<wr.heap.size
section
variable{w wr w1 w2:World}{rm r n1:Nat}{m seen:List (Int×Nat)}{p:Int×Nat->Bool}{sv:Value}{y:Int×Nat}
theorem jl.next(h:jl w rm r m p seen n1 sv wr)(hg:wr.grownBy w1 (some r))(hs:w1.heap.size=wr.heap.size):Below w.heap.size w w1∧ ∃Gr,(rowA 124 1 sv n1 ((seen.filter p).map fun y=>pt y.2)).holds w1 Gr∧ ¬Gr r∧ ∀k,Gr k->w.heap.size<=k:=by
 obtain⟨Gr,h1,h2,h3⟩:=h.row;have hr:=h.VD;refine⟨⟨hg.os.trans h.below.os,hg.tape.trans h.below.tape,hg.output.trans h.below.output,by rw[hs];exact h.below.size,fun k hk=> ?_⟩,Gr,aD.keep _ h1 (fun k hk=> ?_),h2,h3⟩
 ·rw[hg.block k (bE hk h.below.size) (fun e=>by have:=Option.some.inj e;omega)];exact h.below.block k hk
 ·exact hg.block k (aD.lt _ h1 k hk) (fun e=>h2 (by have:=Option.some.inj e;rw[<-this];exact hk))
theorem jl.no(h:jl w rm r m p seen n1 sv wr)(hw:Walk iA rm r m (seen++ [y]) w1)(hg:wr.grownBy w1 (some r))(hs:w1.heap.size=wr.heap.size)(hp:p y=false):jl w rm r m p (seen++ [y]) n1 sv w1:=by
 obtain⟨hb,FB⟩:=h.next hg hs;have e:(seen++ [y]).filter p=seen.filter p:=by simp[hp]
 exact⟨hw,by rw[e];exact h.len,by rw[e];exact FB,hb,⟨h.VD.1,by rw[hs];exact h.VD.2⟩⟩
theorem jl.yes{Gr:Ft}{dz:Option Addr}{mJ:Nat}(h:jl w rm r m p seen n1 sv wr)(hw:Walk iA rm r m (seen++ [y]) w1)(hg:wr.grownBy w1 (some r))(hs:w1.heap.size=wr.heap.size)(hp:p y=true)(Ec:rm<w.heap.size)(BD: ¬Gr r)(Nn: ∀k,Gr k->w.heap.size<=k)(o:Obj)(bz:Goes (rowA 124 1 (.slice dz (n1+1) mJ) (n1+1) (((seen.filter p).map fun y=>pt y.2)++ [pt y.2])) (w1.alloc o) Gr w2):jl w rm r m p (seen++ [y]) (n1+1) (.slice dz (n1+1) mJ) w2∧w2.rangeLeft rm r=w1.rangeLeft rm r:=by
 obtain⟨hb,_⟩:=h.next hg hs;have Bx:=hb.size;have jH:=h.VD;have e:(seen++ [y]).filter p=seen.filter p++ [y]:=by simp[hp]
 obtain⟨G2,h2,o2,n2⟩:=bz;have hz:(w1.alloc o).heap.size=w1.heap.size+1:=by simp
 have kR: ∀k,k<w1.heap.size-> ¬Gr k->w2.heap[k]?=w1.heap[k]?:=fun k hk hn=>by rw[o2.block k (by omega) hn];exact Below.heap_alloc _ _ _ hk
 have XH: ¬Gr rm:=fun hk=>by have:=Nn rm hk;omega
 obtain⟨Pt,hle⟩:=hw.keep (kR rm (by omega) XH) (kR r (by omega) BD);refine⟨⟨Pt,by rw[e,aC,<-h.len];rfl,⟨G2,by rw[e,aB];exact h2,fun hk=> ?_,fun k hk=> ?_⟩,⟨?_, ?_, ?_, ?_,fun k hk=> ?_⟩,⟨jH.1, ?_⟩⟩,hle⟩
 ·rcases n2 r hk with h|h
  ·exact BD h
  ·omega
 ·rcases n2 k hk with h|h
  ·exact Nn k h
  ·omega
 ·exact o2.os.trans hb.os
 ·exact o2.tape.trans hb.tape
 ·exact o2.output.trans hb.output
 ·have:=o2.size;omega
 ·rw[kR k (by omega) (fun h=>by have:=Nn k h;omega)];exact hb.block k hk
 ·have:=o2.size;omega
end
def rO(s:St)(c:Int)(y:Int×Nat):Bool:=match s.req y.1 with|some q=>q.conn==c|none=>false
theorem K0{base x tb:Nat}{g:Gh}{cn:List (Int×Nat×Bs)}{s:St}{w:World}{F:Ft}(h:(stA base x tb g cn s).holds w F)(hi:Inv s)(hz:s.sz<=16777000)(c:Int):Calls prog 77 #[pt x, .int .i64 c] w fun e w'=> ∃(v':Value) (L:List Int),e= .returned v'∧L.Perm (s.eY c)∧L.Pairwise (· < ·)∧Goes (aa (stA base x tb g cn s) (rowA 124 1 v' L.length (L.map fun i=>pt (g.rp i)))) w F w':=by
 obtain⟨i0,kg,nV,j0,kC⟩:=fo xB;have h0:=h;obtain⟨j,r1,r2,r3,hF,hh⟩:=h;have wf:=dD r1 hi hz;obtain⟨G0,hj,_⟩:=aD.left hh;obtain⟨v,hv⟩:=hj;have rb:x<w.heap.size:=(tO hv).2.2;have c7:w.cell? ⟨x,7,none⟩=some (.map (some v.rm)):=(tO hv).1 7;have iT: ∃Gm,(gJ g v.rm j.reqs).holds w Gm:=by obtain⟨Gm,DZ,_⟩:=aD.left (aw hv (show _=aa (gJ g v.rm j.reqs) (aa (dB x j v) (aa (iu v.cm j.br) (aa (fW g v.tm j.aI) (aa (all gi j.br) (aa (all (dP g j.c.re) j.reqs) (aa (all (eC g) j.aI) (aa (dF g v.rv j.ring) (aa (gm v.pv j.pull) (aa (dm g v.lv j.hp) (hpA g j.hp))))))))))by unfold aS;ac_rfl));exact⟨Gm,DZ⟩
 obtain⟨Gm,DZ⟩:=iT;have Ec:v.rm<w.heap.size:=aD.lt _ DZ v.rm ((DZ.1 v.rm).2 rfl);have D8:(j.reqs.map fun r=>(r.q.id,g.rp r.q.id)).length<=16777210:=by rw[aR];exact wf.b6
 have qZ:s.ks.map (·.1)=s.reqs.map (·.id):=by unfold St.ks;rw[az];rfl
 have Ct: ∀y∈j.reqs.map (fun r=>(r.q.id,g.rp r.q.id)),∃q,s.req y.1=some q∧q.id=y.1∧y.2=g.rp y.1∧y.2<w.heap.size∧w.cell? ⟨y.2,1,none⟩=some (.int .i64 q.conn)∧w.cell? ⟨y.2,0,none⟩=some (.int .i64 y.1):=fun y hy=>by
  obtain⟨r,hr,rfl⟩:=ax.1 hy;have LW:r.q∈s.reqs:=by rw[<-r1.reqs];exact ax.2 ⟨r,hr,rfl⟩
  have hq:s.req r.q.id=some r.q:=St.qG hi LW;obtain⟨ao,cap,dz,cJ,RA⟩:=eZ h0 hi hz hq;exact⟨r.q,hq,rfl,rfl,RA.lt.1,RA.conn,RA.ci⟩
 have yH:Hid (∀y∈j.reqs.map (fun r=>(r.q.id,g.rp r.q.id)),∀w1,Below w.heap.size w w1-> ∃cy,w1.cell? ⟨y.2,1,none⟩=some (.int .i64 cy)∧rO s c y=(cy==c)):=fun y hy w1 hb=>by obtain⟨q,e1,e2,e3,e4,e5,e6⟩:=Ct y hy;exact⟨q.conn,by rw[bN hb e4];exact e5,by unfold rO;rw[e1]⟩
 have yM:Hid (∀seen n1 sv r wr,jl w v.rm r (j.reqs.map fun r=>(r.q.id,g.rp r.q.id)) (rO s c) seen n1 sv wr->seen.Perm (j.reqs.map fun r=>(r.q.id,g.rp r.q.id))->Calls prog 122 #[sv, .func (.func 123) #[] #[]] wr fun e w'=>e= .returned (.tuple #[])∧Hid (∃L:List Int,L.Perm (s.eY c)∧L.Pairwise (· < ·)∧Goes (aa (stA base x tb g cn s) (rowA 124 1 sv L.length (L.map fun i=>pt (g.rp i)))) w F w')):=fun seen n1 sv r wr hp dA=>by
  obtain⟨Gr,nt,BD,Nn⟩:=hp.row;have mC: ∀y∈seen,y∈j.reqs.map (fun r=>(r.q.id,g.rp r.q.id)):=fun y hy=>dA.subset hy;have hlen:(seen.filter (rO s c)).length<=16777210:=by have h1:(seen.filter (rO s c)).length<=seen.length:=List.length_filter_le ..;have h2:=dA.length_eq;omega
  have S8:((seen.filter (rO s c)).map (·.1)).Perm (s.eY c):=by
   have e1:=(dA.filter (rO s c)).map (·.1);refine e1.trans ?_;have e2:((j.reqs.map fun r=>(r.q.id,g.rp r.q.id)).filter (rO s c)).map (·.1)=s.eY c:=by
    unfold St.eY;rw[<-r1.reqs,List.filter_map,List.filter_map,az,az];have:j.reqs.filter ((rO s c)∘fun r=>(r.q.id,g.rp r.q.id))=j.reqs.filter ((fun x:Rq=>x.conn==c)∘fun r=>r.q):=List.filter_congr fun r hr=>by
     have LW:r.q∈s.reqs:=by rw[<-r1.reqs];exact ax.2 ⟨r,hr,rfl⟩
     simp only[Function.comp_def];unfold rO;dsimp only;rw[St.qG hi LW]
    rw[this];rfl
   rw[e2]
  have gw:((seen.filter (rO s c)).map (·.1)).Nodup:=by refine(S8.nodup_iff).2 ?_;unfold St.eY;have mB:=hi.rid;rw[qZ]at mB;exact(List.filter_sublist.map _).nodup mB
  obtain⟨S,ZE,ZF⟩:=GH _ gw;have emap:(seen.filter (rO s c)).map (fun y=>pt y.2)=((seen.filter (rO s c)).map (·.1)).map fun i=>pt (g.rp i):=by rw[az];exact bu fun y hy=>by obtain⟨q,_,_,e3,_⟩:=Ct y (mC y (aG.1 hy).1);simp only[Function.comp_def];rw[e3]
  have Ww:(seen.filter (rO s c)).length=((seen.filter (rO s c)).map (·.1)).length:=by rw[aR]
  rw[emap,hp.len,Ww]at nt;refine(Bc sfR 124 sv _ S (fun i=>g.rp i) (fun i=>i) 123 wr Gr (enters_of func123 (by kernel_rfl) rfl) nt ZE ZF (by rw[aR];omega) (fun i vk=> ?_) (fun w3 Pu a ha b hb=> ?_)).mono ?_
  ·obtain⟨y,hy,rfl⟩:=ax.1 vk;obtain⟨q,_,_,e3,e4,_⟩:=Ct y (mC y (aG.1 hy).1);rw[e3]at e4;exact⟨fun hk=>by have:=Nn _ hk;omega,bE e4 hp.below.size⟩
  ·have Ty: ∀i∈(seen.filter (rO s c)).map (·.1),w3.cell? ⟨g.rp i,0,none⟩=some (.int .i64 i):=fun i vk=>by
    have Vm:=vk;obtain⟨y,hy,rfl⟩:=ax.1 vk;obtain⟨q,_,_,e3,e4,_,e6⟩:=Ct y (mC y (aG.1 hy).1);rw[e3]at e4 e6;have:=Pu y.1 Vm;rw[hp.below.block _ e4]at this;simp only[World.cell?,this]at e6⊢;exact e6
   exact Iq _ _ _ _ w3 (Ty a ha) (Ty b hb)
  ·rintro e w'⟨rfl,eP⟩;refine⟨rfl,S,ZE.symm.trans S8,ZF, ?_⟩;obtain⟨G4,h4,o4,n4⟩:=eP;have gL:Goes (rowA 124 1 sv S.length (S.map fun i=>pt (g.rp i))) w (fun _=>False) w':=⟨G4,h4,⟨o4.os.trans hp.below.os,o4.tape.trans hp.below.tape,o4.output.trans hp.below.output,au hp.below.size o4.size,fun k hk _=>by
    rw[o4.block k (bE hk hp.below.size) (fun lj=>by have:=Nn k lj;omega)];exact hp.below.block k hk⟩,fun k hk=>by
    rcases n4 k hk with e|e
    ·exact .inr (Nn k e)
    ·exact .inr (au hp.below.size e)⟩
   exact oF h0 (ar _ _) gL
 have H0:Hid (∀w',Walk iA v.rm w.heap.size (j.reqs.map fun r=>(r.q.id,g.rp r.q.id)) [] w'->Below w.heap.size w w'->w'.heap.size=w.heap.size+1->jl w v.rm w.heap.size (j.reqs.map fun r=>(r.q.id,g.rp r.q.id)) (rO s c) [] 0 (.slice none 0 0) w'):=fun w' hw hb cY=>⟨hw,by simp,⟨fun _=>False,gS _ _ _ (fun _ h=>h),fun h=>h,fun _ h=>h.elim⟩,hb,⟨af _,by omega⟩⟩;have VS:=hide DZ;unfold gJ at VS;generalize D9:(j.reqs.map fun r=>(r.q.id,g.rp r.q.id))=m at*;have Po: ∀seen n1 sv r wr,jl w v.rm r m (rO s c) seen n1 sv wr->n1<=m.length:=fun seen n1 sv r wr hp=>by have h1:(seen.filter (rO s c)).length<=seen.length:=List.length_filter_le ..;have h2:=gH (iB hp.walk.1) hp.walk.2.1;have:=hp.len;omega
 have OZ:=hide Po;clear h0 hh hv DZ wf r1 r2 r3 Ct Po D9;unfold pt;generalize v.rm=rm at*;go_enter func77,ntmps77;go_wp2_with (first
  |(at_range;go_must(refine rF _ rfl _ 82 rfl 124 underlying82 iA rm m rfl VS.out ?_;intro w0 wk yy Ul;have PX:=hide (H0.out w0 wk yy Ul);clear wk yy Ul)))
 go_frame
 clear VS H0;go_loopw [5] (fun lv wr=> ∃n1 gp jo seen,lv= .slice gp n1 jo∧n1<=m.length∧Hid (jl w rm w.heap.size m (rO s c) seen n1 (.slice gp n1 jo) wr)) (fun _ wr=>wr.rangeLeft rm w.heap.size)
 case atStart=>exact⟨0,none,0, [],rfl,bk _,PX⟩
 case round=>
  obtain⟨n1,gp,jo,seen,rfl,tH,HP⟩:=hrel;have sF:Hid (∀y (kv:Value) w1,y∈m->Walk iA rm w.heap.size m (seen++ [y]) w1->w1.rangeLeft rm w.heap.size<wr.rangeLeft rm w.heap.size->wr.grownBy w1 (some w.heap.size)->w1.heap.size=wr.heap.size-> ∃cy,w1.cell? ⟨y.2,1,none⟩=some (.int .i64 cy)∧w1.rangeLeft rm w.heap.size<wr.rangeLeft rm w.heap.size∧
    ((cy==c)=false->Hid (jl w rm w.heap.size m (rO s c) (seen++ [y]) n1 (.slice gp n1 jo) w1))∧
    ((cy==c)=true->Hid (∃Gr,(rowA 124 1 (.slice gp n1 jo) n1 ((seen.filter (rO s c)).map fun y=>pt y.2)).holds w1 Gr∧ ∀o dz mJ w2,Goes (rowA 124 1 (.slice dz (n1+1) mJ) (n1+1) (((seen.filter (rO s c)).map fun y=>pt y.2)++ [pt y.2])) (w1.alloc o) Gr w2->jl w rm w.heap.size m (rO s c) (seen++ [y]) (n1+1) (.slice dz (n1+1) mJ) w2∧w2.rangeLeft rm w.heap.size=w1.rangeLeft rm w.heap.size))):=fun y kv w1 Nq hwk aQ hgr cY=>by
   obtain⟨bP,Gr,nt,eO,eP⟩:=HP.out.next hgr cY;obtain⟨cy,c1,hp⟩:=yH.out y Nq w1 bP;exact⟨cy,c1,aQ,fun hf=>HP.out.no hwk hgr cY (by rw[hp];exact hf),fun ht=>⟨Gr,nt,fun o dz mJ w2 bz=>HP.out.yes hwk hgr cY (by rw[hp];exact ht) Ec eO eP o bz⟩⟩
  have PZ:=hide HP.out.walk;go_wp2_with (first
   |(at_next;go_must(refine ke _ rfl _ rfl iA rm w.heap.size m seen rfl PZ.out ?done ?more)))
  case done=>
   intro dA;have HS:=hide (yM.out seen n1 _ w.heap.size wr HP.out dA);clear yM HP sF PZ yH OZ dA PX;go_wp2_with (first
    |(go_at_call 122;go_must(refine HS.out.mono ?_;rintro e w3⟨rfl,HE⟩)))
   go_ret;obtain⟨L,h1,h2,h3⟩:=HE.out;exact⟨_,L,rfl,h1,h2,h3⟩
  case more=>
   intro ya yb kv w1 Nq XX hwk aQ hgr cY TE;obtain⟨cy,c1,Ua,xt,xw⟩:=sF.out (ya,yb) kv w1 Nq hwk aQ hgr cY;dsimp only at c1 xt xw;have pJ:=hide xt;have yN:=hide xw;have PU:=hide Ua;clear sF PZ yM HP yH Nq XX hwk aQ hgr cY xt xw Ua PX
   (try unfold pt at TE)
   cases Qk:(cy==c)
   ·have HI:=pJ.out Qk;clear pJ yN;go_wp2;go_roundw
    case rel=>exact⟨n1,gp,jo,seen++ [(ya,yb)],rfl,tH,HI⟩
    case measure=>exact PU.out
   ·obtain⟨Gr,nt,Fe⟩:=(yN.out Qk).out;have iL:=hide nt;have L8:=hide Fe;clear pJ yN nt Fe;go_wp2_with (first
     |(at_builtin;go_must(refine bh _ rfl _ _ 90 rfl 124 i0 (.pointer none) 1 8 underlying90 kg nV j0 kC rfl (by decide) (F:=Gr) _ n1 ((seen.filter (rO s c)).map fun y:Int×Nat=>pt y.2) rfl (Mr.aF iL.out ((ar _ _).alloc (af _) _)) ⟨w1.heap.size,0,none⟩ 1 1 [.pointer (some ⟨yb,0,none⟩)] rfl rfl (World.news_of_block (cs:= #[.pointer (some ⟨yb,0,none⟩)]) (t:=124) (fr:=(0,0)) (heap_alloc_new w1 _)) (by simp[Value.oneCell']) (by unfold maxLen;omega) (by omega) ?main)))
    case main=>
     intro dz mJ w2 bz;have HI:=L8.out _ dz mJ w2 bz;have V4:=hide HI.1;have HLE:=hide HI.2;clear bz HI L8 iL;have JI:=OZ.out _ _ _ _ _ V4.out;go_wp2;go_roundw
     case rel=>exact⟨n1+1,dz,mJ,seen++ [(ya,yb)],by first|rfl|go_num,JI,V4⟩
     case measure=>rw[HLE.out];exact PU.out
