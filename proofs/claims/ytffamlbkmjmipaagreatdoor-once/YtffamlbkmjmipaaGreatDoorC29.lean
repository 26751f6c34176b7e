import Derived.Test.YtffamlbkmjmipaaGreatDoorC26
set_option maxHeartbeats 8000000
set_option maxRecDepth 100000
namespace Go.Proofs.YtffamlbkmjmipaaGreatDoor
open _root_.Go.Proofs.Tryz
namespace Pj
open Go.RowKit aJ Mc bG
attribute [local go_sem] ae ag
theorem Li(l:List Int)(hn:l.Nodup): ∃S:List Int,l.Perm S∧S.Pairwise (· < ·):=by
 induction l with
 |nil=>exact⟨[],List.Perm.refl _,by simp⟩
 |cons a l ih=>
  rw[List.nodup_cons]at hn;obtain⟨S,h1,h2⟩:=ih hn.2;have hna:a∉S:=fun h=>hn.1 (h1.symm.subset h);clear ih;have: ∃S',(a::S).Perm S'∧S'.Pairwise (· < ·):=by
   clear h1
   induction S with
   |nil=>exact⟨[a],List.Perm.refl _,by simp⟩
   |cons b S ih=>
    rw[List.pairwise_cons]at h2;by_cases rG:a<b
    ·refine⟨a::b::S,List.Perm.refl _,List.pairwise_cons.2 ⟨fun y hy=> ?_,List.pairwise_cons.2 h2⟩⟩;rcases List.mem_cons.1 hy with e|e
     ·omega
     ·have:=h2.1 y e;omega
    ·have cA:a≠b:=fun e=>hna (e▸bY ..);obtain⟨S',h3,h4⟩:=ih h2.2 (fun h=>hna (aV _ h));refine⟨b::S',(List.Perm.swap b a S).trans (h3.cons b),List.pairwise_cons.2 ⟨fun y hy=> ?_,h4⟩⟩;rcases List.mem_cons.1 (h3.symm.subset hy)with e|e
     ·omega
     ·exact h2.1 y e
  obtain⟨S',h3,h4⟩:=this;exact⟨S',(h1.cons a).trans h3,h4⟩
theorem Walk.keep{P:Program}{k:TypeId}{κ:Type}{K:Kd P k κ}{b r:Nat}{m seen:List (κ×Nat)}{w w':World}(h:Walk K b r m seen w)(hb:w'.heap[b]?=w.heap[b]?)(hr:w'.heap[r]?=w.heap[r]?):Walk K b r m seen w'∧w'.rangeLeft b r=w.rangeLeft b r:=by refine⟨?_,by unfold World.rangeLeft;rw[hb,hr]⟩;obtain⟨h1,h2,D,left,cnt,h3,h4⟩:=h;refine⟨h1,h2,D,left,cnt, ?_,h4⟩;obtain⟨es,clock,since,sn,c0,e1,e2,e3,e4,e5,e6⟩:=h3;exact⟨es,clock,since,sn,c0,hb.trans e1,e2,e3,e4,hr.trans e5,e6⟩
structure kh(w:World)(rm r:Nat)(m:List (Int×Nat))(p:Int×Nat->Bool)(seen:List (Int×Nat))(n1:Nat)(sv:Value)(wr:World):Prop where
 walk:Walk iW rm r m seen wr
 len:n1=(seen.filter p).length
 row: ∃Gr,(rowA 124 1 sv n1 ((seen.filter p).map fun y=>pt y.2)).holds wr Gr∧ ¬Gr r∧ ∀k,Gr k->w.heap.size<=k
 below:Below w.heap.size w wr
 rlt:w.heap.size<=r∧r<wr.heap.size
section
variable{w wr w1 w2:World}{rm r n1:Nat}{m seen:List (Int×Nat)}{p:Int×Nat->Bool}{sv:Value}{y:Int×Nat}
theorem kh.next(h:kh w rm r m p seen n1 sv wr)(hg:wr.grownBy w1 (some r))(hs:w1.heap.size=wr.heap.size):Below w.heap.size w w1∧ ∃Gr,(rowA 124 1 sv n1 ((seen.filter p).map fun y=>pt y.2)).holds w1 Gr∧ ¬Gr r∧ ∀k,Gr k->w.heap.size<=k:=by
 obtain⟨Gr,h1,h2,h3⟩:=h.row;have hr:=h.rlt;refine⟨⟨hg.os.trans h.below.os,hg.tape.trans h.below.tape,hg.output.trans h.below.output,by rw[hs];exact h.below.size,fun k hk=> ?_⟩,Gr,aJ.keep _ h1 (fun k hk=> ?_),h2,h3⟩
 ·rw[hg.block k (bD hk h.below.size) (fun e=>by have:=Option.some.inj e;omega)];exact h.below.block k hk
 ·exact hg.block k (aJ.lt _ h1 k hk) (fun e=>h2 (by have:=Option.some.inj e;rw[<-this];exact hk))
theorem kh.no(h:kh w rm r m p seen n1 sv wr)(hw:Walk iW rm r m (seen++ [y]) w1)(hg:wr.grownBy w1 (some r))(hs:w1.heap.size=wr.heap.size)(hp:p y=false):kh w rm r m p (seen++ [y]) n1 sv w1:=by
 obtain⟨hb,Ku⟩:=h.next hg hs;have e:(seen++ [y]).filter p=seen.filter p:=by simp[hp]
 exact⟨hw,by rw[e];exact h.len,by rw[e];exact Ku,hb,⟨h.rlt.1,by rw[hs];exact h.rlt.2⟩⟩
theorem kh.yes{Gr:Ft}{dK:Option Addr}{pS:Nat}(h:kh w rm r m p seen n1 sv wr)(hw:Walk iW rm r m (seen++ [y]) w1)(hg:wr.grownBy w1 (some r))(hs:w1.heap.size=wr.heap.size)(hp:p y=true)(IY:rm<w.heap.size)(B0: ¬Gr r)(SQ: ∀k,Gr k->w.heap.size<=k)(o:Obj)(bE:Goes (rowA 124 1 (.slice dK (n1+1) pS) (n1+1) (((seen.filter p).map fun y=>pt y.2)++ [pt y.2])) (w1.alloc o) Gr w2):kh w rm r m p (seen++ [y]) (n1+1) (.slice dK (n1+1) pS) w2∧w2.rangeLeft rm r=w1.rangeLeft rm r:=by
 obtain⟨hb,_⟩:=h.next hg hs;have Ut:=hb.size;have nJ:=h.rlt;have e:(seen++ [y]).filter p=seen.filter p++ [y]:=by simp[hp]
 obtain⟨G2,h2,o2,n2⟩:=bE;have hz:(w1.alloc o).heap.size=w1.heap.size+1:=by simp
 have hblk: ∀k,k<w1.heap.size-> ¬Gr k->w2.heap[k]?=w1.heap[k]?:=fun k hk hn=>by rw[o2.block k (by omega) hn];exact Below.heap_alloc _ _ _ hk
 have aaY: ¬Gr rm:=fun hk=>by have:=SQ rm hk;omega
 obtain⟨ZO,hle⟩:=hw.keep (hblk rm (by omega) aaY) (hblk r (by omega) B0);refine⟨⟨ZO,by rw[e,aH,<-h.len];rfl,⟨G2,by rw[e,aD];exact h2,fun hk=> ?_,fun k hk=> ?_⟩,⟨?_, ?_, ?_, ?_,fun k hk=> ?_⟩,⟨nJ.1, ?_⟩⟩,hle⟩
 ·rcases n2 r hk with h|h
  ·exact B0 h
  ·omega
 ·rcases n2 k hk with h|h
  ·exact SQ k h
  ·omega
 ·exact o2.os.trans hb.os
 ·exact o2.tape.trans hb.tape
 ·exact o2.output.trans hb.output
 ·have:=o2.size;omega
 ·rw[hblk k (by omega) (fun h=>by have:=SQ k h;omega)];exact hb.block k hk
 ·have:=o2.size;omega
end
def u5(s:St)(c:Int)(y:Int×Nat):Bool:=match s.req y.1 with|some q=>q.conn==c|none=>false
theorem QC{base x tb:Nat}{g:Gh}{cn:List (Int×Nat×Bs)}{s:St}{w:World}{F:Ft}(h:(stA base x tb g cn s).holds w F)(hi:Inv s)(hz:s.sz<=16777000)(c:Int):Calls prog 77 #[pt x, .int .i64 c] w fun e w'=> ∃(v':Value) (L:List Int),e= .returned v'∧L.Perm (s.fK c)∧L.Pairwise (· < ·)∧Goes (aa (stA base x tb g cn s) (rowA 124 1 v' L.length (L.map fun i=>pt (g.rp i)))) w F w':=by
 obtain⟨i0,jo,mz,ja,jK⟩:=fQ Bk;have h0:=h;obtain⟨j,r1,r2,r3,hF,hh⟩:=h;have wf:=dJ r1 hi hz;obtain⟨G0,hj,_⟩:=aJ.left hh;obtain⟨v,hv⟩:=hj;have uA:x<w.heap.size:=(wJ hv).2.2;have c7:w.cell? ⟨x,7,none⟩=some (.map (some v.rm)):=(wJ hv).1 7;have jq: ∃Gm,(ib g v.rm j.reqs).holds w Gm:=by obtain⟨Gm,II,_⟩:=aJ.left (aA hv (show _=aa (ib g v.rm j.reqs) (aa (dB x j v) (aa (iU v.cm j.bu) (aa (gK g v.tm j.aQ) (aa (all gM j.bu) (aa (all (fc g j.c.re) j.reqs) (aa (all (fD g) j.aQ) (aa (dL g v.rv j.ring) (aa (gN v.pv j.pull) (aa (dh g v.lv j.hp) (hpA g j.hp))))))))))by unfold aW;ac_rfl));exact⟨Gm,II⟩
 obtain⟨Gm,II⟩:=jq;have IY:v.rm<w.heap.size:=aJ.lt _ II v.rm ((II.1 v.rm).2 rfl);have IV:(j.reqs.map fun r=>(r.q.id,g.rp r.q.id)).length<=16777210:=by rw[aF];exact wf.b6
 have uw:s.ks.map (·.1)=s.reqs.map (·.id):=by unfold St.ks;rw[aB];rfl
 have GF: ∀y∈j.reqs.map (fun r=>(r.q.id,g.rp r.q.id)),∃q,s.req y.1=some q∧q.id=y.1∧y.2=g.rp y.1∧y.2<w.heap.size∧w.cell? ⟨y.2,1,none⟩=some (.int .i64 q.conn)∧w.cell? ⟨y.2,0,none⟩=some (.int .i64 y.1):=fun y hy=>by
  obtain⟨r,hr,rfl⟩:=az.1 hy;have Rp:r.q∈s.reqs:=by rw[<-r1.reqs];exact az.2 ⟨r,hr,rfl⟩
  have hq:s.req r.q.id=some r.q:=St.tQ hi Rp;obtain⟨ao,cap,dK,cQ,RA⟩:=fL h0 hi hz hq;exact⟨r.q,hq,rfl,rfl,RA.lt.1,RA.conn,RA.ci⟩
 have B6:Hid (∀y∈j.reqs.map (fun r=>(r.q.id,g.rp r.q.id)),∀w1,Below w.heap.size w w1-> ∃cy,w1.cell? ⟨y.2,1,none⟩=some (.int .i64 cy)∧u5 s c y=(cy==c)):=fun y hy w1 hb=>by obtain⟨q,e1,e2,e3,e4,e5,e6⟩:=GF y hy;exact⟨q.conn,by rw[bN hb e4];exact e5,by unfold u5;rw[e1]⟩
 have Ca:Hid (∀seen n1 sv r wr,kh w v.rm r (j.reqs.map fun r=>(r.q.id,g.rp r.q.id)) (u5 s c) seen n1 sv wr->seen.Perm (j.reqs.map fun r=>(r.q.id,g.rp r.q.id))->Calls prog 122 #[sv, .func (.func 123) #[] #[]] wr fun e w'=>e= .returned (.tuple #[])∧Hid (∃L:List Int,L.Perm (s.fK c)∧L.Pairwise (· < ·)∧Goes (aa (stA base x tb g cn s) (rowA 124 1 sv L.length (L.map fun i=>pt (g.rp i)))) w F w')):=fun seen n1 sv r wr hp dy=>by
  obtain⟨Gr,pX,B0,SQ⟩:=hp.row;have oq: ∀y∈seen,y∈j.reqs.map (fun r=>(r.q.id,g.rp r.q.id)):=fun y hy=>dy.subset hy;have hlen:(seen.filter (u5 s c)).length<=16777210:=by have h1:(seen.filter (u5 s c)).length<=seen.length:=List.length_filter_le ..;have h2:=dy.length_eq;omega
  have YR:((seen.filter (u5 s c)).map (·.1)).Perm (s.fK c):=by
   have e1:=(dy.filter (u5 s c)).map (·.1);refine e1.trans ?_;have e2:((j.reqs.map fun r=>(r.q.id,g.rp r.q.id)).filter (u5 s c)).map (·.1)=s.fK c:=by
    unfold St.fK;rw[<-r1.reqs,List.filter_map,List.filter_map,aB,aB];have:j.reqs.filter ((u5 s c)∘fun r=>(r.q.id,g.rp r.q.id))=j.reqs.filter ((fun x:Rq=>x.conn==c)∘fun r=>r.q):=List.filter_congr fun r hr=>by
     have Rp:r.q∈s.reqs:=by rw[<-r1.reqs];exact az.2 ⟨r,hr,rfl⟩
     simp only[Function.comp_def];unfold u5;dsimp only;rw[St.tQ hi Rp]
    rw[this];rfl
   rw[e2]
  have iL:((seen.filter (u5 s c)).map (·.1)).Nodup:=by refine(YR.nodup_iff).2 ?_;unfold St.fK;have om:=hi.rid;rw[uw]at om;exact(List.filter_sublist.map _).nodup om
  obtain⟨S,hS1,hS2⟩:=Li _ iL;have emap:(seen.filter (u5 s c)).map (fun y=>pt y.2)=((seen.filter (u5 s c)).map (·.1)).map fun i=>pt (g.rp i):=by rw[aB];exact bz fun y hy=>by obtain⟨q,_,_,e3,_⟩:=GF y (oq y (aL.1 hy).1);simp only[Function.comp_def];rw[e3]
  have aar:(seen.filter (u5 s c)).length=((seen.filter (u5 s c)).map (·.1)).length:=by rw[aF]
  rw[emap,hp.len,aar]at pX;refine(Ed sfR 124 sv _ S (fun i=>g.rp i) (fun i=>i) 123 wr Gr (enters_of func123 (by kernel_rfl) rfl) pX hS1 hS2 (by rw[aF];omega) (fun i zu=> ?_) (fun w3 XB a ha b hb=> ?_)).mono ?_
  ·obtain⟨y,hy,rfl⟩:=az.1 zu;obtain⟨q,_,_,e3,e4,_⟩:=GF y (oq y (aL.1 hy).1);rw[e3]at e4;exact⟨fun hk=>by have:=SQ _ hk;omega,bD e4 hp.below.size⟩
  ·have Zc: ∀i∈(seen.filter (u5 s c)).map (·.1),w3.cell? ⟨g.rp i,0,none⟩=some (.int .i64 i):=fun i zu=>by
    have Xt:=zu;obtain⟨y,hy,rfl⟩:=az.1 zu;obtain⟨q,_,_,e3,e4,_,e6⟩:=GF y (oq y (aL.1 hy).1);rw[e3]at e4 e6;have:=XB y.1 Xt;rw[hp.below.block _ e4]at this;simp only[World.cell?,this]at e6⊢;exact e6
   exact MK _ _ _ _ w3 (Zc a ha) (Zc b hb)
  ·rintro e w'⟨rfl,iD⟩;refine⟨rfl,S,hS1.symm.trans YR,hS2, ?_⟩;obtain⟨G4,h4,o4,n4⟩:=iD;have uu:Goes (rowA 124 1 sv S.length (S.map fun i=>pt (g.rp i))) w (fun _=>False) w':=⟨G4,h4,⟨o4.os.trans hp.below.os,o4.tape.trans hp.below.tape,o4.output.trans hp.below.output,ar hp.below.size o4.size,fun k hk _=>by
    rw[o4.block k (bD hk hp.below.size) (fun mQ=>by have:=SQ k mQ;omega)];exact hp.below.block k hk⟩,fun k hk=>by
    rcases n4 k hk with e|e
    ·exact .inr (SQ k e)
    ·exact .inr (ar hp.below.size e)⟩
   exact rF h0 (au _ _) uu
 have L9:Hid (∀w',Walk iW v.rm w.heap.size (j.reqs.map fun r=>(r.q.id,g.rp r.q.id)) [] w'->Below w.heap.size w w'->w'.heap.size=w.heap.size+1->kh w v.rm w.heap.size (j.reqs.map fun r=>(r.q.id,g.rp r.q.id)) (u5 s c) [] 0 (.slice none 0 0) w'):=fun w' hw hb dc=>⟨hw,by simp,⟨fun _=>False,fO _ _ _ (fun _ h=>h),fun h=>h,fun _ h=>h.elim⟩,hb,⟨af _,by omega⟩⟩;have HGM:=hide II;unfold ib at HGM;generalize EC:(j.reqs.map fun r=>(r.q.id,g.rp r.q.id))=m at*;have UI: ∀seen n1 sv r wr,kh w v.rm r m (u5 s c) seen n1 sv wr->n1<=m.length:=fun seen n1 sv r wr hp=>by have h1:(seen.filter (u5 s c)).length<=seen.length:=List.length_filter_le ..;have h2:=gY (iX hp.walk.1) hp.walk.2.1;have:=hp.len;omega
 have Ui:=hide UI;clear h0 hh hv II wf r1 r2 r3 GF UI EC;unfold pt;generalize v.rm=rm at*;go_enter func77,ntmps77;go_wp2_with (first
  |(at_range;go_must(refine uT _ rfl _ 82 rfl 124 underlying82 iW rm m rfl HGM.out ?_;intro w0 ZN vv ZH;have Vc:=hide (L9.out w0 ZN vv ZH);clear ZN vv ZH)))
 go_frame
 clear HGM L9;go_loopw [5] (fun lv wr=> ∃n1 iQ mn seen,lv= .slice iQ n1 mn∧n1<=m.length∧Hid (kh w rm w.heap.size m (u5 s c) seen n1 (.slice iQ n1 mn) wr)) (fun _ wr=>wr.rangeLeft rm w.heap.size)
 case atStart=>exact⟨0,none,0, [],rfl,bh _,Vc⟩
 case round=>
  obtain⟨n1,iQ,mn,seen,rfl,BX,HP⟩:=hrel;have vH:Hid (∀y (kv:Value) w1,y∈m->Walk iW rm w.heap.size m (seen++ [y]) w1->w1.rangeLeft rm w.heap.size<wr.rangeLeft rm w.heap.size->wr.grownBy w1 (some w.heap.size)->w1.heap.size=wr.heap.size-> ∃cy,w1.cell? ⟨y.2,1,none⟩=some (.int .i64 cy)∧w1.rangeLeft rm w.heap.size<wr.rangeLeft rm w.heap.size∧
    ((cy==c)=false->Hid (kh w rm w.heap.size m (u5 s c) (seen++ [y]) n1 (.slice iQ n1 mn) w1))∧
    ((cy==c)=true->Hid (∃Gr,(rowA 124 1 (.slice iQ n1 mn) n1 ((seen.filter (u5 s c)).map fun y=>pt y.2)).holds w1 Gr∧ ∀o dK pS w2,Goes (rowA 124 1 (.slice dK (n1+1) pS) (n1+1) (((seen.filter (u5 s c)).map fun y=>pt y.2)++ [pt y.2])) (w1.alloc o) Gr w2->kh w rm w.heap.size m (u5 s c) (seen++ [y]) (n1+1) (.slice dK (n1+1) pS) w2∧w2.rangeLeft rm w.heap.size=w1.rangeLeft rm w.heap.size))):=fun y kv w1 SS hwk aN hgr dc=>by
   obtain⟨bT,Gr,pX,fw,iD⟩:=HP.out.next hgr dc;obtain⟨cy,c1,hp⟩:=B6.out y SS w1 bT;exact⟨cy,c1,aN,fun hf=>HP.out.no hwk hgr dc (by rw[hp];exact hf),fun ht=>⟨Gr,pX,fun o dK pS w2 bE=>HP.out.yes hwk hgr dc (by rw[hp];exact ht) IY fw iD o bE⟩⟩
  have Ve:=hide HP.out.walk;go_wp2_with (first
   |(at_next;go_must(refine lB _ rfl _ rfl iW rm w.heap.size m seen rfl Ve.out ?done ?more)))
  case done=>
   intro dy;have HS:=hide (Ca.out seen n1 _ w.heap.size wr HP.out dy);clear Ca HP vH Ve B6 Ui dy Vc;go_wp2_with (first
    |(go_at_call 122;go_must(refine HS.out.mono ?_;rintro e w3⟨rfl,HE⟩)))
   go_ret;obtain⟨L,h1,h2,h3⟩:=HE.out;exact⟨_,L,rfl,h1,h2,h3⟩
  case more=>
   intro ya yb kv w1 SS hyn hwk aN hgr dc SJ;obtain⟨cy,c1,Zy,Ba,Be⟩:=vH.out (ya,yb) kv w1 SS hwk aN hgr dc;dsimp only at c1 Ba Be;have sV:=hide Ba;have Cb:=hide Be;have AB:=hide Zy;clear vH Ve Ca HP B6 SS hyn hwk aN hgr dc Ba Be Zy Vc
   (try unfold pt at SJ)
   cases VM:(cy==c)
   ·have HI:=sV.out VM;clear sV Cb;go_wp2;go_roundw
    case rel=>exact⟨n1,iQ,mn,seen++ [(ya,yb)],rfl,BX,HI⟩
    case measure=>exact AB.out
   ·obtain⟨Gr,pX,J6⟩:=(Cb.out VM).out;have jf:=hide pX;have Ry:=hide J6;clear sV Cb pX J6;go_wp2_with (first
     |(at_builtin;go_must(refine aT _ rfl _ _ 90 rfl 124 i0 (.pointer none) 1 8 underlying90 jo mz ja jK rfl (by decide) (F:=Gr) _ n1 ((seen.filter (u5 s c)).map fun y:Int×Nat=>pt y.2) rfl (Mr.aI jf.out ((au _ _).alloc (af _) _)) ⟨w1.heap.size,0,none⟩ 1 1 [.pointer (some ⟨yb,0,none⟩)] rfl rfl (World.news_of_block (cs:= #[.pointer (some ⟨yb,0,none⟩)]) (t:=124) (fr:=(0,0)) (heap_alloc_new w1 _)) (by simp[Value.oneCell']) (by unfold maxLen;omega) (by omega) ?main)))
    case main=>
     intro dK pS w2 bE;have HI:=Ry.out _ dK pS w2 bE;have HPK:=hide HI.1;have HLE:=hide HI.2;clear bE HI Ry jf;have Rm:=Ui.out _ _ _ _ _ HPK.out;go_wp2;go_roundw
     case rel=>exact⟨n1+1,dK,pS,seen++ [(ya,yb)],by first|rfl|go_num,Rm,HPK⟩
     case measure=>rw[HLE.out];exact AB.out
