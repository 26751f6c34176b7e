import Derived.Test.YtffamlbkmjmipaaGreatDoorC26
set_option maxHeartbeats 8000000
set_option maxRecDepth 100000
namespace Go.Proofs.YtffamlbkmjmipaaGreatDoor
open _root_.Go.Proofs.Tryz
namespace Pj
open Go.RowKit aM Mc bJ
attribute [local go_sem] ag ar
theorem Ni(l:List Int)(hn:l.Nodup): ∃S:List Int,l.Perm S∧S.Pairwise (· < ·):=by
 induction l with
 |nil=>exact⟨[],List.Perm.refl _,by simp⟩
 |cons a l ih=>
  rw[List.nodup_cons]at hn;obtain⟨S,h1,h2⟩:=ih hn.2;have CY:a∉S:=fun h=>hn.1 (h1.symm.subset h);clear ih;have: ∃S',(a::S).Perm S'∧S'.Pairwise (· < ·):=by
   clear h1
   induction S with
   |nil=>exact⟨[a],List.Perm.refl _,by simp⟩
   |cons b S ih=>
    rw[List.pairwise_cons]at h2;by_cases oa:a<b
    ·refine⟨a::b::S,List.Perm.refl _,List.pairwise_cons.2 ⟨fun y hy=> ?_,List.pairwise_cons.2 h2⟩⟩;rcases List.mem_cons.1 hy with e|e
     ·omega
     ·have:=h2.1 y e;omega
    ·have cC:a≠b:=fun e=>CY (e▸dy ..);obtain⟨S',h3,h4⟩:=ih h2.2 (fun h=>CY (bt _ h));refine⟨b::S',(List.Perm.swap b a S).trans (h3.cons b),List.pairwise_cons.2 ⟨fun y hy=> ?_,h4⟩⟩;rcases List.mem_cons.1 (h3.symm.subset hy)with e|e
     ·omega
     ·exact h2.1 y e
  obtain⟨S',h3,h4⟩:=this;exact⟨S',(h1.cons a).trans h3,h4⟩
theorem Walk.keep{P:Program}{k:TypeId}{κ:Type}{K:Kd P k κ}{b r:Nat}{m seen:List (κ×Nat)}{w w':World}(h:Walk K b r m seen w)(hb:w'.heap[b]?=w.heap[b]?)(hr:w'.heap[r]?=w.heap[r]?):Walk K b r m seen w'∧w'.rangeLeft b r=w.rangeLeft b r:=by refine⟨?_,by unfold World.rangeLeft;rw[hb,hr]⟩;obtain⟨h1,h2,D,left,cnt,h3,h4⟩:=h;refine⟨h1,h2,D,left,cnt, ?_,h4⟩;obtain⟨es,clock,since,sn,c0,e1,e2,e3,e4,e5,e6⟩:=h3;exact⟨es,clock,since,sn,c0,hb.trans e1,e2,e3,e4,hr.trans e5,e6⟩
structure mv(w:World)(rm r:Nat)(m:List (Int×Nat))(p:Int×Nat->Bool)(seen:List (Int×Nat))(n1:Nat)(sv:Value)(wr:World):Prop where
 walk:Walk kS rm r m seen wr
 len:n1=(seen.filter p).length
 row: ∃Gr,(rowA 124 1 sv n1 ((seen.filter p).map fun y=>pt y.2)).holds wr Gr∧ ¬Gr r∧ ∀k,Gr k->w.heap.size<=k
 below:Below w.heap.size w wr
 rlt:w.heap.size<=r∧r<wr.heap.size
section
variable{w wr w1 w2:World}{rm r n1:Nat}{m seen:List (Int×Nat)}{p:Int×Nat->Bool}{sv:Value}{y:Int×Nat}
theorem mv.next(h:mv w rm r m p seen n1 sv wr)(hg:wr.grownBy w1 (some r))(hs:w1.heap.size=wr.heap.size):Below w.heap.size w w1∧ ∃Gr,(rowA 124 1 sv n1 ((seen.filter p).map fun y=>pt y.2)).holds w1 Gr∧ ¬Gr r∧ ∀k,Gr k->w.heap.size<=k:=by
 obtain⟨Gr,h1,h2,h3⟩:=h.row;have hr:=h.rlt;refine⟨⟨hg.os.trans h.below.os,hg.tape.trans h.below.tape,hg.output.trans h.below.output,by rw[hs];exact h.below.size,fun k hk=> ?_⟩,Gr,aM.keep _ h1 (fun k hk=> ?_),h2,h3⟩
 ·rw[hg.block k (bP hk h.below.size) (fun e=>by have:=Option.some.inj e;omega)];exact h.below.block k hk
 ·exact hg.block k (aM.lt _ h1 k hk) (fun e=>h2 (by have:=Option.some.inj e;rw[<-this];exact hk))
theorem mv.no(h:mv w rm r m p seen n1 sv wr)(hw:Walk kS rm r m (seen++ [y]) w1)(hg:wr.grownBy w1 (some r))(hs:w1.heap.size=wr.heap.size)(hp:p y=false):mv w rm r m p (seen++ [y]) n1 sv w1:=by
 obtain⟨hb,pH⟩:=h.next hg hs;have e:(seen++ [y]).filter p=seen.filter p:=by simp[hp]
 exact⟨hw,by rw[e];exact h.len,by rw[e];exact pH,hb,⟨h.rlt.1,by rw[hs];exact h.rlt.2⟩⟩
theorem mv.yes{Gr:Ft}{cU:Option Addr}{gz:Nat}(h:mv w rm r m p seen n1 sv wr)(hw:Walk kS rm r m (seen++ [y]) w1)(hg:wr.grownBy w1 (some r))(hs:w1.heap.size=wr.heap.size)(hp:p y=true)(KI:rm<w.heap.size)(xB: ¬Gr r)(Iy: ∀k,Gr k->w.heap.size<=k)(o:Obj)(bK:Goes (rowA 124 1 (.slice cU (n1+1) gz) (n1+1) (((seen.filter p).map fun y=>pt y.2)++ [pt y.2])) (w1.alloc o) Gr w2):mv w rm r m p (seen++ [y]) (n1+1) (.slice cU (n1+1) gz) w2∧w2.rangeLeft rm r=w1.rangeLeft rm r:=by
 obtain⟨hb,_⟩:=h.next hg hs;have hbs:=hb.size;have og:=h.rlt;have e:(seen++ [y]).filter p=seen.filter p++ [y]:=by simp[hp]
 obtain⟨G2,h2,o2,n2⟩:=bK;have hz:(w1.alloc o).heap.size=w1.heap.size+1:=by simp
 have cP: ∀k,k<w1.heap.size-> ¬Gr k->w2.heap[k]?=w1.heap[k]?:=fun k hk hn=>by rw[o2.block k (by omega) hn];exact Below.heap_alloc _ _ _ hk
 have acQ: ¬Gr rm:=fun hk=>by have:=Iy rm hk;omega
 obtain⟨hw2,hle⟩:=hw.keep (cP rm (by omega) acQ) (cP r (by omega) xB);refine⟨⟨hw2,by rw[e,aN,<-h.len];rfl,⟨G2,by rw[e,aH];exact h2,fun hk=> ?_,fun k hk=> ?_⟩,⟨?_, ?_, ?_, ?_,fun k hk=> ?_⟩,⟨og.1, ?_⟩⟩,hle⟩
 ·rcases n2 r hk with h|h
  ·exact xB h
  ·omega
 ·rcases n2 k hk with h|h
  ·exact Iy k h
  ·omega
 ·exact o2.os.trans hb.os
 ·exact o2.tape.trans hb.tape
 ·exact o2.output.trans hb.output
 ·have:=o2.size;omega
 ·rw[cP k (by omega) (fun h=>by have:=Iy k h;omega)];exact hb.block k hk
 ·have:=o2.size;omega
end
def xb(s:St)(c:Int)(y:Int×Nat):Bool:=match s.req y.1 with|some q=>q.conn==c|none=>false
theorem Q8{base x tb:Nat}{g:Gh}{cn:List (Int×Nat×Bs)}{s:St}{w:World}{F:Ft}(h:(stA base x tb g cn s).holds w F)(hi:Inv s)(hz:s.sz<=16777000)(c:Int):Calls prog 77 #[pt x, .int .i64 c] w fun e w'=> ∃(v':Value) (L:List Int),e= .returned v'∧L.Perm (s.gJ c)∧L.Pairwise (· < ·)∧Goes (aa (stA base x tb g cn s) (rowA 124 1 v' L.length (L.map fun i=>pt (g.rp i)))) w F w':=by
 obtain⟨i0,kR,gI,dN,fS⟩:=ia B8;have h0:=h;obtain⟨j,r1,r2,r3,hF,hh⟩:=h;have wf:=fI r1 hi hz;obtain⟨G0,hj,_⟩:=aM.left hh;obtain⟨v,hv⟩:=hj;have vd:x<w.heap.size:=(yN hv).2.2;have c7:w.cell? ⟨x,7,none⟩=some (.map (some v.rm)):=(yN hv).1 7;have jI: ∃Gm,(jS g v.rm j.reqs).holds w Gm:=by obtain⟨Gm,Ks,_⟩:=aM.left (aB hv (show _=aa (jS g v.rm j.reqs) (aa (dB x j v) (aa (kN v.cm j.bT) (aa (jk g v.tm j.aW) (aa (all jo j.bT) (aa (all (dO g j.c.re) j.reqs) (aa (all (gA g) j.aW) (aa (fK g v.rv j.ring) (aa (jw v.pv j.pull) (aa (eY g v.lv j.hp) (hpA g j.hp))))))))))by unfold bk;ac_rfl));exact⟨Gm,Ks⟩
 obtain⟨Gm,Ks⟩:=jI;have KI:v.rm<w.heap.size:=aM.lt _ Ks v.rm ((Ks.1 v.rm).2 rfl);have XU:(j.reqs.map fun r=>(r.q.id,g.rp r.q.id)).length<=16777210:=by rw[bf];exact wf.b6
 have kJ:s.ks.map (·.1)=s.reqs.map (·.id):=by unfold St.ks;rw[aG];rfl
 have u7: ∀y∈j.reqs.map (fun r=>(r.q.id,g.rp r.q.id)),∃q,s.req y.1=some q∧q.id=y.1∧y.2=g.rp y.1∧y.2<w.heap.size∧w.cell? ⟨y.2,1,none⟩=some (.int .i64 q.conn)∧w.cell? ⟨y.2,0,none⟩=some (.int .i64 y.1):=fun y hy=>by
  obtain⟨r,hr,rfl⟩:=aA.1 hy;have Mn:r.q∈s.reqs:=by rw[<-r1.reqs];exact aA.2 ⟨r,hr,rfl⟩
  have hq:s.req r.q.id=some r.q:=St.vD hi Mn;obtain⟨ao,cap,cU,b9,RA⟩:=gK h0 hi hz hq;exact⟨r.q,hq,rfl,rfl,RA.lt.1,RA.conn,RA.ci⟩
 have C2:Hid (∀y∈j.reqs.map (fun r=>(r.q.id,g.rp r.q.id)),∀w1,Below w.heap.size w w1-> ∃cy,w1.cell? ⟨y.2,1,none⟩=some (.int .i64 cy)∧xb s c y=(cy==c)):=fun y hy w1 hb=>by obtain⟨q,e1,e2,e3,e4,e5,e6⟩:=u7 y hy;exact⟨q.conn,by rw[cL hb e4];exact e5,by unfold xb;rw[e1]⟩
 have Da:Hid (∀seen n1 sv r wr,mv w v.rm r (j.reqs.map fun r=>(r.q.id,g.rp r.q.id)) (xb s c) seen n1 sv wr->seen.Perm (j.reqs.map fun r=>(r.q.id,g.rp r.q.id))->Calls prog 122 #[sv, .func (.func 123) #[] #[]] wr fun e w'=>e= .returned (.tuple #[])∧Hid (∃L:List Int,L.Perm (s.gJ c)∧L.Pairwise (· < ·)∧Goes (aa (stA base x tb g cn s) (rowA 124 1 sv L.length (L.map fun i=>pt (g.rp i)))) w F w')):=fun seen n1 sv r wr hp fw=>by
  obtain⟨Gr,kG,xB,Iy⟩:=hp.row;have kx: ∀y∈seen,y∈j.reqs.map (fun r=>(r.q.id,g.rp r.q.id)):=fun y hy=>fw.subset hy;have hlen:(seen.filter (xb s c)).length<=16777210:=by have h1:(seen.filter (xb s c)).length<=seen.length:=List.length_filter_le ..;have h2:=fw.length_eq;omega
  have aal:((seen.filter (xb s c)).map (·.1)).Perm (s.gJ c):=by
   have e1:=(fw.filter (xb s c)).map (·.1);refine e1.trans ?_;have e2:((j.reqs.map fun r=>(r.q.id,g.rp r.q.id)).filter (xb s c)).map (·.1)=s.gJ c:=by
    unfold St.gJ;rw[<-r1.reqs,List.filter_map,List.filter_map,aG,aG];have:j.reqs.filter ((xb s c)∘fun r=>(r.q.id,g.rp r.q.id))=j.reqs.filter ((fun x:Rq=>x.conn==c)∘fun r=>r.q):=List.filter_congr fun r hr=>by
     have Mn:r.q∈s.reqs:=by rw[<-r1.reqs];exact aA.2 ⟨r,hr,rfl⟩
     simp only[Function.comp_def];unfold xb;dsimp only;rw[St.vD hi Mn]
    rw[this];rfl
   rw[e2]
  have jJ:((seen.filter (xb s c)).map (·.1)).Nodup:=by refine(aal.nodup_iff).2 ?_;unfold St.gJ;have oK:=hi.rid;rw[kJ]at oK;exact(List.filter_sublist.map _).nodup oK
  obtain⟨S,hS1,hS2⟩:=Ni _ jJ;have emap:(seen.filter (xb s c)).map (fun y=>pt y.2)=((seen.filter (xb s c)).map (·.1)).map fun i=>pt (g.rp i):=by rw[aG];exact bY fun y hy=>by obtain⟨q,_,_,e3,_⟩:=u7 y (kx y (aR.1 hy).1);simp only[Function.comp_def];rw[e3]
  have ab0:(seen.filter (xb s c)).length=((seen.filter (xb s c)).map (·.1)).length:=by rw[bf]
  rw[emap,hp.len,ab0]at kG;refine(FU sfR 124 sv _ S (fun i=>g.rp i) (fun i=>i) 123 wr Gr (enters_of func123 (by kernel_rfl) rfl) kG hS1 hS2 (by rw[bf];omega) (fun i Ab=> ?_) (fun w3 rU a ha b hb=> ?_)).mono ?_
  ·obtain⟨y,hy,rfl⟩:=aA.1 Ab;obtain⟨q,_,_,e3,e4,_⟩:=u7 y (kx y (aR.1 hy).1);rw[e3]at e4;exact⟨fun hk=>by have:=Iy _ hk;omega,bP e4 hp.below.size⟩
  ·have Xw: ∀i∈(seen.filter (xb s c)).map (·.1),w3.cell? ⟨g.rp i,0,none⟩=some (.int .i64 i):=fun i Ab=>by
    have XK:=Ab;obtain⟨y,hy,rfl⟩:=aA.1 Ab;obtain⟨q,_,_,e3,e4,_,e6⟩:=u7 y (kx y (aR.1 hy).1);rw[e3]at e4 e6;have:=rU y.1 XK;rw[hp.below.block _ e4]at this;simp only[World.cell?,this]at e6⊢;exact e6
   exact OH _ _ _ _ w3 (Xw a ha) (Xw b hb)
  ·rintro e w'⟨rfl,mW⟩;refine⟨rfl,S,hS1.symm.trans aal,hS2, ?_⟩;obtain⟨G4,h4,o4,n4⟩:=mW;have kI:Goes (rowA 124 1 sv S.length (S.map fun i=>pt (g.rp i))) w (fun _=>False) w':=⟨G4,h4,⟨o4.os.trans hp.below.os,o4.tape.trans hp.below.tape,o4.output.trans hp.below.output,aw hp.below.size o4.size,fun k hk _=>by
    rw[o4.block k (bP hk hp.below.size) (fun jU=>by have:=Iy k jU;omega)];exact hp.below.block k hk⟩,fun k hk=>by
    rcases n4 k hk with e|e
    ·exact .inr (Iy k e)
    ·exact .inr (aw hp.below.size e)⟩
   exact tQ h0 (ah _ _) kI
 have Oh:Hid (∀w',Walk kS v.rm w.heap.size (j.reqs.map fun r=>(r.q.id,g.rp r.q.id)) [] w'->Below w.heap.size w w'->w'.heap.size=w.heap.size+1->mv w v.rm w.heap.size (j.reqs.map fun r=>(r.q.id,g.rp r.q.id)) (xb s c) [] 0 (.slice none 0 0) w'):=fun w' hw hb cg=>⟨hw,by simp,⟨fun _=>False,dS _ _ _ (fun _ h=>h),fun h=>h,fun _ h=>h.elim⟩,hb,⟨ae _,by omega⟩⟩;have HGM:=hide Ks;unfold jS at HGM;generalize GR:(j.reqs.map fun r=>(r.q.id,g.rp r.q.id))=m at*;have Wa: ∀seen n1 sv r wr,mv w v.rm r m (xb s c) seen n1 sv wr->n1<=m.length:=fun seen n1 sv r wr hp=>by have h1:(seen.filter (xb s c)).length<=seen.length:=List.length_filter_le ..;have h2:=jN (kT hp.walk.1) hp.walk.2.1;have:=hp.len;omega
 have VH:=hide Wa;clear h0 hh hv Ks wf r1 r2 r3 u7 Wa GR;unfold pt;generalize v.rm=rm at*;go_enter func77,ntmps77;go_wp2_with (first
  |(at_range;go_must(refine wG _ rfl _ 82 rfl 124 underlying82 kS rm m rfl HGM.out ?_;intro w0 nj iO hs0;have R5:=hide (Oh.out w0 nj iO hs0);clear nj iO hs0)))
 go_frame
 clear HGM Oh;go_loopw [5] (fun lv wr=> ∃n1 dP eQ seen,lv= .slice dP n1 eQ∧n1<=m.length∧Hid (mv w rm w.heap.size m (xb s c) seen n1 (.slice dP n1 eQ) wr)) (fun _ wr=>wr.rangeLeft rm w.heap.size)
 case atStart=>exact⟨0,none,0, [],rfl,aJ _,R5⟩
 case round=>
  obtain⟨n1,dP,eQ,seen,rfl,qb,HP⟩:=hrel;have xK:Hid (∀y (kv:Value) w1,y∈m->Walk kS rm w.heap.size m (seen++ [y]) w1->w1.rangeLeft rm w.heap.size<wr.rangeLeft rm w.heap.size->wr.grownBy w1 (some w.heap.size)->w1.heap.size=wr.heap.size-> ∃cy,w1.cell? ⟨y.2,1,none⟩=some (.int .i64 cy)∧w1.rangeLeft rm w.heap.size<wr.rangeLeft rm w.heap.size∧
    ((cy==c)=false->Hid (mv w rm w.heap.size m (xb s c) (seen++ [y]) n1 (.slice dP n1 eQ) w1))∧
    ((cy==c)=true->Hid (∃Gr,(rowA 124 1 (.slice dP n1 eQ) n1 ((seen.filter (xb s c)).map fun y=>pt y.2)).holds w1 Gr∧ ∀o cU gz w2,Goes (rowA 124 1 (.slice cU (n1+1) gz) (n1+1) (((seen.filter (xb s c)).map fun y=>pt y.2)++ [pt y.2])) (w1.alloc o) Gr w2->mv w rm w.heap.size m (xb s c) (seen++ [y]) (n1+1) (.slice cU (n1+1) gz) w2∧w2.rangeLeft rm w.heap.size=w1.rangeLeft rm w.heap.size))):=fun y kv w1 Uh hwk ay hgr cg=>by
   obtain⟨hb1,Gr,kG,ld,mW⟩:=HP.out.next hgr cg;obtain⟨cy,c1,hp⟩:=C2.out y Uh w1 hb1;exact⟨cy,c1,ay,fun hf=>HP.out.no hwk hgr cg (by rw[hp];exact hf),fun ht=>⟨Gr,kG,fun o cU gz w2 bK=>HP.out.yes hwk hgr cg (by rw[hp];exact ht) KI ld mW o bK⟩⟩
  have WV:=hide HP.out.walk;go_wp2_with (first
   |(at_next;go_must(refine nY _ rfl _ rfl kS rm w.heap.size m seen rfl WV.out ?done ?more)))
  case done=>
   intro fw;have HS:=hide (Da.out seen n1 _ w.heap.size wr HP.out fw);clear Da HP xK WV C2 VH fw R5;go_wp2_with (first
    |(go_at_call 122;go_must(refine HS.out.mono ?_;rintro e w3⟨rfl,HE⟩)))
   go_ret;obtain⟨L,h1,h2,h3⟩:=HE.out;exact⟨_,L,rfl,h1,h2,h3⟩
  case more=>
   intro ya yb kv w1 Uh hyn hwk ay hgr cg hen;obtain⟨cy,c1,aaY,sI,rG⟩:=xK.out (ya,yb) kv w1 Uh hwk ay hgr cg;dsimp only at c1 sI rG;have jr:=hide sI;have ot:=hide rG;have vI:=hide aaY;clear xK WV Da HP C2 Uh hyn hwk ay hgr cg sI rG aaY R5
   (try unfold pt at hen)
   cases Xy:(cy==c)
   ·have HI:=jr.out Xy;clear jr ot;go_wp2;go_roundw
    case rel=>exact⟨n1,dP,eQ,seen++ [(ya,yb)],rfl,qb,HI⟩
    case measure=>exact vI.out
   ·obtain⟨Gr,kG,DZ⟩:=(ot.out Xy).out;have fy:=hide kG;have Sq:=hide DZ;clear jr ot kG DZ;go_wp2_with (first
     |(at_builtin;go_must(refine aC _ rfl _ _ 90 rfl 124 i0 (.pointer none) 1 8 underlying90 kR gI dN fS rfl (by decide) (F:=Gr) _ n1 ((seen.filter (xb s c)).map fun y:Int×Nat=>pt y.2) rfl (Mr.au fy.out ((ah _ _).alloc (ae _) _)) ⟨w1.heap.size,0,none⟩ 1 1 [.pointer (some ⟨yb,0,none⟩)] rfl rfl (World.news_of_block (cs:= #[.pointer (some ⟨yb,0,none⟩)]) (t:=124) (fr:=(0,0)) (heap_alloc_new w1 _)) (by simp[Value.oneCell']) (by unfold maxLen;omega) (by omega) ?main)))
    case main=>
     intro cU gz w2 bK;have HI:=Sq.out _ cU gz w2 bK;have Hi:=hide HI.1;have WC:=hide HI.2;clear bK HI Sq fy;have sH:=VH.out _ _ _ _ _ Hi.out;go_wp2;go_roundw
     case rel=>exact⟨n1+1,cU,gz,seen++ [(ya,yb)],by first|rfl|go_num,sH,Hi⟩
     case measure=>rw[WC.out];exact vI.out
