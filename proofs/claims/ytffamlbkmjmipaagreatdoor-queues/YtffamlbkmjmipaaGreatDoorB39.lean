import Derived.Test.YtffamlbkmjmipaaGreatDoorB38
set_option maxHeartbeats 8000000
set_option maxRecDepth 100000
namespace Go.Proofs.YtffamlbkmjmipaaGreatDoor
open _root_.Go.Proofs.Tryz
namespace Pj
open Go.RowKit aM Mc bJ
attribute [local go_sem] ag ar
theorem Ni(l:List Int)(hn:l.Nodup): ∃S:List Int,l.Perm S∧S.Pairwise (· < ·):=by
 induction l with
 |nil=>exact⟨[],List.Perm.refl _,by simp⟩
 |cons a l ih=>
  rw[List.nodup_cons]at hn;obtain⟨S,h1,h2⟩:=ih hn.2;have CY:a∉S:=fun h=>hn.1 (h1.symm.subset h);clear ih;have: ∃S',(a::S).Perm S'∧S'.Pairwise (· < ·):=by
   clear h1
   induction S with
   |nil=>exact⟨[a],List.Perm.refl _,by simp⟩
   |cons b S ih=>
    rw[List.pairwise_cons]at h2;by_cases oa:a<b
    ·refine⟨a::b::S,List.Perm.refl _,List.pairwise_cons.2 ⟨fun y hy=> ?_,List.pairwise_cons.2 h2⟩⟩;rcases List.mem_cons.1 hy with e|e
     ·omega
     ·have:=h2.1 y e;omega
    ·have cC:a≠b:=fun e=>CY (e▸dy ..);obtain⟨S',h3,h4⟩:=ih h2.2 (fun h=>CY (bt _ h));refine⟨b::S',(List.Perm.swap b a S).trans (h3.cons b),List.pairwise_cons.2 ⟨fun y hy=> ?_,h4⟩⟩;rcases List.mem_cons.1 (h3.symm.subset hy)with e|e
     ·omega
     ·exact h2.1 y e
  obtain⟨S',h3,h4⟩:=this;exact⟨S',(h1.cons a).trans h3,h4⟩
theorem Walk.keep{P:Program}{k:TypeId}{κ:Type}{K:Kd P k κ}{b r:Nat}{m seen:List (κ×Nat)}{w w':World}(h:Walk K b r m seen w)(hb:w'.heap[b]?=w.heap[b]?)(hr:w'.heap[r]?=w.heap[r]?):Walk K b r m seen w'∧w'.rangeLeft b r=w.rangeLeft b r:=by refine⟨?_,by unfold World.rangeLeft;rw[hb,hr]⟩;obtain⟨h1,h2,D,left,cnt,h3,h4⟩:=h;refine⟨h1,h2,D,left,cnt, ?_,h4⟩;obtain⟨es,clock,since,sn,c0,e1,e2,e3,e4,e5,e6⟩:=h3;exact⟨es,clock,since,sn,c0,hb.trans e1,e2,e3,e4,hr.trans e5,e6⟩
structure mv(w:World)(rm r:Nat)(m:List (Int×Nat))(p:Int×Nat->Bool)(seen:List (Int×Nat))(n1:Nat)(sv:Value)(wr:World):Prop where
 walk:Walk kS rm r m seen wr
 len:n1=(seen.filter p).length
 row: ∃Gr,(rowA 124 1 sv n1 ((seen.filter p).map fun y=>pt y.2)).holds wr Gr∧ ¬Gr r∧ ∀k,Gr k->w.heap.size<=k
 below:Below w.heap.size w wr
 rlt:w.heap.size<=r∧r<wr.heap.size
section
variable{w wr w1 w2:World}{rm r n1:Nat}{m seen:List (Int×Nat)}{p:Int×Nat->Bool}{sv:Value}{y:Int×Nat}
theorem mv.next(h:mv w rm r m p seen n1 sv wr)(hg:wr.grownBy w1 (some r))(hs:w1.heap.size=wr.heap.size):Below w.heap.size w w1∧ ∃Gr,(rowA 124 1 sv n1 ((seen.filter p).map fun y=>pt y.2)).holds w1 Gr∧ ¬Gr r∧ ∀k,Gr k->w.heap.size<=k:=by
 obtain⟨Gr,h1,h2,h3⟩:=h.row;have hr:=h.rlt;refine⟨⟨hg.os.trans h.below.os,hg.tape.trans h.below.tape,hg.output.trans h.below.output,by rw[hs];exact h.below.size,fun k hk=> ?_⟩,Gr,aM.keep _ h1 (fun k hk=> ?_),h2,h3⟩
 ·rw[hg.block k (bP hk h.below.size) (fun e=>by have:=Option.some.inj e;omega)];exact h.below.block k hk
 ·exact hg.block k (aM.lt _ h1 k hk) (fun e=>h2 (by have:=Option.some.inj e;rw[<-this];exact hk))
theorem mv.no(h:mv w rm r m p seen n1 sv wr)(hw:Walk kS rm r m (seen++ [y]) w1)(hg:wr.grownBy w1 (some r))(hs:w1.heap.size=wr.heap.size)(hp:p y=false):mv w rm r m p (seen++ [y]) n1 sv w1:=by
 obtain⟨hb,pH⟩:=h.next hg hs;have e:(seen++ [y]).filter p=seen.filter p:=by simp[hp]
 exact⟨hw,by rw[e];exact h.len,by rw[e];exact pH,hb,⟨h.rlt.1,by rw[hs];exact h.rlt.2⟩⟩
theorem mv.yes{Gr:Ft}{cU:Option Addr}{gz:Nat}(h:mv w rm r m p seen n1 sv wr)(hw:Walk kS rm r m (seen++ [y]) w1)(hg:wr.grownBy w1 (some r))(hs:w1.heap.size=wr.heap.size)(hp:p y=true)(KI:rm<w.heap.size)(xB: ¬Gr r)(Iy: ∀k,Gr k->w.heap.size<=k)(o:Obj)(bK:Goes (rowA 124 1 (.slice cU (n1+1) gz) (n1+1) (((seen.filter p).map fun y=>pt y.2)++ [pt y.2])) (w1.alloc o) Gr w2):mv w rm r m p (seen++ [y]) (n1+1) (.slice cU (n1+1) gz) w2∧w2.rangeLeft rm r=w1.rangeLeft rm r:=by
 obtain⟨hb,_⟩:=h.next hg hs;have hbs:=hb.size;have og:=h.rlt;have e:(seen++ [y]).filter p=seen.filter p++ [y]:=by simp[hp]
 obtain⟨G2,h2,o2,n2⟩:=bK;have hz:(w1.alloc o).heap.size=w1.heap.size+1:=by simp
 have cP: ∀k,k<w1.heap.size-> ¬Gr k->w2.heap[k]?=w1.heap[k]?:=fun k hk hn=>by rw[o2.block k (by omega) hn];exact Below.heap_alloc _ _ _ hk
 have acQ: ¬Gr rm:=fun hk=>by have:=Iy rm hk;omega
 obtain⟨hw2,hle⟩:=hw.keep (cP rm (by omega) acQ) (cP r (by omega) xB);refine⟨⟨hw2,by rw[e,aN,<-h.len];rfl,⟨G2,by rw[e,aH];exact h2,fun hk=> ?_,fun k hk=> ?_⟩,⟨?_, ?_, ?_, ?_,fun k hk=> ?_⟩,⟨og.1, ?_⟩⟩,hle⟩
 ·rcases n2 r hk with h|h
  ·exact xB h
  ·omega
 ·rcases n2 k hk with h|h
  ·exact Iy k h
  ·omega
 ·exact o2.os.trans hb.os
 ·exact o2.tape.trans hb.tape
 ·exact o2.output.trans hb.output
 ·have:=o2.size;omega
 ·rw[cP k (by omega) (fun h=>by have:=Iy k h;omega)];exact hb.block k hk
 ·have:=o2.size;omega
end
def xb(s:St)(c:Int)(y:Int×Nat):Bool:=match s.req y.1 with|some q=>q.conn==c|none=>false
theorem Q8{base x tb:Nat}{g:Gh}{cn:List (Int×Nat×Bs)}{s:St}{w:World}{F:Ft}(h:(stA base x tb g cn s).holds w F)(hi:Inv s)(hz:s.sz<=16777000)(c:Int):Calls prog 77 #[pt x, .int .i64 c] w fun e w'=> ∃(v':Value) (L:List Int),e= .returned v'∧L.Perm (s.gJ c)∧L.Pairwise (· < ·)∧Goes (aa (stA base x tb g cn s) (rowA 124 1 v' L.length (L.map fun i=>pt (g.rp i)))) w F w':=by
 obtain⟨i0,kR,gI,dN,fS⟩:=ia B8;have h0:=h;obtain⟨j,r1,r2,r3,hF,hh⟩:=h;have wf:=fI r1 hi hz;obtain⟨G0,hj,_⟩:=aM.left hh;obtain⟨v,hv⟩:=hj;have vd:x<w.heap.size:=(yN hv).2.2;have c7:w.cell? ⟨x,7,none⟩=some (.map (some v.rm)):=(yN hv).1 7;have jI: ∃Gm,(jS g v.rm j.reqs).holds w Gm:=by obtain⟨Gm,Ks,_⟩:=aM.left (aB hv (show _=aa (jS g v.rm j.reqs) (aa (dB x j v) (aa (kN v.cm j.bT) (aa (jk g v.tm j.aW) (aa (all jo j.bT) (aa (all (dO g j.c.re) j.reqs) (aa (all (gA g) j.aW) (aa (fK g v.rv j.ring) (aa (jw v.pv j.pull) (aa (eY g v.lv j.hp) (hpA g j.hp))))))))))by unfold bk;ac_rfl));exact⟨Gm,Ks⟩
 obtain⟨Gm,Ks⟩:=jI;have KI:v.rm<w.heap.size:=aM.lt _ Ks v.rm ((Ks.1 v.rm).2 rfl);have XU:(j.reqs.map fun r=>(r.q.id,g.rp r.q.id)).length<=16777210:=by rw[bf];exact wf.b6
 have kJ:s.ks.map (·.1)=s.reqs.map (·.id):=by unfold St.ks;rw[aG];rfl
 have u7: ∀y∈j.reqs.map (fun r=>(r.q.id,g.rp r.q.id)),∃q,s.req y.1=some q∧q.id=y.1∧y.2=g.rp y.1∧y.2<w.heap.size∧w.cell? ⟨y.2,1,none⟩=some (.int .i64 q.conn)∧w.cell? ⟨y.2,0,none⟩=some (.int .i64 y.1):=fun y hy=>by
  obtain⟨r,hr,rfl⟩:=aA.1 hy;have Mn:r.q∈s.reqs:=by rw[<-r1.reqs];exact aA.2 ⟨r,hr,rfl⟩
  have hq:s.req r.q.id=some r.q:=St.vD hi Mn;obtain⟨ao,cap,cU,b9,RA⟩:=gK h0 hi hz hq;exact⟨r.q,hq,rfl,rfl,RA.lt.1,RA.conn,RA.ci⟩
 have C2:Hid (∀y∈j.reqs.map (fun r=>(r.q.id,g.rp r.q.id)),∀w1,Below w.heap.size w w1-> ∃cy,w1.cell? ⟨y.2,1,none⟩=some (.int .i64 cy)∧xb s c y=(cy==c)):=fun y hy w1 hb=>by obtain⟨q,e1,e2,e3,e4,e5,e6⟩:=u7 y hy;exact⟨q.conn,by rw[cL hb e4];exact e5,by unfold xb;rw[e1]⟩
 have Da:Hid (∀seen n1 sv r wr,mv w v.rm r (j.reqs.map fun r=>(r.q.id,g.rp r.q.id)) (xb s c) seen n1 sv wr->seen.Perm (j.reqs.map fun r=>(r.q.id,g.rp r.q.id))->Calls prog 122 #[sv, .func (.func 123) #[] #[]] wr fun e w'=>e= .returned (.tuple #[])∧Hid (∃L:List Int,L.Perm (s.gJ c)∧L.Pairwise (· < ·)∧Goes (aa (stA base x tb g cn s) (rowA 124 1 sv L.length (L.map fun i=>pt (g.rp i)))) w F w')):=fun seen n1 sv r wr hp fw=>by
  obtain⟨Gr,kG,xB,Iy⟩:=hp.row;have kx: ∀y∈seen,y∈j.reqs.map (fun r=>(r.q.id,g.rp r.q.id)):=fun y hy=>fw.subset hy;have hlen:(seen.filter (xb s c)).length<=16777210:=by have h1:(seen.filter (xb s c)).length<=seen.length:=List.length_filter_le ..;have h2:=fw.length_eq;omega
  have aal:((seen.filter (xb s c)).map (·.1)).Perm (s.gJ c):=by
   have e1:=(fw.filter (xb s c)).map (·.1);refine e1.trans ?_;have e2:((j.reqs.map fun r=>(r.q.id,g.rp r.q.id)).filter (xb s c)).map (·.1)=s.gJ c:=by
    unfold St.gJ;rw[<-r1.reqs,List.filter_map,List.filter_map,aG,aG];have:j.reqs.filter ((xb s c)∘fun r=>(r.q.id,g.rp r.q.id))=j.reqs.filter ((fun x:Rq=>x.conn==c)∘fun r=>r.q):=List.filter_congr fun r hr=>by
     have Mn:r.q∈s.reqs:=by rw[<-r1.reqs];exact aA.2 ⟨r,hr,rfl⟩
     simp only[Function.comp_def];unfold xb;dsimp only;rw[St.vD hi Mn]
    rw[this];rfl
   rw[e2]
  have jJ:((seen.filter (xb s c)).map (·.1)).Nodup:=by refine(aal.nodup_iff).2 ?_;unfold St.gJ;have oK:=hi.rid;rw[kJ]at oK;exact(List.filter_sublist.map _).nodup oK
  obtain⟨S,hS1,hS2⟩:=Ni _ jJ;have emap:(seen.filter (xb s c)).map (fun y=>pt y.2)=((seen.filter (xb s c)).map (·.1)).map fun i=>pt (g.rp i):=by rw[aG];exact bY fun y hy=>by obtain⟨q,_,_,e3,_⟩:=u7 y (kx y (aR.1 hy).1);simp only[Function.comp_def];rw[e3]
  have ab0:(seen.filter (xb s c)).length=((seen.filter (xb s c)).map (·.1)).length:=by rw[bf]
  rw[emap,hp.len,ab0]at kG;refine(FU sfR 124 sv _ S (fun i=>g.rp i) (fun i=>i) 123 wr Gr (enters_of func123 (by kernel_rfl) rfl) kG hS1 hS2 (by rw[bf];omega) (fun i Ab=> ?_) (fun w3 rU a ha b hb=> ?_)).mono ?_
  ·obtain⟨y,hy,rfl⟩:=aA.1 Ab;obtain⟨q,_,_,e3,e4,_⟩:=u7 y (kx y (aR.1 hy).1);rw[e3]at e4;exact⟨fun hk=>by have:=Iy _ hk;omega,bP e4 hp.below.size⟩
  ·have Xw: ∀i∈(seen.filter (xb s c)).map (·.1),w3.cell? ⟨g.rp i,0,none⟩=some (.int .i64 i):=fun i Ab=>by
    have XK:=Ab;obtain⟨y,hy,rfl⟩:=aA.1 Ab;obtain⟨q,_,_,e3,e4,_,e6⟩:=u7 y (kx y (aR.1 hy).1);rw[e3]at e4 e6;have:=rU y.1 XK;rw[hp.below.block _ e4]at this;simp only[World.cell?,this]at e6⊢;exact e6
   exact OH _ _ _ _ w3 (Xw a ha) (Xw b hb)
  ·rintro e w'⟨rfl,mW⟩;refine⟨rfl,S,hS1.symm.trans aal,hS2, ?_⟩;obtain⟨G4,h4,o4,n4⟩:=mW;have kI:Goes (rowA 124 1 sv S.length (S.map fun i=>pt (g.rp i))) w (fun _=>False) w':=⟨G4,h4,⟨o4.os.trans hp.below.os,o4.tape.trans hp.below.tape,o4.output.trans hp.below.output,aw hp.below.size o4.size,fun k hk _=>by
    rw[o4.block k (bP hk hp.below.size) (fun jU=>by have:=Iy k jU;omega)];exact hp.below.block k hk⟩,fun k hk=>by
    rcases n4 k hk with e|e
    ·exact .inr (Iy k e)
    ·exact .inr (aw hp.below.size e)⟩
   exact tQ h0 (ah _ _) kI
 have Oh:Hid (∀w',Walk kS v.rm w.heap.size (j.reqs.map fun r=>(r.q.id,g.rp r.q.id)) [] w'->Below w.heap.size w w'->w'.heap.size=w.heap.size+1->mv w v.rm w.heap.size (j.reqs.map fun r=>(r.q.id,g.rp r.q.id)) (xb s c) [] 0 (.slice none 0 0) w'):=fun w' hw hb cg=>⟨hw,by simp,⟨fun _=>False,dS _ _ _ (fun _ h=>h),fun h=>h,fun _ h=>h.elim⟩,hb,⟨ae _,by omega⟩⟩;have HGM:=hide Ks;unfold jS at HGM;generalize GR:(j.reqs.map fun r=>(r.q.id,g.rp r.q.id))=m at*;have Wa: ∀seen n1 sv r wr,mv w v.rm r m (xb s c) seen n1 sv wr->n1<=m.length:=fun seen n1 sv r wr hp=>by have h1:(seen.filter (xb s c)).length<=seen.length:=List.length_filter_le ..;have h2:=jN (kT hp.walk.1) hp.walk.2.1;have:=hp.len;omega
 have VH:=hide Wa;clear h0 hh hv Ks wf r1 r2 r3 u7 Wa GR;unfold pt;generalize v.rm=rm at*;go_enter func77,ntmps77;go_wp2_with (first
  |(at_range;go_must(refine wG _ rfl _ 82 rfl 124 underlying82 kS rm m rfl HGM.out ?_;intro w0 nj iO hs0;have R5:=hide (Oh.out w0 nj iO hs0);clear nj iO hs0)))
 go_frame
 clear HGM Oh;go_loopw [5] (fun lv wr=> ∃n1 dP eQ seen,lv= .slice dP n1 eQ∧n1<=m.length∧Hid (mv w rm w.heap.size m (xb s c) seen n1 (.slice dP n1 eQ) wr)) (fun _ wr=>wr.rangeLeft rm w.heap.size)
 case atStart=>exact⟨0,none,0, [],rfl,aJ _,R5⟩
 case round=>
  obtain⟨n1,dP,eQ,seen,rfl,qb,HP⟩:=hrel;have xK:Hid (∀y (kv:Value) w1,y∈m->Walk kS rm w.heap.size m (seen++ [y]) w1->w1.rangeLeft rm w.heap.size<wr.rangeLeft rm w.heap.size->wr.grownBy w1 (some w.heap.size)->w1.heap.size=wr.heap.size-> ∃cy,w1.cell? ⟨y.2,1,none⟩=some (.int .i64 cy)∧w1.rangeLeft rm w.heap.size<wr.rangeLeft rm w.heap.size∧
    ((cy==c)=false->Hid (mv w rm w.heap.size m (xb s c) (seen++ [y]) n1 (.slice dP n1 eQ) w1))∧
    ((cy==c)=true->Hid (∃Gr,(rowA 124 1 (.slice dP n1 eQ) n1 ((seen.filter (xb s c)).map fun y=>pt y.2)).holds w1 Gr∧ ∀o cU gz w2,Goes (rowA 124 1 (.slice cU (n1+1) gz) (n1+1) (((seen.filter (xb s c)).map fun y=>pt y.2)++ [pt y.2])) (w1.alloc o) Gr w2->mv w rm w.heap.size m (xb s c) (seen++ [y]) (n1+1) (.slice cU (n1+1) gz) w2∧w2.rangeLeft rm w.heap.size=w1.rangeLeft rm w.heap.size))):=fun y kv w1 Uh hwk ay hgr cg=>by
   obtain⟨hb1,Gr,kG,ld,mW⟩:=HP.out.next hgr cg;obtain⟨cy,c1,hp⟩:=C2.out y Uh w1 hb1;exact⟨cy,c1,ay,fun hf=>HP.out.no hwk hgr cg (by rw[hp];exact hf),fun ht=>⟨Gr,kG,fun o cU gz w2 bK=>HP.out.yes hwk hgr cg (by rw[hp];exact ht) KI ld mW o bK⟩⟩
  have WV:=hide HP.out.walk;go_wp2_with (first
   |(at_next;go_must(refine nY _ rfl _ rfl kS rm w.heap.size m seen rfl WV.out ?done ?more)))
  case done=>
   intro fw;have HS:=hide (Da.out seen n1 _ w.heap.size wr HP.out fw);clear Da HP xK WV C2 VH fw R5;go_wp2_with (first
    |(go_at_call 122;go_must(refine HS.out.mono ?_;rintro e w3⟨rfl,HE⟩)))
   go_ret;obtain⟨L,h1,h2,h3⟩:=HE.out;exact⟨_,L,rfl,h1,h2,h3⟩
  case more=>
   intro ya yb kv w1 Uh hyn hwk ay hgr cg hen;obtain⟨cy,c1,aaY,sI,rG⟩:=xK.out (ya,yb) kv w1 Uh hwk ay hgr cg;dsimp only at c1 sI rG;have jr:=hide sI;have ot:=hide rG;have vI:=hide aaY;clear xK WV Da HP C2 Uh hyn hwk ay hgr cg sI rG aaY R5
   (try unfold pt at hen)
   cases Xy:(cy==c)
   ·have HI:=jr.out Xy;clear jr ot;go_wp2;go_roundw
    case rel=>exact⟨n1,dP,eQ,seen++ [(ya,yb)],rfl,qb,HI⟩
    case measure=>exact vI.out
   ·obtain⟨Gr,kG,DZ⟩:=(ot.out Xy).out;have fy:=hide kG;have Sq:=hide DZ;clear jr ot kG DZ;go_wp2_with (first
     |(at_builtin;go_must(refine aC _ rfl _ _ 90 rfl 124 i0 (.pointer none) 1 8 underlying90 kR gI dN fS rfl (by decide) (F:=Gr) _ n1 ((seen.filter (xb s c)).map fun y:Int×Nat=>pt y.2) rfl (Mr.au fy.out ((ah _ _).alloc (ae _) _)) ⟨w1.heap.size,0,none⟩ 1 1 [.pointer (some ⟨yb,0,none⟩)] rfl rfl (World.news_of_block (cs:= #[.pointer (some ⟨yb,0,none⟩)]) (t:=124) (fr:=(0,0)) (heap_alloc_new w1 _)) (by simp[Value.oneCell']) (by unfold maxLen;omega) (by omega) ?main)))
    case main=>
     intro cU gz w2 bK;have HI:=Sq.out _ cU gz w2 bK;have Hi:=hide HI.1;have WC:=hide HI.2;clear bK HI Sq fy;have sH:=VH.out _ _ _ _ _ Hi.out;go_wp2;go_roundw
     case rel=>exact⟨n1+1,cU,gz,seen++ [(ya,yb)],by first|rfl|go_num,sH,Hi⟩
     case measure=>rw[WC.out];exact vI.out
variable{s s':St}{n k base x tb:Nat}{c:Int}{g:Gh}{cn:List (Int×Nat×Bs)}{w:World}{F:Ft}
theorem yr{α:Type}{p:α->Bool}: ∀{l:List α} {a:α} {r:List α},l.filter p=a::r-> ∃i,l[i]?=some a∧p a=true∧(l.eraseIdx i).filter p=r
 | [],a,r,h=>by cases h
 |y::l,a,r,h=>by
  by_cases e:p y=true
  ·rw[List.filter_cons_of_pos e]at h;obtain⟨rfl,h2⟩:=List.cons.inj h;exact⟨0,rfl,e,h2⟩
  ·rw[List.filter_cons_of_neg e]at h;obtain⟨i,h1,h2,h3⟩:=yr h;exact⟨i+1,by simpa using h1,h2,by rw[List.eraseIdx_cons_succ,List.filter_cons_of_neg e];exact h3⟩
theorem AJ{id:Int}{q:Rq}(hq:s.req id=some q):s.again id false=if(s.waits id||decide (0<s.count id))=true then s else s.a6 id true:=by
 unfold St.again;by_cases h:(s.waits id||decide (0<s.count id))=true
 ·rw[if_pos h,if_pos h]
 ·rw[if_neg h,if_neg h,hq];simp
structure Giving(n:Nat)(s:St)(c:Int)(k:Nat)(s':St):Prop where
 sd:Sd n s'
 is:s'=((s.af.filter fun a=>a.conn==c).take k).foldl St.nK s
 left:s'.af.filter (fun a=>a.conn==c)=(s.af.filter fun a=>a.conn==c).drop k
theorem Sd.W4(h:Sd n s)(id:Int):Sd n (s.again id false):=
 ⟨St.eC h.inv id false,h.ok.again h.inv id false,aw (St.mU id) h.sz,h.bd.again h.inv id false⟩
theorem Giving.step(h:Giving n s c k s')(hk:k<(s.af.filter fun a=>a.conn==c).length): ∃i,s'.af[i]?=some (s.af.filter fun a=>a.conn==c)[k]∧Giving n s c (k+1) ((s'.aS i).again (s.af.filter fun a=>a.conn==c)[k].id false):=by
 have hl:=h.left;rw[<-List.getElem_cons_drop (h:=hk)]at hl;obtain⟨i,h1,h2,h3⟩:=yr hl;refine⟨i,h1,(h.sd.Kf i).W4 _, ?_, ?_⟩
 ·rw[fp hk,List.foldl_append,<-h.is];show _=St.nK s' _;unfold St.nK;rw[St.xo h.sd.ok h1]
 ·rw[St.nu,(St.cG (s:=s') i).2.1];exact h3
structure Gives(base x tb:Nat)(g:Gh)(cn:List (Int×Nat×Bs))(n:Nat)(s:St)(c:Int)(v':Value)(w:World)(F:Ft)(k:Nat)(s':St)(wr:World):Prop where
 on:Giving n s c k s'
 goes:Goes (aa (stA base x tb g cn s') (rowA 127 1 v' (s.af.filter fun a=>a.conn==c).length ((s.af.filter fun a=>a.conn==c).map fun a=>pt (g.ap (key a))))) w F wr
theorem Gives.round{v':Value}{wr:World}(T:Tabs base w)(hF: ∀k,F k->base<=k)(hn:n<=16776000)(h:Gives base x tb g cn n s c v' w F k s' wr){L:List At}(hL:s.af.filter (fun a=>a.conn==c)=L)(hk:k<L.length): ∃(b off cap:Nat),v'= .slice (some ⟨b,off,none⟩) L.length cap∧wr.cell? ⟨b,off+k,none⟩=some (pt (g.ap (key L[k])))∧Calls prog 80 #[pt x,pt tb,pt (g.ap (key L[k]))] wr fun e w3=>e= .returned (.tuple #[])∧w3.cell? ⟨g.ap (key L[k]),1,none⟩=some (pt (g.rp L[k].id))∧ ∃go:Bool,Hid (Calls prog 82 #[pt (g.rp L[k].id)] w3 fun e w4=>e= .returned (.bool go)∧w4=w3)∧(go=true->Hid (∃wy,Gives base x tb g cn n s c v' w F (k+1) wy w3))∧(go=false->Hid (Calls prog 83 #[pt x,pt (g.rp L[k].id)] w3 fun e w5=>e= .returned (.tuple #[])∧Hid (∃wy,Gives base x tb g cn n s c v' w F (k+1) wy w5))):=by
 subst hL;obtain⟨F1,cd,o1,n1⟩:=h.goes;obtain⟨G,H,ha,hb,d,e⟩:=id cd;have pF:=h.on;have hz:=pF.sd.sz;have T1:Tabs base wr:=T.goes hF ⟨F1,cd,o1,n1⟩;obtain⟨i,sB,KJ⟩:=pF.step hk;generalize eL:(s.af.filter fun a=>a.conn==c)[k]=a at*;obtain⟨aor,Hr,rfl,dF,bI⟩:=Mr.bO hb;obtain⟨b,off,rfl⟩:=bI (by omega);refine⟨b,off,Hr,rfl, ?_, ?_⟩
 ·rw[bm hb k (by omega),List.getElem?_map,a7 hk,eL];rfl
 ·refine(hE T1 ha pF.sd.inv pF.sd.ok (by omega) sB).mono ?_;rintro e' w3⟨rfl,kk,hg⟩;have g3:=(aV hb hg d e).eq (bX _ _ _);obtain⟨F3,iX,o3,n3⟩:=id g3;obtain⟨G3,H3,Zh,mh,d3,e3⟩:=id iX;have rD:=(dC mh).1;have T3:Tabs base w3:=T1.goes (dx ha) hg.drop;have hs3:=pF.sd.Kf i;have Sk:=hs3.sz;obtain⟨q,hq,yH,Ix⟩:=St.cz (pF.sd.inv.bS a (dn sB));have Zn:(s'.aS i).req a.id=some q:=by rw[qu];exact hq
  refine⟨rfl,by simp only[World.cell?,rD];rfl,_,yw Zh hs3.inv (by omega) Zn,fun bK=> ?_,fun bK=> ?_⟩
  ·refine⟨_,KJ, ?_⟩;rw[AJ Zn,if_pos bK];refine aF o1 n1 (g3.trans fun F' h'=> ?_);exact qI ((Goes.refl h').eq (bq _ _ _))
  ·show Calls _ _ _ _ _;refine(uC T3 Zh hs3.inv (by omega) Zn).mono ?_;rintro e' w5⟨rfl,hg5⟩;refine⟨rfl, ?_⟩;refine⟨_,KJ, ?_⟩;rw[AJ Zn,if_neg (by rw[bK];simp)];have g5:=aF o3 n3 (aV mh hg5 d3 e3);exact aF o1 n1 (qI (g5.eq (bq _ _ _)))
theorem Pm(T:Tabs base w)(h:(stA base x tb g cn s).holds w F)(hs:Sd n s)(hn:n<=16776000)(c:Int):Calls prog 45 #[pt x,pt tb, .int .i64 c] w fun e w'=>e= .returned (.tuple #[])∧Goes (stA base x tb g cn (St.aP s.af.length s c)) w F w':=by
 have hz:=hs.sz;have hF:=dx h;have C8:Hid (Calls prog 68 #[pt x, .func (.func 124) #[] #[pt w.heap.size]] (w.alloc (.cells #[.int .i64 c] 3)) fun e w'=> ∃iw cM,e= .returned (.slice iw (s.af.filter fun a=>a.conn==c).length cM)∧Hid (Gives base x tb g cn n s c (.slice iw (s.af.filter fun a=>a.conn==c).length cM) w F 0 s w')):=by
  show Calls _ _ _ _ _;have hB:Below w.heap.size w (w.alloc (.cells #[.int .i64 c] 3)):=(ah _ _).alloc (ae _) _;refine(wx h hs.inv (by omega) hB (fun a=>a.conn==c) 124 #[pt w.heap.size] (enters_of func124 (by kernel_rfl) rfl) (fun wr hr a Zi=> ?_)).mono ?_
  ·obtain⟨kk,q,hq,Ix,oa,av,zI⟩:=K5 h hs.inv (by omega) Zi;have ay:g.ap (key a)<w.heap.size:=(cT.1 oa).1;refine qL (g.ap (key a)) w.heap.size c a.conn wr ?_ ?_
   ·rw[hr.cell (p:=⟨_,2,none⟩) (bP ay hB.size),hB.cell (p:=⟨_,2,none⟩) ay];simp only[World.cell?,oa];rfl
   ·rw[hr.cell (p:=⟨w.heap.size,0,none⟩) (by simp)];simp only[World.cell?,heap_alloc_new];rfl
  ·rintro e w'⟨v',rfl,_,hg⟩;have ld:=hg;obtain⟨F1,cd,_⟩:=hg;obtain⟨G,H,_,bN,_⟩:=cd;obtain⟨iw,cM,rfl⟩:=aX (Goes.refl bN);exact⟨iw,cM,rfl,⟨⟨hs,rfl,by simp⟩,ld⟩⟩
 have pM:Hid (∀k (hk:k<(s.af.filter fun a=>a.conn==c).length) v' s' wr,Gives base x tb g cn n s c v' w F k s' wr->_):=fun k hk v' s' wr hb=>hb.round T hF hn rfl hk;have fg:Hid (∀v' s' wr,Gives base x tb g cn n s c v' w F (s.af.filter fun a=>a.conn==c).length s' wr->Goes (stA base x tb g cn (St.aP s.af.length s c)) w F wr):=fun v' s' wr hb=>by have:=hb.goes.drop;rw[hb.on.is,List.take_length,<-St.pP _ s.af.length s c hs.inv hs.ok rfl (List.length_filter_le ..)]at this;exact this
 have PN:(s.af.filter fun a=>a.conn==c).length<=16777216:=by have h1:(s.af.filter fun a=>a.conn==c).length<=s.af.length:=List.length_filter_le ..;unfold St.sz at hz;omega
 clear h;unfold pt at*;generalize hL:(s.af.filter fun a=>a.conn==c)=L at*;clear hL;go_enter func45,ntmps45;go_wp2_with (first
  |(go_at_call 79;go_must(refine(lJ c _).mono ?_;rintro e w6⟨rfl,rfl⟩))
  |(go_at_call 68;go_must(refine C8.out.mono ?_;rintro e w2⟨iw,cM,rfl,NH⟩)))
 clear C8;go_loopw [13] (fun i wr=> ∃k:Nat,k<=L.length∧i= .int .i64 k∧ ∃s',Hid (Gives base x tb g cn n s c (.slice iw L.length cM) w F k s' wr)) (fun i _=>L.length-(intOf i).toNat)
 case atStart=>exact⟨0,aJ _,rfl,s,NH⟩
 case round=>
  obtain⟨k,hk,rfl,s',pL⟩:=hrel;by_cases ay:k<L.length
  ·obtain⟨b,off,b9,ev,c0,wQ⟩:=pM.out k ay _ _ _ pL.out;cases ev;have jq:=hide wQ;clear pM pL NH fg wQ;generalize g.ap (key L[k])=ap at*;generalize g.rp L[k].id=rp at*;go_wp2_with (first
    |(go_at_call 80;go_must(refine jq.out.mono ?_;rintro e w3⟨rfl,c1,go,nt,rG,sI⟩;have HY:=hide rG;have HN:=hide sI;clear rG sI jq;cases go))
    |(go_at_call 82;go_must(refine nt.out.mono ?_;rintro e w4⟨rfl,rfl⟩))
    |(go_at_call 83;go_must(refine(HN.out (by first|rfl|trivial)).out.mono ?_;rintro e w5⟨rfl,uM⟩)))
   ·go_roundw
    case rel=>obtain⟨wy,hb⟩:=uM.out;exact⟨k+1,by omega,by go_num,wy,hb⟩
    case measure=>simp[intOf];omega
   ·go_roundw
    case rel=>obtain⟨wy,hb⟩:=(HY.out (by first|rfl|trivial)).out;exact⟨k+1,by omega,by go_num,wy,hb⟩
    case measure=>simp[intOf];omega
  ·obtain rfl:k=L.length:=by omega
   have HE:=hide (fg.out _ _ _ pL.out);clear pM pL NH fg;go_wp2;go_end0;exact⟨rfl,HE.out⟩
variable{n:Nat}{s t:St}{id c:Int}
def own(s:St)(id c:Int):List At:=s.af.filter fun a=>a.id==id &&a.conn==c
structure fO(n:Nat)(s:St)(id c:Int)(i:Nat)(t:St):Prop where
 sd:Sd n t
 busy:Busy t (fun y=>y=id)
 is:t=(((own s id c).take i).map key).foldl St.LJ s
 reqs:t.reqs=s.reqs
 left:t.af.filter (fun a=>a.id==id &&a.conn==c)=(own s id c).drop i
theorem fO.step{i:Nat}(h:fO n s id c i t)(hi:i<(own s id c).length): ∃ix,t.af[ix]?=some (own s id c)[i]∧fO n s id c (i+1) (t.aS ix):=by
 have hl:=h.left;rw[<-List.getElem_cons_drop (h:=hi)]at hl;obtain⟨ix,h1,h2,h3⟩:=yr hl;have hid:(own s id c)[i].id=id:=by simp only[bZ,beq_iff_eq]at h2;exact h2.1
 refine⟨ix,h1,h.sd.Kf ix,(h.busy.aS h1).mono (fun y hy=>hy.elim (fun h=>h) (fun e=>e.trans hid)), ?_, ?_, ?_⟩
 ·rw[fp hi,aH,List.foldl_append,<-h.is];show _=St.LJ t (key (own s id c)[i]);exact(St.xo h.sd.ok h1).symm
 ·rw[(St.cG (s:=t) ix).2.2.2.1];exact h.reqs
 ·rw[(St.cG (s:=t) ix).2.1];exact h3
theorem fO.last(h:fO n s id c (own s id c).length t)(hi:Inv s)(ho:Ok s):t.shut id=s.iR c id:=by unfold St.iR;rw[St.oV s.af.length s 0 id c hi ho (by omega),List.drop_zero,h.is,List.take_length];rfl
structure Closing(n:Nat)(s:St)(c:Int)(L:List Int)(k:Nat)(s':St):Prop where
 sd:Sd n s'
 busy:Busy s' (fun _=>False)
 is:s'=(L.take k).foldl (St.iR c) s
 rest: ∀i∈L.drop k,i∈s'.ks.map (·.1)
theorem Sd.shut(h:Sd n s)(id:Int):Sd n (s.shut id):=⟨St.ji h.inv id,h.ok.shut h.inv id,aw (St.rf id) h.sz,h.bd.shut id⟩
theorem Closing.step{s':St}{L:List Int}{k:Nat}(h:Closing n s c L k s')(hL:L.Pairwise (· < ·))(hk:k<L.length)(ht:fO n s' L[k] c (own s' L[k] c).length t):Closing n s c L (k+1) (t.shut L[k]):=by
 have e:=ht.last h.sd.inv h.sd.ok;refine⟨ht.sd.shut _,Busy.shut (P:=fun _=>False) (ht.busy.mono fun y hy=> .inr hy) ht.sd.inv, ?_,fun i hi=> ?_⟩
 ·rw[fp hk,List.foldl_append,<-h.is,e];rfl
 ·have hd:L.drop k=L[k]::L.drop (k+1):=(List.getElem_cons_drop (h:=hk)).symm;have hp:(L.drop k).Pairwise (· < ·):=hL.sublist (List.drop_sublist _ _);rw[hd,List.pairwise_cons]at hp;have cC:i≠L[k]:=fun e'=>by have:=hp.1 i hi;omega
  have hm:=h.rest i (by rw[hd];exact bt _ hi);rw[e];have kJ:(s'.iR c L[k]).ks=(dropFirst (·.id==L[k]) s'.reqs).map fun r=>(r.id,r.ten):=by unfold St.ks;rw[St.rM]
  rw[kJ];obtain⟨⟨i',t'⟩,Eg,rfl⟩:=aA.1 hm;exact aA.2 ⟨(i',t'),St.qm Eg cC,rfl⟩
theorem UX{base x tb:Nat}{g:Gh}{cn:List (Int×Nat×Bs)}{w:World}{F:Ft}(h:(stA base x tb g cn s).holds w F)(hi:Inv s)(ho:Ok s)(hz:s.sz<=16777000){q:Rq}(hq:s.req id=some q)(c:Int): ∃(nn:Nat) (ao:Option Addr) (cap:Nat),nn<=16777210∧g.rp id<w.heap.size∧w.cell? ⟨g.rp id,7,none⟩=some (.slice ao nn cap)∧ ∀w1,Below w.heap.size w w1->Calls prog 78 #[.slice ao nn cap, .func (.func 124) #[] #[.pointer (some ⟨w1.heap.size,0,none⟩)]] (w1.alloc (.cells #[.int .i64 c] 3)) fun e w'=> ∃v',e= .returned v'∧Below w.heap.size w w'∧Goes (aa (stA base x tb g cn s) (rowA 127 1 v' (own s id c).length ((own s id c).map fun a=>pt (g.ap (key a))))) w F w':=by
 have h0:=h;obtain⟨ao,cap,cU,b9,RA⟩:=gK h0 hi hz hq;have pH: ∃G,(lx g (.slice ao (s.nums id).length cap) id (s.nums id)).holds w G:=by
  obtain⟨j,r1,r2,r3,hF,hh⟩:=h;have wf:=fI r1 hi hz;obtain⟨r,hr,t,ht,er,ei,et,zY,CT⟩:=je r1 hq;obtain⟨v,av,wv,Md,hw⟩:=pc hh wf hr ht;obtain⟨G0,pD,_⟩:=RN hw;have c7:=(Sn hw).1 7;have oK:r.q.id=id:=by rw[er];exact ei
  rw[oK]at c7 pD;have yy:av= .slice ao (s.nums id).length cap:=by have h2:=RA.al;rw[c7]at h2;exact Option.some.inj h2
  rw[<-yy,<-CT];exact⟨G0,pD⟩
 obtain⟨Gl,xw⟩:=pH;unfold lx at xw;refine⟨_,ao,cap,RA.Dm.1,RA.lt.1,RA.al,fun w1 hB=> ?_⟩;have hB2:Below w.heap.size w (w1.alloc (.cells #[.int .i64 c] 3)):=hB.alloc hB.size _;have Ag: ∀nn∈s.nums id,∃a∈s.af,a.id=id∧a.n=nn:=fun nn KD=>qo.1 KD;have BU: ∀a∈s.af,a.id=id->(s.af.any fun b=>b.id==id &&b.n==a.n &&b.conn==c)=(a.conn==c):=fun a ha ea=>by
  by_cases hc:a.conn=c
  ·have:(s.af.any fun b=>b.id==id &&b.n==a.n &&b.conn==c)=true:=List.any_eq_true.2 ⟨a,ha,by simp[ea,hc]⟩;rw[this];simp[hc]
  ·have:(s.af.any fun b=>b.id==id &&b.n==a.n &&b.conn==c)=false:=by
    rw[List.any_eq_false];intro b hb e;simp only[bZ,beq_iff_eq]at e;have:b=a:=ck (k:=fun a:At=>(a.id,a.n)) ho.key hb ha (by show(b.id,b.n)=(a.id,a.n);rw[e.1.1,e.1.2,ea]);rw[this]at e;exact hc e.2
   rw[this];simp[hc]
 have aam:(s.nums id).filter (fun nn=>s.af.any fun b=>b.id==id &&b.n==nn &&b.conn==c)=(own s id c).map (·.n):=by
  unfold St.nums own;rw[List.filter_map];have:(s.af.filter fun a=>a.id==id).filter ((fun nn=>s.af.any fun b=>b.id==id &&b.n==nn &&b.conn==c)∘fun a=>a.n)=s.af.filter fun a=>a.id==id &&a.conn==c:=by
   rw[List.filter_filter];refine List.filter_congr fun a ha=> ?_;by_cases ea:a.id=id
   ·simp only[Function.comp_def];rw[BU a ha ea,Bool.and_comm]
   ·have e0:(a.id==id)=false:=beq_eq_false_iff_ne.2 ea;simp only[Function.comp_def];rw[e0,Bool.and_false,Bool.false_and]
  rw[this]
 refine(xT _ (s.nums id) (fun nn=>g.ap (id,nn)) (fun nn=>s.af.any fun b=>b.id==id &&b.n==nn &&b.conn==c) 124 #[.pointer (some ⟨w1.heap.size,0,none⟩)] (enters_of func124 (by kernel_rfl) rfl) _ Gl (Mr.au xw hB2) (fun wr hr y hy=> ?_) (by have:=RA.Dm.1;omega)).mono ?_
 ·obtain⟨a,Zi,ea1,ea2⟩:=Ag y hy;obtain⟨kk,q',_,_,oa,_⟩:=K5 h0 hi hz Zi;have CX:key a=(id,y):=by unfold key;rw[ea1,ea2]
  rw[CX]at oa;have ay:g.ap (id,y)<w.heap.size:=(cT.1 oa).1;have Iz:=hB2.size;have:=BU a Zi ea1;rw[ea2]at this;show Calls _ _ _ _ fun e w'=>e= .returned (.bool (s.af.any fun b=>b.id==id &&b.n==y &&b.conn==c))∧_;rw[this];refine qL (g.ap (id,y)) w1.heap.size c a.conn wr ?_ ?_
  ·rw[hr.cell (p:=⟨_,2,none⟩) (bP ay Iz),hB2.cell (p:=⟨_,2,none⟩) ay];simp only[World.cell?,oa];rfl
  ·rw[hr.cell (p:=⟨w1.heap.size,0,none⟩) (by simp)];simp only[World.cell?,heap_alloc_new];rfl
 ·rintro e w'⟨v',rfl,hg⟩;have yz:=iz hB2 ((jG hg).mono hB2.size);refine⟨v',rfl,yz,tQ h0 hB2 ?_⟩;rw[aam]at hg;have e1:((own s id c).map (·.n)).map (fun nn=>pt (g.ap (id,nn)))=(own s id c).map fun a=>pt (g.ap (key a)):=by
   rw[aG];refine bY fun a ha=> ?_;have:a.id=id:=by have:=(aR.1 ha).2;simp only[bZ,beq_iff_eq]at this;exact this.1
   simp only[Function.comp_def];unfold key;rw[this]
  rw[e1,bf]at hg;exact hg
def B5(g:Gh)(v':Value)(L:List Int):aM:=rowA 124 1 v' L.length (L.map fun i=>pt (g.rp i))
structure Closes(base x tb:Nat)(g:Gh)(cn:List (Int×Nat×Bs))(n:Nat)(s:St)(c:Int)(L:List Int)(v':Value)(w:World)(F:Ft)(k:Nat)(s':St)(wr:World):Prop where
 on:Closing n s c L k s'
 goes:Goes (aa (stA base x tb g cn s') (B5 g v' L)) w F wr
structure BA(base x tb:Nat)(g:Gh)(cn:List (Int×Nat×Bs))(n:Nat)(s:St)(c:Int)(L:List Int)(v':Value)(w:World)(F:Ft)(k:Nat)(s':St)(id:Int)(v2:Value)(i:Nat)(t:St)(wr:World):Prop where
 out:Closing n s c L k s'
 on:fO n s' id c i t
 goes:Goes (aa (stA base x tb g cn t) (aa (B5 g v' L) (rowA 127 1 v2 (own s' id c).length ((own s' id c).map fun a=>pt (g.ap (key a)))))) w F wr
section
variable{base x tb:Nat}{g:Gh}{cn:List (Int×Nat×Bs)}{n:Nat}{s s' t:St}{c id:Int}{L:List Int}{v' v2:Value}{w wr:World}{F:Ft}{k i:Nat}
theorem Closes.round(hn:n<=16776000)(h:Closes base x tb g cn n s c L v' w F k s' wr)(hk:k<L.length): ∃(b off cap:Nat),v'= .slice (some ⟨b,off,none⟩) L.length cap∧wr.cell? ⟨b,off+k,none⟩=some (pt (g.rp L[k]))∧ ∃(nn:Nat) (ao:Option Addr) (cp:Nat),nn<=16777210∧Hid (∀w1,Below wr.heap.size wr w1->w1.cell? ⟨g.rp L[k],7,none⟩=some (.slice ao nn cp))∧(own s' L[k] c).length<=16777216∧ ∀w1,Below wr.heap.size wr w1->Calls prog 78 #[.slice ao nn cp, .func (.func 124) #[] #[.pointer (some ⟨w1.heap.size,0,none⟩)]] (w1.alloc (.cells #[.int .i64 c] 3)) fun e w'=> ∃iw cM,e= .returned (.slice iw (own s' L[k] c).length cM)∧Below wr.heap.size wr w'∧Hid (BA base x tb g cn n s c L v' w F k s' L[k] (.slice iw (own s' L[k] c).length cM) 0 s' w'):=by
 obtain⟨F1,cd,o1,n1⟩:=h.goes;obtain⟨G,H,ha,hb,d,e⟩:=id cd;have pF:=h.on;have hz:=pF.sd.sz;have hm:=pF.rest L[k] (by rw[<-List.getElem_cons_drop (h:=hk)];exact dy ..);obtain⟨q,hq,yH,Ix⟩:=St.cz hm;obtain⟨nn,ao,cp,KD,ay,c7,u5⟩:=UX ha pF.sd.inv pF.sd.ok (by omega) hq c;have iO:=hb;unfold B5 at hb;obtain⟨aor,Hr,rfl,dF,bI⟩:=Mr.bO hb;obtain⟨b,off,rfl⟩:=bI (by omega);have vU:(own s' L[k] c).length<=16777216:=by have h1:(own s' L[k] c).length<=s'.af.length:=List.length_filter_le ..;unfold St.sz at hz;omega
 refine⟨b,off,Hr,rfl,by rw[bm hb k (by omega),List.getElem?_map,a7 hk];rfl,nn,ao,cp,KD,fun w1 hB=>by rw[cL hB ay];exact c7,vU,fun w1 hB=>(u5 w1 hB).mono ?_⟩;rintro e' w'⟨v2,rfl,yz,hg⟩;have rF:=hg;obtain⟨F2,eX,_⟩:=hg;obtain⟨_,_,_,bN,_⟩:=eX;obtain⟨iw,cM,rfl⟩:=aX (Goes.refl bN);refine⟨iw,cM,rfl,yz,pF,⟨pF.sd,pF.busy.mono (fun _ h=>h.elim),rfl,rfl,by simp[own]⟩, ?_⟩;refine aF o1 n1 ((aV iO rF d e).eq ?_)
 ac_rfl
theorem BA.round(T:Tabs base w)(hF: ∀k,F k->base<=k)(hn:n<=16776000)(h:BA base x tb g cn n s c L v' w F k s' id v2 i t wr){A:List At}(hA:own s' id c=A)(hi:i<A.length): ∃(b off cap:Nat),v2= .slice (some ⟨b,off,none⟩) A.length cap∧wr.cell? ⟨b,off+i,none⟩=some (pt (g.ap (key A[i])))∧Calls prog 80 #[pt x,pt tb,pt (g.ap (key A[i]))] wr fun e w3=>e= .returned (.tuple #[])∧Hid (∃t',BA base x tb g cn n s c L v' w F k s' id v2 (i+1) t' w3):=by
 subst hA;obtain⟨F1,cd,o1,n1⟩:=h.goes;obtain⟨G,H,ha,hb,d,e⟩:=_root_.id cd;have pF:=h.on;have hz:=pF.sd.sz;have T1:Tabs base wr:=T.goes hF ⟨F1,cd,o1,n1⟩;obtain⟨ix,sB,KJ⟩:=pF.step hi;obtain⟨Gr,kG,_⟩:=aM.left (aB hb (cA _ _));obtain⟨aor,Hr,rfl,dF,bI⟩:=Mr.bO kG;obtain⟨b,off,rfl⟩:=bI (by omega);refine⟨b,off,Hr,rfl, ?_, ?_⟩
 ·rw[bm kG i (by omega),List.getElem?_map,a7 hi];rfl
 ·refine(hE T1 ha pF.sd.inv pF.sd.ok (by omega) sB).mono ?_;rintro e' w3⟨rfl,kk,hg⟩;exact⟨rfl,_,h.out,KJ,aF o1 n1 (aV hb hg.drop d e)⟩
theorem BA.fin(T:Tabs base w)(hF: ∀k,F k->base<=k)(hn:n<=16776000)(hL:L.Pairwise (· < ·))(hk:k<L.length)(h:BA base x tb g cn n s c L v' w F k s' L[k] v2 (own s' L[k] c).length t wr):Calls prog 81 #[pt x,pt tb,pt (g.rp L[k])] wr fun e w3=>e= .returned (.tuple #[])∧Hid (∃wy,Closes base x tb g cn n s c L v' w F (k+1) wy w3):=by
 obtain⟨F1,cd,o1,n1⟩:=h.goes;obtain⟨G,H,ha,hb,d,e⟩:=id cd;have pF:=h.on;have T1:Tabs base wr:=T.goes hF ⟨F1,cd,o1,n1⟩;have hm:=h.out.rest L[k] (by rw[<-List.getElem_cons_drop (h:=hk)];exact dy ..);have Eg:L[k]∈t.ks.map (·.1):=by
  have:t.ks=s'.ks:=by unfold St.ks;rw[pF.reqs]
  rw[this];exact hm
 obtain⟨q,hq,yH,Ix⟩:=St.cz Eg;refine(jh T1 ha pF.sd hn hq pF.busy).mono ?_;rintro e' w3⟨rfl,hg⟩;refine⟨rfl,_,h.out.step hL hk pF, ?_⟩;have g3:=aF o1 n1 (aV hb hg d e);have g4:=g3.eq (bX _ _ _).symm;exact g4.drop
end
theorem Nd{base x tb:Nat}{g:Gh}{cn:List (Int×Nat×Bs)}{s:St}{w:World}{F:Ft}{n:Nat}(T:Tabs base w)(h:(stA base x tb g cn s).holds w F)(hs:Sd n s)(hn:n<=16776000)(A6:Busy s (fun _=>False))(c:Int):Calls prog 44 #[pt x,pt tb, .int .i64 c] w fun e w'=>e= .returned (.tuple #[])∧Goes (stA base x tb g cn (St.aQ s.reqs.length s c)) w F w':=by
 have hz:=hs.sz;have hF:=dx h;have HRQ:Hid (Calls prog 77 #[pt x, .int .i64 c] w fun e w'=> ∃(L:List Int) (iw:Option Addr) (cM:Nat),e= .returned (.slice iw L.length cM)∧L.length<=16777216∧Hid (L.Pairwise (· < ·))∧Hid (Closes base x tb g cn n s c L (.slice iw L.length cM) w F 0 s w')∧Hid (∀v' s' wr,Closes base x tb g cn n s c L v' w F L.length s' wr->Goes (stA base x tb g cn (St.aQ s.reqs.length s c)) w F wr)):=by
  show Calls _ _ _ _ _;refine(Q8 h hs.inv (by omega) c).mono ?_;rintro e w'⟨v',L,rfl,hp,hL,hg⟩;have rF:=hg;obtain⟨F2,eX,_⟩:=hg;obtain⟨_,_,_,bN,_⟩:=eX;obtain⟨iw,cM,rfl⟩:=aX (Goes.refl bN);have hlen:L.length<=s.reqs.length:=by rw[hp.length_eq];unfold St.gJ;rw[bf];exact List.length_filter_le ..
  have oJ:L.length<=16777216:=by unfold St.sz at hz;omega
  refine⟨L,iw,cM,rfl,oJ,hL,⟨⟨hs,A6,rfl,fun i hi=> ?_⟩,rF⟩,fun v' s' wr hc=> ?_⟩
  ·have Ab:i∈L:=by simpa using hi
   obtain⟨r,hr,_,e⟩:=St.oP.1 (hp.subset Ab);unfold St.ks;rw[aG];exact aA.2 ⟨r,hr,e⟩
  ·have:=hc.goes.drop;rw[hc.on.is,List.take_length,<-St.pQ L s.reqs.length s c hs.inv hp hL hlen]at this;exact this
 have HT:=hide T;have HF:=hide hF;clear h T hF;unfold pt at*;go_enter func44,ntmps44;go_wp2_with (first
  |(go_at_call 77;go_must(refine HRQ.out.mono ?_;rintro e w2⟨L,iw,cM,rfl,PN,HL,Y0,fg⟩)))
 clear HRQ;go_loopw [14] (fun i wr=> ∃k:Nat,k<=L.length∧i= .int .i64 k∧ ∃s',Hid (Closes base x tb g cn n s c L (.slice iw L.length cM) w F k s' wr)) (fun i _=>L.length-(intOf i).toNat)
 case atStart=>exact⟨0,aJ _,rfl,s,Y0⟩
 case round=>
  obtain⟨k,hk,rfl,s',pL⟩:=hrel;by_cases ay:k<L.length
  ·obtain⟨b,off,b9,ev,c0,nn,ao,cp,KD,Sr,vU,u5⟩:=pL.out.round hn ay;cases ev;have Hb:=hide u5;have c7:=Sr.out wr (ah _ _);have WO:Hid (∀v2 i (hi:i<(own s' L[k] c).length) t wr,BA base x tb g cn n s c L (.slice (some ⟨b,off,none⟩) L.length cM) w F k s' L[k] v2 i t wr->_):=fun v2 i hi t wr ho=>ho.round HT.out HF.out hn rfl hi;have WN:Hid (∀v2 t wr,BA base x tb g cn n s c L (.slice (some ⟨b,off,none⟩) L.length cM) w F k s' L[k] v2 (own s' L[k] c).length t wr->Calls _ _ _ _ _):=fun v2 t wr ho=>ho.fin HT.out HF.out hn HL.out ay;clear pL Y0 fg u5;unfold pt at*;generalize L[k]=id at*;generalize g.rp id=rp at*;go_wp2_with fail;go_region_held3 (fun w'=>w'.cell? ⟨rp,7,none⟩=some (.slice ao nn cp)) (go_keep)
    (first
     |(go_at_call 79;go_must(refine(lJ c _).mono ?_;rintro e w6⟨rfl,rfl⟩;have q2:=Sr.out _ ((ah wr.heap.size wr).drew.alloc (ae _) (.cells #[.int .i64 c] 3))))
     |(go_at_call 78;go_must(refine(Hb.out _ (ah _ _).drew).mono ?_;rintro e w7⟨cU,eA,rfl,D1,Y9⟩;have q3:=Sr.out _ D1)))
   all_goals
    clear Hb Sr q2 q3 D1 c7;generalize hA:own s' id c=A at*;go_wp2;go_loopw [26] (fun i wr=> ∃m:Nat,m<=A.length∧i= .int .i64 m∧ ∃t,Hid (BA base x tb g cn n s c L (.slice (some ⟨b,off,none⟩) L.length cM) w F k s' id (.slice cU A.length eA) m t wr)) (fun i _=>A.length-(intOf i).toNat)
    case atStart=>exact⟨0,aJ _,rfl,s',Y9⟩
    case round=>
     obtain⟨m,hm,rfl,t,GI⟩:=hrel;by_cases KC:m<A.length
     ·obtain⟨b2,fl,Xb,ev,d0,wQ⟩:=WO.out _ m KC t wr GI.out;cases ev;have jq:=hide wQ;clear WO WN GI Y9 wQ hA;generalize g.ap (key A[m])=ap at*;go_wp2_with (first
       |(go_at_call 80;go_must(refine jq.out.mono ?_;rintro e w3⟨rfl,uM⟩)))
      go_roundw
      case rel=>obtain⟨t',El⟩:=uM.out;exact⟨m+1,by omega,by go_num,t',El⟩
      case measure=>simp[intOf];omega
     ·obtain rfl:m=A.length:=by omega
      have CS:=hide (WN.out _ t wr GI.out);clear WO WN GI Y9 hA;go_wp2_with (first
       |(go_at_call 81;go_must(refine CS.out.mono ?_;rintro e w3⟨rfl,uM⟩)))
      go_roundw
      case rel=>obtain⟨wy,acR⟩:=uM.out;exact⟨k+1,by omega,by go_num,wy,acR⟩
      case measure=>simp[intOf];omega
  ·obtain rfl:k=L.length:=by omega
   have HE:=hide (fg.out _ _ _ pL.out);clear pL Y0 fg;go_wp2;go_end0;exact⟨rfl,HE.out⟩
