import Derived.Test.YtffamlbkmjmipaaGreatDoorB02
set_option maxHeartbeats 8000000
set_option maxRecDepth 100000
namespace Go.Proofs.YtffamlbkmjmipaaGreatDoor
namespace Mc
open bJ
structure Ok(s:St):Prop where
 gone: ∀x∈s.aq,x.drains=false->x.gone=false
 dr: ∀x∈s.aq,x.drains=true->(x.gone=true↔s.held x.n=0)∧x.n∉s.wait
 key:(s.af.map fun a=>(a.id,a.n)).Nodup
 num: ∀a∈s.af,∀r∈s.reqs,r.id=a.id->a.n<=r.n
 hd: ∀r∈s.reqs,r.bn=false->s.count r.id<=1∧(0<s.count r.id->s.waits r.id=false)
def Busy(s:St)(P:Int->Prop):Prop:= ∀r∈s.reqs,¬P r.id->s.waits r.id=true∨0<s.count r.id
theorem ck{α κ:Type}{k:α->κ}{l:List α}(hn:(l.map k).Nodup){x y:α}(hx:x∈l)(hy:y∈l)(e:k x=k y):x=y:=by
 have h:=List.pairwise_iff_getElem.1 hn;obtain⟨i,hi,rfl⟩:=List.getElem_of_mem hx;obtain⟨j,hj,rfl⟩:=List.getElem_of_mem hy;rcases Nat.lt_trichotomy i j with h'|h'|h'
 ·exact absurd (by rw[List.getElem_map,List.getElem_map];exact e) (h i j (by simpa using hi) (by simpa using hj) h')
 ·subst h';rfl
 ·exact absurd (by rw[List.getElem_map,List.getElem_map];exact e.symm) (h j i (by simpa using hj) (by simpa using hi) h')
section keyed
variable{α κ:Type} [BEq κ] [LawfulBEq κ](k:α->κ)(c:κ)
theorem cD(f:α->α){l:List α}(hn:(l.map k).Nodup):aK (fun x=>k x==c) f l=l.map (fun x=>if k x==c then f x else x):=by
 induction l with
 |nil=>rfl
 |cons x l ih=>
  rw[List.map_cons,List.nodup_cons]at hn;unfold aK;rw[List.map_cons];by_cases e:(k x==c)=true
  ·rw[if_pos e,if_pos e];congr 1;have: ∀y∈l,(if k y==c then f y else y)=y:=fun y hy=>if_neg (fun e'=>hn.1 (aA.2 ⟨y,hy,by rw[beq_iff_eq]at e e';rw[e,e']⟩));exact((bY this).trans (List.map_id _)).symm
  ·rw[if_neg e,if_neg e,ih hn.2]
theorem jE{l:List α}(hn:(l.map k).Nodup):dropFirst (fun x=>k x==c) l=l.filter (fun x=>k x !=c):=by
 induction l with
 |nil=>rfl
 |cons x l ih=>
  rw[List.map_cons,List.nodup_cons]at hn;unfold dropFirst;by_cases e:(k x==c)=true
  ·rw[if_pos e,List.filter_cons_of_neg (by simpa using e)];refine(List.filter_eq_self.2 fun y hy=> ?_).symm;have:k y≠c:=fun e'=>hn.1 (aA.2 ⟨y,hy,by rw[beq_iff_eq]at e;rw[e,e']⟩);simpa using this
  ·rw[if_neg e,List.filter_cons_of_pos (by simpa using e),ih hn.2]
end keyed
theorem gZ{α:Type}(p:α->Bool): ∀{l:List α} {i:Nat} {a:α},l[i]?=some a->(l.eraseIdx i).countP p+(if p a then 1 else 0)=l.countP p
 | [],i,a,h=>by simp at h
 |x::l,0,a,h=>by simp at h;subst h;simp[List.countP_cons]
 |x::l,i+1,a,h=>by
  have h':l[i]?=some a:=by simpa using h
  have:=gZ p h';simp only[List.eraseIdx_cons_succ,List.countP_cons];omega
namespace St
variable{s:St}
theorem Ik{i:Nat}{a:At}(h:s.af[i]?=some a)(c:Int):({s with af:=s.af.eraseIdx i}:St).held c+(if a.conn=c then 1 else 0)=s.held c:=by have:=gZ (fun x:At=>x.conn==c) h;simpa[held]using this
theorem count_erase{i:Nat}{a:At}(h:s.af[i]?=some a)(c:Int):({s with af:=s.af.eraseIdx i}:St).count c+(if a.id=c then 1 else 0)=s.count c:=by have:=gZ (fun x:At=>x.id==c) h;simpa[count]using this
theorem qA(i id:Int)(f:Bool):(s.a6 id f).waits i=true↔i=id∨s.waits i=true:=by
 rw[eD,eD];unfold a6;split
 ·rename_i ha;rw[<-(yu (id:=id) (first:=f) ha).mem_iff,List.mem_cons]
 ·simp[List.flatMap_append,or_comm]
theorem pg(i id:Int):(s.left id).waits i=true↔i≠id∧s.waits i=true:=by rw[eD,eD];unfold left;dsimp only;rw[vo,aR];simp[and_comm]
theorem iF{i:Int}:s.waits i=false↔ ¬s.waits i=true:=by simp
theorem fc(c:Int):(s.conn c).af=s.af∧(s.conn c).reqs=s.reqs∧(s.conn c).ring=s.ring∧(s.conn c).wait=s.wait∧(s.conn c).out=s.out∧(s.conn c).c=s.c∧(s.conn c).now=s.now∧(s.conn c).begun=s.begun:=by unfold conn;split<;>exact⟨rfl,rfl,rfl,rfl,rfl,rfl,rfl,rfl⟩
theorem EX{c:Int}{x:Cn}(h:x∈(s.conn c).aq):x∈s.aq∨x=⟨c, [],false,false⟩:=by
 unfold conn at h;split at h
 ·exact .inl h
 ·rcases List.mem_append.1 h with h|h
  ·exact .inl h
  ·exact .inr (cY.1 h)
end St
namespace Ok
variable{s:St}
theorem say(h:Ok s)(c:Int)(t:Bs):Ok (s.say c t):=⟨h.gone,h.dr,h.key,h.num,h.hd⟩
theorem told(h:Ok s):Ok s.told:=⟨h.gone,h.dr,h.key,h.num,h.hd⟩
theorem now(h:Ok s)(n:Int):Ok {s with now:=n}:=⟨h.gone,h.dr,h.key,h.num,h.hd⟩
theorem conn(h:Ok s)(c:Int):Ok (s.conn c):=by
 obtain⟨e1,e2,e3,e4,_⟩:=St.fc (s:=s) c;refine⟨fun x hx hd=> ?_,fun x hx hd=> ?_,by rw[e1];exact h.key,by rw[e1,e2];exact h.num, ?_⟩
 ·rcases St.EX hx with hx|rfl
  ·exact h.gone x hx hd
  ·rfl
 ·unfold St.held;rw[e1,e4];rcases St.EX hx with hx|rfl
  ·exact h.dr x hx hd
  ·cases hd
 ·unfold St.count St.waits;rw[e1,e2,e3];exact h.hd
theorem fJ(hn:(s.aq.map (·.n)).Nodup)(c:Int)(gone: ∀x∈s.aq,x.drains=false->x.gone=false)(dr: ∀x∈s.aq,x.drains=true->(x.n≠c->(x.gone=true↔s.held x.n=0))∧(x.n=c->x.gone=true->s.held x.n=0)∧x.n∉s.wait)(key:(s.af.map fun a=>(a.id,a.n)).Nodup)(num: ∀a∈s.af,∀r∈s.reqs,r.id=a.id->a.n<=r.n)(hd: ∀r∈s.reqs,r.bn=false->s.count r.id<=1∧(0<s.count r.id->s.waits r.id=false)):Ok (s.fJ c):=by
 unfold St.fJ;split
 ·rename_i hif;rw[bZ,List.any_eq_true]at hif;obtain⟨⟨y,hy,Mp⟩,h0⟩:=hif;simp only[bZ,beq_iff_eq,Bool.not_eq_true']at Mp;have xt:s.held c=0:=by simpa using h0
  refine say (s:={s with aq:=aK (fun x=>x.n==c) (fun x=>{x with gone:=true}) s.aq}) ⟨fun x hx mH=> ?_,fun x hx mH=> ?_,key,num,hd⟩ _ _
  ·dsimp only at hx;rw[cD (fun x:Cn=>x.n) c (fun x=>{x with gone:=true}) hn]at hx;obtain⟨z,hz,rfl⟩:=aA.1 hx;by_cases e:z.n=c
   ·obtain rfl:=ck hn hz hy (e.trans Mp.1.1.symm);simp[e,Mp.1.2]at mH
   ·simp only[beq_iff_eq,if_neg e]at mH⊢;exact gone z hz mH
  ·dsimp only at hx;rw[cD (fun x:Cn=>x.n) c (fun x=>{x with gone:=true}) hn]at hx;obtain⟨z,hz,rfl⟩:=aA.1 hx;show(_↔s.held _=0)∧_∉s.wait;by_cases e:z.n=c
   ·simp only[beq_iff_eq,if_pos e]at mH⊢;exact⟨by rw[e,xt];simp,(dr z hz mH).2.2⟩
   ·simp only[beq_iff_eq,if_neg e]at mH⊢;exact⟨(dr z hz mH).1 e,(dr z hz mH).2.2⟩
 ·rename_i hif;refine⟨gone,fun x hx mH=> ?_,key,num,hd⟩;obtain⟨h1,h2,h3⟩:=dr x hx mH;refine⟨?_,h3⟩;by_cases e:x.n=c
  ·refine⟨h2 e,fun h0=> ?_⟩;cases hg:x.gone with
   |true=>rfl
   |false=>exfalso;apply hif;rw[bZ,List.any_eq_true];exact⟨⟨x,hx,by simp[e,mH,hg]⟩,by rw[<-e];simpa using h0⟩
  ·exact h1 e
theorem aS(h:Ok s)(hi:Inv s)(i:Nat):Ok (s.aS i):=by
 unfold St.aS;split
 ·rename_i a ha;refine fJ (s:={s with af:=s.af.eraseIdx i}) hi.cn a.conn h.gone (fun x hx mH=> ?_) ?_ (fun b hb=>h.num b (List.mem_of_mem_eraseIdx hb)) (fun r hr qO=> ?_)
  ·obtain⟨h1,h2⟩:=h.dr x hx mH;have he:=St.Ik ha x.n;refine⟨fun cC=> ?_,fun e hg=> ?_,h2⟩
   ·rw[if_neg (Ne.symm cC),Nat.add_zero]at he;rw[he];exact h1
   ·have:=h1.1 hg;omega
  ·show((s.af.eraseIdx i).map fun a=>(a.id,a.n)).Nodup;exact((List.eraseIdx_sublist ..).map _).nodup h.key
  ·obtain⟨h1,h2⟩:=h.hd r hr qO;have he:=St.count_erase ha r.id;refine⟨by omega,fun h0=>h2 (by omega)⟩
 ·exact h
theorem idle(h:Ok s)(c:Int):Ok (s.idle c):=⟨h.gone,fun x hx mH=>⟨(h.dr x hx mH).1,fun hm=>(h.dr x hx mH).2 (aR.1 hm).1⟩,h.key,h.num,h.hd⟩
theorem a6(h:Ok s)(id:Int)(f:Bool)(hc: ∀r∈s.reqs,r.id=id->r.bn=false->s.count id=0):Ok (s.a6 id f):=by
 obtain⟨_,e1,e2,e4,e5,_⟩:=St.fQ (s:=s) id f;refine⟨by rw[e5];exact h.gone, ?_,by rw[e1];exact h.key,by rw[e1,e2];exact h.num,fun r hr qO=> ?_⟩
 ·unfold St.held;rw[e1,e4,e5];exact h.dr
 ·rw[e2]at hr;have ec:(s.a6 id f).count r.id=s.count r.id:=by unfold St.count;rw[e1]
  obtain⟨h1,h2⟩:=h.hd r hr qO;rw[ec];refine⟨h1,fun h0=> ?_⟩;rw[St.iF,St.qA];rintro(e|e)
  ·have:=hc r hr e qO;rw[e]at h0;omega
  ·rw[h2 h0]at e;cases e
theorem left(h:Ok s)(id:Int):Ok (s.left id):=by refine⟨h.gone,h.dr,h.key,h.num,fun r hr qO=>⟨(h.hd r hr qO).1,fun h0=> ?_⟩⟩;rw[St.iF,St.pg];rintro⟨_,e⟩;rw[(h.hd r hr qO).2 h0]at e;cases e
theorem reqs(h:Ok s)(l:List Rq)(hl: ∀r∈l,r∈s.reqs):Ok {s with reqs:=l}:=⟨h.gone,h.dr,h.key,fun a ha r hr=>h.num a ha r (hl r hr),fun r hr=>h.hd r (hl r hr)⟩
theorem bu(h:Ok s)(id:Int)(f:Rq->Rq)(h1: ∀r,(f r).id=r.id)(h2: ∀r,r.n<=(f r).n)(h3: ∀r,(f r).bn=false->r.bn=false):Ok (s.bu id f):=by
 refine⟨h.gone,h.dr,h.key,fun a ha r hr e=> ?_,fun r hr qO=> ?_⟩
 ·rcases cR hr with hr|⟨y,hy,_,rfl⟩
  ·exact h.num a ha r hr e
  ·exact Int.le_trans (h.num a ha y hy (by rw[<-h1];exact e)) (h2 y)
 ·rcases cR hr with hr|⟨y,hy,_,rfl⟩
  ·exact h.hd r hr qO
  ·rw[h1];exact h.hd y hy (h3 y qO)
theorem stops: ∀(f:Nat) {s:St} (id:Int),Ok s->Inv s->Ok (St.stops f s id)
 |0,_,_,h,_=>h
 |f+1,s,id,h,hi=>by
  unfold St.stops;split
  ·exact h
  ·split
   ·exact h
   ·exact stops f id ((h.say _ _).aS (St.bM hi _ _) _) (St.br (St.bM hi _ _) _)
theorem shut(h:Ok s)(hi:Inv s)(id:Int):Ok (s.shut id):=
 ((stops s.af.length id h hi).left id).reqs _ (fun _ hr=>(gp _ _).subset hr)
theorem again(h:Ok s)(hi:Inv s)(id:Int)(counts:Bool):Ok (s.again id counts):=by
 unfold St.again;split
 ·exact h
 ·rename_i hw;have hc:s.count id=0:=by
   rw[Bool.or_eq_true]at hw;have: ¬(decide (0<s.count id)=true):=fun e=>hw (.inr e);simpa using this
  split
  ·exact h
  ·split
   ·exact(h.say _ _).shut (St.bM hi _ _) _
   ·split
    ·exact(h.bu id (fun r=>{r with left:=r.left-1}) (fun _=>rfl) (fun _=>Int.le_refl _) (fun _ h=>h)).a6 _ _ (fun _ _ _ _=>hc)
    ·exact h.a6 _ _ (fun _ _ _ _=>hc)
end Ok
end Mc
namespace Mc
open bJ
namespace St
variable{s:St}
theorem vD(hi:Inv s){r:Rq}(h:r∈s.reqs):s.req r.id=some r:=by obtain⟨r',h1,h2,h3⟩:=cz (s:=s) (i:=r.id) (by unfold ks;rw[aG];exact aA.2 ⟨r,h,rfl⟩);have hn:=hi.rid;unfold ks at hn;rw[aG]at hn;rw[h1,ck (k:=fun r:Rq=>r.id) hn h2 h h3]
theorem A3{l:Ln}{k:Nat}{id:Int}(hl:s.ring[k]?=some l)(hid:l.ids.head?=some id):(s.ring.flatMap (·.ids)).Perm (id::(s.ring.eraseIdx k++rest l).flatMap (·.ids)):=by
 refine(sy hl).trans ?_;rw[List.flatMap_append];have:l.ids=id::(rest l).flatMap (·.ids):=by
  unfold rest;split
  ·rename_i a b t hh;rw[hh]at hid⊢;simp at hid⊢;exact hid
  ·rename_i hh
   match hm:l.ids with
   | []=>rw[hm]at hid;cases hid
   | [a]=>rw[hm]at hid;simp at hid;subst hid;rfl
   |a::b::t=>exact absurd hm (hh a b t)
 rw[this];exact(List.perm_append_comm.cons id)
def giving(s:St)(c:Int)(ws:List Int)(k:Nat)(l:Ln)(id:Int)(r:Rq):St:=
 {s with wait:=ws,ring:=s.ring.eraseIdx k++rest l,reqs:=aK (·.id==id) (fun r=>{r with n:=r.n+1}) s.reqs,af:=s.af++ [⟨id,r.n+1,c,s.now,s.now+s.c.le⟩],begun:=s.begun+1}
theorem xq{c:Int}{ws:List Int}{k:Nat}{l:Ln}{id:Int}{r:Rq}(hl:s.ring[k]?=some l)(hid:l.ids.head?=some id)(hr:s.req id=some r):s.give c ws k=(s.giving c ws k l id r).say c (runText r (r.n+1)):=by unfold give;rw[hl];dsimp only;rw[hid];dsimp only;rw[hr];rfl
theorem zo(hi:Inv s){k:Nat}{l:Ln}(hl:s.ring[k]?=some l): ∃id r,l.ids.head?=some id∧s.req id=some r∧r.ten=l.ten:=by
 obtain⟨h1,h2⟩:=hi.ring l (dn hl)
 match hm:l.ids with
 | []=>exact absurd hm h1
 |id::t=>have hk:=h2 id (by rw[hm];exact dy ..);obtain⟨r,hr,Eg,e⟩:=cz (lM hk);refine⟨id,r,rfl,hr, ?_⟩;have:=zw hi hk;unfold ten at this;rw[hr]at this;exact this
end St
namespace Ok
variable{s:St}
theorem give(h:Ok s)(hi:Inv s)(c:Int)(ws:List Int)(k:Nat)(hw:s.wait=c::ws):Ok (s.give c ws k):=by
 cases hl:s.ring[k]? with
 |none=>unfold St.give;rw[hl];exact h
 |some l=>
  obtain⟨id,r,hid,hr,_⟩:=St.zo hi hl;rw[St.xq hl hid hr];obtain⟨KI,oK,_⟩:=St.oY hr;have hp:=St.A3 hl hid;have jJ:=hp.nodup_iff.1 hi.once;have acY:s.waits id=true:=by rw[St.eD,hp.mem_iff];exact dy ..
  refine say (s:=s.giving c ws k l id r) ⟨h.gone,fun x hx mH=> ?_, ?_,fun a ha q hq e=> ?_,fun q hq wT=> ?_⟩ _ _
  ·obtain⟨h1,h2⟩:=h.dr x hx mH;rw[hw]at h2;have cC:x.n≠c:=fun e=>h2 (by rw[e];exact dy ..);refine⟨?_,fun hm=>h2 (bt _ hm)⟩;have:(s.giving c ws k l id r).held x.n=s.held x.n:=by
    unfold St.held St.giving;rw[List.countP_append];simp[Ne.symm cC]
   rw[this];exact h1
  ·show((s.af++ [_]).map fun a:At=>(a.id,a.n)).Nodup;rw[aH,List.nodup_append];refine⟨h.key,by simp,fun a ha b hb e=> ?_⟩;simp at hb;subst hb;obtain⟨x,hx,rfl⟩:=aA.1 ha;injection e with e1 e2
   have:=h.num x hx r KI (by rw[oK,e1]);omega
  ·unfold St.giving at ha hq;dsimp only at ha hq;rcases cR hq with ng|⟨y,hy,bB,rfl⟩
   ·rcases List.mem_append.1 ha with ha|ha
    ·exact h.num a ha q ng e
    ·obtain rfl:=cY.1 ha;dsimp only at e⊢;exfalso;have hn:=hi.rid;unfold St.ks at hn;rw[aG]at hn;rw[cD (fun r:Rq=>r.id) id _ hn]at hq;obtain⟨z,hz,ez⟩:=aA.1 hq;by_cases e3:z.id=id
     ·simp only[e3,beq_self_eq_true,if_true]at ez;have e4:z=q:=ck (k:=fun r:Rq=>r.id) hn hz ng (by rw[e3,e]);subst e4;have:=congrArg Rq.n ez;simp at this;omega
     ·simp only[beq_iff_eq,if_neg e3]at ez;subst ez;exact e3 e
   ·have ey:y.id=id:=by simpa using bB
    rcases List.mem_append.1 ha with ha|ha
    ·have:=h.num a ha y hy e;show a.n<=y.n+1;omega
    ·obtain rfl:=cY.1 ha;have hn:=hi.rid;unfold St.ks at hn;rw[aG]at hn;obtain rfl:y=r:=ck (k:=fun r:Rq=>r.id) hn hy KI (by rw[ey,oK]);exact Int.le_refl _
  ·have hc: ∀i,(s.giving c ws k l id r).count i=s.count i+if id=i then 1 else 0:=by
    intro i;unfold St.count St.giving;rw[List.countP_append];simp
   obtain⟨y,hy,ey,hh⟩: ∃y∈s.reqs,y.id=q.id∧y.bn=false:=by
    unfold St.giving at hq;dsimp only at hq;rcases cR hq with hq|⟨y,hy,_,rfl⟩
    ·exact⟨q,hq,rfl,wT⟩
    ·exact⟨y,hy,rfl,wT⟩
   obtain⟨h1,h2⟩:=h.hd y hy hh;rw[hc,<-ey];by_cases e:id=y.id
   ·rw[if_pos e];have h0:s.count y.id=0:=by
     rcases Nat.eq_zero_or_pos (s.count y.id)with h|h
     ·exact h
     ·have:=h2 h;rw[<-e,acY]at this;cases this
    refine⟨by omega,fun _=> ?_⟩;rw[St.iF,St.eD];rw[<-e];exact(List.nodup_cons.1 jJ).1
   ·rw[if_neg e];refine⟨h1,fun h0=> ?_⟩;have:=h2 h0;rw[St.iF,St.eD]at this⊢;intro hm;exact this (hp.mem_iff.2 (bt _ hm))
theorem cS: ∀(f:Nat) {s:St},Ok s->Inv s->Ok (St.cS f s)
 |0,_,h,_=>h
 |f+1,s,h,hi=>by
  unfold St.cS;split
  ·exact h
  ·rename_i c ws hw;split
   ·exact h
   ·exact cS f (h.give hi c ws _ hw) (St.lF hi c ws (by rw[hw];exact List.sublist_cons_self ..) _)
theorem serve(h:Ok s)(hi:Inv s):Ok s.serve:=cS _ h hi
theorem cV: ∀(f:Nat) {s:St},Ok s->Inv s->Ok (St.cV f s)
 |0,_,h,_=>h
 |f+1,s,h,hi=>by
  unfold St.cV;split
  ·exact h
  ·split
   ·exact h
   ·have h1:=St.bM hi;exact cV f (((h.say _ _).aS (h1 _ _) _).again (St.br (h1 _ _) _) _ _) (St.eC (St.br (h1 _ _) _) _ _)
theorem bA(h:Ok s)(hi:Inv s)(a:At):Ok (s.bA a):=by
 unfold St.bA;split
 ·exact h
 ·rename_i r hr;split
  ·refine(h.bu a.id (fun r=>{r with bn:=true}) (fun _=>rfl) (fun _=>Int.le_refl _) (fun _ h=>by cases h)).a6 _ _ (fun q hq e hh=> ?_);exfalso;have hn:=hi.rid;unfold St.ks at hn;rw[aG]at hn;unfold St.bu at hq;dsimp only at hq;rw[cD (fun r:Rq=>r.id) a.id _ hn]at hq;obtain⟨z,hz,ez⟩:=aA.1 hq;by_cases e3:z.id=a.id
   ·simp only[e3,beq_self_eq_true,if_true]at ez;subst ez;cases hh
   ·simp only[beq_iff_eq,if_neg e3]at ez;subst ez;exact e3 e
  ·exact h
theorem fold: ∀(l:List At) {s:St},Ok s->Inv s->Ok (l.foldl St.bA s)
 | [],_,h,_=>h
 |a::l,s,h,hi=>by rw[List.foldl_cons];exact fold l (h.bA hi a) (St.oG hi a)
theorem eE(h:Ok s)(hi:Inv s):Ok s.eE:=fold _ h hi
theorem tick(h:Ok s)(hi:Inv s):Ok s.tick:=
 ((cV _ (h.now _) (St.kU hi _)).eE (St.jL _ (St.kU hi _))).serve (St.jH (St.jL _ (St.kU hi _)))
theorem bH: ∀(f:Nat) {s:St} (i:Nat) (id c:Int),Ok s->Inv s->Ok (St.bH f s i id c)
 |0,_,_,_,_,h,_=>h
 |f+1,s,i,id,c,h,hi=>by
  unfold St.bH;split
  ·exact h
  ·split
   ·exact bH f _ _ _ (h.aS hi _) (St.br hi _)
   ·exact bH f _ _ _ h hi
theorem aQ: ∀(f:Nat) {s:St} (c:Int),Ok s->Inv s->Ok (St.aQ f s c)
 |0,_,_,h,_=>h
 |f+1,s,c,h,hi=>by
  unfold St.aQ;split
  ·exact h
  ·have Ab:=(St.eK s.af.length s 0 (by assumption) c).inv hi;exact aQ f c ((bH _ _ _ _ h hi).shut Ab _) (St.ji Ab _)
theorem aP: ∀(f:Nat) {s:St} (c:Int),Ok s->Inv s->Ok (St.aP f s c)
 |0,_,_,h,_=>h
 |f+1,s,c,h,hi=>by
  unfold St.aP;split
  ·exact h
  ·split
   ·exact h
   ·exact aP f c ((h.aS hi _).again (St.br hi _) _ _) (St.eC (St.br hi _) _ _)
theorem less(h:Ok s)(p:Cn->Bool):Ok {s with aq:=s.aq.filter p}:=⟨fun x hx=>h.gone x (aR.1 hx).1,fun x hx=>h.dr x (aR.1 hx).1,h.key,h.num,h.hd⟩
theorem close(h:Ok s)(hi:Inv s)(c:Int):Ok (s.close c):=by have h1:=St.iY hi c;have GP:Inv ({s.idle c with aq:=(s.idle c).aq.filter (·.n !=c)}:St):=⟨h1.rid,h1.bS,h1.ring,h1.fP,h1.once,(List.filter_sublist.map _).nodup h1.cn,h1.wt⟩;have h2:=(h.idle c).less (·.n !=c);exact(aP _ _ (aQ _ _ h2 GP) (St.dW _ _ GP)).serve (St.fY _ _ (St.dW _ _ GP))
end Ok
end Mc
namespace Mc
open bJ
namespace St
variable{s:St}
theorem fresh(hi:Inv s){id:Int}(h:s.req id=none):s.count id=0∧s.waits id=false∧id∉s.ks.map (·.1):=by
 have NY:id∉s.ks.map (·.1):=fun hk=>by obtain⟨r,hr,_⟩:=cz hk;rw[hr]at h;cases h
 refine⟨Hu (fun a ha e=>NY (e▸hi.bS a ha)), ?_,NY⟩;rw[iF,eD];intro e;obtain⟨l,hl,hm⟩:=List.mem_flatMap.1 e;exact NY (lM ((hi.ring l hl).2 _ hm))
def more(s:St)(r:Rq):St:={s with reqs:=s.reqs++ [r]}
end St
namespace Ok
variable{s:St}
theorem more(h:Ok s)(hi:Inv s)(r:Rq)(hr:s.req r.id=none):Ok (s.more r):=by
 obtain⟨hc,hw,hk⟩:=St.fresh hi hr;refine⟨h.gone,h.dr,h.key,fun a ha q hq e=> ?_,fun q hq hh=> ?_⟩
 ·rcases List.mem_append.1 hq with hq|hq
  ·exact h.num a ha q hq e
  ·obtain rfl:=cY.1 hq;exact absurd (hi.bS a ha) (e▸hk)
 ·rcases List.mem_append.1 hq with hq|hq
  ·exact h.hd q hq hh
  ·obtain rfl:=cY.1 hq;exact⟨by show s.count q.id<=1;omega,fun h0=>by have:0<s.count q.id:=h0;omega⟩
theorem bU(h:Ok s)(hi:Inv s)(c:Int)(m:Mg):Ok (s.bU c m):=by
 unfold St.bU;split
 ·exact h.say _ _
 ·split
  ·exact h.say _ _
  ·rename_i h1 _;have hn:s.req m.id=none:=by
    cases e:s.req m.id with
    |none=>rfl
    |some r=>rw[e]at h1;simp at h1
   exact((h.more hi ⟨m.id,c,m.ten,m.txt,0,s.c.re,false⟩ hn).say _ _).a6 _ _ (fun _ _ _ _=>(St.fresh hi hn).1)
theorem drain(h:Ok s)(hi:Inv s)(c:Int):Ok ((({s with aq:=aK (fun x=>x.n==c) (fun x=>{x with drains:=true}) s.aq}:St).idle c).fJ c):=by
 have Ab:=St.k5 hi (fun x=>{x with drains:=true}) (fun _=>rfl) (fun x=>x.n==c);refine fJ (s:=({s with aq:=aK (fun x=>x.n==c) (fun x=>{x with drains:=true}) s.aq}:St).idle c) Ab.cn c (fun x hx mH=> ?_) (fun x hx mH=> ?_) h.key h.num h.hd
 ·have GU:x∈aK (fun x=>x.n==c) (fun x=>({x with drains:=true}:Cn)) s.aq:=hx;rw[cD (fun x:Cn=>x.n) c _ hi.cn]at GU;obtain⟨z,hz,rfl⟩:=aA.1 GU;by_cases e:z.n=c
  ·simp[e]at mH
  ·simp only[beq_iff_eq,if_neg e]at mH⊢;exact h.gone z hz mH
 ·have GU:x∈aK (fun x=>x.n==c) (fun x=>({x with drains:=true}:Cn)) s.aq:=hx;rw[cD (fun x:Cn=>x.n) c _ hi.cn]at GU;obtain⟨z,hz,rfl⟩:=aA.1 GU;show(_->(_↔s.held _=0))∧(_->_->s.held _=0)∧_∉s.wait.filter (· !=c);by_cases e:z.n=c
  ·simp only[beq_iff_eq,if_pos e];refine⟨fun h=>absurd e h,fun _ hg=> ?_,by simp[e]⟩;cases hd:z.drains with
   |false=>rw[h.gone z hz hd]at hg;cases hg
   |true=>exact(h.dr z hz hd).1.1 hg
  ·simp only[beq_iff_eq,if_neg e]at mH⊢;exact⟨fun _=>(h.dr z hz mH).1,fun h=>absurd h e,fun hm=>(h.dr z hz mH).2 (aR.1 hm).1⟩
theorem message(h:Ok s)(hi:Inv s)(c:Int)(m:Mg):Ok (s.message c m):=by
 unfold St.message;split
 ·exact h.bU hi c m
 split
 ·split
  ·exact h.say _ _
  ·split
   ·exact(h.say _ _).shut (St.bM hi _ _) _
   ·exact h.say _ _
 split
 ·split
  ·exact h
  ·have h1:=h.conn c;dsimp only;split
   ·exact h1
   ·rename_i XD;refine⟨h1.gone,fun x hx mH=>⟨(h1.dr x hx mH).1,fun hm=> ?_⟩,h1.key,h1.num,h1.hd⟩;rcases List.mem_append.1 hm with hm|hm
    ·exact(h1.dr x hx mH).2 hm
    ·have e:=cY.1 hm;apply XD;unfold St.drains;have hf:(s.conn c).aq.find? (·.n==c)=some x:=by
      have hs:((s.conn c).aq.find? (·.n==c)).isSome:=List.find?_isSome.2 ⟨x,hx,by simpa using e⟩;obtain⟨y,hy⟩:=Option.isSome_iff_exists.1 hs;rw[hy,ck (k:=fun x:Cn=>x.n) (St.lA hi c).cn (dT hy) hx (by rw[show y.n=c by simpa using List.find?_some hy,e])]
     rw[hf];exact mH
 split
 ·have e1: ∀(l:List At),(l.map (fun a=>if(a.conn==c)=true then({a with eV:=s.now+s.c.le}:At)else a)).map (fun a=>(a.id,a.n,a.conn))=l.map (fun a=>(a.id,a.n,a.conn)):=by
   intro l;rw[aG];apply bY;intro a _;show((if(a.conn==c)=true then({a with eV:=s.now+s.c.le}:At)else a).id,(if(a.conn==c)=true then({a with eV:=s.now+s.c.le}:At)else a).n,(if(a.conn==c)=true then({a with eV:=s.now+s.c.le}:At)else a).conn)=_;split<;>rfl
  have hc: ∀(p:Int×Int×Int->Bool) (l:List At),(l.map (fun a=>if(a.conn==c)=true then({a with eV:=s.now+s.c.le}:At)else a)).countP (fun a=>p (a.id,a.n,a.conn))=l.countP (fun a=>p (a.id,a.n,a.conn)):=by intro p l;have:=congrArg (List.countP p) (e1 l);simp only[List.countP_map,Function.comp_def]at this⊢;exact this
  refine⟨h.gone,fun x hx mH=> ?_, ?_,fun a ha r hr e=> ?_,fun r hr qO=> ?_⟩
  ·have:=hc (fun y=>y.2.2==x.n) s.af;refine⟨?_,(h.dr x hx mH).2⟩;show(_↔St.held {s with af:=s.af.map _} x.n=0);unfold St.held;dsimp only;rw[this];exact(h.dr x hx mH).1
  ·have:=congrArg (List.map (fun y:Int×Int×Int=>(y.1,y.2.1))) (e1 s.af);have h2:((s.af.map (fun a=>if(a.conn==c)=true then({a with eV:=s.now+s.c.le}:At)else a)).map fun a=>(a.id,a.n))=s.af.map fun a=>(a.id,a.n):=by
    simp only[aG,Function.comp_def]at this⊢;exact this
   show((s.af.map (fun a=>if(a.conn==c)=true then({a with eV:=s.now+s.c.le}:At)else a)).map fun a=>(a.id,a.n)).Nodup;rw[h2];exact h.key
  ·obtain⟨y,hy,rfl⟩:=aA.1 ha;have:(if(y.conn==c)=true then({y with eV:=s.now+s.c.le}:At)else y).id=y.id∧(if(y.conn==c)=true then({y with eV:=s.now+s.c.le}:At)else y).n=y.n:=by split<;>exact⟨rfl,rfl⟩
   rw[this.1]at e;rw[this.2];exact h.num y hy r hr e
  ·have:=hc (fun y=>y.1==r.id) s.af;have e2:St.count {s with af:=s.af.map (fun a=>if(a.conn==c)=true then({a with eV:=s.now+s.c.le}:At)else a)} r.id=s.count r.id:=this;rw[e2];exact h.hd r hr qO
 split
 ·split
  ·exact h
  ·split
   ·exact h
   ·exact((h.say _ _).aS (St.bM hi _ _) _).shut (St.br (St.bM hi _ _) _) _
 split
 ·split
  ·exact h
  ·exact(h.aS hi _).again (St.br hi _) _ _
 split
 ·exact(h.conn c).drain (St.lA hi c) c
 ·exact h
end Ok
namespace Busy
variable{s:St}{P Q:Int->Prop}
theorem say(h:Busy s P)(c:Int)(t:Bs):Busy (s.say c t) P:=h
theorem mono(h:Busy s P)(hq: ∀i,P i->Q i):Busy s Q:=fun r hr hn=>h r hr (fun hp=>hn (hq _ hp))
theorem conn(h:Busy s P)(c:Int):Busy (s.conn c) P:=by obtain⟨e1,e2,e3,_⟩:=St.fc (s:=s) c;unfold Busy St.waits St.count;rw[e1,e2,e3];exact h
theorem fJ(h:Busy s P)(c:Int):Busy (s.fJ c) P:=by obtain⟨_,e1,e3,e2,_⟩:=St.sx (s:=s) c;unfold Busy St.waits St.count;rw[e1,e2,e3];exact h
theorem aS{i:Nat}{a:At}(h:Busy s P)(ha:s.af[i]?=some a):Busy (s.aS i) (fun x=>P x∨x=a.id):=by unfold St.aS;rw[ha];refine fJ ?_ _;intro r hr hn;have V3: ¬P r.id∧r.id≠a.id:=⟨fun h=>hn (.inl h),fun h=>hn (.inr h)⟩;have:=St.count_erase ha r.id;rw[if_neg (Ne.symm V3.2),Nat.add_zero]at this;rw[this];exact h r hr V3.1
theorem a6(h:Busy s P)(id:Int)(f:Bool):Busy (s.a6 id f) (fun x=>P x∧x≠id):=by
 obtain⟨_,e1,e2,_⟩:=St.fQ (s:=s) id f;intro r hr hn;rw[e2]at hr;by_cases e:r.id=id
 ·exact .inl (St.qA r.id id f|>.2 (.inl e))
 ·have:=h r hr (fun hp=>hn ⟨hp,e⟩);rcases this with h|h
  ·exact .inl (St.qA r.id id f|>.2 (.inr h))
  ·right;unfold St.count at h⊢;rw[e1];exact h
theorem bu(h:Busy s P)(id:Int)(f:Rq->Rq)(h1: ∀r,(f r).id=r.id):Busy (s.bu id f) P:=by
 intro r hr hn;rcases cR hr with hr|⟨y,hy,_,rfl⟩
 ·exact h r hr hn
 ·rw[h1]at hn⊢;exact h y hy hn
theorem wB: ∀(f:Nat) (s:St) (id i:Int),i≠id->(St.stops f s id).count i=s.count i
 |0,_,_,_,_=>rfl
 |f+1,s,id,i,h=>by
  unfold St.stops;split
  ·rfl
  ·rename_i k hk;obtain⟨x,hx,hp⟩:=St.eJ hk;rw[hx];dsimp only;rw[wB f _ id i h];have e1:=(St.cG (s:=s.say x.conn (St.aD id x.n)) k).2.1;have:=St.count_erase hx i;have ex:x.id=id:=by simpa using hp
   rw[if_neg (by rw[ex];exact Ne.symm h),Nat.add_zero]at this;rw[<-this];unfold St.count;rw[e1];rfl
theorem shut{id:Int}(h:Busy s (fun x=>P x∨x=id))(hi:Inv s):Busy (s.shut id) P:=by
 intro r hr hn;have hs:=St.iE s.af.length s id;have qO:r∈dropFirst (fun x=>x.id==id) s.reqs:=by have:r∈dropFirst (fun x=>x.id==id) (St.stops s.af.length s id).reqs:=hr;rw[hs.reqs]at this;exact this
 have jJ:=hi.rid;unfold St.ks at jJ;rw[aG]at jJ;rw[jE (fun r:Rq=>r.id) id jJ]at qO;obtain⟨X2,cC⟩:=aR.1 qO;have Iq:r.id≠id:=by simpa using cC
 rcases h r X2 (fun hp=>hp.elim hn Iq)with h|h
 ·left;have:((St.stops s.af.length s id).left id).waits r.id=true:=by
   rw[St.pg];refine⟨Iq, ?_⟩;unfold St.waits at h⊢;rw[hs.ring];exact h
  exact this
 ·right;show 0<(St.stops s.af.length s id).count r.id;rw[wB _ _ _ _ Iq];exact h
theorem again{id:Int}(h:Busy s (fun x=>P x∨x=id))(hi:Inv s)(counts:Bool):Busy (s.again id counts) P:=by
 unfold St.again;split
 ·rename_i hw;intro r hr hn;by_cases e:r.id=id
  ·rw[e];rw[Bool.or_eq_true]at hw;simpa using hw
  ·exact h r hr (fun hp=>hp.elim hn e)
 ·split
  ·rename_i hr;intro r qO hn;refine h r qO (fun hp=>hp.elim hn (fun e=> ?_));rw[<-e,St.vD hi qO]at hr;cases hr
  ·split
   ·exact shut (s:=St.say s _ _) h (St.bM hi _ _)
   ·split
    ·exact((h.bu id (fun r=>{r with left:=r.left-1}) (fun _=>rfl)).a6 id true).mono (fun i hp=>hp.1.elim (fun h=>h) (fun e=>absurd e hp.2))
    ·exact(h.a6 id true).mono (fun i hp=>hp.1.elim (fun h=>h) (fun e=>absurd e hp.2))
theorem give(h:Busy s P)(hi:Inv s)(c:Int)(ws:List Int)(k:Nat):Busy (s.give c ws k) P:=by
 cases hl:s.ring[k]? with
 |none=>unfold St.give;rw[hl];exact h
 |some l=>
  obtain⟨id,r,hid,hr,_⟩:=St.zo hi hl;rw[St.xq hl hid hr];have hp:=St.A3 hl hid;intro q hq hn;obtain⟨y,hy,ey⟩: ∃y∈s.reqs,y.id=q.id:=by
   rcases cR (show q∈aK (·.id==id) (fun r=>({r with n:=r.n+1}:Rq)) s.reqs from hq)with hq|⟨y,hy,_,rfl⟩
   ·exact⟨q,hq,rfl⟩
   ·exact⟨y,hy,rfl⟩
  have hc: ∀i,((s.giving c ws k l id r).say c (St.runText r (r.n+1))).count i=s.count i+if id=i then 1 else 0:=by intro i;unfold St.count St.giving St.say;dsimp only;rw[List.countP_append];simp
  rw[hc,<-ey];by_cases e:id=y.id
  ·right;rw[if_pos e];omega
  ·rcases h y hy (by rw[ey];exact hn)with h|h
   ·left;rw[St.eD]at h⊢;rcases List.mem_cons.1 (hp.mem_iff.1 h)with e'|e'
    ·exact absurd e'.symm e
    ·exact e'
   ·right;omega
theorem cS: ∀(f:Nat) {s:St},Busy s P->Inv s->Busy (St.cS f s) P
 |0,_,h,_=>h
 |f+1,s,h,hi=>by
  unfold St.cS;split
  ·exact h
  ·rename_i c ws hw;split
   ·exact h
   ·exact cS f (h.give hi c ws _) (St.lF hi c ws (by rw[hw];exact List.sublist_cons_self ..) _)
theorem serve(h:Busy s P)(hi:Inv s):Busy s.serve P:=cS _ h hi
end Busy
end Mc
namespace Mc
open bJ
namespace St
variable{s:St}
theorem qU{c id n:Int}{i:Nat}(h:s.mine c id n=some i): ∃a,s.af[i]?=some a∧a.id=id∧a.n=n∧a.conn=c∧s.xU id n=some i:=by
 unfold mine at h;split at h
 ·cases h
 ·rename_i k hk;split at h
  ·cases h
  ·rename_i a ha;split at h
   ·rename_i hc;cases h;obtain⟨x,hx,hp⟩:=eJ hk;rw[ha]at hx;cases hx;simp only[bZ,beq_iff_eq]at hp;exact⟨a,ha,hp.1,hp.2,by simpa using hc,hk⟩
   ·cases h
end St
namespace Busy
variable{s:St}{P Q:Int->Prop}
theorem bU(h:Busy s P)(c:Int)(m:Mg):Busy (s.bU c m) P:=by
 unfold St.bU;split
 ·exact h
 ·split
  ·exact h
  ·have h1:Busy (s.more ⟨m.id,c,m.ten,m.txt,0,s.c.re,false⟩) (fun x=>P x∨x=m.id):=by
    intro r hr hn;rcases List.mem_append.1 hr with hr|hr
    ·exact h r hr (fun hp=>hn (.inl hp))
    ·obtain rfl:=cY.1 hr;exact absurd (.inr rfl) hn
   exact((h1.say c ([97,99,99,32]++cJ m.id)).a6 m.id false).mono (fun i hp=>hp.1.elim (fun h=>h) (fun e=>absurd e hp.2))
theorem message(h:Busy s P)(hi:Inv s)(c:Int)(m:Mg):Busy (s.message c m) P:=by
 unfold St.message;split
 ·exact h.bU c m
 split
 ·split
  ·exact h
  ·split
   ·have h1:Busy s (fun x=>P x∨x=m.id):=h.mono (fun _ hp=> .inl hp);exact shut (s:=s.say _ _) h1 (St.bM hi _ _)
   ·exact h
 split
 ·split
  ·exact h
  ·dsimp only;split
   ·exact h.conn c
   ·exact h.conn c
 split
 ·intro r hr hn;rcases h r hr hn with h|h
  ·exact .inl h
  ·right;unfold St.count at h⊢;dsimp only;rw[List.countP_map];have:((fun x:At=>x.id==r.id)∘fun a=>if(a.conn==c)=true then({a with eV:=s.now+s.c.le}:At)else a)=fun x=>x.id==r.id:=by
    funext a;simp only[Function.comp_def];split<;>rfl
   rw[this];exact h
 split
 ·split
  ·exact h
  ·rename_i i hm;obtain⟨a,ha,e,_⟩:=St.qU hm;split
   ·exact h
   ·exact shut (e▸aS (s:=s.say _ _) h ha) (St.br (St.bM hi _ _) _)
 split
 ·split
  ·exact h
  ·rename_i i hm;obtain⟨a,ha,e,_⟩:=St.qU hm;exact again (e▸h.aS ha) (St.br hi _) _
 split
 ·exact fJ (s:=St.idle {s.conn c with aq:=aK (fun x=>x.n==c) (fun x=>{x with drains:=true}) (s.conn c).aq} c) (h.conn c) c
 ·exact h
theorem cV: ∀(f:Nat) {s:St},Busy s P->Inv s->Busy (St.cV f s) P
 |0,_,h,_=>h
 |f+1,s,h,hi=>by
  unfold St.cV;split
  ·exact h
  ·split
   ·exact h
   ·rename_i a ha;have h1:=St.bM hi a.conn (St.aD a.id a.n);exact cV f (again (aS (s:=s.say _ _) h ha) (St.br h1 _) _) (St.eC (St.br h1 _) _ _)
theorem bA(h:Busy s P)(a:At):Busy (s.bA a) P:=by
 unfold St.bA;split
 ·exact h
 ·split
  ·exact((h.bu a.id (fun r=>{r with bn:=true}) (fun _=>rfl)).a6 _ _).mono (fun _ hp=>hp.1)
  ·exact h
theorem fold: ∀(l:List At) {s:St},Busy s P->Busy (l.foldl St.bA s) P
 | [],_,h=>h
 |a::l,s,h=>by rw[List.foldl_cons];exact fold l (h.bA a)
theorem tick(h:Busy s P)(hi:Inv s):Busy s.tick P:=
 serve (s:=St.eE _) (fold _ (cV _ (s:={s with now:=s.now+1}) h (St.kU hi _))) (St.jH (St.jL _ (St.kU hi _)))
theorem bH: ∀(f:Nat) {s:St} (i:Nat) (id c:Int),Busy s (fun x=>P x∨x=id)->Busy (St.bH f s i id c) (fun x=>P x∨x=id)
 |0,_,_,_,_,h=>h
 |f+1,s,i,id,c,h=>by
  unfold St.bH;split
  ·exact h
  ·rename_i a ha;split
   ·rename_i hc;have e:a.id=id:=by simp at hc;exact hc.1
    exact bH f _ _ _ ((h.aS ha).mono (fun x hp=>hp.elim (fun h=>h) (fun h=> .inr (h.trans e))))
   ·exact bH f _ _ _ h
theorem aQ: ∀(f:Nat) {s:St} (c:Int),Busy s P->Inv s->Busy (St.aQ f s c) P
 |0,_,_,h,_=>h
 |f+1,s,c,h,hi=>by
  unfold St.aQ;split
  ·exact h
  ·rename_i id _;have Ab:=(St.eK s.af.length s 0 id c).inv hi;exact aQ f c (shut (bH _ 0 id c (h.mono (fun _ hp=> .inl hp))) Ab) (St.ji Ab _)
theorem aP: ∀(f:Nat) {s:St} (c:Int),Busy s P->Inv s->Busy (St.aP f s c) P
 |0,_,_,h,_=>h
 |f+1,s,c,h,hi=>by
  unfold St.aP;split
  ·exact h
  ·split
   ·exact h
   ·rename_i a ha;exact aP f c (again (h.aS ha) (St.br hi _) _) (St.eC (St.br hi _) _ _)
theorem close(h:Busy s P)(hi:Inv s)(c:Int):Busy (s.close c) P:=by have h1:=St.iY hi c;have GP:Inv ({s.idle c with aq:=(s.idle c).aq.filter (·.n !=c)}:St):=⟨h1.rid,h1.bS,h1.ring,h1.fP,h1.once,(List.filter_sublist.map _).nodup h1.cn,h1.wt⟩;exact(aP _ _ (aQ _ _ (s:={s.idle c with aq:=(s.idle c).aq.filter (·.n !=c)}) h GP) (St.dW _ _ GP)).serve (St.fY _ _ (St.dW _ _ GP))
end Busy
end Mc
namespace Mc
open bJ
namespace St
def aZ(s:St)(t:Bs):List Int:=match s.ring.find? (·.ten==t)with|some l=>l.ids|none=> []
def nums(s:St)(id:Int):List Int:=(s.af.filter (·.id==id)).map (·.n)
end St
end Mc
namespace Pj
open Mc bJ
structure Gh where
 rp:Int->Nat
 tp:Bs->Nat
 ap:Int×Int->Nat
 sr:Int×Int->Int
structure Rr where
 q:Rq
 al:List Int
structure Tr where
 nm:Bs
 wt:List Int
 rn:Int
structure Kn where
 n:Int
 p:Nat
 kept:Bs
 dr:Bool
structure Js where
 c:uF
 now:Int
 begun:Nat
 bT:List Kn
 reqs:List Rr
 aW:List Tr
 ring:List Bs
 pull:List Int
 hp:List At
def key(a:At):Int×Int:=(a.id,a.n)
def gH(g:Gh)(a b:At):Prop:=a.eV<b.eV∨a.eV=b.eV∧g.sr (key a)<=g.sr (key b)
theorem kL(g:Gh):Hp.Ord (gH g):=by
 refine⟨fun h1 h2=> ?_,fun a b=> ?_⟩
 ·unfold gH at*;omega
 ·unfold gH;omega
def upd{α κ:Type} [DecidableEq κ](k:α->κ)(c:κ)(f:α->α)(l:List α):List α:=l.map (fun x=>if k x=c then f x else x)
section upd
variable{α κ:Type} [DecidableEq κ]{k:α->κ}{c:κ}{f:α->α}{l:List α}
theorem Cm{y:α}(h:y∈upd k c f l):(y∈l∧k y≠c)∨ ∃x∈l,k x=c∧y=f x:=by
 obtain⟨x,hx,rfl⟩:=aA.1 h;by_cases e:k x=c
 ·right;exact⟨x,hx,e,by rw[if_pos e]⟩
 ·left;rw[if_neg e];exact⟨hx,e⟩
theorem ib{β:Type}(m:α->β)(h: ∀x∈l,k x=c->m (f x)=m x):(upd k c f l).map m=l.map m:=by
 unfold upd;rw[aG];refine bY fun x hx=> ?_;simp only[Function.comp_def];split
 ·rename_i e;exact h x hx e
 ·rfl
theorem CO{x:α}(hx:x∈l)(e:k x=c):f x∈upd k c f l:=aA.2 ⟨x,hx,by rw[if_pos e]⟩
end upd
namespace Js
def drains(j:Js)(c:Int):Bool:=match j.bT.find? (·.n==c)with|some k=>k.dr|none=>false
def Vl(j:Js)(id:Int)(f:Rr->Rr):Js:={j with reqs:=upd (fun r:Rr=>r.q.id) id f j.reqs}
def wait(j:Js)(x:Tr)(id:Int)(first:Bool):Js:=
 {j with ring:=if x.wt= []then j.ring++ [x.nm]else j.ring,aW:=upd (fun t:Tr=>t.nm) x.nm (fun t=>{t with wt:=if first then id::t.wt else t.wt++ [id]}) j.aW}
def left(j:Js)(x:Tr)(id:Int):Js:=
 {j with ring:=if x.wt.erase id= []then j.ring.erase x.nm else j.ring,aW:=upd (fun t:Tr=>t.nm) x.nm (fun t=>{t with wt:=t.wt.erase id}) j.aW}
def gave(j:Js)(x:Tr)(a:At)(hp:List At):Js:=
 {j with pull:=j.pull.tail,ring:=j.ring.erase x.nm++(if x.wt.erase a.id= []then []else [x.nm]),aW:=upd (fun t:Tr=>t.nm) x.nm (fun t=>{t with wt:=t.wt.erase a.id,rn:=t.rn+1}) j.aW,reqs:=upd (fun r:Rr=>r.q.id) a.id (fun r=>⟨{r.q with n:=r.q.n+1},r.al++ [a.n]⟩) j.reqs,hp:=hp,begun:=j.begun+1}
def ended(j:Js)(a:At)(t:Bs)(hp:List At):Js:=
 {j with reqs:=upd (fun r:Rr=>r.q.id) a.id (fun r=>{r with al:=r.al.erase a.n}) j.reqs,aW:=upd (fun t:Tr=>t.nm) t (fun t=>{t with rn:=t.rn-1}) j.aW,hp:=hp}
end Js
structure Rel(g:Gh)(j:Js)(s:St):Prop where
 c:j.c=s.c
 now:j.now=s.now
 begun:j.begun=s.begun
 pull:j.pull=s.wait
 ring:j.ring=s.ring.map (·.ten)
 reqs:j.reqs.map (·.q)=s.reqs
 al: ∀r∈j.reqs,r.al=s.nums r.q.id
 rj:(j.aW.map (·.nm)).Nodup
 wt: ∀t∈j.aW,t.wt=s.aZ t.nm
 rn: ∀t∈j.aW,t.rn=s.runs t.nm
 ten: ∀r∈s.reqs,r.ten∈j.aW.map (·.nm)
 zM: ∀t∈j.aW,∃r∈s.reqs,r.ten=t.nm
 hp:j.hp.Perm s.af
 heap:Hp.Heap (gH g) j.hp j.hp.length
 FO:(s.af.map fun a=>g.sr (key a)).Pairwise (· < ·)
 rI: ∀a∈s.af,0<=g.sr (key a)∧g.sr (key a)<=s.begun
 cnd:(j.bT.map (·.n)).Nodup
 cin: ∀k∈j.bT,k.n∈s.aq.map (·.n)
 dr: ∀c,j.drains c=s.drains c
