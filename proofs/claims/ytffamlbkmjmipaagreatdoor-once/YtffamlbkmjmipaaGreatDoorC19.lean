import Derived.Test.YtffamlbkmjmipaaGreatDoorC05
import Derived.Test.YtffamlbkmjmipaaGreatDoorC06
import Derived.Test.YtffamlbkmjmipaaGreatDoorC07
import Derived.Test.YtffamlbkmjmipaaGreatDoorC13
import Derived.Lib.SliceRun
set_option maxHeartbeats 8000000
set_option maxRecDepth 100000
namespace Go.Proofs.YtffamlbkmjmipaaGreatDoor
open _root_.Go.Proofs.Tryz
namespace Pj
open Go.RowKit aJ Mc Go.Sort
attribute [local go_sem] ae ag
theorem ZW:(prog.info? 92).map (fun i=>i.size)=some 3:=by kernel_rfl
theorem N6:(prog.info? 89).map (fun i=>i.size)=some 1:=by kernel_rfl
theorem aau{w:World}{p q:Nat}(hp:kg w p)(hq:kg w q):(binOp .eql 89 (.pointer (some ⟨p,0,none⟩)) (.pointer (some ⟨q,0,none⟩))).run prog w= .ok (.bool (decide (p=q))) w:=by
 have hi:=ZW;cases hj:prog.info? 92 with
 |none=>rw[hj]at hi;cases hi
 |some j=>
  rw[hj]at hi;have hs:j.size=3:=by simpa using hi
  by_cases e:p=q
  ·subst e;rw[run_eql_ptr_same w _ underlying89 hj];simp
  ·obtain⟨c1,t1,h1⟩:=hp;obtain⟨c2,t2,h2⟩:=hq;rw[run_eql_ptr_other w underlying89 hj (by rw[hs];decide) (fun h=>e (by injection h)) h1 h2];simp[e]
theorem ixT{κ:Type} [DecidableEq κ](v:Value)(l:List κ)(f:κ->Nat)(x:κ)(w:World)(G:Ft)(h:(rowA 89 1 v l.length (l.map fun i=>pt (f i))).holds w G)(iE: ∀y∈l,f y=f x->y=x)(hb: ∀y∈l,kg w (f y))(hx:kg w (f x))(hl:l.length<=16777216):Calls prog 158 #[v,pt (f x)] w fun e w'=>e= .returned (.int .i64 (Mr.ze (l.findIdx? fun y=>decide (y=x))))∧w'=w:=by
 obtain⟨ao,cap,rfl,cX,bQ⟩:=Mr.cE h;have HG:=hide h;have vG:=hide bQ;have HB:=hide hb;have HX:=hide hx;have HI:=hide iE;clear h bQ hb hx iE;unfold pt;go_enter func158,ntmps158;go_wp2
 go_loop [5,8] (fun _ i=> ∃k:Nat,k<=l.length∧i= .int .i64 k∧Hid (k<=l.findIdx fun y=>decide (y=x))) (fun _ i=>l.length-(intOf i).toNat)
 case atStart=>exact⟨0,bh _,rfl,bh _⟩
 case round=>
  obtain⟨k,hk,rfl,HK⟩:=hrel;by_cases aN:k<l.length
  ·obtain⟨g',off,rfl⟩:=vG.out (by omega);have c0:w.cell? ⟨g',off+k,none⟩=some (.pointer (some ⟨f (l[k]'aN),0,none⟩)):=by
    rw[bf HG.out k (by omega),List.getElem?_map,aY aN];rfl
   have heq:=aau HX.out (HB.out _ (bS aN));by_cases hq:(l[k]'aN)=x
   ·have HF:=hide (Mr.tA (p:=fun y=>decide (y=x)) aN (by simpa using hq) HK.out);rw[hq,decide_eq_true rfl]at heq;rw[hq]at c0;clear HK;go_wp2;go_ret;exact⟨by rw[HF.out];rfl,rfl⟩
   ·have HF:=hide (Mr.lQ (p:=fun y=>decide (y=x)) aN (by simpa using hq) HK.out);rw[decide_eq_false (fun e=>hq (HI.out _ (bS aN) e.symm))]at heq;generalize f (l[k]'aN)=fk at*;clear HK;go_wp2
    go_round
    case rel=>exact⟨k+1,by omega,by go_num,HF⟩
    case measure=>simp[intOf];omega
  ·have HF:=hide (Mr.pT (p:=fun y=>decide (y=x)) (l:=l) (by have:=HK.out;omega));obtain rfl:k=l.length:=by omega
   clear HK;go_wp2;go_ret;exact⟨by rw[HF.out];rfl,rfl⟩
theorem woT{κ:Type} [DecidableEq κ](v:Value)(l:List κ)(f:κ->Nat)(x:κ)(w:World)(F:Ft)(h:(rowA 89 1 v l.length (l.map fun i=>pt (f i))).holds w F)(iE: ∀y∈l,f y=f x->y=x)(hb: ∀y∈l,kg w (f y))(hx:kg w (f x))(hl:l.length<=16777216):Calls prog 120 #[v,pt (f x)] w fun e w'=> ∃v',e= .returned v'∧Goes (rowA 89 1 v' (l.erase x).length ((l.erase x).map fun i=>pt (f i))) w F w':=by
 have pL:=ixT v l f x w F h iE hb hx hl;obtain⟨ao,cap,hv,cX,bQ⟩:=Mr.cE h;have zr:cap<=maxLen:=by obtain⟨_,_,e,_,h3,_⟩:=bX h;rw[hv]at e;cases e;exact h3
 cases hq:l.findIdx? (fun y=>decide (y=x))with
 |none=>
  rw[hq]at pL;have e1:l.erase x=l:=List.erase_of_not_mem (fun hm=>by have:=List.findIdx?_eq_none_iff.1 hq x hm;simp at this)
  rw[e1];have HG:=hide (Goes.refl h);clear h iE hb hx hq;unfold pt Mr.ze at*;subst hv;go_enter func120,ntmps120;go_wp2_with (go_at_call 158;go_must(refine pL.mono ?_;rintro e w1⟨rfl,rfl⟩));go_ret;exact⟨_,rfl,HG.out⟩
 |some i=>
  rw[hq]at pL;obtain⟨hi,hp,pZ⟩:=List.findIdx?_eq_some_iff_getElem.1 hq;have uY:l[i]?=some x:=by rw[aY hi];congr 1;simpa using hp
  have e1:l.erase x=l.eraseIdx i:=ko uY (fun k hk=>by
   have:=pZ k hk;intro e;rw[aY (by omega)]at e;have e':l[k]=x:=by simpa using e
   rw[e']at this;simp at this)
  have e2:(l.erase x).length=l.length-1:=by rw[e1,List.length_eraseIdx,if_pos hi]
  obtain⟨g',off,rfl⟩:=bQ (by omega);subst hv;by_cases jo:i=0
  ·subst jo;obtain⟨t,rfl⟩: ∃t,l=x::t:=vx uY;have hz: ∀w,(zeroValue 89).run prog w= .ok (.pointer none) w:=fun w=>by kernel_rfl
   have c0:(w.cell? ⟨g',off,none⟩).isSome=true:=by have:=bf h 0 (by simp);rw[Nat.add_zero]at this;rw[this];simp
   have NC:=Lib.run_clear_slice w 84 89 0 (.pointer none) underlying84 hz rfl rfl g' off 1 cap (by omega) (by
    intro j hj;obtain rfl:j=0:=by omega
    simpa using c0) (by
    intro j hj;obtain rfl:j=0:=by omega
    simpa using dw h off)
   have HG:=hide (show Goes (rowA 89 1 (.slice (some ⟨g',off+1,none⟩) t.length (cap-1)) t.length (t.map fun i=>pt (f i))) w F (w.setCells g' off (List.replicate 1 (.pointer none)))from by have s1:=cO h 0 (.pointer none) (by simp);refine(show Goes _ w F (w.setCell ⟨g',off+0,none⟩ (.pointer none))from s1).mono fun F' pW=> ?_;have:=nS pW 1 (by simp);simpa using this)
   have EO:Hid (cap=1->Goes (rowA 89 1 (.slice (some ⟨g',off,none⟩) t.length 0) t.length (t.map fun i=>pt (f i))) w F (w.setCells g' off [.pointer none])):=fun uq=>by
    have ht:t= []:=by
     have:t.length+1<=cap:=by simpa using cX
     exact List.eq_nil_of_length_eq_zero (by omega)
    subst ht;have s1:=cO h 0 (.pointer none) (by simp);refine(show Goes _ w F (w.setCell ⟨g',off+0,none⟩ (.pointer none))from s1).mono fun F' pW=> ?_;exact nR (jB pW 0 (by simp)) 0 (by omega) (by omega)
   have BX:(1:Int)<=((t.length:Nat):Int)+1:=by omega
   have Nz:t.length+1<=cap:=by simpa using cX
   have NA:(1:Int)<=((cap:Nat):Int):=by omega
   simp only[List.erase_cons_head];clear h iE hb hx hq pZ uY e1 e2 hp bQ cX c0;unfold pt Mr.ze at*;simp only[List.length_cons]at*;generalize t.length=n at*;go_enter func120,ntmps120;go_wp2_with (go_at_call 158;go_must(refine pL.mono ?_;rintro e w1⟨rfl,rfl⟩))
   all_goals go_ret
   ·exact⟨_,rfl,EO.out (by assumption)⟩
   ·exact⟨_,rfl,HG.out⟩
  ·
   obtain⟨i0,Nv⟩: ∃i0,prog.info? 89=some i0:=by
    have:=N6;cases hj:prog.info? 89 with
    |none=>rw[hj]at this;cases this
    |some i0=>exact⟨i0,rfl⟩
   have jJ:i0.size=1:=by have:=N6;rw[Nv]at this;simpa using this
   have jq: ∀t:List κ,(t.map fun i=>some (f i)).map ep=t.map fun i=>pt (f i):=fun t=>by rw[aB];rfl
   have hH:Holds ep w g' off (l.map fun i=>some (f i)).toArray:=row_holds (by rw[jq];exact h);have jl:=AnyE.slices_Delete dlT ep (fun _=>rfl) none (fun w=>by kernel_rfl) i0 Nv jJ g' off cap i (i+1) (l.map fun i=>some (f i)).toArray w hH (by simpa using cX) (by unfold maxLen at zr;omega) (by omega) (by simp;omega);change Calls prog 159 _ _ _ at jl;have HG:Hid (∀q,Goes (rowA 89 1 (.slice (some ⟨g',off,none⟩) (l.length-1) cap) (l.erase x).length ((l.erase x).map fun i=>pt (f i))) w F (putRow ep (Sort.ahead w q) g' off (((l.map fun i=>some (f i)).toArray.toList.take i++(l.map fun i=>some (f i)).toArray.toList.drop (i+1)++List.replicate (i+1-i) none).toArray))):=fun q=>by have:=rZ (enc:=ep) h (((l.map fun i=>some (f i)).toArray.toList.take i++(l.map fun i=>some (f i)).toArray.toList.drop (i+1)++List.replicate (i+1-i) none).toArray) (by simp;omega) (l.length-1) (by omega) q;rw[e2];refine this.eq ?_;congr 1;rw[e1,List.eraseIdx_eq_take_drop_succ,<-jq];rw[List.take_left' (by simp;omega),aD,aD];simp only[aD,List.map_take,List.map_drop]
   have y7:0<i:=by omega
   have UE:(i:Int)<=16777216:=by omega
   have dc:(l.map fun i=>some (f i)).toArray.size-(i+1-i)=l.length-1:=by simp
   rw[dc]at jl;simp only[List.size_toArray,aF]at jl;clear h iE hb hx hq pZ uY e1 e2 hp bQ cX hH jq dc;unfold pt Mr.ze at*;generalize l.length=n at*;generalize(((l.map fun i=>some (f i)).toArray.toList.take i++(l.map fun i=>some (f i)).toArray.toList.drop (i+1)++List.replicate (i+1-i) none).toArray)=arr at*;obtain⟨j,hj⟩: ∃j,j=i+1:=⟨_,rfl⟩;have NB:((i:Nat):Int)+1=(j:Int):=by omega
   rw[<-hj]at jl;have Zw:j<=16777216:=by omega
   clear hj;go_enter func120,ntmps120;go_wp2_with (first
    |(go_at_call 158;go_must(refine pL.mono ?_;rintro e w1⟨rfl,rfl⟩))
    |(go_at_call 159;go_must(refine jl.mono ?_;rintro e w1⟨rfl,q,rfl⟩)))
   go_ret;exact⟨_,rfl,HG.out _⟩
end Pj
namespace Mc
open bG
namespace St
variable{s:St}
def fK(s:St)(c:Int):List Int:=(s.reqs.filter (·.conn==c)).map (·.id)
def tJ(c:Int)(b:Option Int)(r:Rq):Option Int:=if r.conn==c &&(match b with|none=>true|some i=>decide (r.id<i))then some r.id else b
theorem Bo(c:Int)(b:Option Int)(r:Rq):(tJ c b r=some r.id∧r.conn=c∧ ∀k,b=some k->r.id<k)∨(tJ c b r=b∧(r.conn=c-> ∃k,b=some k∧k<=r.id)):=by
 unfold tJ;by_cases e:r.conn=c
 ·cases b with
  |none=>left;simp[e]
  |some k=>
   by_cases h:r.id<k
   ·left;refine⟨by simp[e,h],e,fun m hm=>by cases hm;exact h⟩
   ·right;refine⟨by simp[h],fun _=>⟨k,rfl,by omega⟩⟩
 ·right;exact⟨by simp[e],fun h=>absurd h e⟩
theorem qd(c:Int): ∀(l:List Rq) (b o:Option Int),l.foldl (tJ c) b=o->(o=none->b=none∧ ∀r∈l,r.conn≠c)∧(∀i,o=some i->(b=some i∨ ∃r∈l,r.conn=c∧r.id=i)∧(∀r∈l,r.conn=c->i<=r.id)∧ ∀k,b=some k->i<=k)
 | [],b,o,h=>by have h':b=o:=h;subst h';exact⟨fun e=>⟨e,fun r hr=>by cases hr⟩,fun i e=>⟨.inl e,fun r hr=>(by cases hr),fun k hk=>by rw[e]at hk;cases hk;exact Int.le_refl _⟩⟩
 |r::l,b,o,h=>by
  rw[List.foldl_cons]at h;obtain⟨h1,h2⟩:=qd c l (tJ c b r) o h;rcases Bo c b r with⟨e,hc,hk⟩|⟨e,hc⟩
  ·rw[e]at h1 h2;refine⟨fun ho=>absurd (h1 ho).1 (by simp),fun i hi=> ?_⟩;obtain⟨h3,h4,h5⟩:=h2 i hi;have h6:=h5 _ rfl;refine⟨?_,fun q hq V8=> ?_,fun k mQ=>by have:=hk k mQ;omega⟩
   ·rcases h3 with h3|⟨q,hq,hh⟩
    ·exact .inr ⟨r,bY ..,hc,by simpa using h3⟩
    ·exact .inr ⟨q,aV _ hq,hh⟩
   ·rcases List.mem_cons.1 hq with e2|e2
    ·rw[e2];exact h6
    ·exact h4 q e2 V8
  ·rw[e]at h1 h2;refine⟨fun ho=> ?_,fun i hi=> ?_⟩
   ·obtain⟨h3,h4⟩:=h1 ho;refine⟨h3,fun q hq=> ?_⟩;rcases List.mem_cons.1 hq with e2|e2
    ·rw[e2];intro VM;obtain⟨k,hk,_⟩:=hc VM;rw[h3]at hk;cases hk
    ·exact h4 q e2
   ·obtain⟨h3,h4,h5⟩:=h2 i hi;refine⟨?_,fun q hq V8=> ?_,h5⟩
    ·rcases h3 with h3|⟨q,hq,hh⟩
     ·exact .inl h3
     ·exact .inr ⟨q,aV _ hq,hh⟩
    ·rcases List.mem_cons.1 hq with e2|e2
     ·rw[e2]at V8⊢;obtain⟨k,hk,hle⟩:=hc V8;have:=h5 k hk;omega
     ·exact h4 q e2 V8
theorem Ds(c:Int):s.least c=s.reqs.foldl (tJ c) none:=rfl
theorem lV{c i:Int}:i∈s.fK c↔ ∃r∈s.reqs,r.conn=c∧r.id=i:=by unfold fK;simp[List.mem_map,List.mem_filter,and_assoc]
def gq(c:Int)(s:St)(id:Int):St:=(bp s.ah.length s 0 id c).shut id
theorem pB(c id:Int):(s.gq c id).reqs=dropFirst (·.id==id) s.reqs:=by unfold gq;have h1:=dO s.ah.length s 0 id c;have h2:=jc (bp s.ah.length s 0 id c).ah.length (bp s.ah.length s 0 id c) id;show dropFirst (·.id==id) (stops (bp s.ah.length s 0 id c).ah.length (bp s.ah.length s 0 id c) id).reqs=_;rw[h2.reqs,h1.reqs]
theorem AV(hi:Inv s)(c id:Int):Inv (s.gq c id):=iF ((dO s.ah.length s 0 id c).inv hi) _
theorem mI: ∀(L:List Int) (f:Nat) (s:St) (c:Int),Inv s->L.Perm (s.fK c)->L.Pairwise (· < ·)->L.length<=f->aM f s c=L.foldl (gq c) s
 | [],f,s,c,_,hp,_,_=>by
  have hn:s.least c=none:=by
   have:=qd c s.reqs none _ rfl;rw[<-Ds]at this;cases hl:s.least c with
   |none=>rfl
   |some i=>
    rcases(this.2 i hl).1 with h|⟨r,hr,e⟩
    ·cases h
    ·have:i∈s.fK c:=lV.2 ⟨r,hr,e⟩;rw[<-hp.mem_iff]at this;cases this
  match f with
  |0=>rfl
  |f+1=>unfold aM;rw[hn];rfl
 |id::L,f,s,c,hi,hp,hs,hf=>by
  have iL:=hi.rid;unfold ks at iL;rw[aB]at iL;rw[List.pairwise_cons]at hs;have hl:s.least c=some id:=by
   have:=qd c s.reqs none _ rfl;rw[<-Ds]at this;have hm:id∈s.fK c:=hp.mem_iff.1 (bY ..);obtain⟨r,hr,Wb,hri⟩:=lV.1 hm;cases hl:s.least c with
   |none=>exact absurd Wb ((this.1 hl).2 r hr)
   |some i=>
    obtain⟨h1,h2,_⟩:=this.2 i hl;have hle:=h2 r hr Wb;rcases h1 with h1|⟨q,hq,V8,GD⟩
    ·cases h1
    ·have hm2:i∈id::L:=hp.mem_iff.2 (lV.2 ⟨q,hq,V8,GD⟩);rcases List.mem_cons.1 hm2 with e|e
     ·rw[e]
     ·have:=hs.1 i e;omega
  match f,hf with
  |f+1,hf=>
   rw[List.foldl_cons];have e1:aM (f+1) s c=aM f (s.gq c id) c:=by
    conv=>lhs;unfold aM
    rw[hl];rfl
   rw[e1];refine mI L f _ c (AV hi c id) ?_ hs.2 (by simpa using hf);unfold fK;rw[pB,gT (fun r:Rq=>r.id) id iL,List.filter_filter];have e2:((s.reqs.filter (fun r=>r.conn==c &&r.id !=id)).map (·.id))=(s.fK c).filter (· !=id):=by unfold fK;rw[List.filter_map,List.filter_filter];congr 1;refine List.filter_congr fun r _=> ?_;simp only[Function.comp_def];rw[Bool.and_comm]
   rw[e2];have hnr:(s.fK c).Nodup:=(List.filter_sublist.map _).nodup iL;have h3:=hp.filter (· !=id);rw[List.filter_cons_of_neg (by simp)]at h3;have h4:L.filter (· !=id)=L:=List.filter_eq_self.2 fun x hx=>by
    have:=hs.1 x hx;have:x≠id:=by omega
    simpa using this
   rw[h4]at h3;exact h3
theorem lY: ∀(f:Nat) (s:St) (i:Nat) (id c:Int),Inv s->Ok s->s.ah.length<=f+i->bp f s i id c=(((s.ah.drop i).filter (fun a=>a.id==id &&a.conn==c)).map (fun a=>(a.id,a.n))).foldl JP s
 |0,s,i,id,c,_,_,h=>by have:s.ah.drop i= []:=List.drop_eq_nil_of_le (by omega);rw[this];rfl
 |f+1,s,i,id,c,hi,ho,h=>by
  unfold bp;cases ha:s.ah[i]? with
  |none=>have:s.ah.drop i= []:=List.drop_eq_nil_of_le (List.getElem?_eq_none_iff.1 ha);rw[this];rfl
  |some a=>
   obtain⟨aN,ea⟩:=cz.1 ha;have hd:s.ah.drop i=a::s.ah.drop (i+1):=by rw[<-ea];exact(List.getElem_cons_drop (h:=aN)).symm
   rw[hd,List.filter_cons];dsimp only;by_cases e:(a.id==id &&a.conn==c)=true
   ·rw[if_pos e,if_pos e,List.map_cons,List.foldl_cons,vq ho ha];have e1:=(dD (s:=s) i).2.1;have hdl:(s.aZ i).ah.drop i=s.ah.drop (i+1):=by
     rw[e1,List.eraseIdx_eq_take_drop_succ,List.drop_append_of_le_length (by rw[List.length_take];omega),List.drop_take];simp
    rw[lY f (s.aZ i) i id c (bg hi i) (ho.aZ hi i) (by rw[e1];have:=iV ha;omega),hdl]
   ·rw[if_neg e,if_neg e,lY f s (i+1) id c hi ho (by omega)]
def kU(s:St)(a:At):St:=(s.JP (a.id,a.n)).again a.id false
theorem kK(id:Int):(s.again id false).ah=s.ah:=by
 unfold again;split
 ·rfl
 ·split
  ·rfl
  ·split
   ·rename_i h;simp at h
   ·simp only[Bool.false_eq_true,if_false];exact(fW (s:=s) id true).2.1
theorem mG: ∀(L:List At) (f:Nat) (s:St) (c:Int),Inv s->Ok s->L=s.ah.filter (·.conn==c)->L.length<=f->aP f s c=L.foldl kU s
 | [],f,s,c,_,_,hL,_=>by
  have hn:s.ah.findIdx? (·.conn==c)=none:=by rw[List.findIdx?_eq_none_iff];intro a ha;have:=List.filter_eq_nil_iff.1 hL.symm a ha;simpa using this
  match f with
  |0=>rfl
  |f+1=>unfold aP;rw[hn];rfl
 |a::L,f,s,c,hi,ho,hL,hf=>by
  have hs:(s.ah.findIdx? (·.conn==c)).isSome:=by
   rw[List.findIdx?_isSome,List.any_eq_true];have:a∈s.ah.filter (·.conn==c):=by rw[<-hL];exact bY ..
   exact⟨a,(aL.1 this).1,(aL.1 this).2⟩
  obtain⟨i,uY⟩:=Option.isSome_iff_exists.1 hs;obtain⟨b,hb,hp⟩:=fF uY;obtain⟨aN,_,SH⟩:=List.findIdx?_eq_some_iff_getElem.1 uY;have Wd:s.ah=s.ah.take i++b::s.ah.drop (i+1):=by rw[<-(cz.1 hb).2,List.getElem_cons_drop,List.take_append_drop]
  have ZG:(s.ah.take i).filter (·.conn==c)= []:=by rw[List.filter_eq_nil_iff];intro x hx;obtain⟨k,hk,rfl⟩:=List.getElem_of_mem hx;rw[List.length_take]at hk;have:=SH k (by omega);rw[List.getElem_take];simpa using this
  have aaL:s.ah.filter (·.conn==c)=b::(s.ah.drop (i+1)).filter (·.conn==c):=by
   conv=>lhs;rw[Wd]
   rw[List.filter_append,ZG,List.nil_append,List.filter_cons,if_pos hp]
  rw[aaL]at hL;obtain⟨rfl,Y0⟩:=List.cons.inj hL
  match f,hf with
  |f+1,hf=>
   have e1:aP (f+1) s c=aP f ((s.aZ i).again a.id false) c:=by
    conv=>lhs;unfold aP
    rw[uY];dsimp only;rw[hb]
   rw[e1,List.foldl_cons];have e2:s.kU a=(s.aZ i).again a.id false:=by unfold kU;rw[vq ho hb]
   rw[e2];refine mG L f _ c (dn (bg hi i) _ _) ((ho.aZ hi i).again (bg hi i) _ _) ?_ (by simpa using hf);rw[kK,(dD (s:=s) i).2.1,List.eraseIdx_eq_take_drop_succ,List.filter_append,ZG,List.nil_append];exact Y0
end St
end Mc
namespace Pj
open Mc bG Rel
theorem qm(v c:Int): ∀(K:List (Int×Int)) (l:List At),K.foldl (fun l k=>l.map (renew k v)) l=l.map (fun a=>if key a∈K then{a with fx:=v}else a)
 | [],l=>by simp
 |k::K,l=>by
  rw[List.foldl_cons,qm v c K,aB];refine bz fun a _=> ?_;simp only[Function.comp_def];have hk:=(gi k v a).1;rw[hk];unfold renew;by_cases e:key a=k
  ·rw[if_pos e];have:key a∈k::K:=e▸bY ..;rw[if_pos this];split<;>rfl
  ·rw[if_neg e];have:key a∈k::K↔key a∈K:=by simp[e]
   by_cases h:key a∈K
   ·rw[if_pos h,if_pos (this.2 h)]
   ·rw[if_neg h,if_neg (fun h'=>h (this.1 h'))]
