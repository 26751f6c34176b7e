import Derived.Test.YtffamlbkmjmipaaGreatDoorC05
import Derived.Test.YtffamlbkmjmipaaGreatDoorC06
import Derived.Test.YtffamlbkmjmipaaGreatDoorC07
import Derived.Test.YtffamlbkmjmipaaGreatDoorC13
import Derived.Lib.SliceRun
set_option maxHeartbeats 8000000
set_option maxRecDepth 100000
namespace Go.Proofs.YtffamlbkmjmipaaGreatDoor
open _root_.Go.Proofs.Tryz
namespace Pj
open Go.RowKit aD Mc Go.Sort
attribute [local go_sem] ae ah
theorem Uv:(prog.info? 92).map (fun i=>i.size)=some 3:=by kernel_rfl
theorem J2:(prog.info? 89).map (fun i=>i.size)=some 1:=by kernel_rfl
theorem Wz{w:World}{p q:Nat}(hp:jk w p)(hq:jk w q):(binOp .eql 89 (.pointer (some ⟨p,0,none⟩)) (.pointer (some ⟨q,0,none⟩))).run prog w= .ok (.bool (decide (p=q))) w:=by
 have hi:=Uv;cases hj:prog.info? 92 with
 |none=>rw[hj]at hi;cases hi
 |some j=>
  rw[hj]at hi;have hs:j.size=3:=by simpa using hi
  by_cases e:p=q
  ·subst e;rw[run_eql_ptr_same w _ underlying89 hj];simp
  ·obtain⟨c1,t1,h1⟩:=hp;obtain⟨c2,t2,h2⟩:=hq;rw[run_eql_ptr_other w underlying89 hj (by rw[hs];decide) (fun h=>e (by injection h)) h1 h2];simp[e]
theorem ixT{κ:Type} [DecidableEq κ](v:Value)(l:List κ)(f:κ->Nat)(x:κ)(w:World)(G:Ft)(h:(rowA 89 1 v l.length (l.map fun i=>pt (f i))).holds w G)(gR: ∀y∈l,f y=f x->y=x)(hb: ∀y∈l,jk w (f y))(hx:jk w (f x))(hl:l.length<=16777216):Calls prog 158 #[v,pt (f x)] w fun e w'=>e= .returned (.int .i64 (Mr.uM (l.findIdx? fun y=>decide (y=x))))∧w'=w:=by
 obtain⟨ao,cap,rfl,cV,ck⟩:=Mr.cE h;have HG:=hide h;have yF:=hide ck;have HB:=hide hb;have HX:=hide hx;have HI:=hide gR;clear h ck hb hx gR;unfold pt;go_enter func158,ntmps158;go_wp2
 go_loop [5,8] (fun _ i=> ∃k:Nat,k<=l.length∧i= .int .i64 k∧Hid (k<=l.findIdx fun y=>decide (y=x))) (fun _ i=>l.length-(intOf i).toNat)
 case atStart=>exact⟨0,bk _,rfl,bk _⟩
 case round=>
  obtain⟨k,hk,rfl,HK⟩:=hrel;by_cases aQ:k<l.length
  ·obtain⟨g',off,rfl⟩:=yF.out (by omega);have c0:w.cell? ⟨g',off+k,none⟩=some (.pointer (some ⟨f (l[k]'aQ),0,none⟩)):=by
    rw[aW HG.out k (by omega),List.getElem?_map,aV aQ];rfl
   have heq:=Wz HX.out (HB.out _ (bY aQ));by_cases hq:(l[k]'aQ)=x
   ·have HF:=hide (Mr.qf (p:=fun y=>decide (y=x)) aQ (by simpa using hq) HK.out);rw[hq,decide_eq_true rfl]at heq;rw[hq]at c0;clear HK;go_wp2;go_ret;exact⟨by rw[HF.out];rfl,rfl⟩
   ·have HF:=hide (Mr.kx (p:=fun y=>decide (y=x)) aQ (by simpa using hq) HK.out);rw[decide_eq_false (fun e=>hq (HI.out _ (bY aQ) e.symm))]at heq;generalize f (l[k]'aQ)=fk at*;clear HK;go_wp2
    go_round
    case rel=>exact⟨k+1,by omega,by go_num,HF⟩
    case measure=>simp[intOf];omega
  ·have HF:=hide (Mr.nh (p:=fun y=>decide (y=x)) (l:=l) (by have:=HK.out;omega));obtain rfl:k=l.length:=by omega
   clear HK;go_wp2;go_ret;exact⟨by rw[HF.out];rfl,rfl⟩
theorem woT{κ:Type} [DecidableEq κ](v:Value)(l:List κ)(f:κ->Nat)(x:κ)(w:World)(F:Ft)(h:(rowA 89 1 v l.length (l.map fun i=>pt (f i))).holds w F)(gR: ∀y∈l,f y=f x->y=x)(hb: ∀y∈l,jk w (f y))(hx:jk w (f x))(hl:l.length<=16777216):Calls prog 120 #[v,pt (f x)] w fun e w'=> ∃v',e= .returned v'∧Goes (rowA 89 1 v' (l.erase x).length ((l.erase x).map fun i=>pt (f i))) w F w':=by
 have mU:=ixT v l f x w F h gR hb hx hl;obtain⟨ao,cap,hv,cV,ck⟩:=Mr.cE h;have ve:cap<=maxLen:=by obtain⟨_,_,e,_,h3,_⟩:=bS h;rw[hv]at e;cases e;exact h3
 cases hq:l.findIdx? (fun y=>decide (y=x))with
 |none=>
  rw[hq]at mU;have e1:l.erase x=l:=List.erase_of_not_mem (fun hm=>by have:=List.findIdx?_eq_none_iff.1 hq x hm;simp at this)
  rw[e1];have HG:=hide (Goes.refl h);clear h gR hb hx hq;unfold pt Mr.uM at*;subst hv;go_enter func120,ntmps120;go_wp2_with (go_at_call 158;go_must(refine mU.mono ?_;rintro e w1⟨rfl,rfl⟩));go_ret;exact⟨_,rfl,HG.out⟩
 |some i=>
  rw[hq]at mU;obtain⟨hi,hp,nv⟩:=List.findIdx?_eq_some_iff_getElem.1 hq;have rL:l[i]?=some x:=by rw[aV hi];congr 1;simpa using hp
  have e1:l.erase x=l.eraseIdx i:=jr rL (fun k hk=>by
   have:=nv k hk;intro e;rw[aV (by omega)]at e;have e':l[k]=x:=by simpa using e
   rw[e']at this;simp at this)
  have e2:(l.erase x).length=l.length-1:=by rw[e1,List.length_eraseIdx,if_pos hi]
  obtain⟨g',off,rfl⟩:=ck (by omega);subst hv;by_cases kg:i=0
  ·subst kg;obtain⟨t,rfl⟩: ∃t,l=x::t:=se rL;have hz: ∀w,(zeroValue 89).run prog w= .ok (.pointer none) w:=fun w=>by kernel_rfl
   have c0:(w.cell? ⟨g',off,none⟩).isSome=true:=by have:=aW h 0 (by simp);rw[Nat.add_zero]at this;rw[this];simp
   have Vi:=Lib.run_clear_slice w 84 89 0 (.pointer none) underlying84 hz rfl rfl g' off 1 cap (by omega) (by
    intro j hj;obtain rfl:j=0:=by omega
    simpa using c0) (by
    intro j hj;obtain rfl:j=0:=by omega
    simpa using eu h off)
   have HG:=hide (show Goes (rowA 89 1 (.slice (some ⟨g',off+1,none⟩) t.length (cap-1)) t.length (t.map fun i=>pt (f i))) w F (w.setCells g' off (List.replicate 1 (.pointer none)))from by have s1:=dc h 0 (.pointer none) (by simp);refine(show Goes _ w F (w.setCell ⟨g',off+0,none⟩ (.pointer none))from s1).mono fun F' nk=> ?_;have:=mg nk 1 (by simp);simpa using this)
   have Hu:Hid (cap=1->Goes (rowA 89 1 (.slice (some ⟨g',off,none⟩) t.length 0) t.length (t.map fun i=>pt (f i))) w F (w.setCells g' off [.pointer none])):=fun mA=>by
    have ht:t= []:=by
     have:t.length+1<=cap:=by simpa using cV
     exact List.eq_nil_of_length_eq_zero (by omega)
    subst ht;have s1:=dc h 0 (.pointer none) (by simp);refine(show Goes _ w F (w.setCell ⟨g',off+0,none⟩ (.pointer none))from s1).mono fun F' nk=> ?_;exact mf (ja nk 0 (by simp)) 0 (by omega) (by omega)
   have tH:(1:Int)<=((t.length:Nat):Int)+1:=by omega
   have Jr:t.length+1<=cap:=by simpa using cV
   have Jt:(1:Int)<=((cap:Nat):Int):=by omega
   simp only[List.erase_cons_head];clear h gR hb hx hq nv rL e1 e2 hp ck cV c0;unfold pt Mr.uM at*;simp only[List.length_cons]at*;generalize t.length=n at*;go_enter func120,ntmps120;go_wp2_with (go_at_call 158;go_must(refine mU.mono ?_;rintro e w1⟨rfl,rfl⟩))
   all_goals go_ret
   ·exact⟨_,rfl,Hu.out (by assumption)⟩
   ·exact⟨_,rfl,HG.out⟩
  ·
   obtain⟨i0,Jm⟩: ∃i0,prog.info? 89=some i0:=by
    have:=J2;cases hj:prog.info? 89 with
    |none=>rw[hj]at this;cases this
    |some i0=>exact⟨i0,rfl⟩
   have jf:i0.size=1:=by have:=J2;rw[Jm]at this;simpa using this
   have iT: ∀t:List κ,(t.map fun i=>some (f i)).map ep=t.map fun i=>pt (f i):=fun t=>by rw[az];rfl
   have hH:Holds ep w g' off (l.map fun i=>some (f i)).toArray:=row_holds (by rw[iT];exact h);have iP:=AnyE.slices_Delete dlT ep (fun _=>rfl) none (fun w=>by kernel_rfl) i0 Jm jf g' off cap i (i+1) (l.map fun i=>some (f i)).toArray w hH (by simpa using cV) (by unfold maxLen at ve;omega) (by omega) (by simp;omega);change Calls prog 159 _ _ _ at iP;have HG:Hid (∀q,Goes (rowA 89 1 (.slice (some ⟨g',off,none⟩) (l.length-1) cap) (l.erase x).length ((l.erase x).map fun i=>pt (f i))) w F (putRow ep (Sort.ahead w q) g' off (((l.map fun i=>some (f i)).toArray.toList.take i++(l.map fun i=>some (f i)).toArray.toList.drop (i+1)++List.replicate (i+1-i) none).toArray))):=fun q=>by have:=pg (enc:=ep) h (((l.map fun i=>some (f i)).toArray.toList.take i++(l.map fun i=>some (f i)).toArray.toList.drop (i+1)++List.replicate (i+1-i) none).toArray) (by simp;omega) (l.length-1) (by omega) q;rw[e2];refine this.eq ?_;congr 1;rw[e1,List.eraseIdx_eq_take_drop_succ,<-iT];rw[List.take_left' (by simp;omega),aB,aB];simp only[aB,List.map_take,List.map_drop]
   have BB:0<i:=by omega
   have Pk:(i:Int)<=16777216:=by omega
   have cY:(l.map fun i=>some (f i)).toArray.size-(i+1-i)=l.length-1:=by simp
   rw[cY]at iP;simp only[List.size_toArray,aR]at iP;clear h gR hb hx hq nv rL e1 e2 hp ck cV hH iT cY;unfold pt Mr.uM at*;generalize l.length=n at*;generalize(((l.map fun i=>some (f i)).toArray.toList.take i++(l.map fun i=>some (f i)).toArray.toList.drop (i+1)++List.replicate (i+1-i) none).toArray)=arr at*;obtain⟨j,hj⟩: ∃j,j=i+1:=⟨_,rfl⟩;have Ju:((i:Nat):Int)+1=(j:Int):=by omega
   rw[<-hj]at iP;have T8:j<=16777216:=by omega
   clear hj;go_enter func120,ntmps120;go_wp2_with (first
    |(go_at_call 158;go_must(refine mU.mono ?_;rintro e w1⟨rfl,rfl⟩))
    |(go_at_call 159;go_must(refine iP.mono ?_;rintro e w1⟨rfl,q,rfl⟩)))
   go_ret;exact⟨_,rfl,HG.out _⟩
end Pj
namespace Mc
open bA
namespace St
variable{s:St}
def eY(s:St)(c:Int):List Int:=(s.reqs.filter (·.conn==c)).map (·.id)
def qw(c:Int)(b:Option Int)(r:Rq):Option Int:=if r.conn==c &&(match b with|none=>true|some i=>decide (r.id<i))then some r.id else b
theorem xL(c:Int)(b:Option Int)(r:Rq):(qw c b r=some r.id∧r.conn=c∧ ∀k,b=some k->r.id<k)∨(qw c b r=b∧(r.conn=c-> ∃k,b=some k∧k<=r.id)):=by
 unfold qw;by_cases e:r.conn=c
 ·cases b with
  |none=>left;simp[e]
  |some k=>
   by_cases h:r.id<k
   ·left;refine⟨by simp[e,h],e,fun m hm=>by cases hm;exact h⟩
   ·right;refine⟨by simp[h],fun _=>⟨k,rfl,by omega⟩⟩
 ·right;exact⟨by simp[e],fun h=>absurd h e⟩
theorem nC(c:Int): ∀(l:List Rq) (b o:Option Int),l.foldl (qw c) b=o->(o=none->b=none∧ ∀r∈l,r.conn≠c)∧(∀i,o=some i->(b=some i∨ ∃r∈l,r.conn=c∧r.id=i)∧(∀r∈l,r.conn=c->i<=r.id)∧ ∀k,b=some k->i<=k)
 | [],b,o,h=>by have h':b=o:=h;subst h';exact⟨fun e=>⟨e,fun r hr=>by cases hr⟩,fun i e=>⟨.inl e,fun r hr=>(by cases hr),fun k hk=>by rw[e]at hk;cases hk;exact Int.le_refl _⟩⟩
 |r::l,b,o,h=>by
  rw[List.foldl_cons]at h;obtain⟨h1,h2⟩:=nC c l (qw c b r) o h;rcases xL c b r with⟨e,hc,hk⟩|⟨e,hc⟩
  ·rw[e]at h1 h2;refine⟨fun ho=>absurd (h1 ho).1 (by simp),fun i hi=> ?_⟩;obtain⟨h3,h4,h5⟩:=h2 i hi;have h6:=h5 _ rfl;refine⟨?_,fun q hq QD=> ?_,fun k lj=>by have:=hk k lj;omega⟩
   ·rcases h3 with h3|⟨q,hq,hh⟩
    ·exact .inr ⟨r,cB ..,hc,by simpa using h3⟩
    ·exact .inr ⟨q,aY _ hq,hh⟩
   ·rcases List.mem_cons.1 hq with e2|e2
    ·rw[e2];exact h6
    ·exact h4 q e2 QD
  ·rw[e]at h1 h2;refine⟨fun ho=> ?_,fun i hi=> ?_⟩
   ·obtain⟨h3,h4⟩:=h1 ho;refine⟨h3,fun q hq=> ?_⟩;rcases List.mem_cons.1 hq with e2|e2
    ·rw[e2];intro Qk;obtain⟨k,hk,_⟩:=hc Qk;rw[h3]at hk;cases hk
    ·exact h4 q e2
   ·obtain⟨h3,h4,h5⟩:=h2 i hi;refine⟨?_,fun q hq QD=> ?_,h5⟩
    ·rcases h3 with h3|⟨q,hq,hh⟩
     ·exact .inl h3
     ·exact .inr ⟨q,aY _ hq,hh⟩
    ·rcases List.mem_cons.1 hq with e2|e2
     ·rw[e2]at QD⊢;obtain⟨k,hk,hle⟩:=hc QD;have:=h5 k hk;omega
     ·exact h4 q e2 QD
theorem Aq(c:Int):s.least c=s.reqs.foldl (qw c) none:=rfl
theorem kG{c i:Int}:i∈s.eY c↔ ∃r∈s.reqs,r.conn=c∧r.id=i:=by unfold eY;simp[List.mem_map,List.mem_filter,and_assoc]
def fN(c:Int)(s:St)(id:Int):St:=(bH s.ag.length s 0 id c).shut id
theorem mI(c id:Int):(s.fN c id).reqs=dropFirst (·.id==id) s.reqs:=by unfold fN;have h1:=dK s.ag.length s 0 id c;have h2:=iI (bH s.ag.length s 0 id c).ag.length (bH s.ag.length s 0 id c) id;show dropFirst (·.id==id) (stops (bH s.ag.length s 0 id c).ag.length (bH s.ag.length s 0 id c) id).reqs=_;rw[h2.reqs,h1.reqs]
theorem xd(hi:Inv s)(c id:Int):Inv (s.fN c id):=gU ((dK s.ag.length s 0 id c).inv hi) _
theorem k6: ∀(L:List Int) (f:Nat) (s:St) (c:Int),Inv s->L.Perm (s.eY c)->L.Pairwise (· < ·)->L.length<=f->aO f s c=L.foldl (fN c) s
 | [],f,s,c,_,hp,_,_=>by
  have hn:s.least c=none:=by
   have:=nC c s.reqs none _ rfl;rw[<-Aq]at this;cases hl:s.least c with
   |none=>rfl
   |some i=>
    rcases(this.2 i hl).1 with h|⟨r,hr,e⟩
    ·cases h
    ·have:i∈s.eY c:=kG.2 ⟨r,hr,e⟩;rw[<-hp.mem_iff]at this;cases this
  match f with
  |0=>rfl
  |f+1=>unfold aO;rw[hn];rfl
 |id::L,f,s,c,hi,hp,hs,hf=>by
  have gw:=hi.rid;unfold ks at gw;rw[az]at gw;rw[List.pairwise_cons]at hs;have hl:s.least c=some id:=by
   have:=nC c s.reqs none _ rfl;rw[<-Aq]at this;have hm:id∈s.eY c:=hp.mem_iff.1 (cB ..);obtain⟨r,hr,QG,hri⟩:=kG.1 hm;cases hl:s.least c with
   |none=>exact absurd QG ((this.1 hl).2 r hr)
   |some i=>
    obtain⟨h1,h2,_⟩:=this.2 i hl;have hle:=h2 r hr QG;rcases h1 with h1|⟨q,hq,QD,Cs⟩
    ·cases h1
    ·have hm2:i∈id::L:=hp.mem_iff.2 (kG.2 ⟨q,hq,QD,Cs⟩);rcases List.mem_cons.1 hm2 with e|e
     ·rw[e]
     ·have:=hs.1 i e;omega
  match f,hf with
  |f+1,hf=>
   rw[List.foldl_cons];have e1:aO (f+1) s c=aO f (s.fN c id) c:=by
    conv=>lhs;unfold aO
    rw[hl];rfl
   rw[e1];refine k6 L f _ c (xd hi c id) ?_ hs.2 (by simpa using hf);unfold eY;rw[mI,gC (fun r:Rq=>r.id) id gw,List.filter_filter];have e2:((s.reqs.filter (fun r=>r.conn==c &&r.id !=id)).map (·.id))=(s.eY c).filter (· !=id):=by unfold eY;rw[List.filter_map,List.filter_filter];congr 1;refine List.filter_congr fun r _=> ?_;simp only[Function.comp_def];rw[Bool.and_comm]
   rw[e2];have hnr:(s.eY c).Nodup:=(List.filter_sublist.map _).nodup gw;have h3:=hp.filter (· !=id);rw[List.filter_cons_of_neg (by simp)]at h3;have h4:L.filter (· !=id)=L:=List.filter_eq_self.2 fun x hx=>by
    have:=hs.1 x hx;have:x≠id:=by omega
    simpa using this
   rw[h4]at h3;exact h3
theorem kI: ∀(f:Nat) (s:St) (i:Nat) (id c:Int),Inv s->Ok s->s.ag.length<=f+i->bH f s i id c=(((s.ag.drop i).filter (fun a=>a.id==id &&a.conn==c)).map (fun a=>(a.id,a.n))).foldl E2 s
 |0,s,i,id,c,_,_,h=>by have:s.ag.drop i= []:=List.drop_eq_nil_of_le (by omega);rw[this];rfl
 |f+1,s,i,id,c,hi,ho,h=>by
  unfold bH;cases ha:s.ag[i]? with
  |none=>have:s.ag.drop i= []:=List.drop_eq_nil_of_le (List.getElem?_eq_none_iff.1 ha);rw[this];rfl
  |some a=>
   obtain⟨aQ,ea⟩:=cH.1 ha;have hd:s.ag.drop i=a::s.ag.drop (i+1):=by rw[<-ea];exact(List.getElem_cons_drop (h:=aQ)).symm
   rw[hd,List.filter_cons];dsimp only;by_cases e:(a.id==id &&a.conn==c)=true
   ·rw[if_pos e,if_pos e,List.map_cons,List.foldl_cons,rY ho ha];have e1:=(dC (s:=s) i).2.1;have hdl:(s.aU i).ag.drop i=s.ag.drop (i+1):=by
     rw[e1,List.eraseIdx_eq_take_drop_succ,List.drop_append_of_le_length (by rw[List.length_take];omega),List.drop_take];simp
    rw[kI f (s.aU i) i id c (ba hi i) (ho.aU hi i) (by rw[e1];have:=iz ha;omega),hdl]
   ·rw[if_neg e,if_neg e,kI f s (i+1) id c hi ho (by omega)]
def j5(s:St)(a:At):St:=(s.E2 (a.id,a.n)).again a.id false
theorem jO(id:Int):(s.again id false).ag=s.ag:=by
 unfold again;split
 ·rfl
 ·split
  ·rfl
  ·split
   ·rename_i h;simp at h
   ·simp only[Bool.false_eq_true,if_false];exact(fA (s:=s) id true).2.1
theorem kZ: ∀(L:List At) (f:Nat) (s:St) (c:Int),Inv s->Ok s->L=s.ag.filter (·.conn==c)->L.length<=f->aN f s c=L.foldl j5 s
 | [],f,s,c,_,_,hL,_=>by
  have hn:s.ag.findIdx? (·.conn==c)=none:=by rw[List.findIdx?_eq_none_iff];intro a ha;have:=List.filter_eq_nil_iff.1 hL.symm a ha;simpa using this
  match f with
  |0=>rfl
  |f+1=>unfold aN;rw[hn];rfl
 |a::L,f,s,c,hi,ho,hL,hf=>by
  have hs:(s.ag.findIdx? (·.conn==c)).isSome:=by
   rw[List.findIdx?_isSome,List.any_eq_true];have:a∈s.ag.filter (·.conn==c):=by rw[<-hL];exact cB ..
   exact⟨a,(aG.1 this).1,(aG.1 this).2⟩
  obtain⟨i,rL⟩:=Option.isSome_iff_exists.1 hs;obtain⟨b,hb,hp⟩:=eI rL;obtain⟨aQ,_,Nb⟩:=List.findIdx?_eq_some_iff_getElem.1 rL;have QI:s.ag=s.ag.take i++b::s.ag.drop (i+1):=by rw[<-(cH.1 hb).2,List.getElem_cons_drop,List.take_append_drop]
  have Uk:(s.ag.take i).filter (·.conn==c)= []:=by rw[List.filter_eq_nil_iff];intro x hx;obtain⟨k,hk,rfl⟩:=List.getElem_of_mem hx;rw[List.length_take]at hk;have:=Nb k (by omega);rw[List.getElem_take];simpa using this
  have Xc:s.ag.filter (·.conn==c)=b::(s.ag.drop (i+1)).filter (·.conn==c):=by
   conv=>lhs;rw[QI]
   rw[List.filter_append,Uk,List.nil_append,List.filter_cons,if_pos hp]
  rw[Xc]at hL;obtain⟨rfl,Tg⟩:=List.cons.inj hL
  match f,hf with
  |f+1,hf=>
   have e1:aN (f+1) s c=aN f ((s.aU i).again a.id false) c:=by
    conv=>lhs;unfold aN
    rw[rL];dsimp only;rw[hb]
   rw[e1,List.foldl_cons];have e2:s.j5 a=(s.aU i).again a.id false:=by unfold j5;rw[rY ho hb]
   rw[e2];refine kZ L f _ c (dt (ba hi i) _ _) ((ho.aU hi i).again (ba hi i) _ _) ?_ (by simpa using hf);rw[jO,(dC (s:=s) i).2.1,List.eraseIdx_eq_take_drop_succ,List.filter_append,Uk,List.nil_append];exact Tg
end St
end Mc
namespace Pj
open Mc bA Rel
theorem nL(v c:Int): ∀(K:List (Int×Int)) (l:List At),K.foldl (fun l k=>l.map (renew k v)) l=l.map (fun a=>if key a∈K then{a with cS:=v}else a)
 | [],l=>by simp
 |k::K,l=>by
  rw[List.foldl_cons,nL v c K,az];refine bu fun a _=> ?_;simp only[Function.comp_def];have hk:=(fH k v a).1;rw[hk];unfold renew;by_cases e:key a=k
  ·rw[if_pos e];have:key a∈k::K:=e▸cB ..;rw[if_pos this];split<;>rfl
  ·rw[if_neg e];have:key a∈k::K↔key a∈K:=by simp[e]
   by_cases h:key a∈K
   ·rw[if_pos h,if_pos (this.2 h)]
   ·rw[if_neg h,if_neg (fun h'=>h (this.1 h'))]
