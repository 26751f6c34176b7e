import Derived.Test.YtffamlbkmjmipaaGreatDoorC05
import Derived.Test.YtffamlbkmjmipaaGreatDoorC06
import Derived.Test.YtffamlbkmjmipaaGreatDoorC07
import Derived.Lib.SliceRun
set_option maxHeartbeats 8000000
set_option maxRecDepth 100000
namespace Go.Proofs.YtffamlbkmjmipaaGreatDoor
open _root_.Go.Proofs.Tryz
namespace Pj
open Go.RowKit aD Mc Go.Sort
attribute [local go_sem] ae ah
theorem Ut:(prog.info? 126).map (fun i=>i.size)=some 7:=by kernel_rfl
theorem J1:(prog.info? 127).map (fun i=>i.size)=some 1:=by kernel_rfl
theorem Wx{w:World}{p q:Nat}(hp:jk w p)(hq:jk w q):(binOp .eql 127 (.pointer (some ⟨p,0,none⟩)) (.pointer (some ⟨q,0,none⟩))).run prog w= .ok (.bool (decide (p=q))) w:=by
 have hi:=Ut;cases hj:prog.info? 126 with
 |none=>rw[hj]at hi;cases hi
 |some j=>
  rw[hj]at hi;have hs:j.size=7:=by simpa using hi
  by_cases e:p=q
  ·subst e;rw[run_eql_ptr_same w _ underlying127 hj];simp
  ·obtain⟨c1,t1,h1⟩:=hp;obtain⟨c2,t2,h2⟩:=hq;rw[run_eql_ptr_other w underlying127 hj (by rw[hs];decide) (fun h=>e (by injection h)) h1 h2];simp[e]
theorem ixA{κ:Type} [DecidableEq κ](v:Value)(l:List κ)(f:κ->Nat)(x:κ)(w:World)(G:Ft)(h:(rowA 127 1 v l.length (l.map fun i=>pt (f i))).holds w G)(gR: ∀y∈l,f y=f x->y=x)(hb: ∀y∈l,jk w (f y))(hx:jk w (f x))(hl:l.length<=16777216):Calls prog 162 #[v,pt (f x)] w fun e w'=>e= .returned (.int .i64 (Mr.uM (l.findIdx? fun y=>decide (y=x))))∧w'=w:=by
 obtain⟨ao,cap,rfl,cV,ck⟩:=Mr.cE h;have HG:=hide h;have yF:=hide ck;have HB:=hide hb;have HX:=hide hx;have HI:=hide gR;clear h ck hb hx gR;unfold pt;go_enter func162,ntmps162;go_wp2
 go_loop [5,8] (fun _ i=> ∃k:Nat,k<=l.length∧i= .int .i64 k∧Hid (k<=l.findIdx fun y=>decide (y=x))) (fun _ i=>l.length-(intOf i).toNat)
 case atStart=>exact⟨0,bk _,rfl,bk _⟩
 case round=>
  obtain⟨k,hk,rfl,HK⟩:=hrel;by_cases aQ:k<l.length
  ·obtain⟨g',off,rfl⟩:=yF.out (by omega);have c0:w.cell? ⟨g',off+k,none⟩=some (.pointer (some ⟨f (l[k]'aQ),0,none⟩)):=by
    rw[aW HG.out k (by omega),List.getElem?_map,aV aQ];rfl
   have heq:=Wx HX.out (HB.out _ (bY aQ));by_cases hq:(l[k]'aQ)=x
   ·have HF:=hide (Mr.qf (p:=fun y=>decide (y=x)) aQ (by simpa using hq) HK.out);rw[hq,decide_eq_true rfl]at heq;rw[hq]at c0;clear HK;go_wp2;go_ret;exact⟨by rw[HF.out];rfl,rfl⟩
   ·have HF:=hide (Mr.kx (p:=fun y=>decide (y=x)) aQ (by simpa using hq) HK.out);rw[decide_eq_false (fun e=>hq (HI.out _ (bY aQ) e.symm))]at heq;generalize f (l[k]'aQ)=fk at*;clear HK;go_wp2
    go_round
    case rel=>exact⟨k+1,by omega,by go_num,HF⟩
    case measure=>simp[intOf];omega
  ·have HF:=hide (Mr.nh (p:=fun y=>decide (y=x)) (l:=l) (by have:=HK.out;omega));obtain rfl:k=l.length:=by omega
   clear HK;go_wp2;go_ret;exact⟨by rw[HF.out];rfl,rfl⟩
theorem woA{κ:Type} [DecidableEq κ](v:Value)(l:List κ)(f:κ->Nat)(x:κ)(w:World)(F:Ft)(h:(rowA 127 1 v l.length (l.map fun i=>pt (f i))).holds w F)(gR: ∀y∈l,f y=f x->y=x)(hb: ∀y∈l,jk w (f y))(hx:jk w (f x))(hl:l.length<=16777216):Calls prog 125 #[v,pt (f x)] w fun e w'=> ∃v',e= .returned v'∧Goes (rowA 127 1 v' (l.erase x).length ((l.erase x).map fun i=>pt (f i))) w F w':=by
 have mU:=ixA v l f x w F h gR hb hx hl;obtain⟨ao,cap,hv,cV,ck⟩:=Mr.cE h;have ve:cap<=maxLen:=by obtain⟨_,_,e,_,h3,_⟩:=bS h;rw[hv]at e;cases e;exact h3
 cases hq:l.findIdx? (fun y=>decide (y=x))with
 |none=>
  rw[hq]at mU;have e1:l.erase x=l:=List.erase_of_not_mem (fun hm=>by have:=List.findIdx?_eq_none_iff.1 hq x hm;simp at this)
  rw[e1];have HG:=hide (Goes.refl h);clear h gR hb hx hq;unfold pt Mr.uM at*;subst hv;go_enter func125,ntmps125;go_wp2_with (go_at_call 162;go_must(refine mU.mono ?_;rintro e w1⟨rfl,rfl⟩));go_ret;exact⟨_,rfl,HG.out⟩
 |some i=>
  rw[hq]at mU;obtain⟨hi,hp,nv⟩:=List.findIdx?_eq_some_iff_getElem.1 hq;have rL:l[i]?=some x:=by rw[aV hi];congr 1;simpa using hp
  have e1:l.erase x=l.eraseIdx i:=jr rL (fun k hk=>by
   have:=nv k hk;intro e;rw[aV (by omega)]at e;have e':l[k]=x:=by simpa using e
   rw[e']at this;simp at this)
  have e2:(l.erase x).length=l.length-1:=by rw[e1,List.length_eraseIdx,if_pos hi]
  obtain⟨g',off,rfl⟩:=ck (by omega);subst hv;by_cases kg:i=0
  ·subst kg;obtain⟨t,rfl⟩: ∃t,l=x::t:=se rL;have hz: ∀w,(zeroValue 127).run prog w= .ok (.pointer none) w:=fun w=>by kernel_rfl
   have c0:(w.cell? ⟨g',off,none⟩).isSome=true:=by have:=aW h 0 (by simp);rw[Nat.add_zero]at this;rw[this];simp
   have Vi:=Lib.run_clear_slice w 85 127 0 (.pointer none) underlying85 hz rfl rfl g' off 1 cap (by omega) (by
    intro j hj;obtain rfl:j=0:=by omega
    simpa using c0) (by
    intro j hj;obtain rfl:j=0:=by omega
    simpa using eu h off)
   have HG:=hide (show Goes (rowA 127 1 (.slice (some ⟨g',off+1,none⟩) t.length (cap-1)) t.length (t.map fun i=>pt (f i))) w F (w.setCells g' off (List.replicate 1 (.pointer none)))from by have s1:=dc h 0 (.pointer none) (by simp);refine(show Goes _ w F (w.setCell ⟨g',off+0,none⟩ (.pointer none))from s1).mono fun F' nk=> ?_;have:=mg nk 1 (by simp);simpa using this)
   have Hu:Hid (cap=1->Goes (rowA 127 1 (.slice (some ⟨g',off,none⟩) t.length 0) t.length (t.map fun i=>pt (f i))) w F (w.setCells g' off [.pointer none])):=fun mA=>by
    have ht:t= []:=by
     have:t.length+1<=cap:=by simpa using cV
     exact List.eq_nil_of_length_eq_zero (by omega)
    subst ht;have s1:=dc h 0 (.pointer none) (by simp);refine(show Goes _ w F (w.setCell ⟨g',off+0,none⟩ (.pointer none))from s1).mono fun F' nk=> ?_;exact mf (ja nk 0 (by simp)) 0 (by omega) (by omega)
   have tH:(1:Int)<=((t.length:Nat):Int)+1:=by omega
   have Jr:t.length+1<=cap:=by simpa using cV
   have Jt:(1:Int)<=((cap:Nat):Int):=by omega
   simp only[List.erase_cons_head];clear h gR hb hx hq nv rL e1 e2 hp ck cV c0;unfold pt Mr.uM at*;simp only[List.length_cons]at*;generalize t.length=n at*;go_enter func125,ntmps125;go_wp2_with (go_at_call 162;go_must(refine mU.mono ?_;rintro e w1⟨rfl,rfl⟩))
   all_goals go_ret
   ·exact⟨_,rfl,Hu.out (by assumption)⟩
   ·exact⟨_,rfl,HG.out⟩
  ·
   obtain⟨i0,Jm⟩: ∃i0,prog.info? 127=some i0:=by
    have:=J1;cases hj:prog.info? 127 with
    |none=>rw[hj]at this;cases this
    |some i0=>exact⟨i0,rfl⟩
   have jf:i0.size=1:=by have:=J1;rw[Jm]at this;simpa using this
   have iT: ∀t:List κ,(t.map fun i=>some (f i)).map ep=t.map fun i=>pt (f i):=fun t=>by rw[az];rfl
   have hH:Holds ep w g' off (l.map fun i=>some (f i)).toArray:=row_holds (by rw[iT];exact h);have iP:=AnyE.slices_Delete dlA ep (fun _=>rfl) none (fun w=>by kernel_rfl) i0 Jm jf g' off cap i (i+1) (l.map fun i=>some (f i)).toArray w hH (by simpa using cV) (by unfold maxLen at ve;omega) (by omega) (by simp;omega);change Calls prog 163 _ _ _ at iP;have HG:Hid (∀q,Goes (rowA 127 1 (.slice (some ⟨g',off,none⟩) (l.length-1) cap) (l.erase x).length ((l.erase x).map fun i=>pt (f i))) w F (putRow ep (Sort.ahead w q) g' off (((l.map fun i=>some (f i)).toArray.toList.take i++(l.map fun i=>some (f i)).toArray.toList.drop (i+1)++List.replicate (i+1-i) none).toArray))):=fun q=>by have:=pg (enc:=ep) h (((l.map fun i=>some (f i)).toArray.toList.take i++(l.map fun i=>some (f i)).toArray.toList.drop (i+1)++List.replicate (i+1-i) none).toArray) (by simp;omega) (l.length-1) (by omega) q;rw[e2];refine this.eq ?_;congr 1;rw[e1,List.eraseIdx_eq_take_drop_succ,<-iT];rw[List.take_left' (by simp;omega),aB,aB];simp only[aB,List.map_take,List.map_drop]
   have BB:0<i:=by omega
   have Pk:(i:Int)<=16777216:=by omega
   have cY:(l.map fun i=>some (f i)).toArray.size-(i+1-i)=l.length-1:=by simp
   rw[cY]at iP;simp only[List.size_toArray,aR]at iP;clear h gR hb hx hq nv rL e1 e2 hp ck cV hH iT cY;unfold pt Mr.uM at*;generalize l.length=n at*;generalize(((l.map fun i=>some (f i)).toArray.toList.take i++(l.map fun i=>some (f i)).toArray.toList.drop (i+1)++List.replicate (i+1-i) none).toArray)=arr at*;obtain⟨j,hj⟩: ∃j,j=i+1:=⟨_,rfl⟩;have Ju:((i:Nat):Int)+1=(j:Int):=by omega
   rw[<-hj]at iP;have T8:j<=16777216:=by omega
   clear hj;go_enter func125,ntmps125;go_wp2_with (first
    |(go_at_call 162;go_must(refine mU.mono ?_;rintro e w1⟨rfl,rfl⟩))
    |(go_at_call 163;go_must(refine iP.mono ?_;rintro e w1⟨rfl,q,rfl⟩)))
   go_ret;exact⟨_,rfl,HG.out _⟩
end Pj
namespace Pj
open Go.RowKit aD Mc
attribute [local go_sem] ae ah
def Mm{κ:Type}(l:List κ)(f:κ->Nat)(p:κ->Bool)(g:FuncId)(lb:Array Value)(w:World):Prop:=
 ∀wr,Below w.heap.size w wr-> ∀y∈l,Calls prog g (#[pt (f y)]++lb) wr fun e w'=>e= .returned (.bool (p y))∧ ∃q,w'=wr.drewN q
theorem DR{κ:Type}{l:List κ}{p:κ->Bool}{k:Nat}(h:l.findIdx? p=some k)(hk:k<l.length):l.find? p=some (l[k]'hk):=by obtain⟨h1,h2,h3⟩:=List.findIdx?_eq_some_iff_getElem.1 h;rw[List.find?_eq_some_iff_getElem];exact⟨h2,k,hk,rfl,fun j hj=>by simpa using h3 j hj⟩
theorem Zp{κ:Type}(v:Value)(l:List κ)(f:κ->Nat)(p:κ->Bool)(g:FuncId)(lb:Array Value)(eg:Enters prog g)(w:World)(G:Ft)(h:(rowA 127 1 v l.length (l.map fun i=>pt (f i))).holds w G)(hp:Mm l f p g lb w)(hl:l.length<=16777216):Calls prog 166 #[v, .func (.func g) #[] lb] w fun e w'=>e= .returned (ep ((l.find? p).map f))∧ ∃q,w'=w.drewN q:=by
 obtain⟨ao,cap,rfl,cV,ck⟩:=Mr.cE h;have HG:=hide h;have yF:=hide ck;have HP:=hide hp;have Zh: ∀args w,(callFunc g args).run prog w= .ok (.enter g args) w:=eg;clear h ck hp;go_enter func166,ntmps166;go_wp2;go_loopw [10] (fun i wr=> ∃k:Nat,k<=l.length∧i= .int .i64 k∧Hid (k<=l.findIdx p)∧ ∃q:Nat,Hid (wr=w.drewN q)) (fun i _=>l.length-(intOf i).toNat)
 case atStart=>exact⟨0,bk _,rfl,bk _,0,rfl⟩
 case round=>
  obtain⟨k,hk,rfl,HK,q,HQ⟩:=hrel;by_cases aQ:k<l.length
  ·obtain⟨g',off,rfl⟩:=yF.out (by omega);have c0:wr.cell? ⟨g',off+k,none⟩=some (.pointer (some ⟨f (l[k]'aQ),0,none⟩)):=by
    rw[HQ.out];show w.cell? _=_;rw[aW HG.out k (by omega),List.getElem?_map,aV aQ];rfl
   have HC:=HP.out wr (by rw[HQ.out];exact⟨rfl,rfl,rfl,af _,fun _ _=>rfl⟩) _ (bY aQ);unfold pt at HC;cases hq:p (l[k]'aQ)
   ·have HF:=hide (Mr.kx aQ hq HK.out);rw[hq]at HC;generalize f (l[k]'aQ)=fk at*;clear HK;go_wp2_with (first|(go_at_fn g;go_must(refine HC.mono ?_;rintro e w1⟨rfl,q1,rfl⟩)));go_roundw
    case rel=>exact⟨k+1,by omega,by go_num,HF,q+q1,by rw[HQ.out];exact s6 _ _ _⟩
    case measure=>simp[intOf];omega
   ·have HF:=hide (Mr.qf aQ hq HK.out);rw[hq]at HC;have e1:(l.find? p).map f=some (f (l[k]'aQ)):=by
     rw[DR HF.out aQ];rfl
    have HE:=hide e1;generalize f (l[k]'aQ)=fk at*;clear HK e1;go_wp2_with (first|(go_at_fn g;go_must(refine HC.mono ?_;rintro e w1⟨rfl,q1,rfl⟩)));go_ret;exact⟨by rw[HE.out];rfl,q+q1,by rw[HQ.out];exact s6 _ _ _⟩
  ·have HF:=hide (Mr.nh (p:=p) (l:=l) (by have:=HK.out;omega));obtain rfl:k=l.length:=by omega
   clear HK;go_wp2;go_ret;refine⟨?_,q,HQ.out⟩;have:l.find? p=none:=List.find?_eq_none.2 (fun x hx=>by rw[List.findIdx?_eq_none_iff.1 HF.out x hx];simp);rw[this];rfl
theorem fiT{κ:Type}(v:Value)(l:List κ)(f:κ->Nat)(p:κ->Bool)(g:FuncId)(lb:Array Value)(eg:Enters prog g)(w:World)(G:Ft)(h:(rowA 89 1 v l.length (l.map fun i=>pt (f i))).holds w G)(hp:Mm l f p g lb w)(hl:l.length<=16777216):Calls prog 71 #[v, .func (.func g) #[] lb] w fun e w'=>e= .returned (ep ((l.find? p).map f))∧ ∃q,w'=w.drewN q:=by
 obtain⟨ao,cap,rfl,cV,ck⟩:=Mr.cE h;have HG:=hide h;have yF:=hide ck;have HP:=hide hp;have Zh: ∀args w,(callFunc g args).run prog w= .ok (.enter g args) w:=eg;clear h ck hp;go_enter func71,ntmps71;go_wp2;go_loopw [10] (fun i wr=> ∃k:Nat,k<=l.length∧i= .int .i64 k∧Hid (k<=l.findIdx p)∧ ∃q:Nat,Hid (wr=w.drewN q)) (fun i _=>l.length-(intOf i).toNat)
 case atStart=>exact⟨0,bk _,rfl,bk _,0,rfl⟩
 case round=>
  obtain⟨k,hk,rfl,HK,q,HQ⟩:=hrel;by_cases aQ:k<l.length
  ·obtain⟨g',off,rfl⟩:=yF.out (by omega);have c0:wr.cell? ⟨g',off+k,none⟩=some (.pointer (some ⟨f (l[k]'aQ),0,none⟩)):=by
    rw[HQ.out];show w.cell? _=_;rw[aW HG.out k (by omega),List.getElem?_map,aV aQ];rfl
   have HC:=HP.out wr (by rw[HQ.out];exact⟨rfl,rfl,rfl,af _,fun _ _=>rfl⟩) _ (bY aQ);unfold pt at HC;cases hq:p (l[k]'aQ)
   ·have HF:=hide (Mr.kx aQ hq HK.out);rw[hq]at HC;generalize f (l[k]'aQ)=fk at*;clear HK;go_wp2_with (first|(go_at_fn g;go_must(refine HC.mono ?_;rintro e w1⟨rfl,q1,rfl⟩)));go_roundw
    case rel=>exact⟨k+1,by omega,by go_num,HF,q+q1,by rw[HQ.out];exact s6 _ _ _⟩
    case measure=>simp[intOf];omega
   ·have HF:=hide (Mr.qf aQ hq HK.out);rw[hq]at HC;have e1:(l.find? p).map f=some (f (l[k]'aQ)):=by
     rw[DR HF.out aQ];rfl
    have HE:=hide e1;generalize f (l[k]'aQ)=fk at*;clear HK e1;go_wp2_with (first|(go_at_fn g;go_must(refine HC.mono ?_;rintro e w1⟨rfl,q1,rfl⟩)));go_ret;exact⟨by rw[HE.out];rfl,q+q1,by rw[HQ.out];exact s6 _ _ _⟩
  ·have HF:=hide (Mr.nh (p:=p) (l:=l) (by have:=HK.out;omega));obtain rfl:k=l.length:=by omega
   clear HK;go_wp2;go_ret;refine⟨?_,q,HQ.out⟩;have:l.find? p=none:=List.find?_eq_none.2 (fun x hx=>by rw[List.findIdx?_eq_none_iff.1 HF.out x hx];simp);rw[this];rfl
variable{k:Nat}
theorem gD{A:aD}{w w':World}(h:Goes A w (fun _=>False) w'):Below w.heap.size w w':=by obtain⟨_,_,o,_⟩:=h;exact o.toBelow (fun _ h=>h.elim) (af _)
theorem oA{κ:Type}{p:κ->Bool}{l:List κ}(hk:k<l.length):(l.take (k+1)).filter p=(l.take k).filter p++if p (l[k]'hk)then [l[k]'hk]else []:=by rw[kV hk,List.filter_append];congr 1;by_cases h:p l[k]=true<;>simp[h]
theorem B7{κ:Type}{p:κ->Bool}{l:List κ}:((l.take k).filter p).length<=l.length:=by refine au (List.length_filter_le ..) ?_;rw[List.length_take];exact Nat.min_le_right ..
theorem sM{κ:Type}(v:Value)(l:List κ)(f:κ->Nat)(p:κ->Bool)(g:FuncId)(lb:Array Value)(eg:Enters prog g)(w:World)(G:Ft)(h:(rowA 127 1 v l.length (l.map fun i=>pt (f i))).holds w G)(hp:Mm l f p g lb w)(hl:l.length<=16777216):Calls prog 78 #[v, .func (.func g) #[] lb] w fun e w'=> ∃v',e= .returned v'∧Goes (rowA 127 1 v' (l.filter p).length ((l.filter p).map fun i=>pt (f i))) w (fun _=>False) w':=by
 obtain⟨i0,kg,nV,j0,kC⟩:=fo CC;obtain⟨ao,cap,rfl,cV,ck⟩:=Mr.cE h;have HG:=hide h;have yF:=hide ck;have HP:=hide hp;have Zh: ∀args w,(callFunc g args).run prog w= .ok (.enter g args) w:=eg;clear h ck hp;go_enter func78,ntmps78;go_wp2;go_loopw [5,10] (fun lv i wr=> ∃k:Nat,k<=l.length∧i= .int .i64 k∧ ∃n1 gp jo,lv= .slice gp n1 jo∧n1<=16777216∧Hid (n1=((l.take k).filter p).length∧Goes (rowA 127 1 (.slice gp n1 jo) n1 (((l.take k).filter p).map fun i=>pt (f i))) w (fun _=>False) wr)) (fun _ i _=>l.length-(intOf i).toNat)
 case atStart=>exact⟨0,bk _,rfl,0,none,0,rfl,by omega,⟨by simp,Goes.refl (gS _ _ _ (fun _ h=>h))⟩⟩
 case round=>
  obtain⟨k,hk,rfl,n1,gp,jo,rfl,tH,HN⟩:=hrel;have hB:=gD HN.out.2;have cY:=hB.size;by_cases aQ:k<l.length
  ·obtain⟨g',off,rfl⟩:=yF.out (by omega);have c0:wr.cell? ⟨g',off+k,none⟩=some (.pointer (some ⟨f (l[k]'aQ),0,none⟩)):=by
    have:=aW (Mr.aF HG.out hB) k (by omega);rw[this,List.getElem?_map,aV aQ];rfl
   have HC:=HP.out wr hB _ (bY aQ);unfold pt at HC;cases hq:p (l[k]'aQ)
   ·have PS:Hid (n1=((l.take (k+1)).filter p).length∧ ∀q,Goes (rowA 127 1 (.slice gp n1 jo) n1 (((l.take (k+1)).filter p).map fun i=>pt (f i))) w (fun _=>False) (wr.drewN q)):=by
     show(_∧_);rw[oA aQ,hq];have:=HN.out;simp only[Bool.false_eq_true,if_false,List.append_nil];exact⟨this.1,fun q=>this.2.drewN q⟩
    rw[hq]at HC;generalize f (l[k]'aQ)=fk at*;clear HN hB cY;go_wp2_with (first|(go_at_fn g;go_must(refine HC.mono ?_;rintro e w1⟨rfl,q1,rfl⟩)));go_roundw
    case rel=>exact⟨k+1,by omega,by go_num,n1,gp,jo,rfl,tH,⟨PS.out.1,PS.out.2 _⟩⟩
    case measure=>simp[intOf];omega
   ·rw[hq]at HC;obtain⟨Gr,nt,Q2,QY⟩:=HN.out.2;have iL:=hide nt;have HO:=hide Q2;have HNN:=hide QY;have Mb:=hide HN.out.1;have nW:Hid (f (l[k]'aQ)=f (l[k]'aQ)):=rfl;have mV:Hid ((l.take (k+1)).filter p=(l.take k).filter p++ [l[k]'aQ]):=by
     show(_=_);rw[oA aQ,hq];rfl
    obtain⟨fk,LR⟩: ∃fk,fk=f (l[k]'aQ):=⟨_,rfl⟩;rw[<-LR]at HC c0;have HK:=hide LR;clear HN nt Q2 QY hB LR nW;go_wp2_with (first
     |(go_at_fn g;go_must(refine HC.mono ?_;rintro e w1⟨rfl,q1,rfl⟩))
     |(at_builtin;go_must(refine bh _ rfl _ _ 85 rfl 127 i0 (.pointer none) 1 8 underlying85 kg nV j0 kC rfl (by decide) (F:=Gr) _ n1 (((l.take k).filter p).map fun i=>pt (f i)) rfl (Mr.aF (bI iL.out _) ((ar _ _).alloc (af _) _)) ⟨wr.heap.size,0,none⟩ 1 1 [.pointer (some ⟨fk,0,none⟩)] rfl rfl (World.news_of_block (cs:= #[.pointer (some ⟨fk,0,none⟩)]) (t:=127) (fr:=(0,0)) (heap_alloc_new (wr.drewN _) _)) (by simp[Value.oneCell']) (by unfold maxLen;omega) (by omega) ?main)))
    case main=>
     intro dz mJ w2 bz;have PS:Hid (n1+1=((l.take (k+1)).filter p).length∧Goes (rowA 127 1 (.slice dz (n1+1) mJ) (n1+1) (((l.take (k+1)).filter p).map fun i=>pt (f i))) w (fun _=>False) w2):=by
      show(_∧_);rw[mV.out,aC,aB,<-Mb.out];refine⟨rfl, ?_⟩;have o1:Only (fun _=>False) w ((wr.alloc (.cells #[.pointer (some ⟨fk,0,none⟩)] 127)).drewN q1):=(HO.out.alloc _).drewN q1;have h2:=ay o1 HNN.out bz;have e3: [(l[k]'aQ)].map (fun i=>pt (f i))= [.pointer (some ⟨fk,0,none⟩)]:=by rw[HK.out];rfl
      rw[e3];exact h2
     have JI:n1+1<=16777216:=by have h1:=PS.out.1;have h2:=B7 (l:=l) (k:=k+1) (p:=p);omega
     clear bz;go_wp2;go_roundw
     case rel=>exact⟨k+1,by omega,by go_num,n1+1,dz,mJ,by first|rfl|go_num,JI,PS⟩
     case measure=>simp[intOf];omega
  ·obtain rfl:k=l.length:=by omega
   have HX:Hid (n1=(l.filter p).length∧Goes (rowA 127 1 (.slice gp n1 jo) n1 ((l.filter p).map fun i=>pt (f i))) w (fun _=>False) wr):=by have h:=HN.out;rw[List.take_length]at h;exact h
   clear HN;go_wp2;go_ret;obtain⟨e1,h1⟩:=HX.out;exact⟨_,rfl,by rw[<-e1];exact h1⟩
