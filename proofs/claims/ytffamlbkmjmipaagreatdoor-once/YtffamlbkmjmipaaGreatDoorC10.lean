import Derived.Test.YtffamlbkmjmipaaGreatDoorC05
import Derived.Test.YtffamlbkmjmipaaGreatDoorC06
import Derived.Test.YtffamlbkmjmipaaGreatDoorC07
import Derived.Lib.SliceRun
set_option maxHeartbeats 8000000
set_option maxRecDepth 100000
namespace Go.Proofs.YtffamlbkmjmipaaGreatDoor
open _root_.Go.Proofs.Tryz
namespace Pj
open Go.RowKit aJ Mc Go.Sort
attribute [local go_sem] ae ag
theorem ZU:(prog.info? 126).map (fun i=>i.size)=some 7:=by kernel_rfl
theorem N5:(prog.info? 127).map (fun i=>i.size)=some 1:=by kernel_rfl
theorem aas{w:World}{p q:Nat}(hp:kg w p)(hq:kg w q):(binOp .eql 127 (.pointer (some ⟨p,0,none⟩)) (.pointer (some ⟨q,0,none⟩))).run prog w= .ok (.bool (decide (p=q))) w:=by
 have hi:=ZU;cases hj:prog.info? 126 with
 |none=>rw[hj]at hi;cases hi
 |some j=>
  rw[hj]at hi;have hs:j.size=7:=by simpa using hi
  by_cases e:p=q
  ·subst e;rw[run_eql_ptr_same w _ underlying127 hj];simp
  ·obtain⟨c1,t1,h1⟩:=hp;obtain⟨c2,t2,h2⟩:=hq;rw[run_eql_ptr_other w underlying127 hj (by rw[hs];decide) (fun h=>e (by injection h)) h1 h2];simp[e]
theorem ixA{κ:Type} [DecidableEq κ](v:Value)(l:List κ)(f:κ->Nat)(x:κ)(w:World)(G:Ft)(h:(rowA 127 1 v l.length (l.map fun i=>pt (f i))).holds w G)(iE: ∀y∈l,f y=f x->y=x)(hb: ∀y∈l,kg w (f y))(hx:kg w (f x))(hl:l.length<=16777216):Calls prog 162 #[v,pt (f x)] w fun e w'=>e= .returned (.int .i64 (Mr.ze (l.findIdx? fun y=>decide (y=x))))∧w'=w:=by
 obtain⟨ao,cap,rfl,cX,bQ⟩:=Mr.cE h;have HG:=hide h;have vG:=hide bQ;have HB:=hide hb;have HX:=hide hx;have HI:=hide iE;clear h bQ hb hx iE;unfold pt;go_enter func162,ntmps162;go_wp2
 go_loop [5,8] (fun _ i=> ∃k:Nat,k<=l.length∧i= .int .i64 k∧Hid (k<=l.findIdx fun y=>decide (y=x))) (fun _ i=>l.length-(intOf i).toNat)
 case atStart=>exact⟨0,bh _,rfl,bh _⟩
 case round=>
  obtain⟨k,hk,rfl,HK⟩:=hrel;by_cases aN:k<l.length
  ·obtain⟨g',off,rfl⟩:=vG.out (by omega);have c0:w.cell? ⟨g',off+k,none⟩=some (.pointer (some ⟨f (l[k]'aN),0,none⟩)):=by
    rw[bf HG.out k (by omega),List.getElem?_map,aY aN];rfl
   have heq:=aas HX.out (HB.out _ (bS aN));by_cases hq:(l[k]'aN)=x
   ·have HF:=hide (Mr.tA (p:=fun y=>decide (y=x)) aN (by simpa using hq) HK.out);rw[hq,decide_eq_true rfl]at heq;rw[hq]at c0;clear HK;go_wp2;go_ret;exact⟨by rw[HF.out];rfl,rfl⟩
   ·have HF:=hide (Mr.lQ (p:=fun y=>decide (y=x)) aN (by simpa using hq) HK.out);rw[decide_eq_false (fun e=>hq (HI.out _ (bS aN) e.symm))]at heq;generalize f (l[k]'aN)=fk at*;clear HK;go_wp2
    go_round
    case rel=>exact⟨k+1,by omega,by go_num,HF⟩
    case measure=>simp[intOf];omega
  ·have HF:=hide (Mr.pT (p:=fun y=>decide (y=x)) (l:=l) (by have:=HK.out;omega));obtain rfl:k=l.length:=by omega
   clear HK;go_wp2;go_ret;exact⟨by rw[HF.out];rfl,rfl⟩
theorem woA{κ:Type} [DecidableEq κ](v:Value)(l:List κ)(f:κ->Nat)(x:κ)(w:World)(F:Ft)(h:(rowA 127 1 v l.length (l.map fun i=>pt (f i))).holds w F)(iE: ∀y∈l,f y=f x->y=x)(hb: ∀y∈l,kg w (f y))(hx:kg w (f x))(hl:l.length<=16777216):Calls prog 125 #[v,pt (f x)] w fun e w'=> ∃v',e= .returned v'∧Goes (rowA 127 1 v' (l.erase x).length ((l.erase x).map fun i=>pt (f i))) w F w':=by
 have pL:=ixA v l f x w F h iE hb hx hl;obtain⟨ao,cap,hv,cX,bQ⟩:=Mr.cE h;have zr:cap<=maxLen:=by obtain⟨_,_,e,_,h3,_⟩:=bX h;rw[hv]at e;cases e;exact h3
 cases hq:l.findIdx? (fun y=>decide (y=x))with
 |none=>
  rw[hq]at pL;have e1:l.erase x=l:=List.erase_of_not_mem (fun hm=>by have:=List.findIdx?_eq_none_iff.1 hq x hm;simp at this)
  rw[e1];have HG:=hide (Goes.refl h);clear h iE hb hx hq;unfold pt Mr.ze at*;subst hv;go_enter func125,ntmps125;go_wp2_with (go_at_call 162;go_must(refine pL.mono ?_;rintro e w1⟨rfl,rfl⟩));go_ret;exact⟨_,rfl,HG.out⟩
 |some i=>
  rw[hq]at pL;obtain⟨hi,hp,pZ⟩:=List.findIdx?_eq_some_iff_getElem.1 hq;have uY:l[i]?=some x:=by rw[aY hi];congr 1;simpa using hp
  have e1:l.erase x=l.eraseIdx i:=ko uY (fun k hk=>by
   have:=pZ k hk;intro e;rw[aY (by omega)]at e;have e':l[k]=x:=by simpa using e
   rw[e']at this;simp at this)
  have e2:(l.erase x).length=l.length-1:=by rw[e1,List.length_eraseIdx,if_pos hi]
  obtain⟨g',off,rfl⟩:=bQ (by omega);subst hv;by_cases jo:i=0
  ·subst jo;obtain⟨t,rfl⟩: ∃t,l=x::t:=vx uY;have hz: ∀w,(zeroValue 127).run prog w= .ok (.pointer none) w:=fun w=>by kernel_rfl
   have c0:(w.cell? ⟨g',off,none⟩).isSome=true:=by have:=bf h 0 (by simp);rw[Nat.add_zero]at this;rw[this];simp
   have NC:=Lib.run_clear_slice w 85 127 0 (.pointer none) underlying85 hz rfl rfl g' off 1 cap (by omega) (by
    intro j hj;obtain rfl:j=0:=by omega
    simpa using c0) (by
    intro j hj;obtain rfl:j=0:=by omega
    simpa using dw h off)
   have HG:=hide (show Goes (rowA 127 1 (.slice (some ⟨g',off+1,none⟩) t.length (cap-1)) t.length (t.map fun i=>pt (f i))) w F (w.setCells g' off (List.replicate 1 (.pointer none)))from by have s1:=cO h 0 (.pointer none) (by simp);refine(show Goes _ w F (w.setCell ⟨g',off+0,none⟩ (.pointer none))from s1).mono fun F' pW=> ?_;have:=nS pW 1 (by simp);simpa using this)
   have EO:Hid (cap=1->Goes (rowA 127 1 (.slice (some ⟨g',off,none⟩) t.length 0) t.length (t.map fun i=>pt (f i))) w F (w.setCells g' off [.pointer none])):=fun uq=>by
    have ht:t= []:=by
     have:t.length+1<=cap:=by simpa using cX
     exact List.eq_nil_of_length_eq_zero (by omega)
    subst ht;have s1:=cO h 0 (.pointer none) (by simp);refine(show Goes _ w F (w.setCell ⟨g',off+0,none⟩ (.pointer none))from s1).mono fun F' pW=> ?_;exact nR (jB pW 0 (by simp)) 0 (by omega) (by omega)
   have BX:(1:Int)<=((t.length:Nat):Int)+1:=by omega
   have Nz:t.length+1<=cap:=by simpa using cX
   have NA:(1:Int)<=((cap:Nat):Int):=by omega
   simp only[List.erase_cons_head];clear h iE hb hx hq pZ uY e1 e2 hp bQ cX c0;unfold pt Mr.ze at*;simp only[List.length_cons]at*;generalize t.length=n at*;go_enter func125,ntmps125;go_wp2_with (go_at_call 162;go_must(refine pL.mono ?_;rintro e w1⟨rfl,rfl⟩))
   all_goals go_ret
   ·exact⟨_,rfl,EO.out (by assumption)⟩
   ·exact⟨_,rfl,HG.out⟩
  ·
   obtain⟨i0,Nv⟩: ∃i0,prog.info? 127=some i0:=by
    have:=N5;cases hj:prog.info? 127 with
    |none=>rw[hj]at this;cases this
    |some i0=>exact⟨i0,rfl⟩
   have jJ:i0.size=1:=by have:=N5;rw[Nv]at this;simpa using this
   have jq: ∀t:List κ,(t.map fun i=>some (f i)).map ep=t.map fun i=>pt (f i):=fun t=>by rw[aB];rfl
   have hH:Holds ep w g' off (l.map fun i=>some (f i)).toArray:=row_holds (by rw[jq];exact h);have jl:=AnyE.slices_Delete dlA ep (fun _=>rfl) none (fun w=>by kernel_rfl) i0 Nv jJ g' off cap i (i+1) (l.map fun i=>some (f i)).toArray w hH (by simpa using cX) (by unfold maxLen at zr;omega) (by omega) (by simp;omega);change Calls prog 163 _ _ _ at jl;have HG:Hid (∀q,Goes (rowA 127 1 (.slice (some ⟨g',off,none⟩) (l.length-1) cap) (l.erase x).length ((l.erase x).map fun i=>pt (f i))) w F (putRow ep (Sort.ahead w q) g' off (((l.map fun i=>some (f i)).toArray.toList.take i++(l.map fun i=>some (f i)).toArray.toList.drop (i+1)++List.replicate (i+1-i) none).toArray))):=fun q=>by have:=rZ (enc:=ep) h (((l.map fun i=>some (f i)).toArray.toList.take i++(l.map fun i=>some (f i)).toArray.toList.drop (i+1)++List.replicate (i+1-i) none).toArray) (by simp;omega) (l.length-1) (by omega) q;rw[e2];refine this.eq ?_;congr 1;rw[e1,List.eraseIdx_eq_take_drop_succ,<-jq];rw[List.take_left' (by simp;omega),aD,aD];simp only[aD,List.map_take,List.map_drop]
   have y7:0<i:=by omega
   have UE:(i:Int)<=16777216:=by omega
   have dc:(l.map fun i=>some (f i)).toArray.size-(i+1-i)=l.length-1:=by simp
   rw[dc]at jl;simp only[List.size_toArray,aF]at jl;clear h iE hb hx hq pZ uY e1 e2 hp bQ cX hH jq dc;unfold pt Mr.ze at*;generalize l.length=n at*;generalize(((l.map fun i=>some (f i)).toArray.toList.take i++(l.map fun i=>some (f i)).toArray.toList.drop (i+1)++List.replicate (i+1-i) none).toArray)=arr at*;obtain⟨j,hj⟩: ∃j,j=i+1:=⟨_,rfl⟩;have NB:((i:Nat):Int)+1=(j:Int):=by omega
   rw[<-hj]at jl;have Zw:j<=16777216:=by omega
   clear hj;go_enter func125,ntmps125;go_wp2_with (first
    |(go_at_call 162;go_must(refine pL.mono ?_;rintro e w1⟨rfl,rfl⟩))
    |(go_at_call 163;go_must(refine jl.mono ?_;rintro e w1⟨rfl,q,rfl⟩)))
   go_ret;exact⟨_,rfl,HG.out _⟩
end Pj
namespace Pj
open Go.RowKit aJ Mc
attribute [local go_sem] ae ag
def RO{κ:Type}(l:List κ)(f:κ->Nat)(p:κ->Bool)(g:FuncId)(lb:Array Value)(w:World):Prop:=
 ∀wr,Below w.heap.size w wr-> ∀y∈l,Calls prog g (#[pt (f y)]++lb) wr fun e w'=>e= .returned (.bool (p y))∧ ∃q,w'=wr.drewN q
theorem Iz{κ:Type}{l:List κ}{p:κ->Bool}{k:Nat}(h:l.findIdx? p=some k)(hk:k<l.length):l.find? p=some (l[k]'hk):=by obtain⟨h1,h2,h3⟩:=List.findIdx?_eq_some_iff_getElem.1 h;rw[List.find?_eq_some_iff_getElem];exact⟨h2,k,hk,rfl,fun j hj=>by simpa using h3 j hj⟩
theorem fiA{κ:Type}(v:Value)(l:List κ)(f:κ->Nat)(p:κ->Bool)(g:FuncId)(lb:Array Value)(eg:Enters prog g)(w:World)(G:Ft)(h:(rowA 127 1 v l.length (l.map fun i=>pt (f i))).holds w G)(hp:RO l f p g lb w)(hl:l.length<=16777216):Calls prog 166 #[v, .func (.func g) #[] lb] w fun e w'=>e= .returned (ep ((l.find? p).map f))∧ ∃q,w'=w.drewN q:=by
 obtain⟨ao,cap,rfl,cX,bQ⟩:=Mr.cE h;have HG:=hide h;have vG:=hide bQ;have HP:=hide hp;have eg': ∀args w,(callFunc g args).run prog w= .ok (.enter g args) w:=eg;clear h bQ hp;go_enter func166,ntmps166;go_wp2;go_loopw [10] (fun i wr=> ∃k:Nat,k<=l.length∧i= .int .i64 k∧Hid (k<=l.findIdx p)∧ ∃q:Nat,Hid (wr=w.drewN q)) (fun i _=>l.length-(intOf i).toNat)
 case atStart=>exact⟨0,bh _,rfl,bh _,0,rfl⟩
 case round=>
  obtain⟨k,hk,rfl,HK,q,HQ⟩:=hrel;by_cases aN:k<l.length
  ·obtain⟨g',off,rfl⟩:=vG.out (by omega);have c0:wr.cell? ⟨g',off+k,none⟩=some (.pointer (some ⟨f (l[k]'aN),0,none⟩)):=by
    rw[HQ.out];show w.cell? _=_;rw[bf HG.out k (by omega),List.getElem?_map,aY aN];rfl
   have HC:=HP.out wr (by rw[HQ.out];exact⟨rfl,rfl,rfl,af _,fun _ _=>rfl⟩) _ (bS aN);unfold pt at HC;cases hq:p (l[k]'aN)
   ·have HF:=hide (Mr.lQ aN hq HK.out);rw[hq]at HC;generalize f (l[k]'aN)=fk at*;clear HK;go_wp2_with (first|(go_at_fn g;go_must(refine HC.mono ?_;rintro e w1⟨rfl,q1,rfl⟩)));go_roundw
    case rel=>exact⟨k+1,by omega,by go_num,HF,q+q1,by rw[HQ.out];exact vZ _ _ _⟩
    case measure=>simp[intOf];omega
   ·have HF:=hide (Mr.tA aN hq HK.out);rw[hq]at HC;have e1:(l.find? p).map f=some (f (l[k]'aN)):=by
     rw[Iz HF.out aN];rfl
    have HE:=hide e1;generalize f (l[k]'aN)=fk at*;clear HK e1;go_wp2_with (first|(go_at_fn g;go_must(refine HC.mono ?_;rintro e w1⟨rfl,q1,rfl⟩)));go_ret;exact⟨by rw[HE.out];rfl,q+q1,by rw[HQ.out];exact vZ _ _ _⟩
  ·have HF:=hide (Mr.pT (p:=p) (l:=l) (by have:=HK.out;omega));obtain rfl:k=l.length:=by omega
   clear HK;go_wp2;go_ret;refine⟨?_,q,HQ.out⟩;have:l.find? p=none:=List.find?_eq_none.2 (fun x hx=>by rw[List.findIdx?_eq_none_iff.1 HF.out x hx];simp);rw[this];rfl
theorem fiT{κ:Type}(v:Value)(l:List κ)(f:κ->Nat)(p:κ->Bool)(g:FuncId)(lb:Array Value)(eg:Enters prog g)(w:World)(G:Ft)(h:(rowA 89 1 v l.length (l.map fun i=>pt (f i))).holds w G)(hp:RO l f p g lb w)(hl:l.length<=16777216):Calls prog 71 #[v, .func (.func g) #[] lb] w fun e w'=>e= .returned (ep ((l.find? p).map f))∧ ∃q,w'=w.drewN q:=by
 obtain⟨ao,cap,rfl,cX,bQ⟩:=Mr.cE h;have HG:=hide h;have vG:=hide bQ;have HP:=hide hp;have eg': ∀args w,(callFunc g args).run prog w= .ok (.enter g args) w:=eg;clear h bQ hp;go_enter func71,ntmps71;go_wp2;go_loopw [10] (fun i wr=> ∃k:Nat,k<=l.length∧i= .int .i64 k∧Hid (k<=l.findIdx p)∧ ∃q:Nat,Hid (wr=w.drewN q)) (fun i _=>l.length-(intOf i).toNat)
 case atStart=>exact⟨0,bh _,rfl,bh _,0,rfl⟩
 case round=>
  obtain⟨k,hk,rfl,HK,q,HQ⟩:=hrel;by_cases aN:k<l.length
  ·obtain⟨g',off,rfl⟩:=vG.out (by omega);have c0:wr.cell? ⟨g',off+k,none⟩=some (.pointer (some ⟨f (l[k]'aN),0,none⟩)):=by
    rw[HQ.out];show w.cell? _=_;rw[bf HG.out k (by omega),List.getElem?_map,aY aN];rfl
   have HC:=HP.out wr (by rw[HQ.out];exact⟨rfl,rfl,rfl,af _,fun _ _=>rfl⟩) _ (bS aN);unfold pt at HC;cases hq:p (l[k]'aN)
   ·have HF:=hide (Mr.lQ aN hq HK.out);rw[hq]at HC;generalize f (l[k]'aN)=fk at*;clear HK;go_wp2_with (first|(go_at_fn g;go_must(refine HC.mono ?_;rintro e w1⟨rfl,q1,rfl⟩)));go_roundw
    case rel=>exact⟨k+1,by omega,by go_num,HF,q+q1,by rw[HQ.out];exact vZ _ _ _⟩
    case measure=>simp[intOf];omega
   ·have HF:=hide (Mr.tA aN hq HK.out);rw[hq]at HC;have e1:(l.find? p).map f=some (f (l[k]'aN)):=by
     rw[Iz HF.out aN];rfl
    have HE:=hide e1;generalize f (l[k]'aN)=fk at*;clear HK e1;go_wp2_with (first|(go_at_fn g;go_must(refine HC.mono ?_;rintro e w1⟨rfl,q1,rfl⟩)));go_ret;exact⟨by rw[HE.out];rfl,q+q1,by rw[HQ.out];exact vZ _ _ _⟩
  ·have HF:=hide (Mr.pT (p:=p) (l:=l) (by have:=HK.out;omega));obtain rfl:k=l.length:=by omega
   clear HK;go_wp2;go_ret;refine⟨?_,q,HQ.out⟩;have:l.find? p=none:=List.find?_eq_none.2 (fun x hx=>by rw[List.findIdx?_eq_none_iff.1 HF.out x hx];simp);rw[this];rfl
variable{k:Nat}
theorem gU{A:aJ}{w w':World}(h:Goes A w (fun _=>False) w'):Below w.heap.size w w':=by obtain⟨_,_,o,_⟩:=h;exact o.toBelow (fun _ h=>h.elim) (af _)
theorem rB{κ:Type}{p:κ->Bool}{l:List κ}(hk:k<l.length):(l.take (k+1)).filter p=(l.take k).filter p++if p (l[k]'hk)then [l[k]'hk]else []:=by rw[iG hk,List.filter_append];congr 1;by_cases h:p l[k]=true<;>simp[h]
theorem FY{κ:Type}{p:κ->Bool}{l:List κ}:((l.take k).filter p).length<=l.length:=by refine ar (List.length_filter_le ..) ?_;rw[List.length_take];exact Nat.min_le_right ..
theorem vO{κ:Type}(v:Value)(l:List κ)(f:κ->Nat)(p:κ->Bool)(g:FuncId)(lb:Array Value)(eg:Enters prog g)(w:World)(G:Ft)(h:(rowA 127 1 v l.length (l.map fun i=>pt (f i))).holds w G)(hp:RO l f p g lb w)(hl:l.length<=16777216):Calls prog 78 #[v, .func (.func g) #[] lb] w fun e w'=> ∃v',e= .returned v'∧Goes (rowA 127 1 v' (l.filter p).length ((l.filter p).map fun i=>pt (f i))) w (fun _=>False) w':=by
 obtain⟨i0,jo,mz,ja,jK⟩:=fQ GK;obtain⟨ao,cap,rfl,cX,bQ⟩:=Mr.cE h;have HG:=hide h;have vG:=hide bQ;have HP:=hide hp;have eg': ∀args w,(callFunc g args).run prog w= .ok (.enter g args) w:=eg;clear h bQ hp;go_enter func78,ntmps78;go_wp2;go_loopw [5,10] (fun lv i wr=> ∃k:Nat,k<=l.length∧i= .int .i64 k∧ ∃n1 iQ mn,lv= .slice iQ n1 mn∧n1<=16777216∧Hid (n1=((l.take k).filter p).length∧Goes (rowA 127 1 (.slice iQ n1 mn) n1 (((l.take k).filter p).map fun i=>pt (f i))) w (fun _=>False) wr)) (fun _ i _=>l.length-(intOf i).toNat)
 case atStart=>exact⟨0,bh _,rfl,0,none,0,rfl,by omega,⟨by simp,Goes.refl (fO _ _ _ (fun _ h=>h))⟩⟩
 case round=>
  obtain⟨k,hk,rfl,n1,iQ,mn,rfl,BX,HN⟩:=hrel;have hB:=gU HN.out.2;have dc:=hB.size;by_cases aN:k<l.length
  ·obtain⟨g',off,rfl⟩:=vG.out (by omega);have c0:wr.cell? ⟨g',off+k,none⟩=some (.pointer (some ⟨f (l[k]'aN),0,none⟩)):=by
    have:=bf (Mr.aI HG.out hB) k (by omega);rw[this,List.getElem?_map,aY aN];rfl
   have HC:=HP.out wr hB _ (bS aN);unfold pt at HC;cases hq:p (l[k]'aN)
   ·have U6:Hid (n1=((l.take (k+1)).filter p).length∧ ∀q,Goes (rowA 127 1 (.slice iQ n1 mn) n1 (((l.take (k+1)).filter p).map fun i=>pt (f i))) w (fun _=>False) (wr.drewN q)):=by
     show(_∧_);rw[rB aN,hq];have:=HN.out;simp only[Bool.false_eq_true,if_false,List.append_nil];exact⟨this.1,fun q=>this.2.drewN q⟩
    rw[hq]at HC;generalize f (l[k]'aN)=fk at*;clear HN hB dc;go_wp2_with (first|(go_at_fn g;go_must(refine HC.mono ?_;rintro e w1⟨rfl,q1,rfl⟩)));go_roundw
    case rel=>exact⟨k+1,by omega,by go_num,n1,iQ,mn,rfl,BX,⟨U6.out.1,U6.out.2 _⟩⟩
    case measure=>simp[intOf];omega
   ·rw[hq]at HC;obtain⟨Gr,pX,WH,WC⟩:=HN.out.2;have jf:=hide pX;have HO:=hide WH;have HNN:=hide WC;have HL1:=hide HN.out.1;have X4:Hid (f (l[k]'aN)=f (l[k]'aN)):=rfl;have AD:Hid ((l.take (k+1)).filter p=(l.take k).filter p++ [l[k]'aN]):=by
     show(_=_);rw[rB aN,hq];rfl
    obtain⟨fk,Gq⟩: ∃fk,fk=f (l[k]'aN):=⟨_,rfl⟩;rw[<-Gq]at HC c0;have HK:=hide Gq;clear HN pX WH WC hB Gq X4;go_wp2_with (first
     |(go_at_fn g;go_must(refine HC.mono ?_;rintro e w1⟨rfl,q1,rfl⟩))
     |(at_builtin;go_must(refine aT _ rfl _ _ 85 rfl 127 i0 (.pointer none) 1 8 underlying85 jo mz ja jK rfl (by decide) (F:=Gr) _ n1 (((l.take k).filter p).map fun i=>pt (f i)) rfl (Mr.aI (bI jf.out _) ((au _ _).alloc (af _) _)) ⟨wr.heap.size,0,none⟩ 1 1 [.pointer (some ⟨fk,0,none⟩)] rfl rfl (World.news_of_block (cs:= #[.pointer (some ⟨fk,0,none⟩)]) (t:=127) (fr:=(0,0)) (heap_alloc_new (wr.drewN _) _)) (by simp[Value.oneCell']) (by unfold maxLen;omega) (by omega) ?main)))
    case main=>
     intro dK pS w2 bE;have U6:Hid (n1+1=((l.take (k+1)).filter p).length∧Goes (rowA 127 1 (.slice dK (n1+1) pS) (n1+1) (((l.take (k+1)).filter p).map fun i=>pt (f i))) w (fun _=>False) w2):=by
      show(_∧_);rw[AD.out,aH,aD,<-HL1.out];refine⟨rfl, ?_⟩;have o1:Only (fun _=>False) w ((wr.alloc (.cells #[.pointer (some ⟨fk,0,none⟩)] 127)).drewN q1):=(HO.out.alloc _).drewN q1;have h2:=aC o1 HNN.out bE;have e3: [(l[k]'aN)].map (fun i=>pt (f i))= [.pointer (some ⟨fk,0,none⟩)]:=by rw[HK.out];rfl
      rw[e3];exact h2
     have Rm:n1+1<=16777216:=by have h1:=U6.out.1;have h2:=FY (l:=l) (k:=k+1) (p:=p);omega
     clear bE;go_wp2;go_roundw
     case rel=>exact⟨k+1,by omega,by go_num,n1+1,dK,pS,by first|rfl|go_num,Rm,U6⟩
     case measure=>simp[intOf];omega
  ·obtain rfl:k=l.length:=by omega
   have HX:Hid (n1=(l.filter p).length∧Goes (rowA 127 1 (.slice iQ n1 mn) n1 ((l.filter p).map fun i=>pt (f i))) w (fun _=>False) wr):=by have h:=HN.out;rw[List.take_length]at h;exact h
   clear HN;go_wp2;go_ret;obtain⟨e1,h1⟩:=HX.out;exact⟨_,rfl,by rw[<-e1];exact h1⟩
