import Derived.Test.YtffamlbkmjmipaaGreatDoorB04
import Derived.Test.YtffamlbkmjmipaaGreatDoorB14
import Derived.Test.YtffamlbkmjmipaaGreatDoorB16
import Derived.Lib.SliceRun
import Derived.Lib.Split
import Derived.Maps.RangeWalk
import Derived.Deep.Slices
import Derived.SizedLaws
set_option maxHeartbeats 8000000
set_option maxRecDepth 100000
namespace Go.Proofs.YtffamlbkmjmipaaGreatDoor
open _root_.Go.Proofs.Tryz
namespace Pj
open Go.RowKit aM Mc Go.Sort
attribute [local go_sem] ag ar
theorem abj:(prog.info? 92).map (fun i=>i.size)=some 3:=by kernel_rfl
theorem P7:(prog.info? 89).map (fun i=>i.size)=some 1:=by kernel_rfl
theorem ab3{w:World}{p q:Nat}(hp:mn w p)(hq:mn w q):(binOp .eql 89 (.pointer (some ⟨p,0,none⟩)) (.pointer (some ⟨q,0,none⟩))).run prog w= .ok (.bool (decide (p=q))) w:=by
 have hi:=abj;cases hj:prog.info? 92 with
 |none=>rw[hj]at hi;cases hi
 |some j=>
  rw[hj]at hi;have hs:j.size=3:=by simpa using hi
  by_cases e:p=q
  ·subst e;rw[run_eql_ptr_same w _ underlying89 hj];simp
  ·obtain⟨c1,t1,h1⟩:=hp;obtain⟨c2,t2,h2⟩:=hq;rw[run_eql_ptr_other w underlying89 hj (by rw[hs];decide) (fun h=>e (by injection h)) h1 h2];simp[e]
theorem ixT{κ:Type} [DecidableEq κ](v:Value)(l:List κ)(f:κ->Nat)(x:κ)(w:World)(G:Ft)(h:(rowA 89 1 v l.length (l.map fun i=>pt (f i))).holds w G)(j5: ∀y∈l,f y=f x->y=x)(hb: ∀y∈l,mn w (f y))(hx:mn w (f x))(hl:l.length<=16777216):Calls prog 158 #[v,pt (f x)] w fun e w'=>e= .returned (.int .i64 (Mr.jV (l.findIdx? fun y=>decide (y=x))))∧w'=w:=by
 obtain⟨ao,cap,rfl,dF,bI⟩:=Mr.bO h;have HG:=hide h;have fT:=hide bI;have HB:=hide hb;have HX:=hide hx;have HI:=hide j5;clear h bI hb hx j5;unfold pt;go_enter func158,ntmps158;go_wp2
 go_loop [5,8] (fun _ i=> ∃k:Nat,k<=l.length∧i= .int .i64 k∧Hid (k<=l.findIdx fun y=>decide (y=x))) (fun _ i=>l.length-(intOf i).toNat)
 case atStart=>exact⟨0,aJ _,rfl,aJ _⟩
 case round=>
  obtain⟨k,hk,rfl,HK⟩:=hrel;by_cases ay:k<l.length
  ·obtain⟨g',off,rfl⟩:=fT.out (by omega);have c0:w.cell? ⟨g',off+k,none⟩=some (.pointer (some ⟨f (l[k]'ay),0,none⟩)):=by
    rw[bm HG.out k (by omega),List.getElem?_map,a7 ay];rfl
   have heq:=ab3 HX.out (HB.out _ (aY ay));by_cases hq:(l[k]'ay)=x
   ·have HF:=hide (Mr.jF (p:=fun y=>decide (y=x)) ay (by simpa using hq) HK.out);rw[hq,decide_eq_true rfl]at heq;rw[hq]at c0;clear HK;go_wp2;go_ret;exact⟨by rw[HF.out];rfl,rfl⟩
   ·have HF:=hide (Mr.eI (p:=fun y=>decide (y=x)) ay (by simpa using hq) HK.out);rw[decide_eq_false (fun e=>hq (HI.out _ (aY ay) e.symm))]at heq;generalize f (l[k]'ay)=fk at*;clear HK;go_wp2
    go_round
    case rel=>exact⟨k+1,by omega,by go_num,HF⟩
    case measure=>simp[intOf];omega
  ·have HF:=hide (Mr.lD (p:=fun y=>decide (y=x)) (l:=l) (by have:=HK.out;omega));obtain rfl:k=l.length:=by omega
   clear HK;go_wp2;go_ret;exact⟨by rw[HF.out];rfl,rfl⟩
theorem woT{κ:Type} [DecidableEq κ](v:Value)(l:List κ)(f:κ->Nat)(x:κ)(w:World)(F:Ft)(h:(rowA 89 1 v l.length (l.map fun i=>pt (f i))).holds w F)(j5: ∀y∈l,f y=f x->y=x)(hb: ∀y∈l,mn w (f y))(hx:mn w (f x))(hl:l.length<=16777216):Calls prog 120 #[v,pt (f x)] w fun e w'=> ∃v',e= .returned v'∧Goes (rowA 89 1 v' (l.erase x).length ((l.erase x).map fun i=>pt (f i))) w F w':=by
 have rz:=ixT v l f x w F h j5 hb hx hl;obtain⟨ao,cap,hv,dF,bI⟩:=Mr.bO h;have Aa:cap<=maxLen:=by obtain⟨_,_,e,_,h3,_⟩:=bC h;rw[hv]at e;cases e;exact h3
 cases hq:l.findIdx? (fun y=>decide (y=x))with
 |none=>
  rw[hq]at rz;have e1:l.erase x=l:=List.erase_of_not_mem (fun hm=>by have:=List.findIdx?_eq_none_iff.1 hq x hm;simp at this)
  rw[e1];have HG:=hide (Goes.refl h);clear h j5 hb hx hq;unfold pt Mr.jV at*;subst hv;go_enter func120,ntmps120;go_wp2_with (go_at_call 158;go_must(refine rz.mono ?_;rintro e w1⟨rfl,rfl⟩));go_ret;exact⟨_,rfl,HG.out⟩
 |some i=>
  rw[hq]at rz;obtain⟨hi,hp,sD⟩:=List.findIdx?_eq_some_iff_getElem.1 hq;have ju:l[i]?=some x:=by rw[a7 hi];congr 1;simpa using hp
  have e1:l.erase x=l.eraseIdx i:=mE ju (fun k hk=>by
   have:=sD k hk;intro e;rw[a7 (by omega)]at e;have e':l[k]=x:=by simpa using e
   rw[e']at this;simp at this)
  have e2:(l.erase x).length=l.length-1:=by rw[e1,List.length_eraseIdx,if_pos hi]
  obtain⟨g',off,rfl⟩:=bI (by omega);subst hv;by_cases kR:i=0
  ·subst kR;obtain⟨t,rfl⟩: ∃t,l=x::t:=xz ju;have hz: ∀w,(zeroValue 89).run prog w= .ok (.pointer none) w:=fun w=>by kernel_rfl
   have c0:(w.cell? ⟨g',off,none⟩).isSome=true:=by have:=bm h 0 (by simp);rw[Nat.add_zero]at this;rw[this];simp
   have D2:=Lib.run_clear_slice w 84 89 0 (.pointer none) underlying84 hz rfl rfl g' off 1 cap (by omega) (by
    intro j hj;obtain rfl:j=0:=by omega
    simpa using c0) (by
    intro j hj;obtain rfl:j=0:=by omega
    simpa using bV h off)
   have HG:=hide (show Goes (rowA 89 1 (.slice (some ⟨g',off+1,none⟩) t.length (cap-1)) t.length (t.map fun i=>pt (f i))) w F (w.setCells g' off (List.replicate 1 (.pointer none)))from by have s1:=cu h 0 (.pointer none) (by simp);refine(show Goes _ w F (w.setCell ⟨g',off+0,none⟩ (.pointer none))from s1).mono fun F' dR=> ?_;have:=ll dR 1 (by simp);simpa using this)
   have uL:Hid (cap=1->Goes (rowA 89 1 (.slice (some ⟨g',off,none⟩) t.length 0) t.length (t.map fun i=>pt (f i))) w F (w.setCells g' off [.pointer none])):=fun pX=>by
    have ht:t= []:=by
     have:t.length+1<=cap:=by simpa using dF
     exact List.eq_nil_of_length_eq_zero (by omega)
    subst ht;have s1:=cu h 0 (.pointer none) (by simp);refine(show Goes _ w F (w.setCell ⟨g',off+0,none⟩ (.pointer none))from s1).mono fun F' dR=> ?_;exact qY (lU dR 0 (by simp)) 0 (by omega) (by omega)
   have qb:(1:Int)<=((t.length:Nat):Int)+1:=by omega
   have Py:t.length+1<=cap:=by simpa using dF
   have Pz:(1:Int)<=((cap:Nat):Int):=by omega
   simp only[List.erase_cons_head];clear h j5 hb hx hq sD ju e1 e2 hp bI dF c0;unfold pt Mr.jV at*;simp only[List.length_cons]at*;generalize t.length=n at*;go_enter func120,ntmps120;go_wp2_with (go_at_call 158;go_must(refine rz.mono ?_;rintro e w1⟨rfl,rfl⟩))
   all_goals go_ret
   ·exact⟨_,rfl,uL.out (by assumption)⟩
   ·exact⟨_,rfl,HG.out⟩
  ·
   obtain⟨i0,Pt⟩: ∃i0,prog.info? 89=some i0:=by
    have:=P7;cases hj:prog.info? 89 with
    |none=>rw[hj]at this;cases this
    |some i0=>exact⟨i0,rfl⟩
   have iA:i0.size=1:=by have:=P7;rw[Pt]at this;simpa using this
   have jI: ∀t:List κ,(t.map fun i=>some (f i)).map ep=t.map fun i=>pt (f i):=fun t=>by rw[aG];rfl
   have hH:Holds ep w g' off (l.map fun i=>some (f i)).toArray:=row_holds (by rw[jI];exact h);have lG:=AnyE.slices_Delete dlT ep (fun _=>rfl) none (fun w=>by kernel_rfl) i0 Pt iA g' off cap i (i+1) (l.map fun i=>some (f i)).toArray w hH (by simpa using dF) (by unfold maxLen at Aa;omega) (by omega) (by simp;omega);change Calls prog 159 _ _ _ at lG;have HG:Hid (∀q,Goes (rowA 89 1 (.slice (some ⟨g',off,none⟩) (l.length-1) cap) (l.erase x).length ((l.erase x).map fun i=>pt (f i))) w F (putRow ep (Sort.ahead w q) g' off (((l.map fun i=>some (f i)).toArray.toList.take i++(l.map fun i=>some (f i)).toArray.toList.drop (i+1)++List.replicate (i+1-i) none).toArray))):=fun q=>by have:=ui (enc:=ep) h (((l.map fun i=>some (f i)).toArray.toList.take i++(l.map fun i=>some (f i)).toArray.toList.drop (i+1)++List.replicate (i+1-i) none).toArray) (by simp;omega) (l.length-1) (by omega) q;rw[e2];refine this.eq ?_;congr 1;rw[e1,List.eraseIdx_eq_take_drop_succ,<-jI];rw[List.take_left' (by simp;omega),aH,aH];simp only[aH,List.map_take,List.map_drop]
   have GP:0<i:=by omega
   have V4:(i:Int)<=16777216:=by omega
   have cg:(l.map fun i=>some (f i)).toArray.size-(i+1-i)=l.length-1:=by simp
   rw[cg]at lG;simp only[List.size_toArray,bf]at lG;clear h j5 hb hx hq sD ju e1 e2 hp bI dF hH jI cg;unfold pt Mr.jV at*;generalize l.length=n at*;generalize(((l.map fun i=>some (f i)).toArray.toList.take i++(l.map fun i=>some (f i)).toArray.toList.drop (i+1)++List.replicate (i+1-i) none).toArray)=arr at*;obtain⟨j,hj⟩: ∃j,j=i+1:=⟨_,rfl⟩;have PA:((i:Nat):Int)+1=(j:Int):=by omega
   rw[<-hj]at lG;have NW:j<=16777216:=by omega
   clear hj;go_enter func120,ntmps120;go_wp2_with (first
    |(go_at_call 158;go_must(refine rz.mono ?_;rintro e w1⟨rfl,rfl⟩))
    |(go_at_call 159;go_must(refine lG.mono ?_;rintro e w1⟨rfl,q,rfl⟩)))
   go_ret;exact⟨_,rfl,HG.out _⟩
theorem P4:(prog.info? 3).map (fun i=>i.size)=some 1:=by kernel_rfl
theorem ixN(v:Value)(l:List Int)(x:Int)(w:World)(G:Ft)(h:(rowA 3 1 v l.length (l.map fun i=> .int .i64 i)).holds w G)(hl:l.length<=16777216):Calls prog 154 #[v, .int .i64 x] w fun e w'=>e= .returned (.int .i64 (Mr.jV (l.findIdx? fun y=>decide (y=x))))∧w'=w:=by
 obtain⟨ao,cap,rfl,dF,bI⟩:=Mr.bO h;have HG:=hide h;have fT:=hide bI;clear h bI;go_enter func154,ntmps154;go_wp2
 go_loop [5,8] (fun _ i=> ∃k:Nat,k<=l.length∧i= .int .i64 k∧Hid (k<=l.findIdx fun y=>decide (y=x))) (fun _ i=>l.length-(intOf i).toNat)
 case atStart=>exact⟨0,aJ _,rfl,aJ _⟩
 case round=>
  obtain⟨k,hk,rfl,HK⟩:=hrel;by_cases ay:k<l.length
  ·obtain⟨g',off,rfl⟩:=fT.out (by omega);have c0:w.cell? ⟨g',off+k,none⟩=some (.int .i64 (l[k]'ay)):=by
    rw[bm HG.out k (by omega),List.getElem?_map,a7 ay];rfl
   by_cases hq:(l[k]'ay)=x
   ·have HF:=hide (Mr.jF (p:=fun y=>decide (y=x)) ay (by simpa using hq) HK.out);rw[hq]at c0;clear HK;go_wp2;go_ret;exact⟨by rw[HF.out];rfl,rfl⟩
   ·have HF:=hide (Mr.eI (p:=fun y=>decide (y=x)) ay (by simpa using hq) HK.out);have qN:(x==l[k]'ay)=false:=by simpa using fun e:x=l[k]'ay=>hq e.symm
    generalize XH:(l[k]'ay)=fk at*;clear HK;go_wp2
    go_round
    case rel=>exact⟨k+1,by omega,by go_num,HF⟩
    case measure=>simp[intOf];omega
  ·have HF:=hide (Mr.lD (p:=fun y=>decide (y=x)) (l:=l) (by have:=HK.out;omega));obtain rfl:k=l.length:=by omega
   clear HK;go_wp2;go_ret;exact⟨by rw[HF.out];rfl,rfl⟩
theorem woI(v:Value)(l:List Int)(x:Int)(w:World)(F:Ft)(h:(rowA 3 1 v l.length (l.map fun i=> .int .i64 i)).holds w F)(hl:l.length<=16777216):Calls prog 118 #[v, .int .i64 x] w fun e w'=> ∃v',e= .returned v'∧Goes (rowA 3 1 v' (l.erase x).length ((l.erase x).map fun i=> .int .i64 i)) w F w':=by
 have rz:=ixN v l x w F h hl;obtain⟨ao,cap,hv,dF,bI⟩:=Mr.bO h;have Aa:cap<=maxLen:=by obtain⟨_,_,e,_,h3,_⟩:=bC h;rw[hv]at e;cases e;exact h3
 cases hq:l.findIdx? (fun y=>decide (y=x))with
 |none=>
  rw[hq]at rz;have e1:l.erase x=l:=List.erase_of_not_mem (fun hm=>by have:=List.findIdx?_eq_none_iff.1 hq x hm;simp at this)
  rw[e1];have HG:=hide (Goes.refl h);clear h hq;unfold Mr.jV at*;subst hv;go_enter func118,ntmps118;go_wp2_with (go_at_call 154;go_must(refine rz.mono ?_;rintro e w1⟨rfl,rfl⟩));go_ret;exact⟨_,rfl,HG.out⟩
 |some i=>
  rw[hq]at rz;obtain⟨hi,hp,sD⟩:=List.findIdx?_eq_some_iff_getElem.1 hq;have ju:l[i]?=some x:=by rw[a7 hi];congr 1;simpa using hp
  have e1:l.erase x=l.eraseIdx i:=mE ju (fun k hk=>by
   have:=sD k hk;intro e;rw[a7 (by omega)]at e;have e':l[k]=x:=by simpa using e
   rw[e']at this;simp at this)
  have e2:(l.erase x).length=l.length-1:=by rw[e1,List.length_eraseIdx,if_pos hi]
  obtain⟨g',off,rfl⟩:=bI (by omega);subst hv;by_cases kR:i=0
  ·subst kR;obtain⟨t,rfl⟩: ∃t,l=x::t:=xz ju;have hz: ∀w,(zeroValue 3).run prog w= .ok (.int .i64 0) w:=fun w=>by kernel_rfl
   have c0:(w.cell? ⟨g',off,none⟩).isSome=true:=by have:=bm h 0 (by simp);rw[Nat.add_zero]at this;rw[this];simp
   have D2:=Lib.run_clear_slice w 36 3 0 (.int .i64 0) underlying36 hz rfl rfl g' off 1 cap (by omega) (by
    intro j hj;obtain rfl:j=0:=by omega
    simpa using c0) (by
    intro j hj;obtain rfl:j=0:=by omega
    simpa using bV h off)
   have HG:=hide (show Goes (rowA 3 1 (.slice (some ⟨g',off+1,none⟩) t.length (cap-1)) t.length (t.map fun i=> .int .i64 i)) w F (w.setCells g' off (List.replicate 1 (.int .i64 0)))from by have s1:=cu h 0 (.int .i64 0) (by simp);refine(show Goes _ w F (w.setCell ⟨g',off+0,none⟩ (.int .i64 0))from s1).mono fun F' dR=> ?_;have:=ll dR 1 (by simp);simpa using this)
   have uL:Hid (cap=1->Goes (rowA 3 1 (.slice (some ⟨g',off,none⟩) t.length 0) t.length (t.map fun i=> .int .i64 i)) w F (w.setCells g' off [.int .i64 0])):=fun pX=>by
    have ht:t= []:=by
     have:t.length+1<=cap:=by simpa using dF
     exact List.eq_nil_of_length_eq_zero (by omega)
    subst ht;have s1:=cu h 0 (.int .i64 0) (by simp);refine(show Goes _ w F (w.setCell ⟨g',off+0,none⟩ (.int .i64 0))from s1).mono fun F' dR=> ?_;exact qY (lU dR 0 (by simp)) 0 (by omega) (by omega)
   have qb:(1:Int)<=((t.length:Nat):Int)+1:=by omega
   have Py:t.length+1<=cap:=by simpa using dF
   have Pz:(1:Int)<=((cap:Nat):Int):=by omega
   simp only[List.erase_cons_head];clear h hq sD ju e1 e2 hp bI dF c0;unfold Mr.jV at*;simp only[List.length_cons]at*;generalize t.length=n at*;go_enter func118,ntmps118;go_wp2_with (go_at_call 154;go_must(refine rz.mono ?_;rintro e w1⟨rfl,rfl⟩))
   all_goals go_ret
   ·exact⟨_,rfl,uL.out (by assumption)⟩
   ·exact⟨_,rfl,HG.out⟩
  ·
   obtain⟨i0,Pt⟩: ∃i0,prog.info? 3=some i0:=by
    have:=P4;cases hj:prog.info? 3 with
    |none=>rw[hj]at this;cases this
    |some i0=>exact⟨i0,rfl⟩
   have iA:i0.size=1:=by have:=P4;rw[Pt]at this;simpa using this
   have jI: ∀t:List Int,t.map (Value.int .i64)=t.map fun i=> .int .i64 i:=fun t=>rfl;have hH:Holds (Value.int .i64) w g' off l.toArray:=row_holds (by exact h);have lG:=AnyE.slices_Delete dlI (Value.int .i64) (fun _=>rfl) 0 (fun w=>by kernel_rfl) i0 Pt iA g' off cap i (i+1) l.toArray w hH (by simpa using dF) (by unfold maxLen at Aa;omega) (by omega) (by simp;omega);change Calls prog 155 _ _ _ at lG;have HG:Hid (∀q,Goes (rowA 3 1 (.slice (some ⟨g',off,none⟩) (l.length-1) cap) (l.erase x).length ((l.erase x).map fun i=> .int .i64 i)) w F (putRow (Value.int .i64) (Sort.ahead w q) g' off ((l.toArray.toList.take i++l.toArray.toList.drop (i+1)++List.replicate (i+1-i) 0).toArray))):=fun q=>by have:=ui (enc:=Value.int .i64) h ((l.toArray.toList.take i++l.toArray.toList.drop (i+1)++List.replicate (i+1-i) 0).toArray) (by simp;omega) (l.length-1) (by omega) q;rw[e2];refine this.eq ?_;congr 1;rw[e1,List.eraseIdx_eq_take_drop_succ,<-jI];rw[List.take_left' (by simp;omega),aH]
   have GP:0<i:=by omega
   have V4:(i:Int)<=16777216:=by omega
   have cg:l.toArray.size-(i+1-i)=l.length-1:=by simp
   rw[cg]at lG;simp only[List.size_toArray]at lG;clear h hq sD ju e1 e2 hp bI dF hH jI cg;unfold Mr.jV at*;generalize l.length=n at*;generalize((l.toArray.toList.take i++l.toArray.toList.drop (i+1)++List.replicate (i+1-i) 0).toArray)=arr at*;obtain⟨j,hj⟩: ∃j,j=i+1:=⟨_,rfl⟩;have PA:((i:Nat):Int)+1=(j:Int):=by omega
   rw[<-hj]at lG;have NW:j<=16777216:=by omega
   clear hj;go_enter func118,ntmps118;go_wp2_with (first
    |(go_at_call 154;go_must(refine rz.mono ?_;rintro e w1⟨rfl,rfl⟩))
    |(go_at_call 155;go_must(refine lG.mono ?_;rintro e w1⟨rfl,q,rfl⟩)))
   go_ret;exact⟨_,rfl,HG.out _⟩
end Pj
namespace bJ
open Go.RowKit
variable{l:List UInt8}
def E9(l:List UInt8):Option (List UInt8):=if 9<=l.length∧l.length<=80∧aL.line (l.take (l.length-9))=l then some (l.take (l.length-9))else none
def dm(l:List UInt8):List UInt8:=(E9 l).getD []
def fF(l:List UInt8):Bool:=(E9 l).isSome
theorem kX(h: ¬(9<=l.length∧l.length<=80∧aL.line (l.take (l.length-9))=l)):dm l= []∧fF l=false:=by unfold dm fF E9;rw[if_neg h];exact⟨rfl,rfl⟩
theorem Fb(h:9<=l.length∧l.length<=80∧aL.line (l.take (l.length-9))=l):dm l=l.take (l.length-9)∧fF l=true:=by unfold dm fF E9;rw[if_pos h];exact⟨rfl,rfl⟩
theorem Fa{s:ByteArray}(hs:s.size<=4194304):(dm s.data.toList).length<=4194304:=by
 unfold dm E9;split
 ·simp;omega
 ·simp
theorem jf{t:List UInt8}{b:Bool}(h:dm l=t∧fF l=b):Ending.returned (.tuple #[.string ⟨t.toArray⟩, .bool b])= .returned (.tuple #[.string ⟨(dm l).toArray⟩, .bool (fF l)]):=by rw[h.1,h.2]
theorem nz(s:ByteArray)(n:Nat):s.extract 0 n=⟨(s.data.toList.take n).toArray⟩:=by apply ByteArray.ext;apply Array.ext';simp
theorem Jh(s:ByteArray)(w:World)(hs:s.size<=4194304):Calls prog 145 #[.string s] w fun e w'=>e= .returned (.tuple #[.string ⟨(dm s.data.toList).toArray⟩, .bool (fF s.data.toList)])∧Below w.heap.size w w':=by
 have e0:s.data.toList.length=s.size:=by simp
 by_cases h9:s.size<9
 ·have HF:Hid (dm s.data.toList= []∧fF s.data.toList=false):=kX (by omega);clear e0;go_enter func145,ntmps145;go_wp2
  go_ret2
  exact⟨jf HF.out,ah _ _⟩
 obtain⟨n,hn⟩: ∃n,s.size=n+9:=⟨s.size-9,by omega⟩;have hd9:decide ((s.size:Int)-9<0)=false:=by simp;omega
 by_cases h80:80<s.size
 ·have HF:Hid (dm s.data.toList= []∧fF s.data.toList=false):=kX (by omega);clear e0 hn;go_enter func145,ntmps145;go_wp2
  go_ret2
  exact⟨jf HF.out,ah _ _⟩
 have acr:decide (80<(s.size:Int))=false:=by simp;omega
 have Al:s.data.toList.length-9=n:=by omega
 by_cases hq:aL.line (s.data.toList.take n)=s.data.toList
 ·have HF:Hid (dm s.data.toList=s.data.toList.take n∧fF s.data.toList=true):=Al▸Fb ⟨by omega,by omega,by rw[Al];exact hq⟩;have HC:Hid (s.extract 0 n=⟨(s.data.toList.take n).toArray⟩):=nz s n;have Zm:(s.extract 0 n).size<=1048576:=by simp;omega
  have WR:Hid ((s.extract 0 n).data.toList=s.data.toList.take n):=by show _=_;rw[nz s n]
  clear e0 Al;go_enter func145,ntmps145;go_wp2_with fail;refine(aL.lX _ _ Zm).mono ?_;rintro e w1⟨rfl,hb1⟩;rw[WR.out,hq,aL.J5];clear hq;go_wp2
  go_ret2
  exact⟨by rw[HC.out];exact jf HF.out,hb1⟩
 ·have HF:Hid (dm s.data.toList= []∧fF s.data.toList=false):=kX (by rw[Al];exact fun h=>hq h.2.2);have Zm:(s.extract 0 n).size<=1048576:=by simp;omega
  have WR:Hid ((s.extract 0 n).data.toList=s.data.toList.take n):=by show _=_;rw[nz s n]
  have cC:((⟨(aL.line (s.data.toList.take n)).toArray⟩:ByteArray).toList==s.toList)=false:=by rw[ByteArray.toList_eq,ByteArray.toList_eq,beq_eq_false_iff_ne];exact hq
  clear e0 Al hq;go_enter func145,ntmps145;go_wp2_with fail;refine(aL.lX _ _ Zm).mono ?_;rintro e w1⟨rfl,hb1⟩;rw[WR.out];generalize(⟨(aL.line (s.data.toList.take n)).toArray⟩:ByteArray)=t at*;go_wp2
  go_ret2
  exact⟨jf HF.out,hb1⟩
end bJ
namespace fA
open Go.RowKit
theorem uh{w:World}{base:Nat}{e:TypeId}{size:Nat}{v:Value}{n:Nat}{xs:List Value}(h:w.ownsRow base e size v n xs): ∃ao cap,v= .slice ao n cap∧n<=cap∧(0<n-> ∃g,ao=some ⟨g,0,none⟩):=by
 rcases h.2 with⟨h,h0⟩|⟨g,cap,cur,h,_,_,hn,_⟩
 ·exact⟨none,0,by rw[h,h0],by omega,fun hh=>absurd hh (by omega)⟩
 ·exact⟨_,cap,h,hn,fun _=>⟨g,rfl⟩⟩
end fA
namespace bJ
open Go.RowKit
variable{c:UInt8}{a:List UInt8}
theorem AZ(h:c∉a): ∀(d:List (List UInt8)) (x:List UInt8),a.foldl (fx c) (d,x)=(d,x++a):=by
 induction a with
 |nil=>intro d x;simp
 |cons b a ih=>intro d x;have hb:b≠c:=fun e=>h (e▸dy ..);rw[List.foldl_cons];unfold fx;rw[if_neg hb];have:=ih (fun e=>h (bt _ e)) d (x++ [b]);unfold fx at this;rw[this];simp
theorem LP(c:UInt8)(l:List UInt8): ∀(d d':List (List UInt8)) (x:List UInt8),l.foldl (fx c) (d++d',x)=(d++(l.foldl (fx c) (d',x)).1,(l.foldl (fx c) (d',x)).2):=by
 induction l with
 |nil=>intro d d' x;rfl
 |cons b l ih=>
  intro d d' x;rw[List.foldl_cons,List.foldl_cons];unfold fx;by_cases hb:b=c
  ·rw[if_pos hb,if_pos hb];have:=ih d (d'++ [x]) [];unfold fx at this;simp only[List.append_assoc]at this⊢;exact this
  ·rw[if_neg hb,if_neg hb];exact ih d d' (x++ [b])
theorem AQ(h:c∉a):bW c a= [a]:=by unfold bW mV;rw[AZ h];simp
theorem J9{b:List UInt8}(h:c∉a):bW c (a++c::b)=a::bW c b:=by
 unfold bW mV;rw[List.foldl_append,AZ h,List.foldl_cons];have e:fx c ([], []++a) c=([a]++ [], []):=by unfold fx;rw[if_pos rfl];simp
 rw[e,LP];simp
theorem B6(c:UInt8): ∀s:List UInt8,(Lib.index s [c]= -1∧c∉s)∨ ∃i:Nat,Lib.index s [c]=i∧s=s.take i++c::s.drop (i+1)∧c∉s.take i
 | []=>Or.inl ⟨rfl,by simp⟩
 |b::l=>by
  by_cases hb:c=b
  ·subst hb;refine Or.inr ⟨0, ?_,rfl,by simp⟩;have hp:([c].isPrefixOf (c::l))=true:=by simp[List.isPrefixOf]
   unfold Lib.index;rw[hp];rfl
  ·have hp:([c].isPrefixOf (b::l))=false:=by simp[List.isPrefixOf,hb]
   rcases B6 c l with⟨h1,h2⟩|⟨i,h1,h2,h3⟩
   ·refine Or.inl ⟨?_,by simp[hb,h2]⟩;unfold Lib.index;rw[hp,h1];rfl
   ·refine Or.inr ⟨i+1, ?_, ?_,by simp[hb,h3]⟩
    ·unfold Lib.index;rw[hp,h1];have:((i:Int)== -1)=false:=by rw[beq_eq_false_iff_ne];omega
     simp[this]
    ·simp only[List.take_succ_cons,List.drop_succ_cons,List.cons_append];rw[<-h2]
theorem Br(c:UInt8): ∀(n:Nat) (s:List UInt8),s.length<=n->Lib.splitK [c] 0 (Lib.count s [c]) s=bW c s∧(bW c s).length=Lib.count s [c]+1
 |n,s,hn=>by
  rcases B6 c s with⟨h1,h2⟩|⟨i,h1,h2,h3⟩
  ·rw[Lib.count_miss h1,AQ h2];exact⟨rfl,rfl⟩
  ·have hlen:s.length=(s.take i).length+(1+(s.drop (i+1)).length):=by
    conv=>lhs;rw[h2]
    simp;omega
   match n,hn with
   |0,hn=>omega
   |n+1,hn=>
    obtain⟨ih1,ih2⟩:=Br c n (s.drop (i+1)) (by omega);have hc:bW c s=s.take i::bW c (s.drop (i+1)):=by
     conv=>lhs;rw[h2]
     exact J9 h3
    rw[Lib.count_hit (by simp) h1,hc];refine⟨?_,by simp only[List.length_cons,List.length_nil,ih2,Nat.zero_add];omega⟩;rw[Nat.add_comm 1,Lib.splitK,h1];have:((i:Int)== -1)=false:=by rw[beq_eq_false_iff_ne];omega
    rw[this];simp only[Bool.false_eq_true,if_false,Int.toNat_natCast,Nat.add_zero,List.length_cons,List.length_nil,Nat.zero_add];rw[ih1]
theorem JC(c:UInt8)(s:ByteArray):(Lib.splitB ⟨#[c]⟩ 0 (Lib.countB s ⟨#[c]⟩) s).map Value.string=strs (bW c s.data.toList)∧Lib.countB s ⟨#[c]⟩+1=(bW c s.data.toList).length:=by have h:=Lib.splitB_data ⟨#[c]⟩ 0 (Lib.countB s ⟨#[c]⟩) s;obtain⟨h1,h2⟩:=Br c s.data.toList.length s.data.toList (ae _);have hc:Lib.countB s ⟨#[c]⟩=Lib.count s.data.toList [c]:=rfl;rw[hc]at h⊢;refine⟨?_,h2.symm⟩;have h':(Lib.splitB ⟨#[c]⟩ 0 (Lib.count s.data.toList [c]) s).map (·.data.toList)=bW c s.data.toList:=h.trans h1;unfold strs;rw[<-h',aG];refine bY (fun x _=> ?_);simp
theorem Tg(c:UInt8)(s:List UInt8):(Lib.cut s [c]=(s, [],false)∧bW c s= [s]∧c∉s)∨ ∃a b,Lib.cut s [c]=(a,b,true)∧bW c s=a::bW c b∧c∉a∧s=a++c::b:=by
 rcases B6 c s with⟨h1,h2⟩|⟨i,h1,h2,h3⟩
 ·refine Or.inl ⟨?_,AQ h2,h2⟩;unfold Lib.cut;rw[h1];rfl
 ·refine Or.inr ⟨s.take i,s.drop (i+1), ?_, ?_,h3,h2⟩
  ·unfold Lib.cut;rw[h1,if_pos (by omega)];simp
  ·conv=>lhs;rw[h2]
   exact J9 h3
end bJ
namespace Pj
open Go.RowKit aM Go.Maps
theorem kT{α β:Type}{f:α->β}{l:List α}(h:(l.map f).Nodup):l.Nodup:=by
 induction l with
 |nil=>simp
 |cons x l ih=>rw[List.map_cons,List.nodup_cons]at h;exact List.nodup_cons.2 ⟨fun hm=>h.1 (aA.2 ⟨x,hm,rfl⟩),ih h.2⟩
theorem Uk{α β:Type}{f:α->β}{l:List α}(h:(l.map f).Nodup){x y:α}(hx:x∈l)(hy:y∈l)(e:f x=f y):x=y:=by
 have h':=List.pairwise_iff_getElem.1 h;obtain⟨i,hi,rfl⟩:=List.getElem_of_mem hx;obtain⟨j,hj,rfl⟩:=List.getElem_of_mem hy;rcases Nat.lt_trichotomy i j with h2|h2|h2
 ·exact absurd (by rw[List.getElem_map,List.getElem_map];exact e) (h' i j (by simpa using hi) (by simpa using hj) h2)
 ·subst h2;rfl
 ·exact absurd (by rw[List.getElem_map,List.getElem_map];exact e.symm) (h' j i (by simpa using hj) (by simpa using hi) h2)
section
variable{P:Program}{k:TypeId}{κ:Type}
def Walk(K:Kd P k κ)(b r:Nat)(m seen:List (κ×Nat))(w:World):Prop:=
 (seen.map (·.1)).Nodup∧(∀x∈seen,x∈m)∧ ∃D left cnt,w.ranges P k asIs b r m.length D left cnt∧aab K D m∧(∀x∈m,left (K.lk x.1)=true↔x.1∉seen.map (·.1))∧ ∀kl,left kl=true-> ∃x∈m,kl=K.lk x.1
variable{K:Kd P k κ}{b r:Nat}{m seen:List (κ×Nat)}{w w':World}{F:Ft}
theorem Walk.kept{row:Option Nat}(h:Walk K b r m seen w)(hg:w.grownBy w' row)(hb:some b≠row)(hr:some r≠row):Walk K b r m seen w':=by obtain⟨h1,h2,D,left,cnt,h3,h4⟩:=h;exact⟨h1,h2,D,left,cnt,h3.kept hg hb hr,h4⟩
theorem grown_of(h:Below w.heap.size w w'):w.grownBy w' none:=⟨h.os,h.tape,h.output,h.size,fun i hi _=>h.block i hi⟩
theorem Walk.below(h:Walk K b r m seen w)(hg:Below w.heap.size w w'):Walk K b r m seen w':=h.kept (grown_of hg) (by simp) (by simp)
variable{ops:Array Oper}{rest:List Oper}{o:Oper}{a:Act}{Q:Exit->Act->World->Prop}
theorem wG(w:World)(hg:o.guard=none)(mo:Operand)(t:TypeId)(hop:o.op=Op.range t mo)(e:TypeId)(ht:P.underlying t=some (.map k e))(K:Kd P k κ)(b:Nat)(m:List (κ×Nat))(hm:a.eval mo= .map (some b))(h:(mapA K b m).holds w F)(hK: ∀w',Walk K b w.heap.size m [] w'->Below w.heap.size w w'->w'.heap.size=w.heap.size+1->wpList P ops Q rest (a.put o.dst (.pointer (some ⟨w.heap.size,0,none⟩))) w'):wpList P ops Q (o::rest) a w:=by obtain⟨_,D,hD,hM⟩:=h;refine wpList_range_own w hg mo t hop k e K.keyed ht asIs b m.length D hm hD fun w' h1 h2 h3=> ?_;refine hK w' ⟨by simp,⟨fun x hx=>(List.not_mem_nil hx).elim,D,_,_,h1,hM,fun x hx=> ?_,fun kl nC=>hM.no kl nC⟩⟩ ⟨h2.os,h2.tape,h2.output,h2.size,fun i hi=>h2.block i hi (by simp)⟩ h3;simp[(hM.at' x hx).1]
theorem nY [DecidableEq κ](w:World)(hg:o.guard=none)(it:Operand)(hop:o.op=Op.next it false)(K:Kd P k κ)(b r:Nat)(m seen:List (κ×Nat))(hit:a.eval it= .pointer (some ⟨r,0,none⟩))(h:Walk K b r m seen w)(aaq:seen.Perm m->wpList P ops Q rest (a.put o.dst (.tuple #[.bool false])) w)(aax: ∀(x:κ×Nat) (kv:Value) (w':World),x∈m->x∉seen->Walk K b r m (seen++ [x]) w'->w'.rangeLeft b r<w.rangeLeft b r->w.grownBy w' (some r)->w'.heap.size=w.heap.size->(Instr.entry (.pointer (some ⟨r,0,none⟩))).run P w'= .ok (.tuple #[kv,pt x.2]) w'->wpList P ops Q rest (a.put o.dst (.tuple #[.bool true,kv,pt x.2])) w'):wpList P ops Q (o::rest) a w:=by
 obtain⟨h1,h2,D,left,cnt,h3,hM,h5,h6⟩:=h;refine wpList_next_ranges w hg it hop k K.keyed asIs (fun v:Value=>v) (fun v:Value=>v) (fun key kl _=>⟨key,rfl⟩) (fun v y _=>⟨v,rfl⟩) b r m.length D left cnt hit h3 (fun _ hl=>aaq ?_) (fun kv c kl y w' abX _ od hv rD hrg ay hgr cg hen=> ?_)
 ·have qb:seen.Nodup:=kT h1;have sH:m.Nodup:=kT hM.nd;refine(List.perm_ext_iff_of_nodup qb sH).2 fun x=>⟨h2 x,fun hx=> ?_⟩;apply Classical.byContradiction;intro hn;refine absurd ((h5 x hx).2 fun hm=>hn ?_) (by rw[hl];simp);obtain⟨y,hy,e⟩:=aA.1 hm;rw[<-Uk hM.nd (h2 y hy) hx e];exact hy
 ·obtain⟨x,hx,rfl⟩:=h6 kl od;cases hv;have ec:c=pt x.2:=by
   have e1:=rD (.held c);rw[(hM.at' x hx).2]at e1;cases e1;rfl
  subst ec;have Zm:x.1∉seen.map (·.1):=(h5 x hx).1 od;refine aax x kv w' hx (fun hm=>Zm (aA.2 ⟨x,hm,rfl⟩)) ⟨?_,fun y hy=> ?_,D,_,abX,hrg,hM,fun y hy=> ?_,fun kl' PK=>h6 kl' (by simp only[bZ]at PK;exact PK.1)⟩ (by rw[hrg.left_eq,h3.left_eq];exact ay) hgr cg hen
  ·rw[aH,List.nodup_append];refine⟨h1,by simp,fun u hu v hv e=>Zm ?_⟩;simp at hv;rw[<-hv,<-e];exact hu
  ·rcases List.mem_append.1 hy with e|e
   ·exact h2 y e
   ·rw[cY.1 e];exact hx
  ·have aa8:=WideAt.sameKey_self (K.lit x.1);simp only[bZ,Bool.not_eq_true',h5 y hy,aH,List.mem_append,List.map_cons,List.map_nil,cY,not_or];refine and_congr_right fun _=> ?_;constructor
   ·intro hf e;rw[e,aa8]at hf;cases hf
   ·intro cC;cases hs:(K.lk y.1).sameKey (K.lk x.1)with
    |false=>rfl
    |true=>exact absurd (K.inj _ _ (WideAt.sameKey_eq hs)) cC
end
end Pj
namespace fA
open Go.RowKit Go.Deep
theorem J7:prog.cellsOf 73=9:=by kernel_rfl
theorem S1:prog.bytesOf 73=80:=by kernel_rfl
def fU.dat{H:Type}(x:fU):DataW H:= .agg [.lit (.int .i64 x.k), .lit (.int .i64 x.a), .lit (.int .i64 x.b), .agg [.lit (.int .i64 x.le), .lit (.int .i64 x.re), .lit (.int .i64 x.ca), .lit (.int .i64 x.bo), .lit (.int .i64 x.he)], .lit (.string x.s.data.toList)]
section
variable{H:Type}{enc:TypeId×Value->H}{w:World}{base:Nat}{spare:Nat->Bool}{held:Bool}
def fU.fits(x:fU):Prop:=(Lit.int .i64 x.k).wf=true∧(Lit.int .i64 x.a).wf=true∧(Lit.int .i64 x.b).wf=true∧(Lit.int .i64 x.le).wf=true∧(Lit.int .i64 x.re).wf=true∧(Lit.int .i64 x.ca).wf=true∧(Lit.int .i64 x.bo).wf=true∧(Lit.int .i64 x.he).wf=true
theorem UU{fuel:Nat}{cs:List Value}{x:DataW H×List MemPlace}(h:DataW.trod enc prog w base spare held fuel 73 cs=some x): ∃o:fU,cs=o.cs.toList∧x.1=o.dat∧o.fits:=by
 obtain⟨xs,n,rfl,rfl,hlen,IC,hf⟩:=DataW.trod_struct underlying73 h;rw[J7]at hlen
 match cs,hlen with
 | [v0,v1,v2,v3,v4,v5,v6,v7,v8],_=>
  match xs,IC with
  | [y0,y1,y2,y3,y4],_=>
   have g0:=hf 0 _ rfl;have g1:=hf 1 _ rfl;have g2:=hf 2 _ rfl;have g3:=hf 3 _ rfl;have g4:=hf 4 _ rfl;simp only[List.getElem?_cons_zero,List.getElem?_cons_succ]at g0 g1 g2 g3 g4;obtain⟨n0,e0,rfl,f0⟩:=DataW.trod_int underlying3 g0;obtain⟨n1,e1,rfl,f1⟩:=DataW.trod_int underlying3 g1;obtain⟨n2,e2,rfl,f2⟩:=DataW.trod_int underlying3 g2;obtain⟨s,e8,rfl,_⟩:=DataW.trod_string underlying9 g4;obtain⟨zs,m,rfl,rfl,_,hzl,hg⟩:=DataW.trod_struct underlying30 g3
   match zs,hzl with
   | [z0,z1,z2,z3,z4],_=>have k0:=hg 0 _ rfl;have k1:=hg 1 _ rfl;have k2:=hg 2 _ rfl;have k3:=hg 3 _ rfl;have k4:=hg 4 _ rfl;simp only[List.getElem?_cons_zero,List.getElem?_cons_succ]at k0 k1 k2 k3 k4;obtain⟨n3,e3,rfl,f3⟩:=DataW.trod_int underlying3 k0;obtain⟨n4,e4,rfl,f4⟩:=DataW.trod_int underlying3 k1;obtain⟨n5,e5,rfl,f5⟩:=DataW.trod_int underlying3 k2;obtain⟨n6,e6,rfl,f6⟩:=DataW.trod_int underlying3 k3;obtain⟨n7,e7,rfl,f7⟩:=DataW.trod_int underlying3 k4;cases e0;cases e1;cases e2;cases e3;cases e4;cases e5;cases e6;cases e7;cases e8;exact⟨⟨n0,n1,n2,n3,n4,n5,n6,n7,s⟩,rfl,rfl,f0,f1,f2,f3,f4,f5,f6,f7⟩
theorem open_script{fuel:Nat}{cs:List Value}{x:DataW H×List MemPlace}(h:DataW.trod enc prog w base spare held fuel 22 cs=some x): ∃(ao:Option Addr) (b off len cap:Nat) (ops:Nat->fU),cs= [.slice ao len cap]∧(0<len->ao=some ⟨b,off,none⟩)∧zD w b off len ops∧(0<len->b<w.heap.size)∧(∀i,i<len->(ops i).fits)∧(len=0∨ ∃sp,x.1= .slice ((List.range len).map fun i=>(ops i).dat) sp):=by
 have inh:Inhabited fU:=⟨⟨0,0,0,0,0,0,0,0, .empty⟩⟩;rcases open_slice underlying22 h with⟨rfl,rfl⟩|⟨a,len,cap,m,n,D,Pl,rfl,hb,hl,hm,GR,rfl,hx⟩
 ·exact⟨none,0,0,0,0,fun _=>default,rfl,fun h=>absurd h (by omega),fun i hi=>absurd hi (by omega),fun h=>absurd h (by omega),fun i hi=>absurd hi (by omega),Or.inl rfl⟩
 have KC:len<=m:=by rw[GR];split<;>omega
 obtain⟨ops,T8⟩:=choose_lt (α:=fU) (n:=m) (p:=fun i o=>(∀j,j<9->w.cell? (a.add (i*9+j))=some (o.cs.getD j .nilIface))∧D i=o.dat∧o.fits) (fun i hi=>by
  obtain⟨cs',h1,h2⟩:=hx i hi;rw[J7]at h1;obtain⟨_,_,hc⟩:=World.cells?_some h1;obtain⟨o,rfl,hd,hf⟩:=UU h2;refine⟨o,fun j hj=> ?_,hd,hf⟩;have:=hc j hj;rw[add_add]at this;rw[this]
  match j,hj with
  |0,_=>rfl
  |1,_=>rfl
  |2,_=>rfl
  |3,_=>rfl
  |4,_=>rfl
  |5,_=>rfl
  |6,_=>rfl
  |7,_=>rfl
  |8,_=>rfl)
 obtain⟨b,off,spot⟩:=a;by_cases h0:0<len
 ·have A7:=(T8 0 (by omega)).1 0 (by omega);have aa9:spot=none:=by simpa[Addr.add]using World.cell?_spot A7
  subst aa9;refine⟨some ⟨b,off,none⟩,b,off,len,cap,ops,rfl,fun _=>rfl,fun i hi j hj=> ?_,fun _=>World.block_lt_of_cell? _ _ A7,fun i hi=>(T8 i (by omega)).2.2,Or.inr ⟨(List.range (m-len)).map fun j=>D (len+j), ?_⟩⟩
  ·have:=(T8 i (by omega)).1 j hj;rw[Go.WideShapes.add_plain]at this;rw[Nat.add_assoc];exact this
  ·show DataW.slice _ _=DataW.slice _ _;rw[bY (fun i hi=>(T8 i (by have:=List.mem_range.1 hi;omega)).2.1)]
 ·obtain rfl:len=0:=by omega
  exact⟨_,b,off,0,cap,ops,rfl,fun h=>absurd h (by omega),fun i hi=>absurd hi (by omega),fun h=>absurd h (by omega),fun i hi=>absurd hi (by omega),Or.inl rfl⟩
