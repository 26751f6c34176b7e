import Derived.Test.YtffamlbkmjmipaaGreatDoorC05
import Derived.Test.YtffamlbkmjmipaaGreatDoorC06
import Derived.Test.YtffamlbkmjmipaaGreatDoorC07
import Derived.Lib.SliceRun
set_option maxHeartbeats 8000000
set_option maxRecDepth 100000
namespace Go.Proofs.YtffamlbkmjmipaaGreatDoor
open _root_.Go.Proofs.Tryz
namespace Pj
open Go.RowKit aJ Mc Go.Sort
attribute [local go_sem] ae ag
theorem N3:(prog.info? 3).map (fun i=>i.size)=some 1:=by kernel_rfl
theorem ixN(v:Value)(l:List Int)(x:Int)(w:World)(G:Ft)(h:(rowA 3 1 v l.length (l.map fun i=> .int .i64 i)).holds w G)(hl:l.length<=16777216):Calls prog 154 #[v, .int .i64 x] w fun e w'=>e= .returned (.int .i64 (Mr.ze (l.findIdx? fun y=>decide (y=x))))∧w'=w:=by
 obtain⟨ao,cap,rfl,cX,bQ⟩:=Mr.cE h;have HG:=hide h;have vG:=hide bQ;clear h bQ;go_enter func154,ntmps154;go_wp2
 go_loop [5,8] (fun _ i=> ∃k:Nat,k<=l.length∧i= .int .i64 k∧Hid (k<=l.findIdx fun y=>decide (y=x))) (fun _ i=>l.length-(intOf i).toNat)
 case atStart=>exact⟨0,bh _,rfl,bh _⟩
 case round=>
  obtain⟨k,hk,rfl,HK⟩:=hrel;by_cases aN:k<l.length
  ·obtain⟨g',off,rfl⟩:=vG.out (by omega);have c0:w.cell? ⟨g',off+k,none⟩=some (.int .i64 (l[k]'aN)):=by
    rw[bf HG.out k (by omega),List.getElem?_map,aY aN];rfl
   by_cases hq:(l[k]'aN)=x
   ·have HF:=hide (Mr.tA (p:=fun y=>decide (y=x)) aN (by simpa using hq) HK.out);rw[hq]at c0;clear HK;go_wp2;go_ret;exact⟨by rw[HF.out];rfl,rfl⟩
   ·have HF:=hide (Mr.lQ (p:=fun y=>decide (y=x)) aN (by simpa using hq) HK.out);have ux:(x==l[k]'aN)=false:=by simpa using fun e:x=l[k]'aN=>hq e.symm
    generalize Zp:(l[k]'aN)=fk at*;clear HK;go_wp2
    go_round
    case rel=>exact⟨k+1,by omega,by go_num,HF⟩
    case measure=>simp[intOf];omega
  ·have HF:=hide (Mr.pT (p:=fun y=>decide (y=x)) (l:=l) (by have:=HK.out;omega));obtain rfl:k=l.length:=by omega
   clear HK;go_wp2;go_ret;exact⟨by rw[HF.out];rfl,rfl⟩
theorem woI(v:Value)(l:List Int)(x:Int)(w:World)(F:Ft)(h:(rowA 3 1 v l.length (l.map fun i=> .int .i64 i)).holds w F)(hl:l.length<=16777216):Calls prog 118 #[v, .int .i64 x] w fun e w'=> ∃v',e= .returned v'∧Goes (rowA 3 1 v' (l.erase x).length ((l.erase x).map fun i=> .int .i64 i)) w F w':=by
 have pL:=ixN v l x w F h hl;obtain⟨ao,cap,hv,cX,bQ⟩:=Mr.cE h;have zr:cap<=maxLen:=by obtain⟨_,_,e,_,h3,_⟩:=bX h;rw[hv]at e;cases e;exact h3
 cases hq:l.findIdx? (fun y=>decide (y=x))with
 |none=>
  rw[hq]at pL;have e1:l.erase x=l:=List.erase_of_not_mem (fun hm=>by have:=List.findIdx?_eq_none_iff.1 hq x hm;simp at this)
  rw[e1];have HG:=hide (Goes.refl h);clear h hq;unfold Mr.ze at*;subst hv;go_enter func118,ntmps118;go_wp2_with (go_at_call 154;go_must(refine pL.mono ?_;rintro e w1⟨rfl,rfl⟩));go_ret;exact⟨_,rfl,HG.out⟩
 |some i=>
  rw[hq]at pL;obtain⟨hi,hp,pZ⟩:=List.findIdx?_eq_some_iff_getElem.1 hq;have uY:l[i]?=some x:=by rw[aY hi];congr 1;simpa using hp
  have e1:l.erase x=l.eraseIdx i:=ko uY (fun k hk=>by
   have:=pZ k hk;intro e;rw[aY (by omega)]at e;have e':l[k]=x:=by simpa using e
   rw[e']at this;simp at this)
  have e2:(l.erase x).length=l.length-1:=by rw[e1,List.length_eraseIdx,if_pos hi]
  obtain⟨g',off,rfl⟩:=bQ (by omega);subst hv;by_cases jo:i=0
  ·subst jo;obtain⟨t,rfl⟩: ∃t,l=x::t:=vx uY;have hz: ∀w,(zeroValue 3).run prog w= .ok (.int .i64 0) w:=fun w=>by kernel_rfl
   have c0:(w.cell? ⟨g',off,none⟩).isSome=true:=by have:=bf h 0 (by simp);rw[Nat.add_zero]at this;rw[this];simp
   have NC:=Lib.run_clear_slice w 36 3 0 (.int .i64 0) underlying36 hz rfl rfl g' off 1 cap (by omega) (by
    intro j hj;obtain rfl:j=0:=by omega
    simpa using c0) (by
    intro j hj;obtain rfl:j=0:=by omega
    simpa using dw h off)
   have HG:=hide (show Goes (rowA 3 1 (.slice (some ⟨g',off+1,none⟩) t.length (cap-1)) t.length (t.map fun i=> .int .i64 i)) w F (w.setCells g' off (List.replicate 1 (.int .i64 0)))from by have s1:=cO h 0 (.int .i64 0) (by simp);refine(show Goes _ w F (w.setCell ⟨g',off+0,none⟩ (.int .i64 0))from s1).mono fun F' pW=> ?_;have:=nS pW 1 (by simp);simpa using this)
   have EO:Hid (cap=1->Goes (rowA 3 1 (.slice (some ⟨g',off,none⟩) t.length 0) t.length (t.map fun i=> .int .i64 i)) w F (w.setCells g' off [.int .i64 0])):=fun uq=>by
    have ht:t= []:=by
     have:t.length+1<=cap:=by simpa using cX
     exact List.eq_nil_of_length_eq_zero (by omega)
    subst ht;have s1:=cO h 0 (.int .i64 0) (by simp);refine(show Goes _ w F (w.setCell ⟨g',off+0,none⟩ (.int .i64 0))from s1).mono fun F' pW=> ?_;exact nR (jB pW 0 (by simp)) 0 (by omega) (by omega)
   have BX:(1:Int)<=((t.length:Nat):Int)+1:=by omega
   have Nz:t.length+1<=cap:=by simpa using cX
   have NA:(1:Int)<=((cap:Nat):Int):=by omega
   simp only[List.erase_cons_head];clear h hq pZ uY e1 e2 hp bQ cX c0;unfold Mr.ze at*;simp only[List.length_cons]at*;generalize t.length=n at*;go_enter func118,ntmps118;go_wp2_with (go_at_call 154;go_must(refine pL.mono ?_;rintro e w1⟨rfl,rfl⟩))
   all_goals go_ret
   ·exact⟨_,rfl,EO.out (by assumption)⟩
   ·exact⟨_,rfl,HG.out⟩
  ·
   obtain⟨i0,Nv⟩: ∃i0,prog.info? 3=some i0:=by
    have:=N3;cases hj:prog.info? 3 with
    |none=>rw[hj]at this;cases this
    |some i0=>exact⟨i0,rfl⟩
   have jJ:i0.size=1:=by have:=N3;rw[Nv]at this;simpa using this
   have jq: ∀t:List Int,t.map (Value.int .i64)=t.map fun i=> .int .i64 i:=fun t=>rfl;have hH:Holds (Value.int .i64) w g' off l.toArray:=row_holds (by exact h);have jl:=AnyE.slices_Delete dlI (Value.int .i64) (fun _=>rfl) 0 (fun w=>by kernel_rfl) i0 Nv jJ g' off cap i (i+1) l.toArray w hH (by simpa using cX) (by unfold maxLen at zr;omega) (by omega) (by simp;omega);change Calls prog 155 _ _ _ at jl;have HG:Hid (∀q,Goes (rowA 3 1 (.slice (some ⟨g',off,none⟩) (l.length-1) cap) (l.erase x).length ((l.erase x).map fun i=> .int .i64 i)) w F (putRow (Value.int .i64) (Sort.ahead w q) g' off ((l.toArray.toList.take i++l.toArray.toList.drop (i+1)++List.replicate (i+1-i) 0).toArray))):=fun q=>by have:=rZ (enc:=Value.int .i64) h ((l.toArray.toList.take i++l.toArray.toList.drop (i+1)++List.replicate (i+1-i) 0).toArray) (by simp;omega) (l.length-1) (by omega) q;rw[e2];refine this.eq ?_;congr 1;rw[e1,List.eraseIdx_eq_take_drop_succ,<-jq];rw[List.take_left' (by simp;omega),aD]
   have y7:0<i:=by omega
   have UE:(i:Int)<=16777216:=by omega
   have dc:l.toArray.size-(i+1-i)=l.length-1:=by simp
   rw[dc]at jl;simp only[List.size_toArray]at jl;clear h hq pZ uY e1 e2 hp bQ cX hH jq dc;unfold Mr.ze at*;generalize l.length=n at*;generalize((l.toArray.toList.take i++l.toArray.toList.drop (i+1)++List.replicate (i+1-i) 0).toArray)=arr at*;obtain⟨j,hj⟩: ∃j,j=i+1:=⟨_,rfl⟩;have NB:((i:Nat):Int)+1=(j:Int):=by omega
   rw[<-hj]at jl;have Zw:j<=16777216:=by omega
   clear hj;go_enter func118,ntmps118;go_wp2_with (first
    |(go_at_call 154;go_must(refine pL.mono ?_;rintro e w1⟨rfl,rfl⟩))
    |(go_at_call 155;go_must(refine jl.mono ?_;rintro e w1⟨rfl,q,rfl⟩)))
   go_ret;exact⟨_,rfl,HG.out _⟩
end Pj
namespace bG
open Go.RowKit
variable{l:List UInt8}
def DR(l:List UInt8):Option (List UInt8):=if 9<=l.length∧l.length<=80∧aG.line (l.take (l.length-9))=l then some (l.take (l.length-9))else none
def di(l:List UInt8):List UInt8:=(DR l).getD []
def fZ(l:List UInt8):Bool:=(DR l).isSome
theorem lW(h: ¬(9<=l.length∧l.length<=80∧aG.line (l.take (l.length-9))=l)):di l= []∧fZ l=false:=by unfold di fZ DR;rw[if_neg h];exact⟨rfl,rfl⟩
theorem DT(h:9<=l.length∧l.length<=80∧aG.line (l.take (l.length-9))=l):di l=l.take (l.length-9)∧fZ l=true:=by unfold di fZ DR;rw[if_pos h];exact⟨rfl,rfl⟩
theorem Qo{s:ByteArray}(hs:s.size<=4194304):(di s.data.toList).length<=4194304:=by
 unfold di DR;split
 ·simp;omega
 ·simp
theorem nc{t:List UInt8}{b:Bool}(h:di l=t∧fZ l=b):Ending.returned (.tuple #[.string ⟨t.toArray⟩, .bool b])= .returned (.tuple #[.string ⟨(di l).toArray⟩, .bool (fZ l)]):=by rw[h.1,h.2]
theorem CC(s:ByteArray)(n:Nat):s.extract 0 n=⟨(s.data.toList.take n).toArray⟩:=by apply ByteArray.ext;apply Array.ext';simp
