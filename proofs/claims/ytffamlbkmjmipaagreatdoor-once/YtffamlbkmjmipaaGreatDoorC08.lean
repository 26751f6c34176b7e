import Derived.Test.YtffamlbkmjmipaaGreatDoorC05
import Derived.Test.YtffamlbkmjmipaaGreatDoorC06
import Derived.Test.YtffamlbkmjmipaaGreatDoorC07
import Derived.Lib.SliceRun
import Derived.Laws.CopyRow
set_option maxHeartbeats 8000000
set_option maxRecDepth 100000
namespace Go.Proofs.YtffamlbkmjmipaaGreatDoor
open _root_.Go.Proofs.Tryz
namespace Pj
open Go.RowKit aJ Mc Go.Sort
attribute [local go_sem] ae ag
theorem ZV:(prog.info? 132).map (fun i=>i.size)=some 8:=by kernel_rfl
theorem tG:(prog.info? 124).map (fun i=>i.size)=some 1:=by kernel_rfl
theorem aat{w:World}{p q:Nat}(hp:kg w p)(hq:kg w q):(binOp .eql 124 (.pointer (some ⟨p,0,none⟩)) (.pointer (some ⟨q,0,none⟩))).run prog w= .ok (.bool (decide (p=q))) w:=by
 have hi:=ZV;cases hj:prog.info? 132 with
 |none=>rw[hj]at hi;cases hi
 |some j=>
  rw[hj]at hi;have hs:j.size=8:=by simpa using hi
  by_cases e:p=q
  ·subst e;rw[run_eql_ptr_same w _ underlying124 hj];simp
  ·obtain⟨c1,t1,h1⟩:=hp;obtain⟨c2,t2,h2⟩:=hq;rw[run_eql_ptr_other w underlying124 hj (by rw[hs];decide) (fun h=>e (by injection h)) h1 h2];simp[e]
theorem ixR{κ:Type} [DecidableEq κ](v:Value)(l:List κ)(f:κ->Nat)(x:κ)(w:World)(G:Ft)(h:(rowA 124 1 v l.length (l.map fun i=>pt (f i))).holds w G)(iE: ∀y∈l,f y=f x->y=x)(hb: ∀y∈l,kg w (f y))(hx:kg w (f x))(hl:l.length<=16777216):Calls prog 156 #[v,pt (f x)] w fun e w'=>e= .returned (.int .i64 (Mr.ze (l.findIdx? fun y=>decide (y=x))))∧w'=w:=by
 obtain⟨ao,cap,rfl,cX,bQ⟩:=Mr.cE h;have HG:=hide h;have vG:=hide bQ;have HB:=hide hb;have HX:=hide hx;have HI:=hide iE;clear h bQ hb hx iE;unfold pt;go_enter func156,ntmps156;go_wp2
 go_loop [5,8] (fun _ i=> ∃k:Nat,k<=l.length∧i= .int .i64 k∧Hid (k<=l.findIdx fun y=>decide (y=x))) (fun _ i=>l.length-(intOf i).toNat)
 case atStart=>exact⟨0,bh _,rfl,bh _⟩
 case round=>
  obtain⟨k,hk,rfl,HK⟩:=hrel;by_cases aN:k<l.length
  ·obtain⟨g',off,rfl⟩:=vG.out (by omega);have c0:w.cell? ⟨g',off+k,none⟩=some (.pointer (some ⟨f (l[k]'aN),0,none⟩)):=by
    rw[bf HG.out k (by omega),List.getElem?_map,aY aN];rfl
   have heq:=aat HX.out (HB.out _ (bS aN));by_cases hq:(l[k]'aN)=x
   ·have HF:=hide (Mr.tA (p:=fun y=>decide (y=x)) aN (by simpa using hq) HK.out);rw[hq,decide_eq_true rfl]at heq;rw[hq]at c0;clear HK;go_wp2;go_ret;exact⟨by rw[HF.out];rfl,rfl⟩
   ·have HF:=hide (Mr.lQ (p:=fun y=>decide (y=x)) aN (by simpa using hq) HK.out);rw[decide_eq_false (fun e=>hq (HI.out _ (bS aN) e.symm))]at heq;generalize f (l[k]'aN)=fk at*;clear HK;go_wp2
    go_round
    case rel=>exact⟨k+1,by omega,by go_num,HF⟩
    case measure=>simp[intOf];omega
  ·have HF:=hide (Mr.pT (p:=fun y=>decide (y=x)) (l:=l) (by have:=HK.out;omega));obtain rfl:k=l.length:=by omega
   clear HK;go_wp2;go_ret;exact⟨by rw[HF.out];rfl,rfl⟩
theorem woR{κ:Type} [DecidableEq κ](v:Value)(l:List κ)(f:κ->Nat)(x:κ)(w:World)(F:Ft)(h:(rowA 124 1 v l.length (l.map fun i=>pt (f i))).holds w F)(iE: ∀y∈l,f y=f x->y=x)(hb: ∀y∈l,kg w (f y))(hx:kg w (f x))(hl:l.length<=16777216):Calls prog 119 #[v,pt (f x)] w fun e w'=> ∃v',e= .returned v'∧Goes (rowA 124 1 v' (l.erase x).length ((l.erase x).map fun i=>pt (f i))) w F w':=by
 have pL:=ixR v l f x w F h iE hb hx hl;obtain⟨ao,cap,hv,cX,bQ⟩:=Mr.cE h;have zr:cap<=maxLen:=by obtain⟨_,_,e,_,h3,_⟩:=bX h;rw[hv]at e;cases e;exact h3
 cases hq:l.findIdx? (fun y=>decide (y=x))with
 |none=>
  rw[hq]at pL;have e1:l.erase x=l:=List.erase_of_not_mem (fun hm=>by have:=List.findIdx?_eq_none_iff.1 hq x hm;simp at this)
  rw[e1];have HG:=hide (Goes.refl h);clear h iE hb hx hq;unfold pt Mr.ze at*;subst hv;go_enter func119,ntmps119;go_wp2_with (go_at_call 156;go_must(refine pL.mono ?_;rintro e w1⟨rfl,rfl⟩));go_ret;exact⟨_,rfl,HG.out⟩
 |some i=>
  rw[hq]at pL;obtain⟨hi,hp,pZ⟩:=List.findIdx?_eq_some_iff_getElem.1 hq;have uY:l[i]?=some x:=by rw[aY hi];congr 1;simpa using hp
  have e1:l.erase x=l.eraseIdx i:=ko uY (fun k hk=>by
   have:=pZ k hk;intro e;rw[aY (by omega)]at e;have e':l[k]=x:=by simpa using e
   rw[e']at this;simp at this)
  have e2:(l.erase x).length=l.length-1:=by rw[e1,List.length_eraseIdx,if_pos hi]
  obtain⟨g',off,rfl⟩:=bQ (by omega);subst hv;by_cases jo:i=0
  ·subst jo;obtain⟨t,rfl⟩: ∃t,l=x::t:=vx uY;have hz: ∀w,(zeroValue 124).run prog w= .ok (.pointer none) w:=fun w=>by kernel_rfl
   have c0:(w.cell? ⟨g',off,none⟩).isSome=true:=by have:=bf h 0 (by simp);rw[Nat.add_zero]at this;rw[this];simp
   have NC:=Lib.run_clear_slice w 90 124 0 (.pointer none) underlying90 hz rfl rfl g' off 1 cap (by omega) (by
    intro j hj;obtain rfl:j=0:=by omega
    simpa using c0) (by
    intro j hj;obtain rfl:j=0:=by omega
    simpa using dw h off)
   have HG:=hide (show Goes (rowA 124 1 (.slice (some ⟨g',off+1,none⟩) t.length (cap-1)) t.length (t.map fun i=>pt (f i))) w F (w.setCells g' off (List.replicate 1 (.pointer none)))from by have s1:=cO h 0 (.pointer none) (by simp);refine(show Goes _ w F (w.setCell ⟨g',off+0,none⟩ (.pointer none))from s1).mono fun F' pW=> ?_;have:=nS pW 1 (by simp);simpa using this)
   have EO:Hid (cap=1->Goes (rowA 124 1 (.slice (some ⟨g',off,none⟩) t.length 0) t.length (t.map fun i=>pt (f i))) w F (w.setCells g' off [.pointer none])):=fun uq=>by
    have ht:t= []:=by
     have:t.length+1<=cap:=by simpa using cX
     exact List.eq_nil_of_length_eq_zero (by omega)
    subst ht;have s1:=cO h 0 (.pointer none) (by simp);refine(show Goes _ w F (w.setCell ⟨g',off+0,none⟩ (.pointer none))from s1).mono fun F' pW=> ?_;exact nR (jB pW 0 (by simp)) 0 (by omega) (by omega)
   have BX:(1:Int)<=((t.length:Nat):Int)+1:=by omega
   have Nz:t.length+1<=cap:=by simpa using cX
   have NA:(1:Int)<=((cap:Nat):Int):=by omega
   simp only[List.erase_cons_head];clear h iE hb hx hq pZ uY e1 e2 hp bQ cX c0;unfold pt Mr.ze at*;simp only[List.length_cons]at*;generalize t.length=n at*;go_enter func119,ntmps119;go_wp2_with (go_at_call 156;go_must(refine pL.mono ?_;rintro e w1⟨rfl,rfl⟩))
   all_goals go_ret
   ·exact⟨_,rfl,EO.out (by assumption)⟩
   ·exact⟨_,rfl,HG.out⟩
  ·
   obtain⟨i0,Nv⟩: ∃i0,prog.info? 124=some i0:=by
    have:=tG;cases hj:prog.info? 124 with
    |none=>rw[hj]at this;cases this
    |some i0=>exact⟨i0,rfl⟩
   have jJ:i0.size=1:=by have:=tG;rw[Nv]at this;simpa using this
   have jq: ∀t:List κ,(t.map fun i=>some (f i)).map ep=t.map fun i=>pt (f i):=fun t=>by rw[aB];rfl
   have hH:Holds ep w g' off (l.map fun i=>some (f i)).toArray:=row_holds (by rw[jq];exact h);have jl:=AnyE.slices_Delete dlR ep (fun _=>rfl) none (fun w=>by kernel_rfl) i0 Nv jJ g' off cap i (i+1) (l.map fun i=>some (f i)).toArray w hH (by simpa using cX) (by unfold maxLen at zr;omega) (by omega) (by simp;omega);change Calls prog 157 _ _ _ at jl;have HG:Hid (∀q,Goes (rowA 124 1 (.slice (some ⟨g',off,none⟩) (l.length-1) cap) (l.erase x).length ((l.erase x).map fun i=>pt (f i))) w F (putRow ep (Sort.ahead w q) g' off (((l.map fun i=>some (f i)).toArray.toList.take i++(l.map fun i=>some (f i)).toArray.toList.drop (i+1)++List.replicate (i+1-i) none).toArray))):=fun q=>by have:=rZ (enc:=ep) h (((l.map fun i=>some (f i)).toArray.toList.take i++(l.map fun i=>some (f i)).toArray.toList.drop (i+1)++List.replicate (i+1-i) none).toArray) (by simp;omega) (l.length-1) (by omega) q;rw[e2];refine this.eq ?_;congr 1;rw[e1,List.eraseIdx_eq_take_drop_succ,<-jq];rw[List.take_left' (by simp;omega),aD,aD];simp only[aD,List.map_take,List.map_drop]
   have y7:0<i:=by omega
   have UE:(i:Int)<=16777216:=by omega
   have dc:(l.map fun i=>some (f i)).toArray.size-(i+1-i)=l.length-1:=by simp
   rw[dc]at jl;simp only[List.size_toArray,aF]at jl;clear h iE hb hx hq pZ uY e1 e2 hp bQ cX hH jq dc;unfold pt Mr.ze at*;generalize l.length=n at*;generalize(((l.map fun i=>some (f i)).toArray.toList.take i++(l.map fun i=>some (f i)).toArray.toList.drop (i+1)++List.replicate (i+1-i) none).toArray)=arr at*;obtain⟨j,hj⟩: ∃j,j=i+1:=⟨_,rfl⟩;have NB:((i:Nat):Int)+1=(j:Int):=by omega
   rw[<-hj]at jl;have Zw:j<=16777216:=by omega
   clear hj;go_enter func119,ntmps119;go_wp2_with (first
    |(go_at_call 156;go_must(refine pL.mono ?_;rintro e w1⟨rfl,rfl⟩))
    |(go_at_call 157;go_must(refine jl.mono ?_;rintro e w1⟨rfl,q,rfl⟩)))
   go_ret;exact⟨_,rfl,HG.out _⟩
variable{P:Program}{g off n cap:Nat}{xs:List Value}{w:World}{F:Ft}
theorem Bk:(prog.info? 124).map (fun i=>(i.zero,i.size,i.bytes))=some (some (.pointer none),1,8):=by kernel_rfl
theorem u9(w:World)(t u ty e:TypeId)(i:TypeInfo)(z:Value)(ht:P.underlying t=some (.slice e))(hu:P.underlying u=some (.int .i64))(hi:P.info? e=some i)(hz:i.zero=some z)(hs:i.size=1)(z6:i.bytes=8)(b:Addr)(vd n:Nat)(hg:vd<n)(hn:n<=16777217)(cX:Builtin.nextslicecap n vd*8<=281474976710656):(Builtin.append_ #[t,u] ty #[.slice (some b) 0 vd, .int .i64 n]).run P w= .ok (.slice (some ⟨w.heap.size,0,none⟩) n (grownCap w n vd e)) (w.drew.alloc (.cells (Builtin.zeroCells z.cells n++Builtin.zeroCells z.cells (grownCap w n vd e-n)) e)):=by
 have hw:IntKind.i64.wrap (n:Int)=n:=by rw[IntKind.wrap_i64];omega
 have h1: ¬((n:Int)<0):=by omega
 have h2: ¬((281474976710656:Int)<(n:Int)*8):=by omega
 have h3: ¬(n<=vd):=by omega
 have h4: ¬(9223372036854775807<(n:Int)):=by omega
 have h5: ¬(281474976710656<Builtin.nextslicecap n vd*8):=by omega
 have h6:n≠0:=by omega
 have hf:=run_firstCells_some (P:=P) w.drew 1 0 b 0 vd [] rfl (by simp);have pY:(asIntOf (.int .i64 (n:Int))).run P w= .ok (.i64,(n:Int)) w:=rfl;simp[pY,Builtin.append_,run_underlying ht,run_underlying hu,sizeOf,typeInfo,zeroValue,hi,hz,hs,z6,hw,h1,h2,h3,h4,h5,h6,Question.forced,hf,newRow,grownCap,asInt]
theorem CX{e:TypeId}(h:(rowA e 1 (.slice (some ⟨g,off,none⟩) n cap) n xs).holds w F){cur:Array Value}(hg:w.heap[g]?=some (.cells cur e (0,0)))(arr:Array Value)(hs:arr.size=cur.size)(m:Nat)(hm:m<=cap)(q:Nat)(ys:List Value)(hy:(arr.toList.drop off).take m=ys)(hl:ys.length=m):Goes (rowA e 1 (.slice (some ⟨g,off,none⟩) m cap) m ys) w F ((w.setRow g arr).drewN q):=by
 rcases h.2 with⟨h0,_⟩|⟨g',rU,bP,R7,hv,hF,jI,hn,zr,dc,ht⟩
 ·cases h0
 ·cases hv;rw[hg]at jI;cases jI;refine⟨F,⟨by omega, .inr ⟨g,off,cap,arr,rfl,hF,setRow_heap w g cur arr e _ hg,hm,zr,by rw[hs];exact dc,by rw[Nat.mul_one];exact hy⟩⟩, ?_,fun _ h=> .inl h⟩;exact Only.drewN (S:=F) (a:=w) (w:=w.setRow g arr) ⟨rfl,rfl,rfl,by simp,fun k _ hk=>setRow_other w g k _ (fun e=>hk ((hF k).2 e))⟩ q
theorem Jo{e:TypeId}(h:(rowA e 1 (.slice (some ⟨g,off,none⟩) n cap) n xs).holds w F): ∃cur,w.heap[g]?=some (.cells cur e (0,0))∧off+cap<=cur.size∧(cur.toList.drop off).take n=xs:=by
 rcases h.2 with⟨h0,_⟩|⟨g',rU,bP,R7,hv,hF,jI,hn,zr,dc,ht⟩
 ·cases h0
 ·cases hv;exact⟨R7,jI,by omega,by simpa using ht⟩
theorem DW(w:World)(a b:Addr)(n m c c':Nat)(cA:a.block≠b.block)(ha:kg w a.block)(hb:kg w b.block):(callFunc 200 #[.slice (some a) n c, .slice (some b) m c']).run prog w= .ok (.value (.bool false)) w:=by
 have h1:Extern.findNext f200=none:=by kernel_rfl
 have h2:Extern.find f200=some (Extern.SlicesOverlaps.overlaps #[90,90] #[4]):=by kernel_rfl
 have h3:(f200.name== "runtime.NumGoroutine")=false:=by kernel_rfl
 have h4:f200.body.isNone=true:=by kernel_rfl
 unfold callFunc;simp[func200,h1,h2,go_sem];rw[if_neg (by simpa using h3),if_pos (by simpa using h4)];obtain⟨ca,ta,ha⟩:=ha;obtain⟨cb,tb,hb⟩:=hb;have hr:(Extern.SlicesOverlaps.overlaps #[90,90] #[4] #[.slice (some a) n c, .slice (some b) m c']).run prog w= .ok (.bool false) w:=by
  obtain⟨i0,jo,_,ja,_⟩:=fQ Bk;have e0:Extern.SlicesOverlaps.overlaps #[90,90] #[4] #[.slice (some a) n c, .slice (some b) m c']=(do
   let .slice elem<-underlying 90|stuck "slices.overlaps: slice type expected"
   let size<-sizeOf elem
   if n=0∨m=0∨size=0 then pure (.bool false)
   else if a.block !=b.block &&(<-frozen a) &&(<-frozen b)then unsupported .addressObserved
   else do
    if a.block !=b.block then do
     noView a;noView b
     if<-mayBeOne a b then return .bool ((<-choose (.extern "sameAddr.stringBytes" 2))==1)
    pure (.bool (a.block==b.block &&a.off<b.off+m*size &&b.off<a.off+n*size)):Sem Value):=rfl
  rw[e0];simp[run_underlying underlying90,sizeOf,typeInfo,jo,ja];intro _ _;simp[cA,World.frozen?,ha,hb,noView,viewAt,World.shape?,mayBeOne,stringish]
 rw[hr];rfl
theorem S1(g off n cap vb:Nat)(xs:List Value)(y:Value)(w:World)(F:Ft)(h:(rowA 124 1 (.slice (some ⟨g,off,none⟩) n cap) n xs).holds w F)(h0:0<n)(hc:n<cap)(hl:n<=16777216)(hv:w.heap[vb]?=some (.cells #[y] 124 (0,0)))(cA:vb≠g)(h1: ∀v∈xs,v.oneCell'=true)(VB:y.oneCell'=true):Calls prog 153 #[.slice (some ⟨g,off,none⟩) n cap, .int .i64 0, .slice (some ⟨vb,0,none⟩) 1 1] w fun e w'=>e= .returned (.slice (some ⟨g,off,none⟩) (n+1) cap)∧Goes (rowA 124 1 (.slice (some ⟨g,off,none⟩) (n+1) cap) (n+1) (y::xs)) w F w':=by
 obtain⟨cur,hg,dc,VP⟩:=Jo h;have uA:xs.length=n:=by have:=rX h;omega
 obtain⟨A1,SE⟩: ∃A1,A1=(cur.toList.take (off+1)++xs++cur.toList.drop (off+1+xs.length)).toArray:=⟨_,rfl⟩;have VD:A1.size=cur.size:=by rw[SE];simp;omega
 obtain⟨A2,SF⟩: ∃A2,A2=(A1.toList.take off++ [y]++A1.toList.drop (off+ [y].length)).toArray:=⟨_,rfl⟩;have VE:A2.size=cur.size:=by rw[SF];simp;omega
 have Ke:=run_copy_row (P:=prog) w.drew 90 90 3 124 g (off+1) n (cap-1) ⟨g,off,none⟩ (n+1) cap cur 124 xs underlying90 tG hg (by rw[uA];exact(Nat.min_eq_right (by omega)).symm) (fun j v hj=>by
  have Zw:j<n:=by rw[<-uA];exact(cz.1 hj).1
  rw[Addr.add_lit];have:=bf h j (by omega);rw[hj]at this;exact this) (by omega) h1
 rw[uA,<-uA,<-SE,uA]at Ke;have ur:(w.drew.setRow g A1).heap[g]?=some (.cells A1 124 (0,0)):=setRow_heap w.drew g cur A1 _ _ hg;have VO:=run_copy_row (P:=prog) (w.drew.setRow g A1) 90 90 3 124 g off (n+1) cap ⟨vb,0,none⟩ 1 1 A1 124 [y] underlying90 tG ur (by simp) (fun j v hj=>by
  match j,hj with
  |0,hj=>
   simp at hj;subst hj;have:(w.drew.setRow g A1).heap[vb]?=some (.cells #[y] 124 (0,0)):=by rw[setRow_other w.drew g vb _ cA];exact hv
   rw[Addr.add_lit];simp only[World.cell?,this];rfl
  |j+1,hj=>simp at hj) (by simp;omega) (by simpa using VB)
 rw[<-SF]at VO;have hov:=DW w ⟨vb,0,none⟩ ⟨g,off+1,none⟩ 1 n 1 (cap-1) cA ⟨_,_,hv⟩ ⟨_,_,hg⟩;have HG:Hid (∀q,Goes (rowA 124 1 (.slice (some ⟨g,off,none⟩) (n+1) cap) (n+1) (y::xs)) w F (((w.setRow g A1).setRow g A2).drewN q)):=fun q=>by
  have e:(w.setRow g A1).setRow g A2=w.setRow g A2:=setRow_setRow w g A1 A2;rw[e];refine CX h hg A2 VE (n+1) hc q (y::xs) ?_ (by simp[uA]);rw[SF,SE];have e1:(cur.toList.take (off+1)).length=off+1:=by rw[List.length_take];simp;omega
  have e2:(cur.toList.take (off+1)++xs++cur.toList.drop (off+1+xs.length)).drop (off+1)=xs++cur.toList.drop (off+1+xs.length):=by rw[List.append_assoc,List.drop_left' e1]
  simp only[List.length_singleton];rw[e2,List.append_assoc,List.drop_left' (by rw[List.length_take];simp;omega)];rw[List.singleton_append,List.take_succ_cons,List.take_left' uA]
 clear h hg ur dc VP SE SF VD VE hv h1 VB;go_enter func153,ntmps153;go_wp2
 go_region
 go_wp2;go_ret;exact⟨rfl,HG.out 1⟩
theorem ua{w':World}{ops:Array Oper}{rest:List Oper}{o:Oper}{a:Act}{Q:Exit->Act->World->Prop}(SL:o.guard=none)(s x:Operand)(t u:TypeId)(ho:o.op= .call {callee:= .builtin .append,args:= #[s,x],argTypes:= #[t,u]})(sv xv v:Value)(hs:a.eval s=sv)(hx:a.eval x=xv)(hr:(Builtin.append_ #[t,u] o.type #[sv,xv]).run P w= .ok v w')(h:wpList P ops Q rest (a.put o.dst v) w'):wpList P ops Q (o::rest) a w:=
 wpList_plain SL fun _ hK=>by unfold Oper.wp execOp;simp only[ho,resolve,invoke,builtin,Sem.run_bind,Sem.run_pure,Result.andThen_ok,List.map_toArray,List.map_cons,List.map_nil,hs,hx,hr];exact hK _ _ h
theorem SZ(g off n vb:Nat)(xs:List Value)(y:Value)(w:World)(F:Ft)(h:(rowA 124 1 (.slice (some ⟨g,off,none⟩) n n) n xs).holds w F)(h0:0<n)(hl:n<=16777215)(hv:w.heap[vb]?=some (.cells #[y] 124 (0,0)))(h1: ∀v∈xs,v.oneCell'=true)(VB:y.oneCell'=true):Calls prog 153 #[.slice (some ⟨g,off,none⟩) n n, .int .i64 0, .slice (some ⟨vb,0,none⟩) 1 1] w fun e w'=> ∃v',e= .returned v'∧Goes (rowA 124 1 v' (n+1) (y::xs)) w F w':=by
 obtain⟨i0,jo,mz,ja,jK⟩:=fQ Bk;obtain⟨cur,hg,dc,VP⟩:=Jo h;have uA:xs.length=n:=by have:=rX h;omega
 have aaN:=(mf h).1;have aa4:vb<w.heap.size:=(cC.1 hv).1;obtain⟨m,hm⟩: ∃m,m=n+1:=⟨_,rfl⟩;obtain⟨C,hC⟩: ∃C,C=grownCap w m n 124:=⟨_,rfl⟩;have aby:m<=C:=by rw[hC];exact grownCap_ge w m n _
 have hCm:C<=maxLen:=by rw[hC];exact grownCap_le_maxLen w m n _ (by unfold maxLen;omega)
 obtain⟨Z,hZ⟩: ∃Z,Z=Builtin.zeroCells (Value.pointer none).cells m++Builtin.zeroCells (Value.pointer none).cells (C-m):=⟨_,rfl⟩;have hZs:Z.size=C:=by rw[hZ];simp[size_zeroCells,Value.cells];omega
 have J6:=u9 (P:=prog) w 90 3 90 124 i0 (.pointer none) underlying90 underlying3 jo mz ja jK ⟨g,off,none⟩ n m (by omega) (by omega) (by have:=nextslicecap_le (need:=m) (old:=n) (by omega);omega);rw[<-hC,<-hZ]at J6;obtain⟨N,hN⟩: ∃N,N=w.heap.size:=⟨_,rfl⟩;rw[<-hN]at J6;obtain⟨W1,um⟩: ∃W1,W1=w.drew.alloc (.cells Z 124):=⟨_,rfl⟩;rw[<-um]at J6;have bT:W1.heap[N]?=some (.cells Z 124 (0,0)):=by rw[um,hN];exact heap_alloc_new w.drew _
 have hold: ∀k,k<N->W1.heap[k]?=w.heap[k]?:=fun k hk=>by rw[um];exact Below.heap_alloc w.drew _ k (by rw[hN]at hk;exact hk)
 obtain⟨A1,SE⟩: ∃A1,A1=(Z.toList.take 0++ [y]++Z.toList.drop (0+ [y].length)).toArray:=⟨_,rfl⟩;have Ke:=run_copy_row (P:=prog) W1 90 90 3 124 N 0 m C ⟨vb,0,none⟩ 1 1 Z 124 [y] underlying90 tG bT (by rw[hm];simp) (fun j v hj=>by
  match j,hj with
  |0,hj=>
   simp at hj;subst hj;have:W1.heap[vb]?=some (.cells #[y] 124 (0,0)):=by rw[hold vb (by omega)];exact hv
   rw[Addr.add_lit];simp only[World.cell?,this];rfl
  |j+1,hj=>simp at hj) (by simp;omega) (by simpa using VB)
 rw[<-SE]at Ke;have VD:A1.size=C:=by rw[SE];simp;omega
 obtain⟨W2,Us⟩: ∃W2,W2=W1.setRow N A1:=⟨_,rfl⟩;rw[<-Us]at Ke;have cZ:W2.heap[N]?=some (.cells A1 124 (0,0)):=by rw[Us];exact setRow_heap W1 N Z A1 _ _ bT
 have NS: ∀k,k<N->W2.heap[k]?=w.heap[k]?:=fun k hk=>by rw[Us,setRow_other W1 N k _ (by omega)];exact hold k hk
 obtain⟨A2,SF⟩: ∃A2,A2=(A1.toList.take 1++xs++A1.toList.drop (1+xs.length)).toArray:=⟨_,rfl⟩;have VO:=run_copy_row (P:=prog) W2.drew 90 90 3 124 N 1 n (C-1) ⟨g,off,none⟩ n n A1 124 xs underlying90 tG cZ (by rw[uA];simp) (fun j v hj=>by
  have Zw:j<n:=by rw[<-uA];exact(cz.1 hj).1
  rw[Addr.add_lit];have:=bf h j (by omega);rw[hj]at this;have e:W2.drew.cell? ⟨g,off+j,none⟩=w.cell? ⟨g,off+j,none⟩:=World.cell?_of_block (NS g (by omega));rw[e];exact this) (by omega) h1
 rw[uA,<-uA,<-SF,uA]at VO;have HG:Hid (Goes (rowA 124 1 (.slice (some ⟨N,0,none⟩) m C) (n+1) (y::xs)) w F (W2.drew.setRow N A2)):=by
  have VE:A2.size=C:=by rw[SF];simp;omega
  have uX:(W2.drew.setRow N A2).heap[N]?=some (.cells A2 124 (0,0)):=setRow_heap W2.drew N A1 A2 _ _ cZ;have aa2:w.heap.size<=W2.heap.size:=by rw[Us,um];simp
  refine⟨fun k=>k=N,⟨by simp[uA], .inr ⟨N,0,C,A2,by rw[hm],fun k=>Iff.rfl,uX,by omega,hCm,by omega, ?_⟩⟩,⟨?_, ?_, ?_, ?_,fun k hk _=> ?_⟩,fun k hk=> .inr (by omega)⟩
  ·rw[SF,SE];simp only[List.take_zero,List.nil_append,List.drop_zero,Nat.mul_one];rw[List.singleton_append,List.take_succ_cons,List.take_zero,List.append_assoc,List.singleton_append,List.take_succ_cons,List.take_left' uA]
  ·rw[Us,um];rfl
  ·rw[Us,um];rfl
  ·rw[Us,um];rfl
  ·simpa using aa2
  ·rw[setRow_other W2.drew N k _ (by omega)];exact NS k (by omega)
 have hmn:((n:Nat):Int)+1=(m:Int):=by omega
 have hm1:m<=16777216:=by omega
 have hCi:(m:Int)<=(C:Int):=by omega
 have hm2:2<=m:=by omega
 have HM:=hide hm;have abJ:m-1=n:=by omega
 clear h hg bT cZ hold NS dc VP SE SF VD hv h1 VB hZ hZs um Us hC jo mz ja jK hm aaN aa4 hCm hN;go_enter func153,ntmps153;go_wp2_with (at_builtin;refine ua rfl _ _ 90 3 rfl _ _ _ rfl rfl J6 ?_)
 go_region
 go_wp2;go_ret;exact⟨_,rfl,HG.out⟩
theorem S0(ao:Option Addr)(n cap vb:Nat)(xs:List Value)(y:Value)(w:World)(F:Ft)(h:(rowA 124 1 (.slice ao n cap) n xs).holds w F)(hl:n<=16777215)(hv:w.heap[vb]?=some (.cells #[y] 124 (0,0)))(VB:y.oneCell'=true):Calls prog 153 #[.slice ao n cap, .int .i64 n, .slice (some ⟨vb,0,none⟩) 1 1] w fun e w'=> ∃v',e= .returned v'∧Goes (rowA 124 1 v' (n+1) (xs++ [y])) w F w':=by
 obtain⟨i0,jo,mz,ja,jK⟩:=fQ Bk;have jf:=hide h;have V3: ∀j u, [y][j]?=some u->w.cell? ((⟨vb,0,none⟩:Addr).add j)=some u:=World.news_of_block (cs:= #[y]) (t:=124) (fr:=(0,0)) hv;clear h;go_enter func153,ntmps153;go_wp2_with (at_builtin;go_must(refine aT _ rfl _ _ 90 rfl 124 i0 (.pointer none) 1 8 underlying90 jo mz ja jK rfl (by decide) (F:=F) _ n xs rfl jf.out ⟨vb,0,none⟩ 1 1 [y] rfl rfl V3 (by simpa using VB) (by unfold maxLen;omega) (by omega) ?_;intro fX vn w2 bE;have BN:=hide bE;clear bE))
 all_goals go_ret
 all_goals exact⟨_,rfl,BN.out⟩
theorem Wn{κ:Type}(v:Value)(l:List κ)(f:κ->Nat)(x:κ)(first:Bool)(vb:Nat)(w:World)(F:Ft)(h:(rowA 124 1 v l.length (l.map fun i=>pt (f i))).holds w F)(hl:l.length<=16777215)(hv:w.heap[vb]?=some (.cells #[pt (f x)] 124 (0,0)))(cA: ¬F vb):Calls prog 153 #[v, .int .i64 (if first then 0 else(l.length:Int)), .slice (some ⟨vb,0,none⟩) 1 1] w fun e w'=> ∃v',e= .returned v'∧Goes (rowA 124 1 v' (if first then x::l else l++ [x]).length ((if first then x::l else l++ [x]).map fun i=>pt (f i))) w F w':=by
 obtain⟨ao,cap,rfl,cX,zr,bQ,_⟩:=bX h;have h1: ∀u∈l.map fun i=>pt (f i),u.oneCell'=true:=fun u hu=>by obtain⟨i,_,rfl⟩:=az.1 hu;rfl
 have C5:Calls prog 153 #[.slice ao l.length cap, .int .i64 (l.length:Int), .slice (some ⟨vb,0,none⟩) 1 1] w fun e w'=> ∃v',e= .returned v'∧Goes (rowA 124 1 v' (l++ [x]).length ((l++ [x]).map fun i=>pt (f i))) w F w':=by have:=S0 ao l.length cap vb _ (pt (f x)) w F h hl hv rfl;rw[aH,aD];exact this
 cases first with
 |false=>exact C5
 |true=>
  simp only[if_true];by_cases h0:l= []
  ·subst h0;exact C5
  ·have hp:0<l.length:=List.length_pos_iff.2 h0;obtain⟨g,off,rfl,hFg⟩:=bQ hp;have hg:vb≠g:=fun e=>cA (e▸hFg);rcases Nat.lt_or_eq_of_le cX with aN|heq
   ·refine(S1 g off l.length cap vb _ (pt (f x)) w F h hp aN (by omega) hv hg h1 rfl).mono ?_;rintro e w'⟨rfl,hg⟩;exact⟨_,rfl,hg⟩
   ·subst heq;exact SZ g off l.length vb _ (pt (f x)) w F h hp (by omega) hv h1 rfl
