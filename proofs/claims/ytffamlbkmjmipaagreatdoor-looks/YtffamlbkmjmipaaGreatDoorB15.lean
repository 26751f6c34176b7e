import Derived.Test.YtffamlbkmjmipaaGreatDoorB04
import Derived.Test.YtffamlbkmjmipaaGreatDoorB08
import Derived.Test.YtffamlbkmjmipaaGreatDoorB14
import Derived.Lib.SliceRun
import Derived.Laws.CopyRow
set_option maxHeartbeats 8000000
set_option maxRecDepth 100000
namespace Go.Proofs.YtffamlbkmjmipaaGreatDoor
open _root_.Go.Proofs.Tryz
namespace Pj
open Go.RowKit aM Mc Go.Sort
attribute [local go_sem] ag ar
theorem abi:(prog.info? 132).map (fun i=>i.size)=some 8:=by kernel_rfl
theorem ve:(prog.info? 124).map (fun i=>i.size)=some 1:=by kernel_rfl
theorem ab2{w:World}{p q:Nat}(hp:mn w p)(hq:mn w q):(binOp .eql 124 (.pointer (some ⟨p,0,none⟩)) (.pointer (some ⟨q,0,none⟩))).run prog w= .ok (.bool (decide (p=q))) w:=by
 have hi:=abi;cases hj:prog.info? 132 with
 |none=>rw[hj]at hi;cases hi
 |some j=>
  rw[hj]at hi;have hs:j.size=8:=by simpa using hi
  by_cases e:p=q
  ·subst e;rw[run_eql_ptr_same w _ underlying124 hj];simp
  ·obtain⟨c1,t1,h1⟩:=hp;obtain⟨c2,t2,h2⟩:=hq;rw[run_eql_ptr_other w underlying124 hj (by rw[hs];decide) (fun h=>e (by injection h)) h1 h2];simp[e]
theorem ixR{κ:Type} [DecidableEq κ](v:Value)(l:List κ)(f:κ->Nat)(x:κ)(w:World)(G:Ft)(h:(rowA 124 1 v l.length (l.map fun i=>pt (f i))).holds w G)(j5: ∀y∈l,f y=f x->y=x)(hb: ∀y∈l,mn w (f y))(hx:mn w (f x))(hl:l.length<=16777216):Calls prog 156 #[v,pt (f x)] w fun e w'=>e= .returned (.int .i64 (Mr.jV (l.findIdx? fun y=>decide (y=x))))∧w'=w:=by
 obtain⟨ao,cap,rfl,dF,bI⟩:=Mr.bO h;have HG:=hide h;have fT:=hide bI;have HB:=hide hb;have HX:=hide hx;have HI:=hide j5;clear h bI hb hx j5;unfold pt;go_enter func156,ntmps156;go_wp2
 go_loop [5,8] (fun _ i=> ∃k:Nat,k<=l.length∧i= .int .i64 k∧Hid (k<=l.findIdx fun y=>decide (y=x))) (fun _ i=>l.length-(intOf i).toNat)
 case atStart=>exact⟨0,aJ _,rfl,aJ _⟩
 case round=>
  obtain⟨k,hk,rfl,HK⟩:=hrel;by_cases ay:k<l.length
  ·obtain⟨g',off,rfl⟩:=fT.out (by omega);have c0:w.cell? ⟨g',off+k,none⟩=some (.pointer (some ⟨f (l[k]'ay),0,none⟩)):=by
    rw[bm HG.out k (by omega),List.getElem?_map,a7 ay];rfl
   have heq:=ab2 HX.out (HB.out _ (aY ay));by_cases hq:(l[k]'ay)=x
   ·have HF:=hide (Mr.jF (p:=fun y=>decide (y=x)) ay (by simpa using hq) HK.out);rw[hq,decide_eq_true rfl]at heq;rw[hq]at c0;clear HK;go_wp2;go_ret;exact⟨by rw[HF.out];rfl,rfl⟩
   ·have HF:=hide (Mr.eI (p:=fun y=>decide (y=x)) ay (by simpa using hq) HK.out);rw[decide_eq_false (fun e=>hq (HI.out _ (aY ay) e.symm))]at heq;generalize f (l[k]'ay)=fk at*;clear HK;go_wp2
    go_round
    case rel=>exact⟨k+1,by omega,by go_num,HF⟩
    case measure=>simp[intOf];omega
  ·have HF:=hide (Mr.lD (p:=fun y=>decide (y=x)) (l:=l) (by have:=HK.out;omega));obtain rfl:k=l.length:=by omega
   clear HK;go_wp2;go_ret;exact⟨by rw[HF.out];rfl,rfl⟩
theorem woR{κ:Type} [DecidableEq κ](v:Value)(l:List κ)(f:κ->Nat)(x:κ)(w:World)(F:Ft)(h:(rowA 124 1 v l.length (l.map fun i=>pt (f i))).holds w F)(j5: ∀y∈l,f y=f x->y=x)(hb: ∀y∈l,mn w (f y))(hx:mn w (f x))(hl:l.length<=16777216):Calls prog 119 #[v,pt (f x)] w fun e w'=> ∃v',e= .returned v'∧Goes (rowA 124 1 v' (l.erase x).length ((l.erase x).map fun i=>pt (f i))) w F w':=by
 have rz:=ixR v l f x w F h j5 hb hx hl;obtain⟨ao,cap,hv,dF,bI⟩:=Mr.bO h;have Aa:cap<=maxLen:=by obtain⟨_,_,e,_,h3,_⟩:=bC h;rw[hv]at e;cases e;exact h3
 cases hq:l.findIdx? (fun y=>decide (y=x))with
 |none=>
  rw[hq]at rz;have e1:l.erase x=l:=List.erase_of_not_mem (fun hm=>by have:=List.findIdx?_eq_none_iff.1 hq x hm;simp at this)
  rw[e1];have HG:=hide (Goes.refl h);clear h j5 hb hx hq;unfold pt Mr.jV at*;subst hv;go_enter func119,ntmps119;go_wp2_with (go_at_call 156;go_must(refine rz.mono ?_;rintro e w1⟨rfl,rfl⟩));go_ret;exact⟨_,rfl,HG.out⟩
 |some i=>
  rw[hq]at rz;obtain⟨hi,hp,sD⟩:=List.findIdx?_eq_some_iff_getElem.1 hq;have ju:l[i]?=some x:=by rw[a7 hi];congr 1;simpa using hp
  have e1:l.erase x=l.eraseIdx i:=mE ju (fun k hk=>by
   have:=sD k hk;intro e;rw[a7 (by omega)]at e;have e':l[k]=x:=by simpa using e
   rw[e']at this;simp at this)
  have e2:(l.erase x).length=l.length-1:=by rw[e1,List.length_eraseIdx,if_pos hi]
  obtain⟨g',off,rfl⟩:=bI (by omega);subst hv;by_cases kR:i=0
  ·subst kR;obtain⟨t,rfl⟩: ∃t,l=x::t:=xz ju;have hz: ∀w,(zeroValue 124).run prog w= .ok (.pointer none) w:=fun w=>by kernel_rfl
   have c0:(w.cell? ⟨g',off,none⟩).isSome=true:=by have:=bm h 0 (by simp);rw[Nat.add_zero]at this;rw[this];simp
   have D2:=Lib.run_clear_slice w 90 124 0 (.pointer none) underlying90 hz rfl rfl g' off 1 cap (by omega) (by
    intro j hj;obtain rfl:j=0:=by omega
    simpa using c0) (by
    intro j hj;obtain rfl:j=0:=by omega
    simpa using bV h off)
   have HG:=hide (show Goes (rowA 124 1 (.slice (some ⟨g',off+1,none⟩) t.length (cap-1)) t.length (t.map fun i=>pt (f i))) w F (w.setCells g' off (List.replicate 1 (.pointer none)))from by have s1:=cu h 0 (.pointer none) (by simp);refine(show Goes _ w F (w.setCell ⟨g',off+0,none⟩ (.pointer none))from s1).mono fun F' dR=> ?_;have:=ll dR 1 (by simp);simpa using this)
   have uL:Hid (cap=1->Goes (rowA 124 1 (.slice (some ⟨g',off,none⟩) t.length 0) t.length (t.map fun i=>pt (f i))) w F (w.setCells g' off [.pointer none])):=fun pX=>by
    have ht:t= []:=by
     have:t.length+1<=cap:=by simpa using dF
     exact List.eq_nil_of_length_eq_zero (by omega)
    subst ht;have s1:=cu h 0 (.pointer none) (by simp);refine(show Goes _ w F (w.setCell ⟨g',off+0,none⟩ (.pointer none))from s1).mono fun F' dR=> ?_;exact qY (lU dR 0 (by simp)) 0 (by omega) (by omega)
   have qb:(1:Int)<=((t.length:Nat):Int)+1:=by omega
   have Py:t.length+1<=cap:=by simpa using dF
   have Pz:(1:Int)<=((cap:Nat):Int):=by omega
   simp only[List.erase_cons_head];clear h j5 hb hx hq sD ju e1 e2 hp bI dF c0;unfold pt Mr.jV at*;simp only[List.length_cons]at*;generalize t.length=n at*;go_enter func119,ntmps119;go_wp2_with (go_at_call 156;go_must(refine rz.mono ?_;rintro e w1⟨rfl,rfl⟩))
   all_goals go_ret
   ·exact⟨_,rfl,uL.out (by assumption)⟩
   ·exact⟨_,rfl,HG.out⟩
  ·
   obtain⟨i0,Pt⟩: ∃i0,prog.info? 124=some i0:=by
    have:=ve;cases hj:prog.info? 124 with
    |none=>rw[hj]at this;cases this
    |some i0=>exact⟨i0,rfl⟩
   have iA:i0.size=1:=by have:=ve;rw[Pt]at this;simpa using this
   have jI: ∀t:List κ,(t.map fun i=>some (f i)).map ep=t.map fun i=>pt (f i):=fun t=>by rw[aG];rfl
   have hH:Holds ep w g' off (l.map fun i=>some (f i)).toArray:=row_holds (by rw[jI];exact h);have lG:=AnyE.slices_Delete dlR ep (fun _=>rfl) none (fun w=>by kernel_rfl) i0 Pt iA g' off cap i (i+1) (l.map fun i=>some (f i)).toArray w hH (by simpa using dF) (by unfold maxLen at Aa;omega) (by omega) (by simp;omega);change Calls prog 157 _ _ _ at lG;have HG:Hid (∀q,Goes (rowA 124 1 (.slice (some ⟨g',off,none⟩) (l.length-1) cap) (l.erase x).length ((l.erase x).map fun i=>pt (f i))) w F (putRow ep (Sort.ahead w q) g' off (((l.map fun i=>some (f i)).toArray.toList.take i++(l.map fun i=>some (f i)).toArray.toList.drop (i+1)++List.replicate (i+1-i) none).toArray))):=fun q=>by have:=ui (enc:=ep) h (((l.map fun i=>some (f i)).toArray.toList.take i++(l.map fun i=>some (f i)).toArray.toList.drop (i+1)++List.replicate (i+1-i) none).toArray) (by simp;omega) (l.length-1) (by omega) q;rw[e2];refine this.eq ?_;congr 1;rw[e1,List.eraseIdx_eq_take_drop_succ,<-jI];rw[List.take_left' (by simp;omega),aH,aH];simp only[aH,List.map_take,List.map_drop]
   have GP:0<i:=by omega
   have V4:(i:Int)<=16777216:=by omega
   have cg:(l.map fun i=>some (f i)).toArray.size-(i+1-i)=l.length-1:=by simp
   rw[cg]at lG;simp only[List.size_toArray,bf]at lG;clear h j5 hb hx hq sD ju e1 e2 hp bI dF hH jI cg;unfold pt Mr.jV at*;generalize l.length=n at*;generalize(((l.map fun i=>some (f i)).toArray.toList.take i++(l.map fun i=>some (f i)).toArray.toList.drop (i+1)++List.replicate (i+1-i) none).toArray)=arr at*;obtain⟨j,hj⟩: ∃j,j=i+1:=⟨_,rfl⟩;have PA:((i:Nat):Int)+1=(j:Int):=by omega
   rw[<-hj]at lG;have NW:j<=16777216:=by omega
   clear hj;go_enter func119,ntmps119;go_wp2_with (first
    |(go_at_call 156;go_must(refine rz.mono ?_;rintro e w1⟨rfl,rfl⟩))
    |(go_at_call 157;go_must(refine lG.mono ?_;rintro e w1⟨rfl,q,rfl⟩)))
   go_ret;exact⟨_,rfl,HG.out _⟩
variable{P:Program}{g off n cap:Nat}{xs:List Value}{w:World}{F:Ft}
theorem B8:(prog.info? 124).map (fun i=>(i.zero,i.size,i.bytes))=some (some (.pointer none),1,8):=by kernel_rfl
theorem xd(w:World)(t u ty e:TypeId)(i:TypeInfo)(z:Value)(ht:P.underlying t=some (.slice e))(hu:P.underlying u=some (.int .i64))(hi:P.info? e=some i)(hz:i.zero=some z)(hs:i.size=1)(rE:i.bytes=8)(b:Addr)(xe n:Nat)(hg:xe<n)(hn:n<=16777217)(dF:Builtin.nextslicecap n xe*8<=281474976710656):(Builtin.append_ #[t,u] ty #[.slice (some b) 0 xe, .int .i64 n]).run P w= .ok (.slice (some ⟨w.heap.size,0,none⟩) n (grownCap w n xe e)) (w.drew.alloc (.cells (Builtin.zeroCells z.cells n++Builtin.zeroCells z.cells (grownCap w n xe e-n)) e)):=by
 have hw:IntKind.i64.wrap (n:Int)=n:=by rw[IntKind.wrap_i64];omega
 have h1: ¬((n:Int)<0):=by omega
 have h2: ¬((281474976710656:Int)<(n:Int)*8):=by omega
 have h3: ¬(n<=xe):=by omega
 have h4: ¬(9223372036854775807<(n:Int)):=by omega
 have h5: ¬(281474976710656<Builtin.nextslicecap n xe*8):=by omega
 have h6:n≠0:=by omega
 have hf:=run_firstCells_some (P:=P) w.drew 1 0 b 0 xe [] rfl (by simp);have sB:(asIntOf (.int .i64 (n:Int))).run P w= .ok (.i64,(n:Int)) w:=rfl;simp[sB,Builtin.append_,run_underlying ht,run_underlying hu,sizeOf,typeInfo,zeroValue,hi,hz,hs,rE,hw,h1,h2,h3,h4,h5,h6,Question.forced,hf,newRow,grownCap,asInt]
theorem DY{e:TypeId}(h:(rowA e 1 (.slice (some ⟨g,off,none⟩) n cap) n xs).holds w F){cur:Array Value}(hg:w.heap[g]?=some (.cells cur e (0,0)))(arr:Array Value)(hs:arr.size=cur.size)(m:Nat)(hm:m<=cap)(q:Nat)(ys:List Value)(hy:(arr.toList.drop off).take m=ys)(hl:ys.length=m):Goes (rowA e 1 (.slice (some ⟨g,off,none⟩) m cap) m ys) w F ((w.setRow g arr).drewN q):=by
 rcases h.2 with⟨h0,_⟩|⟨g',rH,cM,OZ,hv,hF,kQ,hn,Aa,cg,ht⟩
 ·cases h0
 ·cases hv;rw[hg]at kQ;cases kQ;refine⟨F,⟨by omega, .inr ⟨g,off,cap,arr,rfl,hF,setRow_heap w g cur arr e _ hg,hm,Aa,by rw[hs];exact cg,by rw[Nat.mul_one];exact hy⟩⟩, ?_,fun _ h=> .inl h⟩;exact Only.drewN (S:=F) (a:=w) (w:=w.setRow g arr) ⟨rfl,rfl,rfl,by simp,fun k _ hk=>setRow_other w g k _ (fun e=>hk ((hF k).2 e))⟩ q
theorem K3{e:TypeId}(h:(rowA e 1 (.slice (some ⟨g,off,none⟩) n cap) n xs).holds w F): ∃cur,w.heap[g]?=some (.cells cur e (0,0))∧off+cap<=cur.size∧(cur.toList.drop off).take n=xs:=by
 rcases h.2 with⟨h0,_⟩|⟨g',rH,cM,OZ,hv,hF,kQ,hn,Aa,cg,ht⟩
 ·cases h0
 ·cases hv;exact⟨OZ,kQ,by omega,by simpa using ht⟩
theorem Ff(w:World)(a b:Addr)(n m c c':Nat)(cC:a.block≠b.block)(ha:mn w a.block)(hb:mn w b.block):(callFunc 200 #[.slice (some a) n c, .slice (some b) m c']).run prog w= .ok (.value (.bool false)) w:=by
 have h1:Extern.findNext f200=none:=by kernel_rfl
 have h2:Extern.find f200=some (Extern.SlicesOverlaps.overlaps #[90,90] #[4]):=by kernel_rfl
 have h3:(f200.name== "runtime.NumGoroutine")=false:=by kernel_rfl
 have h4:f200.body.isNone=true:=by kernel_rfl
 unfold callFunc;simp[func200,h1,h2,go_sem];rw[if_neg (by simpa using h3),if_pos (by simpa using h4)];obtain⟨ca,ta,ha⟩:=ha;obtain⟨cb,tb,hb⟩:=hb;have hr:(Extern.SlicesOverlaps.overlaps #[90,90] #[4] #[.slice (some a) n c, .slice (some b) m c']).run prog w= .ok (.bool false) w:=by
  obtain⟨i0,kR,_,dN,_⟩:=ia B8;have e0:Extern.SlicesOverlaps.overlaps #[90,90] #[4] #[.slice (some a) n c, .slice (some b) m c']=(do
   let .slice elem<-underlying 90|stuck "slices.overlaps: slice type expected"
   let size<-sizeOf elem
   if n=0∨m=0∨size=0 then pure (.bool false)
   else if a.block !=b.block &&(<-frozen a) &&(<-frozen b)then unsupported .addressObserved
   else do
    if a.block !=b.block then do
     noView a;noView b
     if<-mayBeOne a b then return .bool ((<-choose (.extern "sameAddr.stringBytes" 2))==1)
    pure (.bool (a.block==b.block &&a.off<b.off+m*size &&b.off<a.off+n*size)):Sem Value):=rfl
  rw[e0];simp[run_underlying underlying90,sizeOf,typeInfo,kR,dN];intro _ _;simp[cC,World.frozen?,ha,hb,noView,viewAt,World.shape?,mayBeOne,stringish]
 rw[hr];rfl
theorem Un(g off n cap vb:Nat)(xs:List Value)(y:Value)(w:World)(F:Ft)(h:(rowA 124 1 (.slice (some ⟨g,off,none⟩) n cap) n xs).holds w F)(h0:0<n)(hc:n<cap)(hl:n<=16777216)(hv:w.heap[vb]?=some (.cells #[y] 124 (0,0)))(cC:vb≠g)(h1: ∀v∈xs,v.oneCell'=true)(Xg:y.oneCell'=true):Calls prog 153 #[.slice (some ⟨g,off,none⟩) n cap, .int .i64 0, .slice (some ⟨vb,0,none⟩) 1 1] w fun e w'=>e= .returned (.slice (some ⟨g,off,none⟩) (n+1) cap)∧Goes (rowA 124 1 (.slice (some ⟨g,off,none⟩) (n+1) cap) (n+1) (y::xs)) w F w':=by
 obtain⟨cur,hg,cg,XA⟩:=K3 h;have vd:xs.length=n:=by have:=ug h;omega
 obtain⟨A1,TG⟩: ∃A1,A1=(cur.toList.take (off+1)++xs++cur.toList.drop (off+1+xs.length)).toArray:=⟨_,rfl⟩;have Xh:A1.size=cur.size:=by rw[TG];simp;omega
 obtain⟨A2,TH⟩: ∃A2,A2=(A1.toList.take off++ [y]++A1.toList.drop (off+ [y].length)).toArray:=⟨_,rfl⟩;have Xi:A2.size=cur.size:=by rw[TH];simp;omega
 have L1:=run_copy_row (P:=prog) w.drew 90 90 3 124 g (off+1) n (cap-1) ⟨g,off,none⟩ (n+1) cap cur 124 xs underlying90 ve hg (by rw[vd];exact(Nat.min_eq_right (by omega)).symm) (fun j v hj=>by
  have NW:j<n:=by rw[<-vd];exact(cK.1 hj).1
  rw[Addr.add_lit];have:=bm h j (by omega);rw[hj]at this;exact this) (by omega) h1
 rw[vd,<-vd,<-TG,vd]at L1;have rF:(w.drew.setRow g A1).heap[g]?=some (.cells A1 124 (0,0)):=setRow_heap w.drew g cur A1 _ _ hg;have Xz:=run_copy_row (P:=prog) (w.drew.setRow g A1) 90 90 3 124 g off (n+1) cap ⟨vb,0,none⟩ 1 1 A1 124 [y] underlying90 ve rF (by simp) (fun j v hj=>by
  match j,hj with
  |0,hj=>
   simp at hj;subst hj;have:(w.drew.setRow g A1).heap[vb]?=some (.cells #[y] 124 (0,0)):=by rw[setRow_other w.drew g vb _ cC];exact hv
   rw[Addr.add_lit];simp only[World.cell?,this];rfl
  |j+1,hj=>simp at hj) (by simp;omega) (by simpa using Xg)
 rw[<-TH]at Xz;have hov:=Ff w ⟨vb,0,none⟩ ⟨g,off+1,none⟩ 1 n 1 (cap-1) cC ⟨_,_,hv⟩ ⟨_,_,hg⟩;have HG:Hid (∀q,Goes (rowA 124 1 (.slice (some ⟨g,off,none⟩) (n+1) cap) (n+1) (y::xs)) w F (((w.setRow g A1).setRow g A2).drewN q)):=fun q=>by
  have e:(w.setRow g A1).setRow g A2=w.setRow g A2:=setRow_setRow w g A1 A2;rw[e];refine DY h hg A2 Xi (n+1) hc q (y::xs) ?_ (by simp[vd]);rw[TH,TG];have e1:(cur.toList.take (off+1)).length=off+1:=by rw[List.length_take];simp;omega
  have e2:(cur.toList.take (off+1)++xs++cur.toList.drop (off+1+xs.length)).drop (off+1)=xs++cur.toList.drop (off+1+xs.length):=by rw[List.append_assoc,List.drop_left' e1]
  simp only[List.length_singleton];rw[e2,List.append_assoc,List.drop_left' (by rw[List.length_take];simp;omega)];rw[List.singleton_append,List.take_succ_cons,List.take_left' vd]
 clear h hg rF cg XA TG TH Xh Xi hv h1 Xg;go_enter func153,ntmps153;go_wp2
 go_region
 go_wp2;go_ret;exact⟨rfl,HG.out 1⟩
theorem vH{w':World}{ops:Array Oper}{rest:List Oper}{o:Oper}{a:Act}{Q:Exit->Act->World->Prop}(XG:o.guard=none)(s x:Operand)(t u:TypeId)(ho:o.op= .call {callee:= .builtin .append,args:= #[s,x],argTypes:= #[t,u]})(sv xv v:Value)(hs:a.eval s=sv)(hx:a.eval x=xv)(hr:(Builtin.append_ #[t,u] o.type #[sv,xv]).run P w= .ok v w')(h:wpList P ops Q rest (a.put o.dst v) w'):wpList P ops Q (o::rest) a w:=
 wpList_plain XG fun _ hK=>by unfold Oper.wp execOp;simp only[ho,resolve,invoke,builtin,Sem.run_bind,Sem.run_pure,Result.andThen_ok,List.map_toArray,List.map_cons,List.map_nil,hs,hx,hr];exact hK _ _ h
theorem Ul(g off n vb:Nat)(xs:List Value)(y:Value)(w:World)(F:Ft)(h:(rowA 124 1 (.slice (some ⟨g,off,none⟩) n n) n xs).holds w F)(h0:0<n)(hl:n<=16777215)(hv:w.heap[vb]?=some (.cells #[y] 124 (0,0)))(h1: ∀v∈xs,v.oneCell'=true)(Xg:y.oneCell'=true):Calls prog 153 #[.slice (some ⟨g,off,none⟩) n n, .int .i64 0, .slice (some ⟨vb,0,none⟩) 1 1] w fun e w'=> ∃v',e= .returned v'∧Goes (rowA 124 1 v' (n+1) (y::xs)) w F w':=by
 obtain⟨i0,kR,gI,dN,fS⟩:=ia B8;obtain⟨cur,hg,cg,XA⟩:=K3 h;have vd:xs.length=n:=by have:=ug h;omega
 have acz:=(dK h).1;have acX:vb<w.heap.size:=(cT.1 hv).1;obtain⟨m,hm⟩: ∃m,m=n+1:=⟨_,rfl⟩;obtain⟨C,hC⟩: ∃C,C=grownCap w m n 124:=⟨_,rfl⟩;have adv:m<=C:=by rw[hC];exact grownCap_ge w m n _
 have hCm:C<=maxLen:=by rw[hC];exact grownCap_le_maxLen w m n _ (by unfold maxLen;omega)
 obtain⟨Z,hZ⟩: ∃Z,Z=Builtin.zeroCells (Value.pointer none).cells m++Builtin.zeroCells (Value.pointer none).cells (C-m):=⟨_,rfl⟩;have hZs:Z.size=C:=by rw[hZ];simp[size_zeroCells,Value.cells];omega
 have DZ:=xd (P:=prog) w 90 3 90 124 i0 (.pointer none) underlying90 underlying3 kR gI dN fS ⟨g,off,none⟩ n m (by omega) (by omega) (by have:=nextslicecap_le (need:=m) (old:=n) (by omega);omega);rw[<-hC,<-hZ]at DZ;obtain⟨N,hN⟩: ∃N,N=w.heap.size:=⟨_,rfl⟩;rw[<-hN]at DZ;obtain⟨W1,vP⟩: ∃W1,W1=w.drew.alloc (.cells Z 124):=⟨_,rfl⟩;rw[<-vP]at DZ;have hb1:W1.heap[N]?=some (.cells Z 124 (0,0)):=by rw[vP,hN];exact heap_alloc_new w.drew _
 have hold: ∀k,k<N->W1.heap[k]?=w.heap[k]?:=fun k hk=>by rw[vP];exact Below.heap_alloc w.drew _ k (by rw[hN]at hk;exact hk)
 obtain⟨A1,TG⟩: ∃A1,A1=(Z.toList.take 0++ [y]++Z.toList.drop (0+ [y].length)).toArray:=⟨_,rfl⟩;have L1:=run_copy_row (P:=prog) W1 90 90 3 124 N 0 m C ⟨vb,0,none⟩ 1 1 Z 124 [y] underlying90 ve hb1 (by rw[hm];simp) (fun j v hj=>by
  match j,hj with
  |0,hj=>
   simp at hj;subst hj;have:W1.heap[vb]?=some (.cells #[y] 124 (0,0)):=by rw[hold vb (by omega)];exact hv
   rw[Addr.add_lit];simp only[World.cell?,this];rfl
  |j+1,hj=>simp at hj) (by simp;omega) (by simpa using Xg)
 rw[<-TG]at L1;have Xh:A1.size=C:=by rw[TG];simp;omega
 obtain⟨W2,VP⟩: ∃W2,W2=W1.setRow N A1:=⟨_,rfl⟩;rw[<-VP]at L1;have bN:W2.heap[N]?=some (.cells A1 124 (0,0)):=by rw[VP];exact setRow_heap W1 N Z A1 _ _ hb1
 have PT: ∀k,k<N->W2.heap[k]?=w.heap[k]?:=fun k hk=>by rw[VP,setRow_other W1 N k _ (by omega)];exact hold k hk
 obtain⟨A2,TH⟩: ∃A2,A2=(A1.toList.take 1++xs++A1.toList.drop (1+xs.length)).toArray:=⟨_,rfl⟩;have Xz:=run_copy_row (P:=prog) W2.drew 90 90 3 124 N 1 n (C-1) ⟨g,off,none⟩ n n A1 124 xs underlying90 ve bN (by rw[vd];simp) (fun j v hj=>by
  have NW:j<n:=by rw[<-vd];exact(cK.1 hj).1
  rw[Addr.add_lit];have:=bm h j (by omega);rw[hj]at this;have e:W2.drew.cell? ⟨g,off+j,none⟩=w.cell? ⟨g,off+j,none⟩:=World.cell?_of_block (PT g (by omega));rw[e];exact this) (by omega) h1
 rw[vd,<-vd,<-TH,vd]at Xz;have HG:Hid (Goes (rowA 124 1 (.slice (some ⟨N,0,none⟩) m C) (n+1) (y::xs)) w F (W2.drew.setRow N A2)):=by
  have Xi:A2.size=C:=by rw[TH];simp;omega
  have mh:(W2.drew.setRow N A2).heap[N]?=some (.cells A2 124 (0,0)):=setRow_heap W2.drew N A1 A2 _ _ bN;have acU:w.heap.size<=W2.heap.size:=by rw[VP,vP];simp
  refine⟨fun k=>k=N,⟨by simp[vd], .inr ⟨N,0,C,A2,by rw[hm],fun k=>Iff.rfl,mh,by omega,hCm,by omega, ?_⟩⟩,⟨?_, ?_, ?_, ?_,fun k hk _=> ?_⟩,fun k hk=> .inr (by omega)⟩
  ·rw[TH,TG];simp only[List.take_zero,List.nil_append,List.drop_zero,Nat.mul_one];rw[List.singleton_append,List.take_succ_cons,List.take_zero,List.append_assoc,List.singleton_append,List.take_succ_cons,List.take_left' vd]
  ·rw[VP,vP];rfl
  ·rw[VP,vP];rfl
  ·rw[VP,vP];rfl
  ·simpa using acU
  ·rw[setRow_other W2.drew N k _ (by omega)];exact PT k (by omega)
 have hmn:((n:Nat):Int)+1=(m:Int):=by omega
 have XR:m<=16777216:=by omega
 have hCi:(m:Int)<=(C:Int):=by omega
 have BP:2<=m:=by omega
 have HM:=hide hm;have adQ:m-1=n:=by omega
 clear h hg hb1 bN hold PT cg XA TG TH Xh hv h1 Xg hZ hZs vP VP hC kR gI dN fS hm acz acX hCm hN;go_enter func153,ntmps153;go_wp2_with (at_builtin;refine vH rfl _ _ 90 3 rfl _ _ _ rfl rfl DZ ?_)
 go_region
 go_wp2;go_ret;exact⟨_,rfl,HG.out⟩
theorem Um(ao:Option Addr)(n cap vb:Nat)(xs:List Value)(y:Value)(w:World)(F:Ft)(h:(rowA 124 1 (.slice ao n cap) n xs).holds w F)(hl:n<=16777215)(hv:w.heap[vb]?=some (.cells #[y] 124 (0,0)))(Xg:y.oneCell'=true):Calls prog 153 #[.slice ao n cap, .int .i64 n, .slice (some ⟨vb,0,none⟩) 1 1] w fun e w'=> ∃v',e= .returned v'∧Goes (rowA 124 1 v' (n+1) (xs++ [y])) w F w':=by
 obtain⟨i0,kR,gI,dN,fS⟩:=ia B8;have fy:=hide h;have XV: ∀j u, [y][j]?=some u->w.cell? ((⟨vb,0,none⟩:Addr).add j)=some u:=World.news_of_block (cs:= #[y]) (t:=124) (fr:=(0,0)) hv;clear h;go_enter func153,ntmps153;go_wp2_with (at_builtin;go_must(refine aC _ rfl _ _ 90 rfl 124 i0 (.pointer none) 1 8 underlying90 kR gI dN fS rfl (by decide) (F:=F) _ n xs rfl fy.out ⟨vb,0,none⟩ 1 1 [y] rfl rfl XV (by simpa using Xg) (by unfold maxLen;omega) (by omega) ?_;intro iw xm w2 bK;have nt:=hide bK;clear bK))
 all_goals go_ret
 all_goals exact⟨_,rfl,nt.out⟩
theorem Yk{κ:Type}(v:Value)(l:List κ)(f:κ->Nat)(x:κ)(first:Bool)(vb:Nat)(w:World)(F:Ft)(h:(rowA 124 1 v l.length (l.map fun i=>pt (f i))).holds w F)(hl:l.length<=16777215)(hv:w.heap[vb]?=some (.cells #[pt (f x)] 124 (0,0)))(cC: ¬F vb):Calls prog 153 #[v, .int .i64 (if first then 0 else(l.length:Int)), .slice (some ⟨vb,0,none⟩) 1 1] w fun e w'=> ∃v',e= .returned v'∧Goes (rowA 124 1 v' (if first then x::l else l++ [x]).length ((if first then x::l else l++ [x]).map fun i=>pt (f i))) w F w':=by
 obtain⟨ao,cap,rfl,dF,Aa,bI,_⟩:=bC h;have h1: ∀u∈l.map fun i=>pt (f i),u.oneCell'=true:=fun u hu=>by obtain⟨i,_,rfl⟩:=aA.1 hu;rfl
 have Ef:Calls prog 153 #[.slice ao l.length cap, .int .i64 (l.length:Int), .slice (some ⟨vb,0,none⟩) 1 1] w fun e w'=> ∃v',e= .returned v'∧Goes (rowA 124 1 v' (l++ [x]).length ((l++ [x]).map fun i=>pt (f i))) w F w':=by have:=Um ao l.length cap vb _ (pt (f x)) w F h hl hv rfl;rw[aN,aH];exact this
 cases first with
 |false=>exact Ef
 |true=>
  simp only[if_true];by_cases h0:l= []
  ·subst h0;exact Ef
  ·have hp:0<l.length:=List.length_pos_iff.2 h0;obtain⟨g,off,rfl,hFg⟩:=bI hp;have hg:vb≠g:=fun e=>cC (e▸hFg);rcases Nat.lt_or_eq_of_le dF with ay|heq
   ·refine(Un g off l.length cap vb _ (pt (f x)) w F h hp ay (by omega) hv hg h1 rfl).mono ?_;rintro e w'⟨rfl,hg⟩;exact⟨_,rfl,hg⟩
   ·subst heq;exact Ul g off l.length vb _ (pt (f x)) w F h hp (by omega) hv h1 rfl
theorem abh:(prog.info? 126).map (fun i=>i.size)=some 7:=by kernel_rfl
theorem P6:(prog.info? 127).map (fun i=>i.size)=some 1:=by kernel_rfl
theorem ab1{w:World}{p q:Nat}(hp:mn w p)(hq:mn w q):(binOp .eql 127 (.pointer (some ⟨p,0,none⟩)) (.pointer (some ⟨q,0,none⟩))).run prog w= .ok (.bool (decide (p=q))) w:=by
 have hi:=abh;cases hj:prog.info? 126 with
 |none=>rw[hj]at hi;cases hi
 |some j=>
  rw[hj]at hi;have hs:j.size=7:=by simpa using hi
  by_cases e:p=q
  ·subst e;rw[run_eql_ptr_same w _ underlying127 hj];simp
  ·obtain⟨c1,t1,h1⟩:=hp;obtain⟨c2,t2,h2⟩:=hq;rw[run_eql_ptr_other w underlying127 hj (by rw[hs];decide) (fun h=>e (by injection h)) h1 h2];simp[e]
theorem ixA{κ:Type} [DecidableEq κ](v:Value)(l:List κ)(f:κ->Nat)(x:κ)(w:World)(G:Ft)(h:(rowA 127 1 v l.length (l.map fun i=>pt (f i))).holds w G)(j5: ∀y∈l,f y=f x->y=x)(hb: ∀y∈l,mn w (f y))(hx:mn w (f x))(hl:l.length<=16777216):Calls prog 162 #[v,pt (f x)] w fun e w'=>e= .returned (.int .i64 (Mr.jV (l.findIdx? fun y=>decide (y=x))))∧w'=w:=by
 obtain⟨ao,cap,rfl,dF,bI⟩:=Mr.bO h;have HG:=hide h;have fT:=hide bI;have HB:=hide hb;have HX:=hide hx;have HI:=hide j5;clear h bI hb hx j5;unfold pt;go_enter func162,ntmps162;go_wp2
 go_loop [5,8] (fun _ i=> ∃k:Nat,k<=l.length∧i= .int .i64 k∧Hid (k<=l.findIdx fun y=>decide (y=x))) (fun _ i=>l.length-(intOf i).toNat)
 case atStart=>exact⟨0,aJ _,rfl,aJ _⟩
 case round=>
  obtain⟨k,hk,rfl,HK⟩:=hrel;by_cases ay:k<l.length
  ·obtain⟨g',off,rfl⟩:=fT.out (by omega);have c0:w.cell? ⟨g',off+k,none⟩=some (.pointer (some ⟨f (l[k]'ay),0,none⟩)):=by
    rw[bm HG.out k (by omega),List.getElem?_map,a7 ay];rfl
   have heq:=ab1 HX.out (HB.out _ (aY ay));by_cases hq:(l[k]'ay)=x
   ·have HF:=hide (Mr.jF (p:=fun y=>decide (y=x)) ay (by simpa using hq) HK.out);rw[hq,decide_eq_true rfl]at heq;rw[hq]at c0;clear HK;go_wp2;go_ret;exact⟨by rw[HF.out];rfl,rfl⟩
   ·have HF:=hide (Mr.eI (p:=fun y=>decide (y=x)) ay (by simpa using hq) HK.out);rw[decide_eq_false (fun e=>hq (HI.out _ (aY ay) e.symm))]at heq;generalize f (l[k]'ay)=fk at*;clear HK;go_wp2
    go_round
    case rel=>exact⟨k+1,by omega,by go_num,HF⟩
    case measure=>simp[intOf];omega
  ·have HF:=hide (Mr.lD (p:=fun y=>decide (y=x)) (l:=l) (by have:=HK.out;omega));obtain rfl:k=l.length:=by omega
   clear HK;go_wp2;go_ret;exact⟨by rw[HF.out];rfl,rfl⟩
theorem woA{κ:Type} [DecidableEq κ](v:Value)(l:List κ)(f:κ->Nat)(x:κ)(w:World)(F:Ft)(h:(rowA 127 1 v l.length (l.map fun i=>pt (f i))).holds w F)(j5: ∀y∈l,f y=f x->y=x)(hb: ∀y∈l,mn w (f y))(hx:mn w (f x))(hl:l.length<=16777216):Calls prog 125 #[v,pt (f x)] w fun e w'=> ∃v',e= .returned v'∧Goes (rowA 127 1 v' (l.erase x).length ((l.erase x).map fun i=>pt (f i))) w F w':=by
 have rz:=ixA v l f x w F h j5 hb hx hl;obtain⟨ao,cap,hv,dF,bI⟩:=Mr.bO h;have Aa:cap<=maxLen:=by obtain⟨_,_,e,_,h3,_⟩:=bC h;rw[hv]at e;cases e;exact h3
 cases hq:l.findIdx? (fun y=>decide (y=x))with
 |none=>
  rw[hq]at rz;have e1:l.erase x=l:=List.erase_of_not_mem (fun hm=>by have:=List.findIdx?_eq_none_iff.1 hq x hm;simp at this)
  rw[e1];have HG:=hide (Goes.refl h);clear h j5 hb hx hq;unfold pt Mr.jV at*;subst hv;go_enter func125,ntmps125;go_wp2_with (go_at_call 162;go_must(refine rz.mono ?_;rintro e w1⟨rfl,rfl⟩));go_ret;exact⟨_,rfl,HG.out⟩
 |some i=>
  rw[hq]at rz;obtain⟨hi,hp,sD⟩:=List.findIdx?_eq_some_iff_getElem.1 hq;have ju:l[i]?=some x:=by rw[a7 hi];congr 1;simpa using hp
  have e1:l.erase x=l.eraseIdx i:=mE ju (fun k hk=>by
   have:=sD k hk;intro e;rw[a7 (by omega)]at e;have e':l[k]=x:=by simpa using e
   rw[e']at this;simp at this)
  have e2:(l.erase x).length=l.length-1:=by rw[e1,List.length_eraseIdx,if_pos hi]
  obtain⟨g',off,rfl⟩:=bI (by omega);subst hv;by_cases kR:i=0
  ·subst kR;obtain⟨t,rfl⟩: ∃t,l=x::t:=xz ju;have hz: ∀w,(zeroValue 127).run prog w= .ok (.pointer none) w:=fun w=>by kernel_rfl
   have c0:(w.cell? ⟨g',off,none⟩).isSome=true:=by have:=bm h 0 (by simp);rw[Nat.add_zero]at this;rw[this];simp
   have D2:=Lib.run_clear_slice w 85 127 0 (.pointer none) underlying85 hz rfl rfl g' off 1 cap (by omega) (by
    intro j hj;obtain rfl:j=0:=by omega
    simpa using c0) (by
    intro j hj;obtain rfl:j=0:=by omega
    simpa using bV h off)
   have HG:=hide (show Goes (rowA 127 1 (.slice (some ⟨g',off+1,none⟩) t.length (cap-1)) t.length (t.map fun i=>pt (f i))) w F (w.setCells g' off (List.replicate 1 (.pointer none)))from by have s1:=cu h 0 (.pointer none) (by simp);refine(show Goes _ w F (w.setCell ⟨g',off+0,none⟩ (.pointer none))from s1).mono fun F' dR=> ?_;have:=ll dR 1 (by simp);simpa using this)
   have uL:Hid (cap=1->Goes (rowA 127 1 (.slice (some ⟨g',off,none⟩) t.length 0) t.length (t.map fun i=>pt (f i))) w F (w.setCells g' off [.pointer none])):=fun pX=>by
    have ht:t= []:=by
     have:t.length+1<=cap:=by simpa using dF
     exact List.eq_nil_of_length_eq_zero (by omega)
    subst ht;have s1:=cu h 0 (.pointer none) (by simp);refine(show Goes _ w F (w.setCell ⟨g',off+0,none⟩ (.pointer none))from s1).mono fun F' dR=> ?_;exact qY (lU dR 0 (by simp)) 0 (by omega) (by omega)
   have qb:(1:Int)<=((t.length:Nat):Int)+1:=by omega
   have Py:t.length+1<=cap:=by simpa using dF
   have Pz:(1:Int)<=((cap:Nat):Int):=by omega
   simp only[List.erase_cons_head];clear h j5 hb hx hq sD ju e1 e2 hp bI dF c0;unfold pt Mr.jV at*;simp only[List.length_cons]at*;generalize t.length=n at*;go_enter func125,ntmps125;go_wp2_with (go_at_call 162;go_must(refine rz.mono ?_;rintro e w1⟨rfl,rfl⟩))
   all_goals go_ret
   ·exact⟨_,rfl,uL.out (by assumption)⟩
   ·exact⟨_,rfl,HG.out⟩
  ·
   obtain⟨i0,Pt⟩: ∃i0,prog.info? 127=some i0:=by
    have:=P6;cases hj:prog.info? 127 with
    |none=>rw[hj]at this;cases this
    |some i0=>exact⟨i0,rfl⟩
   have iA:i0.size=1:=by have:=P6;rw[Pt]at this;simpa using this
   have jI: ∀t:List κ,(t.map fun i=>some (f i)).map ep=t.map fun i=>pt (f i):=fun t=>by rw[aG];rfl
   have hH:Holds ep w g' off (l.map fun i=>some (f i)).toArray:=row_holds (by rw[jI];exact h);have lG:=AnyE.slices_Delete dlA ep (fun _=>rfl) none (fun w=>by kernel_rfl) i0 Pt iA g' off cap i (i+1) (l.map fun i=>some (f i)).toArray w hH (by simpa using dF) (by unfold maxLen at Aa;omega) (by omega) (by simp;omega);change Calls prog 163 _ _ _ at lG;have HG:Hid (∀q,Goes (rowA 127 1 (.slice (some ⟨g',off,none⟩) (l.length-1) cap) (l.erase x).length ((l.erase x).map fun i=>pt (f i))) w F (putRow ep (Sort.ahead w q) g' off (((l.map fun i=>some (f i)).toArray.toList.take i++(l.map fun i=>some (f i)).toArray.toList.drop (i+1)++List.replicate (i+1-i) none).toArray))):=fun q=>by have:=ui (enc:=ep) h (((l.map fun i=>some (f i)).toArray.toList.take i++(l.map fun i=>some (f i)).toArray.toList.drop (i+1)++List.replicate (i+1-i) none).toArray) (by simp;omega) (l.length-1) (by omega) q;rw[e2];refine this.eq ?_;congr 1;rw[e1,List.eraseIdx_eq_take_drop_succ,<-jI];rw[List.take_left' (by simp;omega),aH,aH];simp only[aH,List.map_take,List.map_drop]
   have GP:0<i:=by omega
   have V4:(i:Int)<=16777216:=by omega
   have cg:(l.map fun i=>some (f i)).toArray.size-(i+1-i)=l.length-1:=by simp
   rw[cg]at lG;simp only[List.size_toArray,bf]at lG;clear h j5 hb hx hq sD ju e1 e2 hp bI dF hH jI cg;unfold pt Mr.jV at*;generalize l.length=n at*;generalize(((l.map fun i=>some (f i)).toArray.toList.take i++(l.map fun i=>some (f i)).toArray.toList.drop (i+1)++List.replicate (i+1-i) none).toArray)=arr at*;obtain⟨j,hj⟩: ∃j,j=i+1:=⟨_,rfl⟩;have PA:((i:Nat):Int)+1=(j:Int):=by omega
   rw[<-hj]at lG;have NW:j<=16777216:=by omega
   clear hj;go_enter func125,ntmps125;go_wp2_with (first
    |(go_at_call 162;go_must(refine rz.mono ?_;rintro e w1⟨rfl,rfl⟩))
    |(go_at_call 163;go_must(refine lG.mono ?_;rintro e w1⟨rfl,q,rfl⟩)))
   go_ret;exact⟨_,rfl,HG.out _⟩
end Pj
namespace Pj
open Go.RowKit aM Mc
attribute [local go_sem] ag ar
def SP{κ:Type}(l:List κ)(f:κ->Nat)(p:κ->Bool)(g:FuncId)(lb:Array Value)(w:World):Prop:=
 ∀wr,Below w.heap.size w wr-> ∀y∈l,Calls prog g (#[pt (f y)]++lb) wr fun e w'=>e= .returned (.bool (p y))∧ ∃q,w'=wr.drewN q
theorem Kj{κ:Type}{l:List κ}{p:κ->Bool}{k:Nat}(h:l.findIdx? p=some k)(hk:k<l.length):l.find? p=some (l[k]'hk):=by obtain⟨h1,h2,h3⟩:=List.findIdx?_eq_some_iff_getElem.1 h;rw[List.find?_eq_some_iff_getElem];exact⟨h2,k,hk,rfl,fun j hj=>by simpa using h3 j hj⟩
theorem fiA{κ:Type}(v:Value)(l:List κ)(f:κ->Nat)(p:κ->Bool)(g:FuncId)(lb:Array Value)(eg:Enters prog g)(w:World)(G:Ft)(h:(rowA 127 1 v l.length (l.map fun i=>pt (f i))).holds w G)(hp:SP l f p g lb w)(hl:l.length<=16777216):Calls prog 166 #[v, .func (.func g) #[] lb] w fun e w'=>e= .returned (ep ((l.find? p).map f))∧ ∃q,w'=w.drewN q:=by
 obtain⟨ao,cap,rfl,dF,bI⟩:=Mr.bO h;have HG:=hide h;have fT:=hide bI;have HP:=hide hp;have eg': ∀args w,(callFunc g args).run prog w= .ok (.enter g args) w:=eg;clear h bI hp;go_enter func166,ntmps166;go_wp2;go_loopw [10] (fun i wr=> ∃k:Nat,k<=l.length∧i= .int .i64 k∧Hid (k<=l.findIdx p)∧ ∃q:Nat,Hid (wr=w.drewN q)) (fun i _=>l.length-(intOf i).toNat)
 case atStart=>exact⟨0,aJ _,rfl,aJ _,0,rfl⟩
 case round=>
  obtain⟨k,hk,rfl,HK,q,HQ⟩:=hrel;by_cases ay:k<l.length
  ·obtain⟨g',off,rfl⟩:=fT.out (by omega);have c0:wr.cell? ⟨g',off+k,none⟩=some (.pointer (some ⟨f (l[k]'ay),0,none⟩)):=by
    rw[HQ.out];show w.cell? _=_;rw[bm HG.out k (by omega),List.getElem?_map,a7 ay];rfl
   have HC:=HP.out wr (by rw[HQ.out];exact⟨rfl,rfl,rfl,ae _,fun _ _=>rfl⟩) _ (aY ay);unfold pt at HC;cases hq:p (l[k]'ay)
   ·have HF:=hide (Mr.eI ay hq HK.out);rw[hq]at HC;generalize f (l[k]'ay)=fk at*;clear HK;go_wp2_with (first|(go_at_fn g;go_must(refine HC.mono ?_;rintro e w1⟨rfl,q1,rfl⟩)));go_roundw
    case rel=>exact⟨k+1,by omega,by go_num,HF,q+q1,by rw[HQ.out];exact yl _ _ _⟩
    case measure=>simp[intOf];omega
   ·have HF:=hide (Mr.jF ay hq HK.out);rw[hq]at HC;have e1:(l.find? p).map f=some (f (l[k]'ay)):=by
     rw[Kj HF.out ay];rfl
    have HE:=hide e1;generalize f (l[k]'ay)=fk at*;clear HK e1;go_wp2_with (first|(go_at_fn g;go_must(refine HC.mono ?_;rintro e w1⟨rfl,q1,rfl⟩)));go_ret;exact⟨by rw[HE.out];rfl,q+q1,by rw[HQ.out];exact yl _ _ _⟩
  ·have HF:=hide (Mr.lD (p:=p) (l:=l) (by have:=HK.out;omega));obtain rfl:k=l.length:=by omega
   clear HK;go_wp2;go_ret;refine⟨?_,q,HQ.out⟩;have:l.find? p=none:=List.find?_eq_none.2 (fun x hx=>by rw[List.findIdx?_eq_none_iff.1 HF.out x hx];simp);rw[this];rfl
theorem fiT{κ:Type}(v:Value)(l:List κ)(f:κ->Nat)(p:κ->Bool)(g:FuncId)(lb:Array Value)(eg:Enters prog g)(w:World)(G:Ft)(h:(rowA 89 1 v l.length (l.map fun i=>pt (f i))).holds w G)(hp:SP l f p g lb w)(hl:l.length<=16777216):Calls prog 71 #[v, .func (.func g) #[] lb] w fun e w'=>e= .returned (ep ((l.find? p).map f))∧ ∃q,w'=w.drewN q:=by
 obtain⟨ao,cap,rfl,dF,bI⟩:=Mr.bO h;have HG:=hide h;have fT:=hide bI;have HP:=hide hp;have eg': ∀args w,(callFunc g args).run prog w= .ok (.enter g args) w:=eg;clear h bI hp;go_enter func71,ntmps71;go_wp2;go_loopw [10] (fun i wr=> ∃k:Nat,k<=l.length∧i= .int .i64 k∧Hid (k<=l.findIdx p)∧ ∃q:Nat,Hid (wr=w.drewN q)) (fun i _=>l.length-(intOf i).toNat)
 case atStart=>exact⟨0,aJ _,rfl,aJ _,0,rfl⟩
 case round=>
  obtain⟨k,hk,rfl,HK,q,HQ⟩:=hrel;by_cases ay:k<l.length
  ·obtain⟨g',off,rfl⟩:=fT.out (by omega);have c0:wr.cell? ⟨g',off+k,none⟩=some (.pointer (some ⟨f (l[k]'ay),0,none⟩)):=by
    rw[HQ.out];show w.cell? _=_;rw[bm HG.out k (by omega),List.getElem?_map,a7 ay];rfl
   have HC:=HP.out wr (by rw[HQ.out];exact⟨rfl,rfl,rfl,ae _,fun _ _=>rfl⟩) _ (aY ay);unfold pt at HC;cases hq:p (l[k]'ay)
   ·have HF:=hide (Mr.eI ay hq HK.out);rw[hq]at HC;generalize f (l[k]'ay)=fk at*;clear HK;go_wp2_with (first|(go_at_fn g;go_must(refine HC.mono ?_;rintro e w1⟨rfl,q1,rfl⟩)));go_roundw
    case rel=>exact⟨k+1,by omega,by go_num,HF,q+q1,by rw[HQ.out];exact yl _ _ _⟩
    case measure=>simp[intOf];omega
   ·have HF:=hide (Mr.jF ay hq HK.out);rw[hq]at HC;have e1:(l.find? p).map f=some (f (l[k]'ay)):=by
     rw[Kj HF.out ay];rfl
    have HE:=hide e1;generalize f (l[k]'ay)=fk at*;clear HK e1;go_wp2_with (first|(go_at_fn g;go_must(refine HC.mono ?_;rintro e w1⟨rfl,q1,rfl⟩)));go_ret;exact⟨by rw[HE.out];rfl,q+q1,by rw[HQ.out];exact yl _ _ _⟩
  ·have HF:=hide (Mr.lD (p:=p) (l:=l) (by have:=HK.out;omega));obtain rfl:k=l.length:=by omega
   clear HK;go_wp2;go_ret;refine⟨?_,q,HQ.out⟩;have:l.find? p=none:=List.find?_eq_none.2 (fun x hx=>by rw[List.findIdx?_eq_none_iff.1 HF.out x hx];simp);rw[this];rfl
variable{k:Nat}
theorem jG{A:aM}{w w':World}(h:Goes A w (fun _=>False) w'):Below w.heap.size w w':=by obtain⟨_,_,o,_⟩:=h;exact o.toBelow (fun _ h=>h.elim) (ae _)
theorem tO{κ:Type}{p:κ->Bool}{l:List κ}(hk:k<l.length):(l.take (k+1)).filter p=(l.take k).filter p++if p (l[k]'hk)then [l[k]'hk]else []:=by rw[fp hk,List.filter_append];congr 1;by_cases h:p l[k]=true<;>simp[h]
theorem Hz{κ:Type}{p:κ->Bool}{l:List κ}:((l.take k).filter p).length<=l.length:=by refine aw (List.length_filter_le ..) ?_;rw[List.length_take];exact Nat.min_le_right ..
theorem xT{κ:Type}(v:Value)(l:List κ)(f:κ->Nat)(p:κ->Bool)(g:FuncId)(lb:Array Value)(eg:Enters prog g)(w:World)(G:Ft)(h:(rowA 127 1 v l.length (l.map fun i=>pt (f i))).holds w G)(hp:SP l f p g lb w)(hl:l.length<=16777216):Calls prog 78 #[v, .func (.func g) #[] lb] w fun e w'=> ∃v',e= .returned v'∧Goes (rowA 127 1 v' (l.filter p).length ((l.filter p).map fun i=>pt (f i))) w (fun _=>False) w':=by
 obtain⟨i0,kR,gI,dN,fS⟩:=ia II;obtain⟨ao,cap,rfl,dF,bI⟩:=Mr.bO h;have HG:=hide h;have fT:=hide bI;have HP:=hide hp;have eg': ∀args w,(callFunc g args).run prog w= .ok (.enter g args) w:=eg;clear h bI hp;go_enter func78,ntmps78;go_wp2;go_loopw [5,10] (fun lv i wr=> ∃k:Nat,k<=l.length∧i= .int .i64 k∧ ∃n1 dP eQ,lv= .slice dP n1 eQ∧n1<=16777216∧Hid (n1=((l.take k).filter p).length∧Goes (rowA 127 1 (.slice dP n1 eQ) n1 (((l.take k).filter p).map fun i=>pt (f i))) w (fun _=>False) wr)) (fun _ i _=>l.length-(intOf i).toNat)
 case atStart=>exact⟨0,aJ _,rfl,0,none,0,rfl,by omega,⟨by simp,Goes.refl (dS _ _ _ (fun _ h=>h))⟩⟩
 case round=>
  obtain⟨k,hk,rfl,n1,dP,eQ,rfl,qb,HN⟩:=hrel;have hB:=jG HN.out.2;have cg:=hB.size;by_cases ay:k<l.length
  ·obtain⟨g',off,rfl⟩:=fT.out (by omega);have c0:wr.cell? ⟨g',off+k,none⟩=some (.pointer (some ⟨f (l[k]'ay),0,none⟩)):=by
    have:=bm (Mr.au HG.out hB) k (by omega);rw[this,List.getElem?_map,a7 ay];rfl
   have HC:=HP.out wr hB _ (aY ay);unfold pt at HC;cases hq:p (l[k]'ay)
   ·have ig:Hid (n1=((l.take (k+1)).filter p).length∧ ∀q,Goes (rowA 127 1 (.slice dP n1 eQ) n1 (((l.take (k+1)).filter p).map fun i=>pt (f i))) w (fun _=>False) (wr.drewN q)):=by
     show(_∧_);rw[tO ay,hq];have:=HN.out;simp only[Bool.false_eq_true,if_false,List.append_nil];exact⟨this.1,fun q=>this.2.drewN q⟩
    rw[hq]at HC;generalize f (l[k]'ay)=fk at*;clear HN hB cg;go_wp2_with (first|(go_at_fn g;go_must(refine HC.mono ?_;rintro e w1⟨rfl,q1,rfl⟩)));go_roundw
    case rel=>exact⟨k+1,by omega,by go_num,n1,dP,eQ,rfl,qb,⟨ig.out.1,ig.out.2 _⟩⟩
    case measure=>simp[intOf];omega
   ·rw[hq]at HC;obtain⟨Gr,kG,Jf,GZ⟩:=HN.out.2;have fy:=hide kG;have HO:=hide Jf;have HNN:=hide GZ;have K9:=hide HN.out.1;have HFK:Hid (f (l[k]'ay)=f (l[k]'ay)):=rfl;have iP:Hid ((l.take (k+1)).filter p=(l.take k).filter p++ [l[k]'ay]):=by
     show(_=_);rw[tO ay,hq];rfl
    obtain⟨fk,Ea⟩: ∃fk,fk=f (l[k]'ay):=⟨_,rfl⟩;rw[<-Ea]at HC c0;have HK:=hide Ea;clear HN kG Jf GZ hB Ea HFK;go_wp2_with (first
     |(go_at_fn g;go_must(refine HC.mono ?_;rintro e w1⟨rfl,q1,rfl⟩))
     |(at_builtin;go_must(refine aC _ rfl _ _ 85 rfl 127 i0 (.pointer none) 1 8 underlying85 kR gI dN fS rfl (by decide) (F:=Gr) _ n1 (((l.take k).filter p).map fun i=>pt (f i)) rfl (Mr.au (cB fy.out _) ((ah _ _).alloc (ae _) _)) ⟨wr.heap.size,0,none⟩ 1 1 [.pointer (some ⟨fk,0,none⟩)] rfl rfl (World.news_of_block (cs:= #[.pointer (some ⟨fk,0,none⟩)]) (t:=127) (fr:=(0,0)) (heap_alloc_new (wr.drewN _) _)) (by simp[Value.oneCell']) (by unfold maxLen;omega) (by omega) ?main)))
    case main=>
     intro cU gz w2 bK;have ig:Hid (n1+1=((l.take (k+1)).filter p).length∧Goes (rowA 127 1 (.slice cU (n1+1) gz) (n1+1) (((l.take (k+1)).filter p).map fun i=>pt (f i))) w (fun _=>False) w2):=by
      show(_∧_);rw[iP.out,aN,aH,<-K9.out];refine⟨rfl, ?_⟩;have o1:Only (fun _=>False) w ((wr.alloc (.cells #[.pointer (some ⟨fk,0,none⟩)] 127)).drewN q1):=(HO.out.alloc _).drewN q1;have h2:=aF o1 HNN.out bK;have e3: [(l[k]'ay)].map (fun i=>pt (f i))= [.pointer (some ⟨fk,0,none⟩)]:=by rw[HK.out];rfl
      rw[e3];exact h2
     have sH:n1+1<=16777216:=by have h1:=ig.out.1;have h2:=Hz (l:=l) (k:=k+1) (p:=p);omega
     clear bK;go_wp2;go_roundw
     case rel=>exact⟨k+1,by omega,by go_num,n1+1,cU,gz,by first|rfl|go_num,sH,ig⟩
     case measure=>simp[intOf];omega
  ·obtain rfl:k=l.length:=by omega
   have HX:Hid (n1=(l.filter p).length∧Goes (rowA 127 1 (.slice dP n1 eQ) n1 ((l.filter p).map fun i=>pt (f i))) w (fun _=>False) wr):=by have h:=HN.out;rw[List.take_length]at h;exact h
   clear HN;go_wp2;go_ret;obtain⟨e1,h1⟩:=HX.out;exact⟨_,rfl,by rw[<-e1];exact h1⟩
