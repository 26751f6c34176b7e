import Derived.Test.YtffamlbkmjmipaaGreatDoorC05
import Derived.Test.YtffamlbkmjmipaaGreatDoorC06
import Derived.Test.YtffamlbkmjmipaaGreatDoorC07
import Derived.Lib.SliceRun
import Derived.Laws.CopyRow
set_option maxHeartbeats 8000000
set_option maxRecDepth 100000
namespace Go.Proofs.YtffamlbkmjmipaaGreatDoor
open _root_.Go.Proofs.Tryz
namespace Pj
open Go.RowKit aD Mc Go.Sort
attribute [local go_sem] ae ah
theorem Uu:(prog.info? 132).map (fun i=>i.size)=some 8:=by kernel_rfl
theorem qm:(prog.info? 124).map (fun i=>i.size)=some 1:=by kernel_rfl
theorem Wy{w:World}{p q:Nat}(hp:jk w p)(hq:jk w q):(binOp .eql 124 (.pointer (some ⟨p,0,none⟩)) (.pointer (some ⟨q,0,none⟩))).run prog w= .ok (.bool (decide (p=q))) w:=by
 have hi:=Uu;cases hj:prog.info? 132 with
 |none=>rw[hj]at hi;cases hi
 |some j=>
  rw[hj]at hi;have hs:j.size=8:=by simpa using hi
  by_cases e:p=q
  ·subst e;rw[run_eql_ptr_same w _ underlying124 hj];simp
  ·obtain⟨c1,t1,h1⟩:=hp;obtain⟨c2,t2,h2⟩:=hq;rw[run_eql_ptr_other w underlying124 hj (by rw[hs];decide) (fun h=>e (by injection h)) h1 h2];simp[e]
theorem ixR{κ:Type} [DecidableEq κ](v:Value)(l:List κ)(f:κ->Nat)(x:κ)(w:World)(G:Ft)(h:(rowA 124 1 v l.length (l.map fun i=>pt (f i))).holds w G)(gR: ∀y∈l,f y=f x->y=x)(hb: ∀y∈l,jk w (f y))(hx:jk w (f x))(hl:l.length<=16777216):Calls prog 156 #[v,pt (f x)] w fun e w'=>e= .returned (.int .i64 (Mr.uM (l.findIdx? fun y=>decide (y=x))))∧w'=w:=by
 obtain⟨ao,cap,rfl,cV,ck⟩:=Mr.cE h;have HG:=hide h;have yF:=hide ck;have HB:=hide hb;have HX:=hide hx;have HI:=hide gR;clear h ck hb hx gR;unfold pt;go_enter func156,ntmps156;go_wp2
 go_loop [5,8] (fun _ i=> ∃k:Nat,k<=l.length∧i= .int .i64 k∧Hid (k<=l.findIdx fun y=>decide (y=x))) (fun _ i=>l.length-(intOf i).toNat)
 case atStart=>exact⟨0,bk _,rfl,bk _⟩
 case round=>
  obtain⟨k,hk,rfl,HK⟩:=hrel;by_cases aQ:k<l.length
  ·obtain⟨g',off,rfl⟩:=yF.out (by omega);have c0:w.cell? ⟨g',off+k,none⟩=some (.pointer (some ⟨f (l[k]'aQ),0,none⟩)):=by
    rw[aW HG.out k (by omega),List.getElem?_map,aV aQ];rfl
   have heq:=Wy HX.out (HB.out _ (bY aQ));by_cases hq:(l[k]'aQ)=x
   ·have HF:=hide (Mr.qf (p:=fun y=>decide (y=x)) aQ (by simpa using hq) HK.out);rw[hq,decide_eq_true rfl]at heq;rw[hq]at c0;clear HK;go_wp2;go_ret;exact⟨by rw[HF.out];rfl,rfl⟩
   ·have HF:=hide (Mr.kx (p:=fun y=>decide (y=x)) aQ (by simpa using hq) HK.out);rw[decide_eq_false (fun e=>hq (HI.out _ (bY aQ) e.symm))]at heq;generalize f (l[k]'aQ)=fk at*;clear HK;go_wp2
    go_round
    case rel=>exact⟨k+1,by omega,by go_num,HF⟩
    case measure=>simp[intOf];omega
  ·have HF:=hide (Mr.nh (p:=fun y=>decide (y=x)) (l:=l) (by have:=HK.out;omega));obtain rfl:k=l.length:=by omega
   clear HK;go_wp2;go_ret;exact⟨by rw[HF.out];rfl,rfl⟩
theorem woR{κ:Type} [DecidableEq κ](v:Value)(l:List κ)(f:κ->Nat)(x:κ)(w:World)(F:Ft)(h:(rowA 124 1 v l.length (l.map fun i=>pt (f i))).holds w F)(gR: ∀y∈l,f y=f x->y=x)(hb: ∀y∈l,jk w (f y))(hx:jk w (f x))(hl:l.length<=16777216):Calls prog 119 #[v,pt (f x)] w fun e w'=> ∃v',e= .returned v'∧Goes (rowA 124 1 v' (l.erase x).length ((l.erase x).map fun i=>pt (f i))) w F w':=by
 have mU:=ixR v l f x w F h gR hb hx hl;obtain⟨ao,cap,hv,cV,ck⟩:=Mr.cE h;have ve:cap<=maxLen:=by obtain⟨_,_,e,_,h3,_⟩:=bS h;rw[hv]at e;cases e;exact h3
 cases hq:l.findIdx? (fun y=>decide (y=x))with
 |none=>
  rw[hq]at mU;have e1:l.erase x=l:=List.erase_of_not_mem (fun hm=>by have:=List.findIdx?_eq_none_iff.1 hq x hm;simp at this)
  rw[e1];have HG:=hide (Goes.refl h);clear h gR hb hx hq;unfold pt Mr.uM at*;subst hv;go_enter func119,ntmps119;go_wp2_with (go_at_call 156;go_must(refine mU.mono ?_;rintro e w1⟨rfl,rfl⟩));go_ret;exact⟨_,rfl,HG.out⟩
 |some i=>
  rw[hq]at mU;obtain⟨hi,hp,nv⟩:=List.findIdx?_eq_some_iff_getElem.1 hq;have rL:l[i]?=some x:=by rw[aV hi];congr 1;simpa using hp
  have e1:l.erase x=l.eraseIdx i:=jr rL (fun k hk=>by
   have:=nv k hk;intro e;rw[aV (by omega)]at e;have e':l[k]=x:=by simpa using e
   rw[e']at this;simp at this)
  have e2:(l.erase x).length=l.length-1:=by rw[e1,List.length_eraseIdx,if_pos hi]
  obtain⟨g',off,rfl⟩:=ck (by omega);subst hv;by_cases kg:i=0
  ·subst kg;obtain⟨t,rfl⟩: ∃t,l=x::t:=se rL;have hz: ∀w,(zeroValue 124).run prog w= .ok (.pointer none) w:=fun w=>by kernel_rfl
   have c0:(w.cell? ⟨g',off,none⟩).isSome=true:=by have:=aW h 0 (by simp);rw[Nat.add_zero]at this;rw[this];simp
   have Vi:=Lib.run_clear_slice w 90 124 0 (.pointer none) underlying90 hz rfl rfl g' off 1 cap (by omega) (by
    intro j hj;obtain rfl:j=0:=by omega
    simpa using c0) (by
    intro j hj;obtain rfl:j=0:=by omega
    simpa using eu h off)
   have HG:=hide (show Goes (rowA 124 1 (.slice (some ⟨g',off+1,none⟩) t.length (cap-1)) t.length (t.map fun i=>pt (f i))) w F (w.setCells g' off (List.replicate 1 (.pointer none)))from by have s1:=dc h 0 (.pointer none) (by simp);refine(show Goes _ w F (w.setCell ⟨g',off+0,none⟩ (.pointer none))from s1).mono fun F' nk=> ?_;have:=mg nk 1 (by simp);simpa using this)
   have Hu:Hid (cap=1->Goes (rowA 124 1 (.slice (some ⟨g',off,none⟩) t.length 0) t.length (t.map fun i=>pt (f i))) w F (w.setCells g' off [.pointer none])):=fun mA=>by
    have ht:t= []:=by
     have:t.length+1<=cap:=by simpa using cV
     exact List.eq_nil_of_length_eq_zero (by omega)
    subst ht;have s1:=dc h 0 (.pointer none) (by simp);refine(show Goes _ w F (w.setCell ⟨g',off+0,none⟩ (.pointer none))from s1).mono fun F' nk=> ?_;exact mf (ja nk 0 (by simp)) 0 (by omega) (by omega)
   have tH:(1:Int)<=((t.length:Nat):Int)+1:=by omega
   have Jr:t.length+1<=cap:=by simpa using cV
   have Jt:(1:Int)<=((cap:Nat):Int):=by omega
   simp only[List.erase_cons_head];clear h gR hb hx hq nv rL e1 e2 hp ck cV c0;unfold pt Mr.uM at*;simp only[List.length_cons]at*;generalize t.length=n at*;go_enter func119,ntmps119;go_wp2_with (go_at_call 156;go_must(refine mU.mono ?_;rintro e w1⟨rfl,rfl⟩))
   all_goals go_ret
   ·exact⟨_,rfl,Hu.out (by assumption)⟩
   ·exact⟨_,rfl,HG.out⟩
  ·
   obtain⟨i0,Jm⟩: ∃i0,prog.info? 124=some i0:=by
    have:=qm;cases hj:prog.info? 124 with
    |none=>rw[hj]at this;cases this
    |some i0=>exact⟨i0,rfl⟩
   have jf:i0.size=1:=by have:=qm;rw[Jm]at this;simpa using this
   have iT: ∀t:List κ,(t.map fun i=>some (f i)).map ep=t.map fun i=>pt (f i):=fun t=>by rw[az];rfl
   have hH:Holds ep w g' off (l.map fun i=>some (f i)).toArray:=row_holds (by rw[iT];exact h);have iP:=AnyE.slices_Delete dlR ep (fun _=>rfl) none (fun w=>by kernel_rfl) i0 Jm jf g' off cap i (i+1) (l.map fun i=>some (f i)).toArray w hH (by simpa using cV) (by unfold maxLen at ve;omega) (by omega) (by simp;omega);change Calls prog 157 _ _ _ at iP;have HG:Hid (∀q,Goes (rowA 124 1 (.slice (some ⟨g',off,none⟩) (l.length-1) cap) (l.erase x).length ((l.erase x).map fun i=>pt (f i))) w F (putRow ep (Sort.ahead w q) g' off (((l.map fun i=>some (f i)).toArray.toList.take i++(l.map fun i=>some (f i)).toArray.toList.drop (i+1)++List.replicate (i+1-i) none).toArray))):=fun q=>by have:=pg (enc:=ep) h (((l.map fun i=>some (f i)).toArray.toList.take i++(l.map fun i=>some (f i)).toArray.toList.drop (i+1)++List.replicate (i+1-i) none).toArray) (by simp;omega) (l.length-1) (by omega) q;rw[e2];refine this.eq ?_;congr 1;rw[e1,List.eraseIdx_eq_take_drop_succ,<-iT];rw[List.take_left' (by simp;omega),aB,aB];simp only[aB,List.map_take,List.map_drop]
   have BB:0<i:=by omega
   have Pk:(i:Int)<=16777216:=by omega
   have cY:(l.map fun i=>some (f i)).toArray.size-(i+1-i)=l.length-1:=by simp
   rw[cY]at iP;simp only[List.size_toArray,aR]at iP;clear h gR hb hx hq nv rL e1 e2 hp ck cV hH iT cY;unfold pt Mr.uM at*;generalize l.length=n at*;generalize(((l.map fun i=>some (f i)).toArray.toList.take i++(l.map fun i=>some (f i)).toArray.toList.drop (i+1)++List.replicate (i+1-i) none).toArray)=arr at*;obtain⟨j,hj⟩: ∃j,j=i+1:=⟨_,rfl⟩;have Ju:((i:Nat):Int)+1=(j:Int):=by omega
   rw[<-hj]at iP;have T8:j<=16777216:=by omega
   clear hj;go_enter func119,ntmps119;go_wp2_with (first
    |(go_at_call 156;go_must(refine mU.mono ?_;rintro e w1⟨rfl,rfl⟩))
    |(go_at_call 157;go_must(refine iP.mono ?_;rintro e w1⟨rfl,q,rfl⟩)))
   go_ret;exact⟨_,rfl,HG.out _⟩
variable{P:Program}{g off n cap:Nat}{xs:List Value}{w:World}{F:Ft}
theorem xB:(prog.info? 124).map (fun i=>(i.zero,i.size,i.bytes))=some (some (.pointer none),1,8):=by kernel_rfl
theorem rP(w:World)(t u ty e:TypeId)(i:TypeInfo)(z:Value)(ht:P.underlying t=some (.slice e))(hu:P.underlying u=some (.int .i64))(hi:P.info? e=some i)(hz:i.zero=some z)(hs:i.size=1)(tC:i.bytes=8)(b:Addr)(rQ n:Nat)(hg:rQ<n)(hn:n<=16777217)(cV:Builtin.nextslicecap n rQ*8<=281474976710656):(Builtin.append_ #[t,u] ty #[.slice (some b) 0 rQ, .int .i64 n]).run P w= .ok (.slice (some ⟨w.heap.size,0,none⟩) n (grownCap w n rQ e)) (w.drew.alloc (.cells (Builtin.zeroCells z.cells n++Builtin.zeroCells z.cells (grownCap w n rQ e-n)) e)):=by
 have hw:IntKind.i64.wrap (n:Int)=n:=by rw[IntKind.wrap_i64];omega
 have h1: ¬((n:Int)<0):=by omega
 have h2: ¬((281474976710656:Int)<(n:Int)*8):=by omega
 have h3: ¬(n<=rQ):=by omega
 have h4: ¬(9223372036854775807<(n:Int)):=by omega
 have h5: ¬(281474976710656<Builtin.nextslicecap n rQ*8):=by omega
 have h6:n≠0:=by omega
 have hf:=run_firstCells_some (P:=P) w.drew 1 0 b 0 rQ [] rfl (by simp);have nu:(asIntOf (.int .i64 (n:Int))).run P w= .ok (.i64,(n:Int)) w:=rfl;simp[nu,Builtin.append_,run_underlying ht,run_underlying hu,sizeOf,typeInfo,zeroValue,hi,hz,hs,tC,hw,h1,h2,h3,h4,h5,h6,Question.forced,hf,newRow,grownCap,asInt]
theorem zF{e:TypeId}(h:(rowA e 1 (.slice (some ⟨g,off,none⟩) n cap) n xs).holds w F){cur:Array Value}(hg:w.heap[g]?=some (.cells cur e (0,0)))(arr:Array Value)(hs:arr.size=cur.size)(m:Nat)(hm:m<=cap)(q:Nat)(ys:List Value)(hy:(arr.toList.drop off).take m=ys)(hl:ys.length=m):Goes (rowA e 1 (.slice (some ⟨g,off,none⟩) m cap) m ys) w F ((w.setRow g arr).drewN q):=by
 rcases h.2 with⟨h0,_⟩|⟨g',nG,bO,IQ,hv,hF,iG,hn,ve,cY,ht⟩
 ·cases h0
 ·cases hv;rw[hg]at iG;cases iG;refine⟨F,⟨by omega, .inr ⟨g,off,cap,arr,rfl,hF,setRow_heap w g cur arr e _ hg,hm,ve,by rw[hs];exact cY,by rw[Nat.mul_one];exact hy⟩⟩, ?_,fun _ h=> .inl h⟩;exact Only.drewN (S:=F) (a:=w) (w:=w.setRow g arr) ⟨rfl,rfl,rfl,by simp,fun k _ hk=>setRow_other w g k _ (fun e=>hk ((hF k).2 e))⟩ q
theorem EC{e:TypeId}(h:(rowA e 1 (.slice (some ⟨g,off,none⟩) n cap) n xs).holds w F): ∃cur,w.heap[g]?=some (.cells cur e (0,0))∧off+cap<=cur.size∧(cur.toList.drop off).take n=xs:=by
 rcases h.2 with⟨h0,_⟩|⟨g',nG,bO,IQ,hv,hF,iG,hn,ve,cY,ht⟩
 ·cases h0
 ·cases hv;exact⟨IQ,iG,by omega,by simpa using ht⟩
theorem AP(w:World)(a b:Addr)(n m c c':Nat)(cz:a.block≠b.block)(ha:jk w a.block)(hb:jk w b.block):(callFunc 200 #[.slice (some a) n c, .slice (some b) m c']).run prog w= .ok (.value (.bool false)) w:=by
 have h1:Extern.findNext f200=none:=by kernel_rfl
 have h2:Extern.find f200=some (Extern.SlicesOverlaps.overlaps #[90,90] #[4]):=by kernel_rfl
 have h3:(f200.name== "runtime.NumGoroutine")=false:=by kernel_rfl
 have h4:f200.body.isNone=true:=by kernel_rfl
 unfold callFunc;simp[func200,h1,h2,go_sem];rw[if_neg (by simpa using h3),if_pos (by simpa using h4)];obtain⟨ca,ta,ha⟩:=ha;obtain⟨cb,tb,hb⟩:=hb;have hr:(Extern.SlicesOverlaps.overlaps #[90,90] #[4] #[.slice (some a) n c, .slice (some b) m c']).run prog w= .ok (.bool false) w:=by
  obtain⟨i0,kg,_,j0,_⟩:=fo xB;have e0:Extern.SlicesOverlaps.overlaps #[90,90] #[4] #[.slice (some a) n c, .slice (some b) m c']=(do
   let .slice elem<-underlying 90|stuck "slices.overlaps: slice type expected"
   let size<-sizeOf elem
   if n=0∨m=0∨size=0 then pure (.bool false)
   else if a.block !=b.block &&(<-frozen a) &&(<-frozen b)then unsupported .addressObserved
   else do
    if a.block !=b.block then do
     noView a;noView b
     if<-mayBeOne a b then return .bool ((<-choose (.extern "sameAddr.stringBytes" 2))==1)
    pure (.bool (a.block==b.block &&a.off<b.off+m*size &&b.off<a.off+n*size)):Sem Value):=rfl
  rw[e0];simp[run_underlying underlying90,sizeOf,typeInfo,kg,j0];intro _ _;simp[cz,World.frozen?,ha,hb,noView,viewAt,World.shape?,mayBeOne,stringish]
 rw[hr];rfl
theorem Nw(g off n cap vb:Nat)(xs:List Value)(y:Value)(w:World)(F:Ft)(h:(rowA 124 1 (.slice (some ⟨g,off,none⟩) n cap) n xs).holds w F)(h0:0<n)(hc:n<cap)(hl:n<=16777216)(hv:w.heap[vb]?=some (.cells #[y] 124 (0,0)))(cz:vb≠g)(h1: ∀v∈xs,v.oneCell'=true)(Qd:y.oneCell'=true):Calls prog 153 #[.slice (some ⟨g,off,none⟩) n cap, .int .i64 0, .slice (some ⟨vb,0,none⟩) 1 1] w fun e w'=>e= .returned (.slice (some ⟨g,off,none⟩) (n+1) cap)∧Goes (rowA 124 1 (.slice (some ⟨g,off,none⟩) (n+1) cap) (n+1) (y::xs)) w F w':=by
 obtain⟨cur,hg,cY,Qn⟩:=EC h;have rb:xs.length=n:=by have:=j9 h;omega
 obtain⟨A1,M7⟩: ∃A1,A1=(cur.toList.take (off+1)++xs++cur.toList.drop (off+1+xs.length)).toArray:=⟨_,rfl⟩;have Qe:A1.size=cur.size:=by rw[M7];simp;omega
 obtain⟨A2,M8⟩: ∃A2,A2=(A1.toList.take off++ [y]++A1.toList.drop (off+ [y].length)).toArray:=⟨_,rfl⟩;have Qf:A2.size=cur.size:=by rw[M8];simp;omega
 have Fj:=run_copy_row (P:=prog) w.drew 90 90 3 124 g (off+1) n (cap-1) ⟨g,off,none⟩ (n+1) cap cur 124 xs underlying90 qm hg (by rw[rb];exact(Nat.min_eq_right (by omega)).symm) (fun j v hj=>by
  have T8:j<n:=by rw[<-rb];exact(cH.1 hj).1
  rw[Addr.add_lit];have:=aW h j (by omega);rw[hj]at this;exact this) (by omega) h1
 rw[rb,<-rb,<-M7,rb]at Fj;have qX:(w.drew.setRow g A1).heap[g]?=some (.cells A1 124 (0,0)):=setRow_heap w.drew g cur A1 _ _ hg;have Qm:=run_copy_row (P:=prog) (w.drew.setRow g A1) 90 90 3 124 g off (n+1) cap ⟨vb,0,none⟩ 1 1 A1 124 [y] underlying90 qm qX (by simp) (fun j v hj=>by
  match j,hj with
  |0,hj=>
   simp at hj;subst hj;have:(w.drew.setRow g A1).heap[vb]?=some (.cells #[y] 124 (0,0)):=by rw[setRow_other w.drew g vb _ cz];exact hv
   rw[Addr.add_lit];simp only[World.cell?,this];rfl
  |j+1,hj=>simp at hj) (by simp;omega) (by simpa using Qd)
 rw[<-M8]at Qm;have XC:=AP w ⟨vb,0,none⟩ ⟨g,off+1,none⟩ 1 n 1 (cap-1) cz ⟨_,_,hv⟩ ⟨_,_,hg⟩;have HG:Hid (∀q,Goes (rowA 124 1 (.slice (some ⟨g,off,none⟩) (n+1) cap) (n+1) (y::xs)) w F (((w.setRow g A1).setRow g A2).drewN q)):=fun q=>by
  have e:(w.setRow g A1).setRow g A2=w.setRow g A2:=setRow_setRow w g A1 A2;rw[e];refine zF h hg A2 Qf (n+1) hc q (y::xs) ?_ (by simp[rb]);rw[M8,M7];have e1:(cur.toList.take (off+1)).length=off+1:=by rw[List.length_take];simp;omega
  have e2:(cur.toList.take (off+1)++xs++cur.toList.drop (off+1+xs.length)).drop (off+1)=xs++cur.toList.drop (off+1+xs.length):=by rw[List.append_assoc,List.drop_left' e1]
  simp only[List.length_singleton];rw[e2,List.append_assoc,List.drop_left' (by rw[List.length_take];simp;omega)];rw[List.singleton_append,List.take_succ_cons,List.take_left' rb]
 clear h hg qX cY Qn M7 M8 Qe Qf hv h1 Qd;go_enter func153,ntmps153;go_wp2
 go_region
 go_wp2;go_ret;exact⟨rfl,HG.out 1⟩
theorem qO{w':World}{ops:Array Oper}{rest:List Oper}{o:Oper}{a:Act}{Q:Exit->Act->World->Prop}(JD:o.guard=none)(s x:Operand)(t u:TypeId)(ho:o.op= .call {callee:= .builtin .append,args:= #[s,x],argTypes:= #[t,u]})(sv xv v:Value)(hs:a.eval s=sv)(hx:a.eval x=xv)(hr:(Builtin.append_ #[t,u] o.type #[sv,xv]).run P w= .ok v w')(h:wpList P ops Q rest (a.put o.dst v) w'):wpList P ops Q (o::rest) a w:=
 wpList_plain JD fun _ hK=>by unfold Oper.wp execOp;simp only[ho,resolve,invoke,builtin,Sem.run_bind,Sem.run_pure,Result.andThen_ok,List.map_toArray,List.map_cons,List.map_nil,hs,hx,hr];exact hK _ _ h
theorem Nu(g off n vb:Nat)(xs:List Value)(y:Value)(w:World)(F:Ft)(h:(rowA 124 1 (.slice (some ⟨g,off,none⟩) n n) n xs).holds w F)(h0:0<n)(hl:n<=16777215)(hv:w.heap[vb]?=some (.cells #[y] 124 (0,0)))(h1: ∀v∈xs,v.oneCell'=true)(Qd:y.oneCell'=true):Calls prog 153 #[.slice (some ⟨g,off,none⟩) n n, .int .i64 0, .slice (some ⟨vb,0,none⟩) 1 1] w fun e w'=> ∃v',e= .returned v'∧Goes (rowA 124 1 v' (n+1) (y::xs)) w F w':=by
 obtain⟨i0,kg,nV,j0,kC⟩:=fo xB;obtain⟨cur,hg,cY,Qn⟩:=EC h;have rb:xs.length=n:=by have:=j9 h;omega
 have Xh:=(jC h).1;have XR:vb<w.heap.size:=(bZ.1 hv).1;obtain⟨m,hm⟩: ∃m,m=n+1:=⟨_,rfl⟩;obtain⟨C,hC⟩: ∃C,C=grownCap w m n 124:=⟨_,rfl⟩;have aai:m<=C:=by rw[hC];exact grownCap_ge w m n _
 have Zx:C<=maxLen:=by rw[hC];exact grownCap_le_maxLen w m n _ (by unfold maxLen;omega)
 obtain⟨Z,hZ⟩: ∃Z,Z=Builtin.zeroCells (Value.pointer none).cells m++Builtin.zeroCells (Value.pointer none).cells (C-m):=⟨_,rfl⟩;have hZs:Z.size=C:=by rw[hZ];simp[size_zeroCells,Value.cells];omega
 have Fe:=rP (P:=prog) w 90 3 90 124 i0 (.pointer none) underlying90 underlying3 kg nV j0 kC ⟨g,off,none⟩ n m (by omega) (by omega) (by have:=nextslicecap_le (need:=m) (old:=n) (by omega);omega);rw[<-hC,<-hZ]at Fe;obtain⟨N,hN⟩: ∃N,N=w.heap.size:=⟨_,rfl⟩;rw[<-hN]at Fe;obtain⟨W1,qV⟩: ∃W1,W1=w.drew.alloc (.cells Z 124):=⟨_,rfl⟩;rw[<-qV]at Fe;have bP:W1.heap[N]?=some (.cells Z 124 (0,0)):=by rw[qV,hN];exact heap_alloc_new w.drew _
 have hold: ∀k,k<N->W1.heap[k]?=w.heap[k]?:=fun k hk=>by rw[qV];exact Below.heap_alloc w.drew _ k (by rw[hN]at hk;exact hk)
 obtain⟨A1,M7⟩: ∃A1,A1=(Z.toList.take 0++ [y]++Z.toList.drop (0+ [y].length)).toArray:=⟨_,rfl⟩;have Fj:=run_copy_row (P:=prog) W1 90 90 3 124 N 0 m C ⟨vb,0,none⟩ 1 1 Z 124 [y] underlying90 qm bP (by rw[hm];simp) (fun j v hj=>by
  match j,hj with
  |0,hj=>
   simp at hj;subst hj;have:W1.heap[vb]?=some (.cells #[y] 124 (0,0)):=by rw[hold vb (by omega)];exact hv
   rw[Addr.add_lit];simp only[World.cell?,this];rfl
  |j+1,hj=>simp at hj) (by simp;omega) (by simpa using Qd)
 rw[<-M7]at Fj;have Qe:A1.size=C:=by rw[M7];simp;omega
 obtain⟨W2,O6⟩: ∃W2,W2=W1.setRow N A1:=⟨_,rfl⟩;rw[<-O6]at Fj;have cL:W2.heap[N]?=some (.cells A1 124 (0,0)):=by rw[O6];exact setRow_heap W1 N Z A1 _ _ bP
 have JM: ∀k,k<N->W2.heap[k]?=w.heap[k]?:=fun k hk=>by rw[O6,setRow_other W1 N k _ (by omega)];exact hold k hk
 obtain⟨A2,M8⟩: ∃A2,A2=(A1.toList.take 1++xs++A1.toList.drop (1+xs.length)).toArray:=⟨_,rfl⟩;have Qm:=run_copy_row (P:=prog) W2.drew 90 90 3 124 N 1 n (C-1) ⟨g,off,none⟩ n n A1 124 xs underlying90 qm cL (by rw[rb];simp) (fun j v hj=>by
  have T8:j<n:=by rw[<-rb];exact(cH.1 hj).1
  rw[Addr.add_lit];have:=aW h j (by omega);rw[hj]at this;have e:W2.drew.cell? ⟨g,off+j,none⟩=w.cell? ⟨g,off+j,none⟩:=World.cell?_of_block (JM g (by omega));rw[e];exact this) (by omega) h1
 rw[rb,<-rb,<-M8,rb]at Qm;have HG:Hid (Goes (rowA 124 1 (.slice (some ⟨N,0,none⟩) m C) (n+1) (y::xs)) w F (W2.drew.setRow N A2)):=by
  have Qf:A2.size=C:=by rw[M8];simp;omega
  have nU:(W2.drew.setRow N A2).heap[N]?=some (.cells A2 124 (0,0)):=setRow_heap W2.drew N A1 A2 _ _ cL;have XM:w.heap.size<=W2.heap.size:=by rw[O6,qV];simp
  refine⟨fun k=>k=N,⟨by simp[rb], .inr ⟨N,0,C,A2,by rw[hm],fun k=>Iff.rfl,nU,by omega,Zx,by omega, ?_⟩⟩,⟨?_, ?_, ?_, ?_,fun k hk _=> ?_⟩,fun k hk=> .inr (by omega)⟩
  ·rw[M8,M7];simp only[List.take_zero,List.nil_append,List.drop_zero,Nat.mul_one];rw[List.singleton_append,List.take_succ_cons,List.take_zero,List.append_assoc,List.singleton_append,List.take_succ_cons,List.take_left' rb]
  ·rw[O6,qV];rfl
  ·rw[O6,qV];rfl
  ·rw[O6,qV];rfl
  ·simpa using XM
  ·rw[setRow_other W2.drew N k _ (by omega)];exact JM k (by omega)
 have hmn:((n:Nat):Int)+1=(m:Int):=by omega
 have Xu:m<=16777216:=by omega
 have hCi:(m:Int)<=(C:Int):=by omega
 have hm2:2<=m:=by omega
 have HM:=hide hm;have aav:m-1=n:=by omega
 clear h hg bP cL hold JM cY Qn M7 M8 Qe hv h1 Qd hZ hZs qV O6 hC kg nV j0 kC hm Xh XR Zx hN;go_enter func153,ntmps153;go_wp2_with (at_builtin;refine qO rfl _ _ 90 3 rfl _ _ _ rfl rfl Fe ?_)
 go_region
 go_wp2;go_ret;exact⟨_,rfl,HG.out⟩
theorem Nv(ao:Option Addr)(n cap vb:Nat)(xs:List Value)(y:Value)(w:World)(F:Ft)(h:(rowA 124 1 (.slice ao n cap) n xs).holds w F)(hl:n<=16777215)(hv:w.heap[vb]?=some (.cells #[y] 124 (0,0)))(Qd:y.oneCell'=true):Calls prog 153 #[.slice ao n cap, .int .i64 n, .slice (some ⟨vb,0,none⟩) 1 1] w fun e w'=> ∃v',e= .returned v'∧Goes (rowA 124 1 v' (n+1) (xs++ [y])) w F w':=by
 obtain⟨i0,kg,nV,j0,kC⟩:=fo xB;have iL:=hide h;have QB: ∀j u, [y][j]?=some u->w.cell? ((⟨vb,0,none⟩:Addr).add j)=some u:=World.news_of_block (cs:= #[y]) (t:=124) (fr:=(0,0)) hv;clear h;go_enter func153,ntmps153;go_wp2_with (at_builtin;go_must(refine bh _ rfl _ _ 90 rfl 124 i0 (.pointer none) 1 8 underlying90 kg nV j0 kC rfl (by decide) (F:=F) _ n xs rfl iL.out ⟨vb,0,none⟩ 1 1 [y] rfl rfl QB (by simpa using Qd) (by unfold maxLen;omega) (by omega) ?_;intro eK nT w2 bz;have yv:=hide bz;clear bz))
 all_goals go_ret
 all_goals exact⟨_,rfl,yv.out⟩
theorem QM{κ:Type}(v:Value)(l:List κ)(f:κ->Nat)(x:κ)(first:Bool)(vb:Nat)(w:World)(F:Ft)(h:(rowA 124 1 v l.length (l.map fun i=>pt (f i))).holds w F)(hl:l.length<=16777215)(hv:w.heap[vb]?=some (.cells #[pt (f x)] 124 (0,0)))(cz: ¬F vb):Calls prog 153 #[v, .int .i64 (if first then 0 else(l.length:Int)), .slice (some ⟨vb,0,none⟩) 1 1] w fun e w'=> ∃v',e= .returned v'∧Goes (rowA 124 1 v' (if first then x::l else l++ [x]).length ((if first then x::l else l++ [x]).map fun i=>pt (f i))) w F w':=by
 obtain⟨ao,cap,rfl,cV,ve,ck,_⟩:=bS h;have h1: ∀u∈l.map fun i=>pt (f i),u.oneCell'=true:=fun u hu=>by obtain⟨i,_,rfl⟩:=ax.1 hu;rfl
 have mN:Calls prog 153 #[.slice ao l.length cap, .int .i64 (l.length:Int), .slice (some ⟨vb,0,none⟩) 1 1] w fun e w'=> ∃v',e= .returned v'∧Goes (rowA 124 1 v' (l++ [x]).length ((l++ [x]).map fun i=>pt (f i))) w F w':=by have:=Nv ao l.length cap vb _ (pt (f x)) w F h hl hv rfl;rw[aC,aB];exact this
 cases first with
 |false=>exact mN
 |true=>
  simp only[if_true];by_cases h0:l= []
  ·subst h0;exact mN
  ·have hp:0<l.length:=List.length_pos_iff.2 h0;obtain⟨g,off,rfl,hFg⟩:=ck hp;have hg:vb≠g:=fun e=>cz (e▸hFg);rcases Nat.lt_or_eq_of_le cV with aQ|heq
   ·refine(Nw g off l.length cap vb _ (pt (f x)) w F h hp aQ (by omega) hv hg h1 rfl).mono ?_;rintro e w'⟨rfl,hg⟩;exact⟨_,rfl,hg⟩
   ·subst heq;exact Nu g off l.length vb _ (pt (f x)) w F h hp (by omega) hv h1 rfl
